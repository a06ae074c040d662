/- Z3. -/
import Derived.Test.YtelenedgaoglaaaGreatDoorZ2
import Derived.Test.YtelenedgaoglaaaGreatDoorR15
set_option linter.unusedSimpArgs false
set_option linter.unusedVariables false
namespace Go.Proofs.YtelenedgaoglaaaGreatDoor
open Go.Ab
open Go.Pil
def endV (most : Bool) (s : Sp) : Int := if most = true then s.hi else s.lo
def outW (most : Bool) (E : List Sp) : List Int := E.map (endV most)
def fillW (most : Bool) (E : List Sp) (k : Nat) : List Int := (List.range E.length).map fun j => if j < k then endV most (E.getD j ⟨0, 0⟩) else 0
theorem fillW_len (most E k) : (fillW most E k).length = E.length := by simp [fillW]
theorem fillW_all {most E k} (h : E.length ≤ k) : fillW most E k = outW most E := by
  apply List.ext_getElem (by simp [fillW, outW])
  intro j h1 h2
  simp only [fillW, List.length_map, List.length_range] at h1
  simp [fillW, outW, h1, show j < k by omega]
theorem fillW_set {most E k} (h : k < E.length) : (fillW most E k).set k (endV most E[k]) = fillW most E (k + 1) := by
  apply List.ext_getElem (by simp [fillW])
  intro j h1 h2
  simp only [fillW, List.length_set, List.length_map, List.length_range] at h1
  rw [List.getElem_set]
  by_cases hj : k = j
  · subst hj; simp [fillW, h]
  · rw [if_neg hj]
    simp only [fillW, List.getElem_map, List.getElem_range]
    by_cases h3 : j < k
    · rw [if_pos h3, if_pos (by omega)]
    · rw [if_neg h3, if_neg (by omega)]
theorem cellsW_set {most E k} {x : Int} (h : k < E.length) (hx : x = endV most E[k]) : splice (ints (fillW most E k)).flatten [I x] k = (ints (fillW most E (k + 1))).flatten := by
  subst hx
  rw [ints_flat, ints_flat, ← fillW_set h, List.map_set]
  unfold splice
  rw [List.set_eq_take_append_cons_drop, if_pos (by rw [List.length_map, fillW_len]; exact h)]
  simp
theorem cellsW_set2 {most E k} {x y : Int} (h : k < E.length) (hx : x = endV most E[k]) : splice (splice (ints (fillW most E k)).flatten [I y] k) [I x] k = (ints (fillW most E (k + 1))).flatten := by
  rw [← cellsW_set h hx, ints_flat]
  have hl : k < ((fillW most E k).map I).length := by rw [List.length_map, fillW_len]; exact h
  have e : ∀ (L : List AV) (z : AV), k < L.length → splice L [z] k = L.set k z := fun L z hk => by
    unfold splice; rw [List.set_eq_take_append_cons_drop, if_pos hk]; simp
  rw [e _ _ hl, e _ _ (by rw [List.length_set]; exact hl), e _ _ hl, List.set_set]
theorem cellsW_zero (most E) : (List.replicate E.length ([Value.int .i64 0].map AV.sc)).flatten = (ints (fillW most E 0)).flatten := by
  rw [ints_flat]
  have : fillW most E 0 = List.replicate E.length 0 := by
    apply List.ext_getElem (by simp [fillW])
    intro j h1 h2; simp [fillW]
  rw [this]
  induction E.length with
  | zero => rfl
  | succ n ih => rw [List.replicate_succ, List.replicate_succ, List.flatten_cons, ih]; rfl
theorem cellsW_len (most E k) : (ints (fillW most E k)).flatten.length = E.length := by rw [ints_flat, List.length_map, fillW_len]
def witE (p : Plw) (w : List Sp) (l : List Int) (n e : Int) : Int := if e ≠ 0 then e else if (decide (0 ≤ n) && decide (n < p.log.length)) = true then (if aliveP p w l then 0 else 33) else 1
def witL (p : Plw) (w : List Sp) (l : List Int) (n e : Int) (most : Bool) : List Int := if witE p w l n e = 0 then outW most (endsP p w l) else []
set_option maxRecDepth 20000 in
theorem Witness_ok_true (p : Plw) (w : List Sp) (l : List Int) (n : Int) (hw1 : w.length ≤ 9223372036854775807) (hl1 : l.length ≤ 9223372036854775807) (he : okP p = true) (hq : okW p w = true) : FSpec Tryz.prog 33 [.agg (eP p), .sl (sps w), .sl (ints l), I n, B true] (.tup [.sl (ints (witL p w l n (caseE p l) true)), I (witE p w l n (caseE p l))]) (none) := by
  refine FSpec.of_body Tryz.func33 rfl (leB rfl) fun w0 M0 => ?_
  have hil := ints_len l
  have hsl := sps_len (endsP p w l)
  have hel0 : (endsP p w l).length = l.length := by simp [endsP]
  refine AWP.seq ?_
  refine AWP.region ?_
  refine AOps.call (o_box _ rfl rfl rfl) ?_
  refine AOps.call (o_nil (z := 1) (e := 3) rfl) ?_
  refine AOps.call (o_assign _ rfl rfl) ?_
  refine AOps.nil ?_
  refine AWP.seq ?_
  refine AWP.region ?_
  refine AOps.call (o_loadRef _ rfl rfl Tryz.sizeOf24 Tryz.isAgg24 rfl rfl rfl) ?_
  refine AOps.call (o_move _ rfl rfl) ?_
  refine AOps.call (o_move _ rfl rfl) ?_
  refine AOps.call (o_call (readCase_ok p w l hw1 hl1 he hq) Tryz.call69 rfl rfl) ?_
  refine AOps.call (o_move _ rfl rfl) ?_
  refine AOps.call (o_extract _ rfl rfl rfl rfl) ?_
  refine AOps.call (o_extract _ rfl rfl rfl rfl) ?_
  refine AOps.call (o_alloc ze91 rfl rfl) ?_
  refine AOps.cons (o_store _ _ rfl rfl Tryz.sizeOf91 rfl rfl rfl rfl rfl) ?_
  refine AOps.call (o_assign _ rfl rfl) ?_
  refine AOps.nil ?_
  refine AWP.seq ?_
  refine AWP.seq ?_
  refine AWP.region ?_
  refine AOps.call (o_move _ rfl rfl) ?_
  refine AOps.call (o_bin _ _ rfl rfl (fun _ => rfl) rfl) ?_
  refine AOps.nil ?_
  refine AWP.cond _ rfl (fun h12 => ?_) (fun h12 => ?_)
  · skip
    have hne : caseE p l ≠ 0 := by simpa using h12
    have hE : witE p w l n (caseE p l) = caseE p l := if_pos hne
    have hL : witL p w l n (caseE p l) true = [] := if_neg (by rw [hE]; exact hne)
    refine AWP.seq ?_
    refine AWP.region ?_
    refine AOps.call (o_move _ rfl rfl) ?_
    refine AOps.call (o_nil (z := 1) (e := 3) rfl) ?_
    refine AOps.call (o_assign _ rfl rfl) ?_
    refine AOps.nil ?_
    refine AWP.ret ?_
    refine postQ.ret2 Tryz.results33 rfl rfl ?_
    rw [hE, hL]
    rfl
  · skip
    have hz : caseE p l = 0 := by simpa using h12
    obtain ⟨hp, hll, hrt⟩ := caseE_0 hz
    have h32 := hp.len
    refine AWP.skip ?_
    refine AWP.seq ?_
    refine AWP.seq ?_
    refine AWP.region ?_
    refine AOps.call (o_fieldRef _ rfl fa91_0 rfl rfl) ?_
    refine AOps.call (o_loadRef _ rfl rfl Tryz.sizeOf83 Tryz.isAgg83 rfl rfl rfl) ?_
    refine AOps.call (o_move _ rfl rfl) ?_
    refine AOps.call (o_call (has_s p n) Tryz.call56 rfl rfl) ?_
    refine AOps.call (o_un _ rfl (fun _ => rfl) rfl) ?_
    refine AOps.nil ?_
    refine AWP.cond _ rfl (fun h19 => ?_) (fun h19 => ?_)
    · skip
      have hn : ¬ (decide (0 ≤ n) && decide (n < p.log.length)) = true := by
        have h := h19
        simp_all
        intros
        omega
      have hE : witE p w l n (caseE p l) = 1 := (if_neg (by rw [hz]; decide)).trans (if_neg hn)
      have hL : witL p w l n (caseE p l) true = [] := if_neg (by rw [hE]; decide)
      refine AWP.seq ?_
      refine AWP.region ?_
      refine AOps.call (o_nil (z := 1) (e := 3) rfl) ?_
      refine AOps.call (o_assign _ rfl rfl) ?_
      refine AOps.nil ?_
      refine AWP.ret ?_
      refine postQ.ret2 Tryz.results33 rfl rfl ?_
      rw [hE, hL]
      rfl
    · skip
      have hn : (decide (0 ≤ n) && decide (n < p.log.length)) = true := by have h := h19; simp_all
      refine AWP.skip ?_
      refine AWP.seq ?_
      refine AWP.region ?_
      refine AOps.call (o_loadRef _ rfl rfl Tryz.sizeOf91 Tryz.isAgg91 rfl rfl rfl) ?_
      refine AOps.call (o_move _ rfl rfl) ?_
      refine AOps.call (o_call (loads_s p w l hp hq hll) Tryz.call70 rfl rfl) ?_
      refine AOps.call (o_move _ rfl rfl) ?_
      refine AOps.call (o_extract _ rfl rfl rfl rfl) ?_
      refine AOps.call (o_extract _ rfl rfl rfl rfl) ?_
      refine AOps.call (o_assign _ rfl rfl) ?_
      refine AOps.call (o_assign _ rfl rfl) ?_
      refine AOps.nil ?_
      refine AWP.seq ?_
      refine AWP.seq ?_
      refine AWP.region ?_
      refine AOps.call (o_move _ rfl rfl) ?_
      refine AOps.call (o_un _ rfl (fun _ => rfl) rfl) ?_
      refine AOps.nil ?_
      refine AWP.cond _ rfl (fun h28 => ?_) (fun h28 => ?_)
      · skip
        have hna : ¬ aliveP p w l := by simpa using h28
        have hE : witE p w l n (caseE p l) = 33 := (if_neg (by rw [hz]; decide)).trans ((if_pos hn).trans (if_neg hna))
        have hL : witL p w l n (caseE p l) true = [] := if_neg (by rw [hE]; decide)
        refine AWP.seq ?_
        refine AWP.region ?_
        refine AOps.call (o_nil (z := 1) (e := 3) rfl) ?_
        refine AOps.call (o_assign _ rfl rfl) ?_
        refine AOps.nil ?_
        refine AWP.ret ?_
        refine postQ.ret2 Tryz.results33 rfl rfl ?_
        rw [hE, hL]
        rfl
      · skip
        have hna : aliveP p w l := by simpa using h28
        have hE : witE p w l n (caseE p l) = 0 := (if_neg (by rw [hz]; decide)).trans ((if_pos hn).trans (if_pos hna))
        have hL : witL p w l n (caseE p l) true = outW true (endsP p w l) := if_pos hE
        rw [if_pos hna]
        refine AWP.skip ?_
        refine AWP.seq ?_
        refine AWP.region ?_
        refine AOps.call (o_move _ rfl rfl) ?_
        refine AOps.call (o_len _ Tryz.underlying38 rfl rfl) ?_
        refine AOps.mkarr (n := (endsP p w l).length) (zs := [.int .i64 0]) (cs := (ints (fillW true (endsP p w l) 0)).flatten) _ _ Tryz.underlying25 info3 rfl rfl rfl rfl rfl rfl rfl rfl rfl (by rw [hsl]) (by omega) rfl rfl (cellsW_zero true (endsP p w l)) ?_
        refine AOps.call (o_assign _ rfl rfl) ?_
        refine AOps.nil ?_
        refine AWP.seq ?_
        refine AWP.seq ?_
        refine AWP.region ?_
        refine AOps.call (o_move _ rfl rfl) ?_
        refine AOps.call (o_len _ Tryz.underlying38 rfl rfl) ?_
        refine AOps.call (o_move _ rfl rfl) ?_
        refine AOps.nil ?_
        refine AWP.block ?_
        refine AWP.loop (ι := Nat) (fun i => AS.mk' 65 [(4, B true), (16, .arr (44, 0) 0 (endsP p w l).length (endsP p w l).length), (45, .sl (sps (endsP p w l))), (46, I (sps (endsP p w l)).length), (47, I i)] [((44, 0), (ints (fillW true (endsP p w l) i)).flatten)] [] [(44, 1)]) (fun i => i ≤ (endsP p w l).length) (fun i => (endsP p w l).length - i) (0) (Weak.mk' rfl ⟨⟨.refl rfl, rfl⟩, ⟨⟨.refl rfl, rfl⟩, ⟨⟨.refl rfl, rfl⟩, ⟨⟨.refl rfl, rfl⟩, ⟨⟨.refl rfl, rfl⟩, trivial⟩⟩⟩⟩⟩ ⟨⟨rfl, lowL_sc _ _ (ints_scs _), rfl⟩, trivial⟩ trivial) (Nat.zero_le _) ?_
        rintro k hk
        try dsimp only at *
        refine AWP.seq ?_
        refine AWP.region ?_
        refine AOps.call (o_bin _ _ rfl rfl (fun _ => rfl) rfl) ?_
        refine AOps.nil ?_
        refine AWP.seq ?_
        refine AWP.cond _ rfl (fun h36 => ?_) (fun h36 => ?_)
        · skip
          have hlt : k < (endsP p w l).length := by have := of_decide_eq_true h36; omega
          have hel := sps_at hlt
          refine AWP.skip ?_
          refine AWP.seq ?_
          refine AWP.block ?_
          refine AWP.seq ?_
          refine AWP.region ?_
          refine AOps.call (o_move _ rfl rfl) ?_
          refine AOps.call (o_index _ _ Tryz.underlying38 Tryz.sizeOf54 rfl rfl (by omega) (by assumption) rfl rfl) ?_
          refine AOps.call (o_loadRd _ rfl Tryz.sizeOf54 Tryz.isAgg54 rfl rfl rfl) ?_
          refine AOps.call (o_alloc ze54 rfl rfl) ?_
          refine AOps.call (o_assign _ rfl rfl) ?_
          refine AOps.cons (o_store _ _ rfl rfl Tryz.sizeOf54 rfl rfl rfl rfl rfl) ?_
          refine AOps.nil ?_
          refine AWP.seq ?_
          refine AWP.region ?_
          refine AOps.call (o_move _ rfl rfl) ?_
          refine AOps.call (o_move _ rfl rfl) ?_
          refine AOps.call (o_fieldRef _ rfl fa54_0 rfl rfl) ?_
          refine AOps.call (o_loadRef _ rfl rfl Tryz.sizeOf3 Tryz.isAgg3 rfl rfl rfl) ?_
          refine AOps.call (o_indexArr (o := k) _ _ Tryz.underlying25 Tryz.sizeOf3 rfl rfl (by omega) (by omega) (by omega) rfl) ?_
          refine AOps.cons (o_storeE _ _ rfl rfl Tryz.sizeOf3 rfl rfl (by rw [cellsW_len]; omega) rfl rfl) ?_
          refine AOps.nil ?_
          refine AWP.seq ?_
          refine AWP.region ?_
          refine AOps.call (o_move _ rfl rfl) ?_
          refine AOps.nil ?_
          refine AWP.cond _ rfl (fun h44 => ?_) (fun h44 => ?_)
          · skip
            skip
            refine AWP.region ?_
            refine AOps.call (o_move _ rfl rfl) ?_
            refine AOps.call (o_move _ rfl rfl) ?_
            refine AOps.call (o_fieldRef _ rfl fa54_1 rfl rfl) ?_
            refine AOps.call (o_loadRef _ rfl rfl Tryz.sizeOf3 Tryz.isAgg3 rfl rfl rfl) ?_
            refine AOps.call (o_indexArr (o := k) _ _ Tryz.underlying25 Tryz.sizeOf3 rfl rfl (by omega) (by omega) (by omega) rfl) ?_
            refine AOps.cons (o_storeE _ _ rfl rfl Tryz.sizeOf3 rfl rfl (by unfold splice; simp only [List.length_append, List.length_take, List.length_drop, List.length_cons, List.length_nil, cellsW_len]; omega) (cellsW_set2 (most := true) hlt rfl) rfl) ?_
            refine AOps.nil ?_
            refine AWP.region ?_
            refine AOps.call (o_add _ _ rfl rfl ⟨by (try dsimp only); omega, by (try dsimp only); omega⟩ rfl) ?_
            refine AOps.call (o_move _ rfl rfl) ?_
            refine AOps.nil ?_
            refine ⟨k + 1, ?_, (Weak.mk' rfl ⟨⟨.refl rfl, rfl⟩, ⟨⟨.refl rfl, rfl⟩, ⟨⟨.refl rfl, rfl⟩, ⟨⟨.refl rfl, rfl⟩, ⟨⟨.refl rfl, rfl⟩, trivial⟩⟩⟩⟩⟩ ⟨⟨rfl, lowL_sc _ _ (ints_scs _), rfl⟩, trivial⟩ trivial)⟩
            exact ⟨by omega, by omega⟩
          · skip
            exfalso
            exact absurd h44 (by decide)
        · skip
          have hkl : k = (endsP p w l).length := by have := of_decide_eq_false h36; omega
          refine AWP.weak (Weak.frz (id := (44, 0)) (t := 16) (z := 1) (es := ints (outW true (endsP p w l))) (cs' := (ints (outW true (endsP p w l))).flatten) rfl rfl (by rw [fillW_all (by omega)]; exact closeL_self _ (sc_self (ints_scs _))) rfl ints_z (by rw [ints_len]; simp [outW])) ?_
          refine AWP.exit ?_
          refine AWP.seq ?_
          refine AWP.region ?_
          refine AOps.call (o_move _ rfl rfl) ?_
          refine AOps.call (o_assign _ rfl rfl) ?_
          refine AOps.call (o_assign _ rfl rfl) ?_
          refine AOps.nil ?_
          refine AWP.ret ?_
          refine postQ.ret2 Tryz.results33 rfl rfl ?_
          rw [hE, hL]
          rfl
set_option maxRecDepth 20000 in
theorem Witness_ok_false (p : Plw) (w : List Sp) (l : List Int) (n : Int) (hw1 : w.length ≤ 9223372036854775807) (hl1 : l.length ≤ 9223372036854775807) (he : okP p = true) (hq : okW p w = true) : FSpec Tryz.prog 33 [.agg (eP p), .sl (sps w), .sl (ints l), I n, B false] (.tup [.sl (ints (witL p w l n (caseE p l) false)), I (witE p w l n (caseE p l))]) (none) := by
  refine FSpec.of_body Tryz.func33 rfl (leB rfl) fun w0 M0 => ?_
  have hil := ints_len l
  have hsl := sps_len (endsP p w l)
  have hel0 : (endsP p w l).length = l.length := by simp [endsP]
  refine AWP.seq ?_
  refine AWP.region ?_
  refine AOps.call (o_box _ rfl rfl rfl) ?_
  refine AOps.call (o_nil (z := 1) (e := 3) rfl) ?_
  refine AOps.call (o_assign _ rfl rfl) ?_
  refine AOps.nil ?_
  refine AWP.seq ?_
  refine AWP.region ?_
  refine AOps.call (o_loadRef _ rfl rfl Tryz.sizeOf24 Tryz.isAgg24 rfl rfl rfl) ?_
  refine AOps.call (o_move _ rfl rfl) ?_
  refine AOps.call (o_move _ rfl rfl) ?_
  refine AOps.call (o_call (readCase_ok p w l hw1 hl1 he hq) Tryz.call69 rfl rfl) ?_
  refine AOps.call (o_move _ rfl rfl) ?_
  refine AOps.call (o_extract _ rfl rfl rfl rfl) ?_
  refine AOps.call (o_extract _ rfl rfl rfl rfl) ?_
  refine AOps.call (o_alloc ze91 rfl rfl) ?_
  refine AOps.cons (o_store _ _ rfl rfl Tryz.sizeOf91 rfl rfl rfl rfl rfl) ?_
  refine AOps.call (o_assign _ rfl rfl) ?_
  refine AOps.nil ?_
  refine AWP.seq ?_
  refine AWP.seq ?_
  refine AWP.region ?_
  refine AOps.call (o_move _ rfl rfl) ?_
  refine AOps.call (o_bin _ _ rfl rfl (fun _ => rfl) rfl) ?_
  refine AOps.nil ?_
  refine AWP.cond _ rfl (fun h12 => ?_) (fun h12 => ?_)
  · skip
    have hne : caseE p l ≠ 0 := by simpa using h12
    have hE : witE p w l n (caseE p l) = caseE p l := if_pos hne
    have hL : witL p w l n (caseE p l) false = [] := if_neg (by rw [hE]; exact hne)
    refine AWP.seq ?_
    refine AWP.region ?_
    refine AOps.call (o_move _ rfl rfl) ?_
    refine AOps.call (o_nil (z := 1) (e := 3) rfl) ?_
    refine AOps.call (o_assign _ rfl rfl) ?_
    refine AOps.nil ?_
    refine AWP.ret ?_
    refine postQ.ret2 Tryz.results33 rfl rfl ?_
    rw [hE, hL]
    rfl
  · skip
    have hz : caseE p l = 0 := by simpa using h12
    obtain ⟨hp, hll, hrt⟩ := caseE_0 hz
    have h32 := hp.len
    refine AWP.skip ?_
    refine AWP.seq ?_
    refine AWP.seq ?_
    refine AWP.region ?_
    refine AOps.call (o_fieldRef _ rfl fa91_0 rfl rfl) ?_
    refine AOps.call (o_loadRef _ rfl rfl Tryz.sizeOf83 Tryz.isAgg83 rfl rfl rfl) ?_
    refine AOps.call (o_move _ rfl rfl) ?_
    refine AOps.call (o_call (has_s p n) Tryz.call56 rfl rfl) ?_
    refine AOps.call (o_un _ rfl (fun _ => rfl) rfl) ?_
    refine AOps.nil ?_
    refine AWP.cond _ rfl (fun h19 => ?_) (fun h19 => ?_)
    · skip
      have hn : ¬ (decide (0 ≤ n) && decide (n < p.log.length)) = true := by
        have h := h19
        simp_all
        intros
        omega
      have hE : witE p w l n (caseE p l) = 1 := (if_neg (by rw [hz]; decide)).trans (if_neg hn)
      have hL : witL p w l n (caseE p l) false = [] := if_neg (by rw [hE]; decide)
      refine AWP.seq ?_
      refine AWP.region ?_
      refine AOps.call (o_nil (z := 1) (e := 3) rfl) ?_
      refine AOps.call (o_assign _ rfl rfl) ?_
      refine AOps.nil ?_
      refine AWP.ret ?_
      refine postQ.ret2 Tryz.results33 rfl rfl ?_
      rw [hE, hL]
      rfl
    · skip
      have hn : (decide (0 ≤ n) && decide (n < p.log.length)) = true := by have h := h19; simp_all
      refine AWP.skip ?_
      refine AWP.seq ?_
      refine AWP.region ?_
      refine AOps.call (o_loadRef _ rfl rfl Tryz.sizeOf91 Tryz.isAgg91 rfl rfl rfl) ?_
      refine AOps.call (o_move _ rfl rfl) ?_
      refine AOps.call (o_call (loads_s p w l hp hq hll) Tryz.call70 rfl rfl) ?_
      refine AOps.call (o_move _ rfl rfl) ?_
      refine AOps.call (o_extract _ rfl rfl rfl rfl) ?_
      refine AOps.call (o_extract _ rfl rfl rfl rfl) ?_
      refine AOps.call (o_assign _ rfl rfl) ?_
      refine AOps.call (o_assign _ rfl rfl) ?_
      refine AOps.nil ?_
      refine AWP.seq ?_
      refine AWP.seq ?_
      refine AWP.region ?_
      refine AOps.call (o_move _ rfl rfl) ?_
      refine AOps.call (o_un _ rfl (fun _ => rfl) rfl) ?_
      refine AOps.nil ?_
      refine AWP.cond _ rfl (fun h28 => ?_) (fun h28 => ?_)
      · skip
        have hna : ¬ aliveP p w l := by simpa using h28
        have hE : witE p w l n (caseE p l) = 33 := (if_neg (by rw [hz]; decide)).trans ((if_pos hn).trans (if_neg hna))
        have hL : witL p w l n (caseE p l) false = [] := if_neg (by rw [hE]; decide)
        refine AWP.seq ?_
        refine AWP.region ?_
        refine AOps.call (o_nil (z := 1) (e := 3) rfl) ?_
        refine AOps.call (o_assign _ rfl rfl) ?_
        refine AOps.nil ?_
        refine AWP.ret ?_
        refine postQ.ret2 Tryz.results33 rfl rfl ?_
        rw [hE, hL]
        rfl
      · skip
        have hna : aliveP p w l := by simpa using h28
        have hE : witE p w l n (caseE p l) = 0 := (if_neg (by rw [hz]; decide)).trans ((if_pos hn).trans (if_pos hna))
        have hL : witL p w l n (caseE p l) false = outW false (endsP p w l) := if_pos hE
        rw [if_pos hna]
        refine AWP.skip ?_
        refine AWP.seq ?_
        refine AWP.region ?_
        refine AOps.call (o_move _ rfl rfl) ?_
        refine AOps.call (o_len _ Tryz.underlying38 rfl rfl) ?_
        refine AOps.mkarr (n := (endsP p w l).length) (zs := [.int .i64 0]) (cs := (ints (fillW false (endsP p w l) 0)).flatten) _ _ Tryz.underlying25 info3 rfl rfl rfl rfl rfl rfl rfl rfl rfl (by rw [hsl]) (by omega) rfl rfl (cellsW_zero false (endsP p w l)) ?_
        refine AOps.call (o_assign _ rfl rfl) ?_
        refine AOps.nil ?_
        refine AWP.seq ?_
        refine AWP.seq ?_
        refine AWP.region ?_
        refine AOps.call (o_move _ rfl rfl) ?_
        refine AOps.call (o_len _ Tryz.underlying38 rfl rfl) ?_
        refine AOps.call (o_move _ rfl rfl) ?_
        refine AOps.nil ?_
        refine AWP.block ?_
        refine AWP.loop (ι := Nat) (fun i => AS.mk' 65 [(4, B false), (16, .arr (44, 0) 0 (endsP p w l).length (endsP p w l).length), (45, .sl (sps (endsP p w l))), (46, I (sps (endsP p w l)).length), (47, I i)] [((44, 0), (ints (fillW false (endsP p w l) i)).flatten)] [] [(44, 1)]) (fun i => i ≤ (endsP p w l).length) (fun i => (endsP p w l).length - i) (0) (Weak.mk' rfl ⟨⟨.refl rfl, rfl⟩, ⟨⟨.refl rfl, rfl⟩, ⟨⟨.refl rfl, rfl⟩, ⟨⟨.refl rfl, rfl⟩, ⟨⟨.refl rfl, rfl⟩, trivial⟩⟩⟩⟩⟩ ⟨⟨rfl, lowL_sc _ _ (ints_scs _), rfl⟩, trivial⟩ trivial) (Nat.zero_le _) ?_
        rintro k hk
        try dsimp only at *
        refine AWP.seq ?_
        refine AWP.region ?_
        refine AOps.call (o_bin _ _ rfl rfl (fun _ => rfl) rfl) ?_
        refine AOps.nil ?_
        refine AWP.seq ?_
        refine AWP.cond _ rfl (fun h36 => ?_) (fun h36 => ?_)
        · skip
          have hlt : k < (endsP p w l).length := by have := of_decide_eq_true h36; omega
          have hel := sps_at hlt
          refine AWP.skip ?_
          refine AWP.seq ?_
          refine AWP.block ?_
          refine AWP.seq ?_
          refine AWP.region ?_
          refine AOps.call (o_move _ rfl rfl) ?_
          refine AOps.call (o_index _ _ Tryz.underlying38 Tryz.sizeOf54 rfl rfl (by omega) (by assumption) rfl rfl) ?_
          refine AOps.call (o_loadRd _ rfl Tryz.sizeOf54 Tryz.isAgg54 rfl rfl rfl) ?_
          refine AOps.call (o_alloc ze54 rfl rfl) ?_
          refine AOps.call (o_assign _ rfl rfl) ?_
          refine AOps.cons (o_store _ _ rfl rfl Tryz.sizeOf54 rfl rfl rfl rfl rfl) ?_
          refine AOps.nil ?_
          refine AWP.seq ?_
          refine AWP.region ?_
          refine AOps.call (o_move _ rfl rfl) ?_
          refine AOps.call (o_move _ rfl rfl) ?_
          refine AOps.call (o_fieldRef _ rfl fa54_0 rfl rfl) ?_
          refine AOps.call (o_loadRef _ rfl rfl Tryz.sizeOf3 Tryz.isAgg3 rfl rfl rfl) ?_
          refine AOps.call (o_indexArr (o := k) _ _ Tryz.underlying25 Tryz.sizeOf3 rfl rfl (by omega) (by omega) (by omega) rfl) ?_
          refine AOps.cons (o_storeE _ _ rfl rfl Tryz.sizeOf3 rfl rfl (by rw [cellsW_len]; omega) (cellsW_set (most := false) hlt rfl) rfl) ?_
          refine AOps.nil ?_
          refine AWP.seq ?_
          refine AWP.region ?_
          refine AOps.call (o_move _ rfl rfl) ?_
          refine AOps.nil ?_
          refine AWP.cond _ rfl (fun h44 => ?_) (fun h44 => ?_)
          · skip
            exfalso
            exact absurd h44 (by decide)
          · skip
            skip
            refine AWP.skip ?_
            refine AWP.region ?_
            refine AOps.call (o_add _ _ rfl rfl ⟨by (try dsimp only); omega, by (try dsimp only); omega⟩ rfl) ?_
            refine AOps.call (o_move _ rfl rfl) ?_
            refine AOps.nil ?_
            refine ⟨k + 1, ?_, (Weak.mk' rfl ⟨⟨.refl rfl, rfl⟩, ⟨⟨.refl rfl, rfl⟩, ⟨⟨.refl rfl, rfl⟩, ⟨⟨.refl rfl, rfl⟩, ⟨⟨.refl rfl, rfl⟩, trivial⟩⟩⟩⟩⟩ ⟨⟨rfl, lowL_sc _ _ (ints_scs _), rfl⟩, trivial⟩ trivial)⟩
            exact ⟨by omega, by omega⟩
        · skip
          have hkl : k = (endsP p w l).length := by have := of_decide_eq_false h36; omega
          refine AWP.weak (Weak.frz (id := (44, 0)) (t := 16) (z := 1) (es := ints (outW false (endsP p w l))) (cs' := (ints (outW false (endsP p w l))).flatten) rfl rfl (by rw [fillW_all (by omega)]; exact closeL_self _ (sc_self (ints_scs _))) rfl ints_z (by rw [ints_len]; simp [outW])) ?_
          refine AWP.exit ?_
          refine AWP.seq ?_
          refine AWP.region ?_
          refine AOps.call (o_move _ rfl rfl) ?_
          refine AOps.call (o_assign _ rfl rfl) ?_
          refine AOps.call (o_assign _ rfl rfl) ?_
          refine AOps.nil ?_
          refine AWP.ret ?_
          refine postQ.ret2 Tryz.results33 rfl rfl ?_
          rw [hE, hL]
          rfl
end Go.Proofs.YtelenedgaoglaaaGreatDoor
