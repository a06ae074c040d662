import Derived.Test.YtgagfmjpmdgfdaaDoorX12
import Derived.Test.YtgagfmjpmdgfdaaDoorAcA
import Derived.Test.YtgagfmjpmdgfdaaDoorAbB
set_option linter.unusedSimpArgs false
set_option linter.unusedVariables false
namespace Go.Proofs.YtgagfmjpmdgfdaaDoor
open Go.Ab

theorem col_tail {pre ls : List Lay} {t : Int} {i j : Nat} {e : List AV} {c : AV} (hi : (lays ls)[i]? = some e) (hj : e[j]? = some c) : (colC (pre ++ ls) t)[(pre.length + i) * 3 + j]? = some c := by
  have h1 : i < ls.length := by have := (List.getElem?_eq_some_iff.1 hi).1; rwa [lays_len] at this
  have h2 := lays_at h1
  rw [Int.toNat_natCast] at h2
  have he : e = eL ls[i] := Option.some.inj (hi.symm.trans h2)
  subst he
  have hj3 : j < 3 := (List.getElem?_eq_some_iff.1 hj).1
  rw [col_get (A := pre ++ ls) (i := pre.length + i) (by simp; omega) hj3]
  have : (pre ++ ls)[pre.length + i]'(by simp; omega) = ls[i] := by simp
  rw [this]; exact hj

set_option maxRecDepth 20000 in
theorem pack_rda (pre ls : List Lay) (hA : (pre ++ ls).length = 64) (h0 : 0 < ls.length) : FSpec Tryd.prog 71 [.rd (colC (pre ++ ls) pre.length)] (.agg (eK ls)) (none) := by
  refine FSpec.of_body Tryd.func71 rfl (leB rfl) fun w0 M0 => ?_
  have hll := lays_len ls
  have hl2 : pre.length + ls.length = 64 := by simpa using hA
  refine AWP.seq ?_
  refine AWP.region ?_
  refine AOps.call (o_alloc ze24 rfl rfl) ?_
  refine AOps.nil ?_
  refine AWP.seq ?_
  refine AWP.drawn 8 mixed (by kernel_rfl) ?_
  refine AHead.call (o_move _ rfl rfl) rfl ?_
  refine AHead.call (o_nilCheckRd _ rfl rfl) rfl ?_
  refine AHead.call (o_fieldRd _ rfl fa102_0 rfl) rfl ?_
  refine AHead.call (o_move _ rfl rfl) rfl ?_
  refine AHead.call (o_nilCheckRd _ rfl rfl) rfl ?_
  refine AHead.call (o_fieldRd _ rfl fa102_1 rfl) rfl ?_
  refine AHead.call (o_loadRd _ rfl Tryd.sizeOf3 Tryd.isAgg3 (col_top hA) rfl rfl) rfl ?_
  refine AHead.call (o_sliceRdZ (l := pre.length) (es := lays ls) _ _ Tryd.underlying100 Tryd.sizeOf28 rfl (boundA_some rfl (by omega) (by omega)) (by omega) (by omega) lays_z (fun i e j c hi hj => col_tail hi hj) rfl) rfl ?_
  refine AHead.nil ?_
  refine AOps.cons (o_appNilSl _ Tryd.underlying22 info28 rfl rfl rfl rfl rfl rfl lays_z (lays_scs ls) (by omega) (by unfold Tryd.t28; simp only []; omega) rfl rfl) ?_
  refine AOps.weak (Weak.frzP (id := (11, 0)) (t := 11) (z := 3) (es := lays ls) (cs' := rowC ls) rfl rfl (row_close _) (fun j c h => h) lays_z rfl) ?_
  refine AOps.call (o_build bu24 rfl rfl rfl) ?_
  refine AOps.cons (o_store _ _ rfl rfl Tryd.sizeOf24 rfl rfl rfl rfl rfl) ?_
  refine AOps.nil ?_
  refine AWP.ret ?_
  exact postQ.retC Tryd.results71 rfl rfl Tryd.sizeOf24 Tryd.isAgg24 rfl rfl

set_option maxRecDepth 20000 in
theorem pack_rdc (pre : List Lay) (hA : (pre ++ []).length = 64) : FSpec Tryd.prog 71 [.rd (colC (pre ++ []) pre.length)] (.agg (eK [])) (none) := by
  refine FSpec.of_body Tryd.func71 rfl (leB rfl) fun w0 M0 => ?_
  have hl2 : pre.length = 64 := by simpa using hA
  refine AWP.seq ?_
  refine AWP.region ?_
  refine AOps.call (o_alloc ze24 rfl rfl) ?_
  refine AOps.nil ?_
  refine AWP.seq ?_
  refine AWP.drawn 8 mixed (by kernel_rfl) ?_
  refine AHead.call (o_move _ rfl rfl) rfl ?_
  refine AHead.call (o_nilCheckRd _ rfl rfl) rfl ?_
  refine AHead.call (o_fieldRd _ rfl fa102_0 rfl) rfl ?_
  refine AHead.call (o_move _ rfl rfl) rfl ?_
  refine AHead.call (o_nilCheckRd _ rfl rfl) rfl ?_
  refine AHead.call (o_fieldRd _ rfl fa102_1 rfl) rfl ?_
  refine AHead.call (o_loadRd _ rfl Tryd.sizeOf3 Tryd.isAgg3 (col_top hA) rfl rfl) rfl ?_
  refine AHead.call (o_sliceRdZ (l := pre.length) (es := []) _ _ Tryd.underlying100 Tryd.sizeOf28 rfl (boundA_some rfl (by omega) (by omega)) (by omega) (by simp; omega) (fun _ h => by cases h) (fun i e j c hi hj => by simp at hi) rfl) rfl ?_
  refine AHead.nil ?_
  refine AOps.cons (o_appNilE _ Tryd.underlying22 Tryd.sizeOf28 rfl rfl) ?_
  refine AOps.call (o_build bu24 rfl rfl rfl) ?_
  refine AOps.cons (o_store _ _ rfl rfl Tryd.sizeOf24 rfl rfl rfl rfl rfl) ?_
  refine AOps.nil ?_
  refine AWP.ret ?_
  exact postQ.retC Tryd.results71 rfl rfl Tryd.sizeOf24 Tryd.isAgg24 rfl rfl

theorem pack_rd (pre ls : List Lay) (hA : (pre ++ ls).length = 64) : FSpec Tryd.prog 71 [.rd (colC (pre ++ ls) pre.length)] (.agg (eK ls)) none := by
  rcases Nat.eq_zero_or_pos ls.length with h | h
  · obtain rfl := List.eq_nil_of_length_eq_zero h; exact pack_rdc pre hA
  · exact pack_rda pre ls hA h

set_option maxRecDepth 20000 in
theorem Drift_s (p q : List Lay) (m : Int) : FSpec Tryd.prog 54 [.agg (eK p), .agg (eK q), I m] (.tup [.agg (eK (drfM p q m).1), .agg (eK (drfM p q m).2.1), I (drfM p q m).2.2]) (none) := by
  refine FSpec.of_body Tryd.func54 rfl (leB rfl) fun w0 M0 => ?_
  refine AWP.seq ?_
  refine AWP.region ?_
  refine AOps.call (o_box _ rfl rfl rfl) ?_
  refine AOps.call (o_box _ rfl rfl rfl) ?_
  refine AOps.call (o_alloc ze24 rfl rfl) ?_
  refine AOps.call (o_alloc ze24 rfl rfl) ?_
  refine AOps.call (o_assign _ rfl rfl) ?_
  refine AOps.nil ?_
  refine AWP.seq ?_
  refine AWP.seq ?_
  refine AWP.region ?_
  refine AOps.call (o_loadRef _ rfl rfl Tryd.sizeOf24 Tryd.isAgg24 rfl rfl rfl) ?_
  refine AOps.call (o_loadRef _ rfl rfl Tryd.sizeOf24 Tryd.isAgg24 rfl rfl rfl) ?_
  refine AOps.call (o_call (both_s p q) Tryd.call81 rfl rfl) ?_
  refine AOps.call (o_assign _ rfl rfl) ?_
  refine AOps.nil ?_
  refine AWP.seq ?_
  refine AWP.region ?_
  refine AOps.call (o_move _ rfl rfl) ?_
  refine AOps.call (o_bin _ _ rfl rfl (fun _ => rfl) rfl) ?_
  refine AOps.nil ?_
  refine AWP.cond _ rfl (fun h10 => ?_) (fun h10 => ?_)
  · skip
    have hb : ¬ bothE p q = 0 := by simpa using h10
    have hb20 := both_20 hb
    have hE : (drfM p q m) = ([], [], bothE p q) := by unfold drfM; rw [if_neg (fun h => hb (both_0.2 h)), hb20]
    refine AWP.seq ?_
    refine AWP.region ?_
    refine AOps.call (o_noPack rfl) ?_
    refine AOps.call (o_noPack rfl) ?_
    refine AOps.call (o_move _ rfl rfl) ?_
    refine AOps.cons (o_store _ _ rfl rfl Tryd.sizeOf24 rfl rfl rfl rfl rfl) ?_
    refine AOps.cons (o_store _ _ rfl rfl Tryd.sizeOf24 rfl rfl rfl rfl rfl) ?_
    refine AOps.call (o_assign _ rfl rfl) ?_
    refine AOps.nil ?_
    refine AWP.ret ?_
    refine postQ.retCC1 Tryd.results54 rfl rfl Tryd.sizeOf24 Tryd.isAgg24 rfl rfl rfl Tryd.sizeOf24 Tryd.isAgg24 rfl rfl ?_
    rw [hE]
    rfl
  · skip
    have hb : bothE p q = 0 := by simpa using h10
    have hpq := both_0.1 hb
    refine AWP.skip ?_
    refine AWP.seq ?_
    refine AWP.seq ?_
    refine AWP.region ?_
    refine AOps.call (o_move _ rfl rfl) ?_
    refine AOps.call (o_call (isAmount_s _) Tryd.call67 rfl rfl) ?_
    refine AOps.call (o_un _ rfl (fun _ => rfl) rfl) ?_
    refine AOps.nil ?_
    refine AWP.cond _ rfl (fun h16 => ?_) (fun h16 => ?_)
    · skip
      have hm : ¬ (0 ≤ m ∧ m ≤ 65536) := by have hq := h16; simp [amB] at hq; omega
      have hE : (drfM p q m) = ([], [], 1) := by unfold drfM; rw [if_pos hpq, if_neg hm]
      refine AWP.seq ?_
      refine AWP.region ?_
      refine AOps.call (o_noPack rfl) ?_
      refine AOps.call (o_noPack rfl) ?_
      refine AOps.cons (o_store _ _ rfl rfl Tryd.sizeOf24 rfl rfl rfl rfl rfl) ?_
      refine AOps.cons (o_store _ _ rfl rfl Tryd.sizeOf24 rfl rfl rfl rfl rfl) ?_
      refine AOps.call (o_assign _ rfl rfl) ?_
      refine AOps.nil ?_
      refine AWP.ret ?_
      refine postQ.retCC1 Tryd.results54 rfl rfl Tryd.sizeOf24 Tryd.isAgg24 rfl rfl rfl Tryd.sizeOf24 Tryd.isAgg24 rfl rfl ?_
      rw [hE]
      rfl
    · skip
      have hm : 0 ≤ m ∧ m ≤ 65536 := by have hq := h16; simp [amB] at hq; omega
      have hTl : ((take (preZ p) p m 0 0).1 ++ (take (preZ p) p m 0 0).2.1).length = 64 := by rw [List.length_append, take_len _ (Nat.le_refl _), ← List.length_append]; exact pre_len hpq.1
      refine AWP.skip ?_
      refine AWP.seq ?_
      refine AWP.region ?_
      refine AOps.call (o_loadRef _ rfl rfl Tryd.sizeOf24 Tryd.isAgg24 rfl rfl rfl) ?_
      refine AOps.call (o_callRef (stand_p p hpq.1) Tryd.call69 rfl rfl) ?_
      refine AOps.call (o_assign _ rfl rfl) ?_
      refine AOps.nil ?_
      refine AWP.seq ?_
      refine AWP.region ?_
      refine AOps.call (o_move _ rfl rfl) ?_
      refine AOps.call (o_move _ rfl rfl) ?_
      refine AOps.cons (o_callMC [(30, 0)] (take_s (preZ p) p m (pre_len hpq.1) (colOk_of hpq.1) ⟨by omega, by omega⟩) Tryd.call86 rfl rfl (lentOf1 (col_close _ _)) rfl rfl rfl) ?_
      refine AOps.call (o_move _ rfl rfl) ?_
      refine AOps.call (o_extract _ rfl rfl rfl rfl) ?_
      refine AOps.call (o_extract _ rfl rfl rfl rfl) ?_
      refine AOps.call (o_assign _ rfl rfl) ?_
      refine AOps.call (o_assign _ rfl rfl) ?_
      refine AOps.nil ?_
      refine AWP.seq ?_
      refine AWP.region ?_
      refine AOps.call (o_loadRef _ rfl rfl Tryd.sizeOf24 Tryd.isAgg24 rfl rfl rfl) ?_
      refine AOps.call (o_move _ rfl rfl) ?_
      refine AOps.call (o_build bu26 rfl rfl rfl) ?_
      refine AOps.call (o_call (Apply_s q ⟨1, (take (preZ p) p m 0 0).2.2.1, 0⟩) Tryd.call31 rfl rfl) ?_
      refine AOps.call (o_move _ rfl rfl) ?_
      refine AOps.call (o_extract _ rfl rfl rfl rfl) ?_
      refine AOps.call (o_extract _ rfl rfl rfl rfl) ?_
      refine AOps.call (o_extract _ rfl rfl rfl rfl) ?_
      refine AOps.call (o_alloc ze24 rfl rfl) ?_
      refine AOps.cons (o_store _ _ rfl rfl Tryd.sizeOf24 rfl rfl rfl rfl rfl) ?_
      refine AOps.call (o_assign _ rfl rfl) ?_
      refine AOps.call (o_assign _ rfl rfl) ?_
      refine AOps.nil ?_
      refine AWP.seq ?_
      refine AWP.seq ?_
      refine AWP.region ?_
      refine AOps.call (o_move _ rfl rfl) ?_
      refine AOps.call (o_bin _ _ rfl rfl (fun _ => rfl) rfl) ?_
      refine AOps.nil ?_
      refine AWP.cond _ rfl (fun h34 => ?_) (fun h34 => ?_)
      · skip
        have h3 : ¬ (appM q ⟨1, (take (preZ p) p m 0 0).2.2.1, 0⟩).2.2 = 0 := by simpa using h34
        have hE : (drfM p q m) = ([], [], (appM q ⟨1, (take (preZ p) p m 0 0).2.2.1, 0⟩).2.2) := by unfold drfM; rw [if_pos hpq, if_pos hm, if_neg h3]
        refine AWP.seq ?_
        refine AWP.region ?_
        refine AOps.call (o_noPack rfl) ?_
        refine AOps.call (o_noPack rfl) ?_
        refine AOps.call (o_move _ rfl rfl) ?_
        refine AOps.cons (o_store _ _ rfl rfl Tryd.sizeOf24 rfl rfl rfl rfl rfl) ?_
        refine AOps.cons (o_store _ _ rfl rfl Tryd.sizeOf24 rfl rfl rfl rfl rfl) ?_
        refine AOps.call (o_assign _ rfl rfl) ?_
        refine AOps.nil ?_
        refine AWP.ret ?_
        refine postQ.retCC1 Tryd.results54 rfl rfl Tryd.sizeOf24 Tryd.isAgg24 rfl rfl rfl Tryd.sizeOf24 Tryd.isAgg24 rfl rfl ?_
        rw [hE]
        rfl
      · skip
        have h3 : (appM q ⟨1, (take (preZ p) p m 0 0).2.2.1, 0⟩).2.2 = 0 := by simpa using h34
        have hE : (drfM p q m) = ((take (preZ p) p m 0 0).2.1, (appM q ⟨1, (take (preZ p) p m 0 0).2.2.1, 0⟩).1, 0) := by unfold drfM; rw [if_pos hpq, if_pos hm, if_pos h3]
        refine AWP.weak (Weak.frzv (id := (30, 0)) (t := 10) rfl rfl (col_close _ _)) ?_
        refine AWP.skip ?_
        refine AWP.seq ?_
        refine AWP.drawnS 3 (fun i => Nat.beq i 2) (6, 0) mixed (by kernel_rfl) ?_
        refine AHeadS.call (o_move _ rfl rfl) rfl rfl ?_
        refine AHeadS.call (o_call (pack_rd (take (preZ p) p m 0 0).1 (take (preZ p) p m 0 0).2.1 hTl) Tryd.call71 rfl rfl) rfl rfl ?_
        refine AHeadS.callL (o_loadRef _ rfl rfl Tryd.sizeOf24 Tryd.isAgg24 rfl rfl rfl) rfl ?_
        refine AHeadS.nil ⟨_, _, rfl, ok_storeAny _ _ rfl rfl Tryd.sizeOf24 rfl rfl rfl rfl rfl, ?_⟩
        refine AOps.cons (o_store _ _ rfl rfl Tryd.sizeOf24 rfl rfl rfl rfl rfl) ?_
        refine AOps.call (o_assign _ rfl rfl) ?_
        refine AOps.nil ?_
        refine AWP.ret ?_
        refine postQ.retCC1 Tryd.results54 rfl rfl Tryd.sizeOf24 Tryd.isAgg24 rfl rfl rfl Tryd.sizeOf24 Tryd.isAgg24 rfl rfl ?_
        rw [hE]
        rfl

def stpsL (l : List Stp) : List (List AV) := l.map eT
theorem stpsL_len (l : List Stp) : (stpsL l).length = l.length := by simp [stpsL]
theorem stpsL_at {l : List Stp} {k : Nat} (h : k < l.length) : (stpsL l)[((k : Nat) : Int).toNat]? = some (eT l[k]) := by simp [stpsL, h]
theorem ints_flen (l : List Int) : (ints l).flatten.length = l.length := by
  have := flat_len (e := fun x => [I x]) (z := 1) (fun _ => rfl) l
  unfold ints; omega
theorem ints_scs (l : List Int) : ∀ x ∈ (ints l).flatten, ∃ v, x = .sc v := by
  intro x hx
  obtain ⟨c, hc, hx⟩ := List.mem_flatten.1 hx
  obtain ⟨k, _, rfl⟩ := List.mem_map.1 hc
  simp only [List.mem_cons, List.not_mem_nil, or_false] at hx
  exact ⟨_, hx⟩
theorem ints_zero (n : Nat) : (List.replicate n ([Value.int .i64 0].map AV.sc)).flatten = (ints (List.replicate n 0)).flatten := by
  unfold ints; rw [List.map_replicate]; rfl
theorem ints_step {o : List Int} {n k : Nat} {x : Int} (ho : o.length = k) (h : k < n) : splice (ints (o ++ List.replicate (n - k) 0)).flatten [I x] (k * 1) = (ints ((o ++ [x]) ++ List.replicate (n - (k + 1)) 0)).flatten := by
  rw [List.append_assoc, show n - k = (n - (k + 1)) + 1 by omega, List.replicate_succ]
  exact flat_set (e := fun x => [I x]) (fun _ => rfl) (by rw [ho])

set_option maxRecDepth 20000 in
theorem ints_s (a b : List Int) (hl : a.length ≤ 1000000) : FSpec Tryd.prog 36 [.sl (ints a), .sl (ints b)] (B (decide (a = b))) (none) := by
  refine FSpec.of_body Tryd.func36 rfl (leB rfl) fun w0 M0 => ?_
  have hpl := ints_len a
  have hql := ints_len b
  refine AWP.seq ?_
  refine AWP.region ?_
  refine AOps.call (o_assign _ rfl rfl) ?_
  refine AOps.nil ?_
  refine AWP.seq ?_
  refine AWP.seq ?_
  refine AWP.region ?_
  refine AOps.call (o_move _ rfl rfl) ?_
  refine AOps.call (o_len _ Tryd.underlying44 rfl rfl) ?_
  refine AOps.call (o_move _ rfl rfl) ?_
  refine AOps.call (o_len _ Tryd.underlying44 rfl rfl) ?_
  refine AOps.call (o_bin _ _ rfl rfl (fun _ => rfl) rfl) ?_
  refine AOps.nil ?_
  refine AWP.cond _ rfl (fun h6 => ?_) (fun h6 => ?_)
  · skip
    have hne : ¬ a.length = b.length := by
      have hq : ¬(((ints a).length : Nat) : Int) = ((ints b).length : Nat) := by simpa using h6
      omega
    have hE : decide (a = b) = false := decide_eq_false fun h => hne (by rw [h])
    refine AWP.seq ?_
    refine AWP.region ?_
    refine AOps.call (o_assign _ rfl rfl) ?_
    refine AOps.nil ?_
    refine AWP.ret ?_
    refine postQ.ret1 Tryd.results36 rfl ?_
    rw [hE]
    rfl
  · skip
    have hlen : a.length = b.length := by
      have hq : (((ints a).length : Nat) : Int) = ((ints b).length : Nat) := by simpa using h6
      omega
    refine AWP.skip ?_
    refine AWP.seq ?_
    refine AWP.seq ?_
    refine AWP.region ?_
    refine AOps.call (o_assign _ rfl rfl) ?_
    refine AOps.nil ?_
    refine AWP.block ?_
    refine AWP.loop (ι := Nat) (fun i => AS.mk' 26 [(0, .sl (ints a)), (1, .sl (ints b)), (5, I i)] [] [] []) (fun i => i ≤ a.length ∧ a.take i = b.take i) (fun i => a.length - i) (0) (Weak.mk' rfl ⟨⟨.refl rfl, rfl⟩, ⟨⟨.refl rfl, rfl⟩, ⟨⟨.refl rfl, rfl⟩, trivial⟩⟩⟩ trivial trivial) (⟨Nat.zero_le _, rfl⟩) ?_
    rintro k ⟨hk, heq⟩
    try dsimp only at *
    refine AWP.seq ?_
    refine AWP.seq ?_
    refine AWP.region ?_
    refine AOps.call (o_move _ rfl rfl) ?_
    refine AOps.call (o_move _ rfl rfl) ?_
    refine AOps.call (o_len _ Tryd.underlying44 rfl rfl) ?_
    refine AOps.call (o_bin _ _ rfl rfl (fun _ => rfl) rfl) ?_
    refine AOps.nil ?_
    refine AWP.cond _ rfl (fun h11 => ?_) (fun h11 => ?_)
    · skip
      have hlt : k < a.length := by have hq := of_decide_eq_true h11; omega
      have hlt2 : k < b.length := by omega
      have hel := ints_at hlt
      have hel2 := ints_at hlt2
      refine AWP.skip ?_
      refine AWP.seq ?_
      refine AWP.block ?_
      refine AWP.seq ?_
      refine AWP.drawn 9 mixed (by kernel_rfl) ?_
      refine AHead.call (o_move _ rfl rfl) rfl ?_
      refine AHead.call (o_move _ rfl rfl) rfl ?_
      refine AHead.call (o_index _ _ Tryd.underlying44 Tryd.sizeOf3 rfl rfl (by omega) hel rfl rfl) rfl ?_
      refine AHead.call (o_loadRd _ rfl Tryd.sizeOf3 Tryd.isAgg3 rfl rfl rfl) rfl ?_
      refine AHead.call (o_move _ rfl rfl) rfl ?_
      refine AHead.call (o_move _ rfl rfl) rfl ?_
      refine AHead.call (o_index _ _ Tryd.underlying44 Tryd.sizeOf3 rfl rfl (by omega) hel2 rfl rfl) rfl ?_
      refine AHead.call (o_loadRd _ rfl Tryd.sizeOf3 Tryd.isAgg3 rfl rfl rfl) rfl ?_
      refine AHead.call (o_bin _ _ rfl rfl (fun _ => rfl) rfl) rfl ?_
      refine AHead.nil ?_
      refine AOps.nil ?_
      refine AWP.cond _ rfl (fun h19 => ?_) (fun h19 => ?_)
      · skip
        have hne : ¬ a[k] = b[k] := by simpa using h19
        have hE : decide (a = b) = false := decide_eq_false fun h => hne (by subst h; rfl)
        refine AWP.seq ?_
        refine AWP.region ?_
        refine AOps.call (o_assign _ rfl rfl) ?_
        refine AOps.nil ?_
        refine AWP.ret ?_
        refine postQ.ret1 Tryd.results36 rfl ?_
        rw [hE]
        rfl
      · skip
        have hsame : a[k] = b[k] := by simpa using h19
        refine AWP.skip ?_
        refine AWP.region ?_
        refine AOps.call (o_move _ rfl rfl) ?_
        refine AOps.call (o_add _ _ rfl rfl ⟨by (try dsimp only); omega, by (try dsimp only); omega⟩ rfl) ?_
        refine AOps.call (o_assign _ rfl rfl) ?_
        refine AOps.nil ?_
        refine ⟨k + 1, ?_, (Weak.mk' rfl ⟨⟨.refl rfl, rfl⟩, ⟨⟨.refl rfl, rfl⟩, ⟨⟨.refl rfl, rfl⟩, trivial⟩⟩⟩ trivial trivial)⟩
        exact ⟨⟨by omega, by rw [List.take_succ_eq_append_getElem hlt, List.take_succ_eq_append_getElem hlt2, heq, hsame]⟩, by omega⟩
    · skip
      have hkl : k = a.length := by have hq := of_decide_eq_false h11; omega
      have hE : decide (a = b) = true := decide_eq_true (by rw [hkl, List.take_length] at heq; rw [heq, hlen, List.take_length])
      refine AWP.exit ?_
      refine AWP.seq ?_
      refine AWP.region ?_
      refine AOps.call (o_assign _ rfl rfl) ?_
      refine AOps.nil ?_
      refine AWP.ret ?_
      refine postQ.ret1 Tryd.results36 rfl ?_
      rw [hE]
      rfl

set_option maxRecDepth 20000 in
theorem Run_s (p : List Lay) (l : List Stp) : FSpec Tryd.prog 34 [.agg (eK p), .sl (stpsL l)] (.tup [.agg (eK (runM p l).1), .sl (ints (runM p l).2.1), I (runM p l).2.2]) (none) := by
  refine FSpec.of_body Tryd.func34 rfl (leB rfl) fun w0 M0 => ?_
  have hsl := stpsL_len l
  refine AWP.seq ?_
  refine AWP.region ?_
  refine AOps.call (o_box _ rfl rfl rfl) ?_
  refine AOps.call (o_alloc ze24 rfl rfl) ?_
  refine AOps.call (o_nil (z := 1) (e := 3) rfl) ?_
  refine AOps.call (o_assign _ rfl rfl) ?_
  refine AOps.nil ?_
  refine AWP.seq ?_
  refine AWP.seq ?_
  refine AWP.region ?_
  refine AOps.call (o_loadRef _ rfl rfl Tryd.sizeOf24 Tryd.isAgg24 rfl rfl rfl) ?_
  refine AOps.call (o_call (Check_s _) Tryd.call26 rfl rfl) ?_
  refine AOps.call (o_assign _ rfl rfl) ?_
  refine AOps.nil ?_
  refine AWP.seq ?_
  refine AWP.region ?_
  refine AOps.call (o_move _ rfl rfl) ?_
  refine AOps.call (o_bin _ _ rfl rfl (fun _ => rfl) rfl) ?_
  refine AOps.nil ?_
  refine AWP.cond _ rfl (fun h8 => ?_) (fun h8 => ?_)
  · skip
    have hp : ¬ packE p = 0 := by simpa using h8
    have hp20 := packE_20 hp
    have hE : (runM p l) = ([], [], packE p) := by unfold runM; rw [if_neg hp, hp20]
    refine AWP.seq ?_
    refine AWP.region ?_
    refine AOps.call (o_noPack rfl) ?_
    refine AOps.call (o_move _ rfl rfl) ?_
    refine AOps.cons (o_store _ _ rfl rfl Tryd.sizeOf24 rfl rfl rfl rfl rfl) ?_
    refine AOps.call (o_nil (z := 1) (e := 3) rfl) ?_
    refine AOps.call (o_assign _ rfl rfl) ?_
    refine AOps.nil ?_
    refine AWP.ret ?_
    refine postQ.retC2 Tryd.results34 rfl rfl Tryd.sizeOf24 Tryd.isAgg24 rfl rfl rfl ?_
    rw [hE]
    rfl
  · skip
    have hp : packE p = 0 := by simpa using h8
    refine AWP.skip ?_
    refine AWP.seq ?_
    refine AWP.seq ?_
    refine AWP.region ?_
    refine AOps.call (o_move _ rfl rfl) ?_
    refine AOps.call (o_len _ Tryd.underlying43 rfl rfl) ?_
    refine AOps.call (o_bin _ _ rfl rfl (fun _ => rfl) rfl) ?_
    refine AOps.nil ?_
    refine AWP.cond _ rfl (fun h14 => ?_) (fun h14 => ?_)
    · skip
      have hn : ¬ l.length ≤ 256 := by have hq := of_decide_eq_true h14; omega
      have hE : (runM p l) = ([], [], 2) := by unfold runM; rw [if_pos hp, if_neg hn]
      refine AWP.seq ?_
      refine AWP.region ?_
      refine AOps.call (o_noPack rfl) ?_
      refine AOps.cons (o_store _ _ rfl rfl Tryd.sizeOf24 rfl rfl rfl rfl rfl) ?_
      refine AOps.call (o_nil (z := 1) (e := 3) rfl) ?_
      refine AOps.call (o_assign _ rfl rfl) ?_
      refine AOps.nil ?_
      refine AWP.ret ?_
      refine postQ.retC2 Tryd.results34 rfl rfl Tryd.sizeOf24 Tryd.isAgg24 rfl rfl rfl ?_
      rw [hE]
      rfl
    · skip
      have hn : l.length ≤ 256 := by have hq := of_decide_eq_false h14; omega
      have hE0 : (runM p l) = runL p l := by unfold runM; rw [if_pos hp, if_pos hn]
      refine AWP.skip ?_
      refine AWP.seq ?_
      refine AWP.region ?_
      refine AOps.call (o_loadRef _ rfl rfl Tryd.sizeOf24 Tryd.isAgg24 rfl rfl rfl) ?_
      refine AOps.call (o_callRef (stand_p p hp) Tryd.call69 rfl rfl) ?_
      refine AOps.cons (o_callMC [(26, 0)] (pack_s (preZ p) p (pre_len hp)) Tryd.call71 rfl rfl (lentOf1 (col_close _ _)) rfl rfl rfl) ?_
      refine AOps.call (o_alloc ze24 rfl rfl) ?_
      refine AOps.cons (o_store _ _ rfl rfl Tryd.sizeOf24 rfl rfl rfl rfl rfl) ?_
      refine AOps.nil ?_
      refine AWP.seq ?_
      refine AWP.region ?_
      refine AOps.call (o_move _ rfl rfl) ?_
      refine AOps.call (o_len _ Tryd.underlying43 rfl rfl) ?_
      refine AOps.mkarr (n := l.length) (zs := [.int .i64 0]) (cs := (ints ((runL p (l.take 0)).2.1 ++ List.replicate (l.length - 0) 0)).flatten) _ _ Tryd.underlying44 info3 rfl rfl rfl rfl rfl rfl rfl rfl rfl (by rw [hsl]) (by omega) rfl rfl (by rw [ints_zero]; simp [runL]) ?_
      refine AOps.call (o_assign _ rfl rfl) ?_
      refine AOps.nil ?_
      refine AWP.seq ?_
      refine AWP.seq ?_
      refine AWP.region ?_
      refine AOps.call (o_move _ rfl rfl) ?_
      refine AOps.call (o_len _ Tryd.underlying43 rfl rfl) ?_
      refine AOps.call (o_move _ rfl rfl) ?_
      refine AOps.nil ?_
      refine AWP.block ?_
      refine AWP.loop (ι := Nat) (fun i => AS.mk' 57 [(1, .sl (stpsL l)), (4, .ref (4, 0) 0), (8, .ref (8, 0) 0), (9, .arr (30, 0) 0 l.length l.length), (31, .sl (stpsL l)), (32, I (stpsL l).length), (33, I i)] [((4, 0), [.sc (.slice none 0 0)]), ((8, 0), eK (runL p (l.take i)).1), ((30, 0), (ints ((runL p (l.take i)).2.1 ++ List.replicate (l.length - i) 0)).flatten)] [] [(4, 1), (8, 1), (30, 1)]) (fun i => i ≤ l.length ∧ (runL p (l.take i)).2.2 = 0) (fun i => l.length - i) (0) (Weak.mk' rfl ⟨⟨.refl rfl, rfl⟩, ⟨⟨.refl rfl, rfl⟩, ⟨⟨.refl rfl, rfl⟩, ⟨⟨.refl rfl, rfl⟩, ⟨⟨.refl rfl, rfl⟩, ⟨⟨.refl rfl, rfl⟩, ⟨⟨.refl rfl, rfl⟩, trivial⟩⟩⟩⟩⟩⟩⟩ ⟨⟨rfl, rfl, rfl⟩, ⟨⟨rfl, rfl, rfl⟩, ⟨⟨rfl, lowL_sc _ _ (ints_scs _), rfl⟩, trivial⟩⟩⟩ trivial) (⟨Nat.zero_le _, rfl⟩) ?_
      rintro k ⟨hk, hinv⟩
      try dsimp only at *
      refine AWP.seq ?_
      refine AWP.region ?_
      refine AOps.call (o_bin _ _ rfl rfl (fun _ => rfl) rfl) ?_
      refine AOps.nil ?_
      refine AWP.seq ?_
      refine AWP.cond _ rfl (fun h29 => ?_) (fun h29 => ?_)
      · skip
        have hlt : k < l.length := by have hq := of_decide_eq_true h29; omega
        have hel := stpsL_at hlt
        have hol : (runL p (l.take k)).2.1.length = k := by rw [(runL_E hp hinv).2, List.length_take]; omega
        refine AWP.skip ?_
        refine AWP.seq ?_
        refine AWP.block ?_
        refine AWP.seq ?_
        refine AWP.region ?_
        refine AOps.call (o_move _ rfl rfl) ?_
        refine AOps.call (o_index _ _ Tryd.underlying43 Tryd.sizeOf26 rfl rfl (by omega) hel rfl rfl) ?_
        refine AOps.call (o_loadRd _ rfl Tryd.sizeOf26 Tryd.isAgg26 rfl rfl rfl) ?_
        refine AOps.call (o_alloc ze26 rfl rfl) ?_
        refine AOps.call (o_assign _ rfl rfl) ?_
        refine AOps.cons (o_store _ _ rfl rfl Tryd.sizeOf26 rfl rfl rfl rfl rfl) ?_
        refine AOps.nil ?_
        refine AWP.seq ?_
        refine AWP.region ?_
        refine AOps.call (o_loadRef _ rfl rfl Tryd.sizeOf24 Tryd.isAgg24 rfl rfl rfl) ?_
        refine AOps.call (o_loadRef _ rfl rfl Tryd.sizeOf26 Tryd.isAgg26 rfl rfl rfl) ?_
        refine AOps.call (o_call (Apply_s (runL p (l.take k)).1 l[k]) Tryd.call31 rfl rfl) ?_
        refine AOps.call (o_move _ rfl rfl) ?_
        refine AOps.call (o_extract _ rfl rfl rfl rfl) ?_
        refine AOps.call (o_extract _ rfl rfl rfl rfl) ?_
        refine AOps.call (o_extract _ rfl rfl rfl rfl) ?_
        refine AOps.call (o_alloc ze24 rfl rfl) ?_
        refine AOps.cons (o_store _ _ rfl rfl Tryd.sizeOf24 rfl rfl rfl rfl rfl) ?_
        refine AOps.call (o_assign _ rfl rfl) ?_
        refine AOps.call (o_assign _ rfl rfl) ?_
        refine AOps.nil ?_
        refine AWP.seq ?_
        refine AWP.seq ?_
        refine AWP.region ?_
        refine AOps.call (o_move _ rfl rfl) ?_
        refine AOps.call (o_bin _ _ rfl rfl (fun _ => rfl) rfl) ?_
        refine AOps.nil ?_
        refine AWP.cond _ rfl (fun h41 => ?_) (fun h41 => ?_)
        · skip
          have h3 : ¬ (appM (runL p (l.take k)).1 l[k]).2.2 = 0 := by simpa using h41
          have hnx : (runL p (l.take (k + 1))) = ([], [], (appM (runL p (l.take k)).1 l[k]).2.2) := by rw [runL_snoc hlt hinv, if_neg h3]
          have hE : (runM p l) = ([], [], (appM (runL p (l.take k)).1 l[k]).2.2) := by rw [hE0, runL_stop (k := k + 1) (by rw [hnx]; exact h3), hnx]
          refine AWP.seq ?_
          refine AWP.region ?_
          refine AOps.call (o_noPack rfl) ?_
          refine AOps.call (o_move _ rfl rfl) ?_
          refine AOps.cons (o_store _ _ rfl rfl Tryd.sizeOf24 rfl rfl rfl rfl rfl) ?_
          refine AOps.call (o_nil (z := 1) (e := 3) rfl) ?_
          refine AOps.call (o_assign _ rfl rfl) ?_
          refine AOps.nil ?_
          refine AWP.ret ?_
          refine postQ.retC2 Tryd.results34 rfl rfl Tryd.sizeOf24 Tryd.isAgg24 rfl rfl rfl ?_
          rw [hE]
          rfl
        · skip
          have h3 : (appM (runL p (l.take k)).1 l[k]).2.2 = 0 := by simpa using h41
          have hnx : (runL p (l.take (k + 1))) = ((appM (runL p (l.take k)).1 l[k]).1, (runL p (l.take k)).2.1 ++ [(appM (runL p (l.take k)).1 l[k]).2.1], 0) := by rw [runL_snoc hlt hinv, if_pos h3]
          refine AWP.skip ?_
          refine AWP.region ?_
          refine AOps.call (o_move _ rfl rfl) ?_
          refine AOps.call (o_move _ rfl rfl) ?_
          refine AOps.call (o_loadRef _ rfl rfl Tryd.sizeOf24 Tryd.isAgg24 rfl rfl rfl) ?_
          refine AOps.call (o_move _ rfl rfl) ?_
          refine AOps.cons (o_store _ _ rfl rfl Tryd.sizeOf24 rfl rfl rfl rfl rfl) ?_
          refine AOps.call (o_indexArr (o := k * 1) _ _ Tryd.underlying44 Tryd.sizeOf3 rfl rfl (by omega) (by omega) (by omega) rfl) ?_
          refine AOps.cons (o_storeE _ _ rfl rfl Tryd.sizeOf3 rfl rfl (by rw [ints_flen]; simp; omega) (ints_step (o := (runL p (l.take k)).2.1) hol hlt) rfl) ?_
          refine AOps.nil ?_
          refine AWP.region ?_
          refine AOps.call (o_add _ _ rfl rfl ⟨by (try dsimp only); omega, by (try dsimp only); omega⟩ rfl) ?_
          refine AOps.call (o_move _ rfl rfl) ?_
          refine AOps.nil ?_
          refine ⟨k + 1, ?_, (Weak.mk' rfl ⟨⟨.refl rfl, rfl⟩, ⟨⟨.refl rfl, rfl⟩, ⟨⟨.refl rfl, rfl⟩, ⟨⟨.refl rfl, rfl⟩, ⟨⟨.refl rfl, rfl⟩, ⟨⟨.refl rfl, rfl⟩, ⟨⟨.refl rfl, rfl⟩, trivial⟩⟩⟩⟩⟩⟩⟩ ⟨⟨rfl, rfl, rfl⟩, ⟨⟨(by rw [hnx]; rfl), rfl, rfl⟩, ⟨⟨(by rw [hnx]; rfl), lowL_sc _ _ (ints_scs _), rfl⟩, trivial⟩⟩⟩ trivial)⟩
          exact ⟨⟨by omega, by rw [hnx]⟩, by omega⟩
      · skip
        have hkl : k = l.length := by have hq := of_decide_eq_false h29; omega
        subst hkl
        have hE : (runM p l) = (((runL p (l.take l.length))).1, ((runL p (l.take l.length))).2.1, 0) := by rw [hE0]; rw [List.take_length] at hinv ⊢; rw [← hinv]
        refine AWP.weak (Weak.frz (id := (30, 0)) (t := 9) (z := 1) (es := ints (runL p (l.take l.length)).2.1) (cs' := (ints (runL p (l.take l.length)).2.1).flatten) rfl rfl (by rw [Nat.sub_self, List.replicate_zero, List.append_nil]; exact closeL_self _ (sc_self (ints_scs _))) rfl ints_z (by rw [ints_len, (runL_E hp hinv).2, List.length_take, Nat.min_self])) ?_
        refine AWP.exit ?_
        refine AWP.seq ?_
        refine AWP.region ?_
        refine AOps.call (o_loadRef _ rfl rfl Tryd.sizeOf24 Tryd.isAgg24 rfl rfl rfl) ?_
        refine AOps.call (o_move _ rfl rfl) ?_
        refine AOps.cons (o_store _ _ rfl rfl Tryd.sizeOf24 rfl rfl rfl rfl rfl) ?_
        refine AOps.call (o_assign _ rfl rfl) ?_
        refine AOps.call (o_assign _ rfl rfl) ?_
        refine AOps.nil ?_
        refine AWP.ret ?_
        refine postQ.retC2 Tryd.results34 rfl rfl Tryd.sizeOf24 Tryd.isAgg24 rfl rfl rfl ?_
        rw [hE]
        rfl

end Go.Proofs.YtgagfmjpmdgfdaaDoor
