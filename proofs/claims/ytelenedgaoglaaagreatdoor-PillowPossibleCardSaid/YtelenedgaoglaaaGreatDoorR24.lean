/- R24. -/
import Derived.Test.YtelenedgaoglaaaGreatDoorR23
set_option linter.unusedSimpArgs false
set_option linter.unusedVariables false
namespace Go.Proofs.YtelenedgaoglaaaGreatDoor
open Go.Ab
open Go.Pil Go.RowKit
theorem PosE_ne {p : Plw} {w : List Sp} {n : Int} (h : PosE p w n ≠ 0) : PosL p w n = [] := by
  unfold PosE at h
  unfold PosL
  split at h
  · rename_i h1
    rw [if_pos h1]
    obtain ⟨h2, _⟩ := casE_ne h
    unfold posL; rw [h2]; simp [uni]; rfl
  · rename_i h1; rw [if_neg h1]
def hullE (p : Plw) (w : List Sp) (n : Int) : Int := if PosE p w n ≠ 0 then PosE p w n else if PosL p w n = [] then 33 else 0
def hullS (p : Plw) (w : List Sp) (n : Int) : Sp := if PosL p w n = [] then ⟨0, 0⟩ else ⟨((PosL p w n).getD 0 ⟨0, 0⟩).lo, ((PosL p w n).getD ((PosL p w n).length - 1) ⟨0, 0⟩).hi⟩
theorem casL_bd (p : Plw) (w : List Sp) (n : Int) : (PosL p w n).length ≤ 64 := by
  unfold PosL posL
  split
  · refine Nat.le_trans ?_ (casL_len p w)
    have h := fold_len (((casL p w).map (posS p w n)).mergeSort fun a b => decide (a.lo ≤ b.lo)) []
    rw [fold_joined] at h
    simpa [uni] using h
  · simp
theorem sps_get0 {l : List Sp} {k : Int} {j : Nat} (h : k.toNat = j) (hj : j < l.length) : (sps l)[k.toNat]? = some (eN (l.getD j ⟨0, 0⟩)) := by
  subst h
  simp [sps, hj]
theorem ints_get0 {l : List Int} {k : Int} {j : Nat} (h : k.toNat = j) (hj : j < l.length) : (ints l)[k.toNat]? = some [I (l.getD j 0)] := by
  subst h
  simp [ints, hj]
set_option maxRecDepth 20000 in
theorem Hull_s (p : Plw) (w : List Sp) (n : Int) (hw1 : w.length ≤ 9223372036854775807) : FSpec Tryz.prog 41 [.agg (eP p), .sl (sps w), I n] (.tup [.agg (eN (hullS p w n)), I (hullE p w n)]) (none) := by
  refine FSpec.of_body Tryz.func41 rfl (leB rfl) fun w0 M0 => ?_
  have hbd := casL_bd p w n
  have hsl := sps_len (PosL p w n)
  refine AWP.seq ?_
  refine AWP.region ?_
  refine AOps.call (o_box _ rfl rfl rfl) ?_
  refine AOps.call (o_alloc ze54 rfl rfl) ?_
  refine AOps.call (o_assign _ rfl rfl) ?_
  refine AOps.nil ?_
  refine AWP.seq ?_
  refine AWP.region ?_
  refine AOps.call (o_loadRef _ rfl rfl Tryz.sizeOf24 Tryz.isAgg24 rfl rfl rfl) ?_
  refine AOps.call (o_move _ rfl rfl) ?_
  refine AOps.call (o_move _ rfl rfl) ?_
  refine AOps.call (o_call (Possible_s p w n hw1) Tryz.call39 rfl rfl) ?_
  refine AOps.call (o_move _ rfl rfl) ?_
  refine AOps.call (o_extract _ rfl rfl rfl rfl) ?_
  refine AOps.call (o_extract _ rfl rfl rfl rfl) ?_
  refine AOps.call (o_assign _ rfl rfl) ?_
  refine AOps.call (o_assign _ rfl rfl) ?_
  refine AOps.nil ?_
  refine AWP.seq ?_
  refine AWP.seq ?_
  refine AWP.region ?_
  refine AOps.call (o_move _ rfl rfl) ?_
  refine AOps.call (o_bin _ _ rfl rfl (fun _ => rfl) rfl) ?_
  refine AOps.nil ?_
  refine AWP.cond _ rfl (fun h11 => ?_) (fun h11 => ?_)
  · skip
    have hne : PosE p w n ≠ 0 := by simpa using h11
    have hS : hullS p w n = ⟨0, 0⟩ := if_pos (PosE_ne hne)
    have hE : hullE p w n = PosE p w n := if_pos hne
    refine AWP.seq ?_
    refine AWP.region ?_
    refine AOps.call (o_build bu54 rfl rfl rfl) ?_
    refine AOps.call (o_move _ rfl rfl) ?_
    refine AOps.cons (o_store _ _ rfl rfl Tryz.sizeOf54 rfl rfl rfl rfl rfl) ?_
    refine AOps.call (o_assign _ rfl rfl) ?_
    refine AOps.nil ?_
    refine AWP.ret ?_
    refine postQ.retC1 Tryz.results41 rfl rfl Tryz.sizeOf54 Tryz.isAgg54 rfl rfl ?_
    rw [hS, hE]
    rfl
  · skip
    have hz : ¬ PosE p w n ≠ 0 := by simpa using h11
    refine AWP.skip ?_
    refine AWP.seq ?_
    refine AWP.seq ?_
    refine AWP.region ?_
    refine AOps.call (o_move _ rfl rfl) ?_
    refine AOps.call (o_len _ Tryz.underlying38 rfl rfl) ?_
    refine AOps.call (o_bin _ _ rfl rfl (fun _ => rfl) rfl) ?_
    refine AOps.nil ?_
    refine AWP.cond _ rfl (fun h15 => ?_) (fun h15 => ?_)
    · skip
      have hnil : (PosL p w n) = [] := by
        have h1 : ((sps (PosL p w n)).length : Int) = 0 := by simpa using h15
        exact List.eq_nil_of_length_eq_zero (by omega)
      have hS : hullS p w n = ⟨0, 0⟩ := if_pos hnil
      have hE : hullE p w n = 33 := (if_neg hz).trans (if_pos hnil)
      refine AWP.seq ?_
      refine AWP.region ?_
      refine AOps.call (o_build bu54 rfl rfl rfl) ?_
      refine AOps.cons (o_store _ _ rfl rfl Tryz.sizeOf54 rfl rfl rfl rfl rfl) ?_
      refine AOps.call (o_assign _ rfl rfl) ?_
      refine AOps.nil ?_
      refine AWP.ret ?_
      refine postQ.retC1 Tryz.results41 rfl rfl Tryz.sizeOf54 Tryz.isAgg54 rfl rfl ?_
      rw [hS, hE]
      rfl
    · skip
      have hpos : 0 < (PosL p w n).length := by
        have h1 : ¬ ((sps (PosL p w n)).length : Int) = 0 := by simpa using h15
        omega
      have hnn : ¬ (PosL p w n) = [] := List.length_pos_iff.1 hpos
      have hS : hullS p w n = ⟨((PosL p w n).getD 0 ⟨0, 0⟩).lo, ((PosL p w n).getD ((PosL p w n).length - 1) ⟨0, 0⟩).hi⟩ := if_neg hnn
      have hE : hullE p w n = 0 := (if_neg hz).trans (if_neg hnn)
      have hel0 := sps_get0 (l := (PosL p w n)) (k := 0) (j := 0) rfl hpos
      have hel1 := sps_get0 (l := (PosL p w n)) (k := ((sps (PosL p w n)).length : Int) - 1) (j := (PosL p w n).length - 1) (by omega) (by omega)
      refine AWP.skip ?_
      refine AWP.seq ?_
      refine AWP.drawn 12 mixed (by kernel_rfl) ?_
      refine AHead.call (o_move _ rfl rfl) rfl ?_
      refine AHead.call (o_index _ _ Tryz.underlying38 Tryz.sizeOf54 rfl rfl (by decide) hel0 rfl rfl) rfl ?_
      refine AHead.call (o_fieldRd _ rfl fa54_0 rfl) rfl ?_
      refine AHead.call (o_loadRd _ rfl Tryz.sizeOf3 Tryz.isAgg3 rfl rfl rfl) rfl ?_
      refine AHead.call (o_move _ rfl rfl) rfl ?_
      refine AHead.call (o_move _ rfl rfl) rfl ?_
      refine AHead.call (o_len _ Tryz.underlying38 rfl rfl) rfl ?_
      refine AHead.call (o_sub _ _ rfl rfl ⟨by (try dsimp only); omega, by (try dsimp only); omega⟩ rfl) rfl ?_
      refine AHead.call (o_index _ _ Tryz.underlying38 Tryz.sizeOf54 rfl rfl (by omega) hel1 rfl rfl) rfl ?_
      refine AHead.call (o_fieldRd _ rfl fa54_1 rfl) rfl ?_
      refine AHead.call (o_loadRd _ rfl Tryz.sizeOf3 Tryz.isAgg3 rfl rfl rfl) rfl ?_
      refine AHead.call (o_build bu54 rfl rfl rfl) rfl ?_
      refine AHead.nil ?_
      refine AOps.cons (o_store _ _ rfl rfl Tryz.sizeOf54 rfl rfl rfl rfl rfl) ?_
      refine AOps.call (o_assign _ rfl rfl) ?_
      refine AOps.nil ?_
      refine AWP.ret ?_
      refine postQ.retC1 Tryz.results41 rfl rfl Tryz.sizeOf54 Tryz.isAgg54 rfl rfl ?_
      rw [hS, hE]
      rfl
def stN (p : Plw) (w : List Sp) (n : Int) : Int := ((casL p w).getD 0 []).getD n.toNat 0
def sameN (p : Plw) (w : List Sp) (n : Int) : Bool := (casL p w).all fun l => decide (l.getD n.toNat 0 = stN p w n)
def sureE (p : Plw) (w : List Sp) (n : Int) : Int := if casE p w ≠ 0 then casE p w else if casL p w = [] then 33 else 0
def sureS (p : Plw) (w : List Sp) (n : Int) : Int × Bool := if casL p w = [] then (0, false) else if sameN p w n = true then (stN p w n, true) else (0, false)
set_option maxRecDepth 20000 in
theorem Sure_ok (p : Plw) (w : List Sp) (n : Int) (hw1 : w.length ≤ 9223372036854775807) (he : okP p = true) (hq : okW p w = true) (hh : hasB p n = true) : FSpec Tryz.prog 43 [.agg (eP p), .sl (sps w), I n] (.tup [I (sureS p w n).1, B (sureS p w n).2, I (sureE p w n)]) (none) := by
  refine FSpec.of_body Tryz.func43 rfl (leB rfl) fun w0 M0 => ?_
  have hp := okP_iff.1 he
  have h32 := hp.len
  have hcl := casL_len p w
  have hgl := css_len (casL p w)
  have hnn : 0 ≤ n ∧ n < p.log.length := by unfold hasB at hh; simpa using hh
  refine AWP.seq ?_
  refine AWP.region ?_
  refine AOps.call (o_box _ rfl rfl rfl) ?_
  refine AOps.call (o_assign _ rfl rfl) ?_
  refine AOps.call (o_assign _ rfl rfl) ?_
  refine AOps.call (o_assign _ rfl rfl) ?_
  refine AOps.nil ?_
  refine AWP.seq ?_
  refine AWP.region ?_
  refine AOps.call (o_loadRef _ rfl rfl Tryz.sizeOf24 Tryz.isAgg24 rfl rfl rfl) ?_
  refine AOps.call (o_move _ rfl rfl) ?_
  refine AOps.call (o_move _ rfl rfl) ?_
  refine AOps.call (o_call (casesAt_ok p w n hw1 he hq hh) Tryz.call76 rfl rfl) ?_
  refine AOps.call (o_move _ rfl rfl) ?_
  refine AOps.call (o_extract _ rfl rfl rfl rfl) ?_
  refine AOps.call (o_extract _ rfl rfl rfl rfl) ?_
  refine AOps.call (o_extract _ rfl rfl rfl rfl) ?_
  refine AOps.call (o_alloc ze91 rfl rfl) ?_
  refine AOps.cons (o_store _ _ rfl rfl Tryz.sizeOf91 rfl rfl rfl rfl rfl) ?_
  refine AOps.call (o_assign _ rfl rfl) ?_
  refine AOps.call (o_assign _ rfl rfl) ?_
  refine AOps.nil ?_
  refine AWP.seq ?_
  refine AWP.seq ?_
  refine AWP.region ?_
  refine AOps.call (o_move _ rfl rfl) ?_
  refine AOps.call (o_bin _ _ rfl rfl (fun _ => rfl) rfl) ?_
  refine AOps.nil ?_
  refine AWP.cond _ rfl (fun h13 => ?_) (fun h13 => ?_)
  · skip
    have hne : casE p w ≠ 0 := by simpa using h13
    have hE : sureE p w n = casE p w := if_pos hne
    have hS : sureS p w n = (0, false) := if_pos (casE_ne hne).1
    refine AWP.seq ?_
    refine AWP.region ?_
    refine AOps.call (o_move _ rfl rfl) ?_
    refine AOps.call (o_assign _ rfl rfl) ?_
    refine AOps.call (o_assign _ rfl rfl) ?_
    refine AOps.call (o_assign _ rfl rfl) ?_
    refine AOps.nil ?_
    refine AWP.ret ?_
    refine postQ.ret3 Tryz.results43 rfl rfl rfl ?_
    rw [hS, hE]
    rfl
  · skip
    have hz : ¬ casE p w ≠ 0 := by simpa using h13
    refine AWP.skip ?_
    refine AWP.seq ?_
    refine AWP.seq ?_
    refine AWP.region ?_
    refine AOps.call (o_move _ rfl rfl) ?_
    refine AOps.call (o_len _ Tryz.underlying40 rfl rfl) ?_
    refine AOps.call (o_bin _ _ rfl rfl (fun _ => rfl) rfl) ?_
    refine AOps.nil ?_
    refine AWP.cond _ rfl (fun h17 => ?_) (fun h17 => ?_)
    · skip
      have hnil : (casL p w) = [] := by
        have h1 : ((css (casL p w)).length : Int) = 0 := by simpa using h17
        exact List.eq_nil_of_length_eq_zero (by omega)
      have hS : sureS p w n = (0, false) := if_pos hnil
      have hE : sureE p w n = 33 := (if_neg hz).trans (if_pos hnil)
      refine AWP.seq ?_
      refine AWP.region ?_
      refine AOps.call (o_assign _ rfl rfl) ?_
      refine AOps.call (o_assign _ rfl rfl) ?_
      refine AOps.call (o_assign _ rfl rfl) ?_
      refine AOps.nil ?_
      refine AWP.ret ?_
      refine postQ.ret3 Tryz.results43 rfl rfl rfl ?_
      rw [hS, hE]
      rfl
    · skip
      have hpos : 0 < (casL p w).length := by
        have h1 : ¬ ((css (casL p w)).length : Int) = 0 := by simpa using h17
        omega
      have hnn2 : ¬ (casL p w) = [] := List.length_pos_iff.1 hpos
      have hE : sureE p w n = 0 := (if_neg hz).trans (if_neg hnn2)
      have hel0 : (css (casL p w))[(0 : Int).toNat]? = some [stC ((casL p w).getD 0 [])] := by
        have h := css_at hpos
        have e : (casL p w).getD 0 [] = (casL p w)[0] := by rw [List.getD_eq_getElem?_getD, List.getElem?_eq_getElem hpos]; rfl
        rw [e]; exact h
      have hm0 : (casL p w).getD 0 [] ∈ (casL p w) := by rw [List.getD_eq_getElem?_getD, List.getElem?_eq_getElem hpos]; exact List.getElem_mem hpos
      have hst : (ints ((casL p w).getD 0 []))[n.toNat]? = some [I (stN p w n)] := ints_get0 rfl (by rw [(casL_mem hp hm0).1]; omega)
      refine AWP.skip ?_
      refine AWP.seq ?_
      refine AWP.region ?_
      refine AOps.call (o_move _ rfl rfl) ?_
      refine AOps.call (o_index _ _ Tryz.underlying40 Tryz.sizeOf25 rfl rfl (by decide) hel0 rfl rfl) ?_
      refine AOps.call (o_loadRd _ rfl Tryz.sizeOf25 Tryz.isAgg25 rfl rfl rfl) ?_
      refine AOps.call (o_move _ rfl rfl) ?_
      refine AOps.call (o_index _ _ Tryz.underlying25 Tryz.sizeOf3 rfl rfl hnn.1 hst rfl rfl) ?_
      refine AOps.call (o_loadRd _ rfl Tryz.sizeOf3 Tryz.isAgg3 rfl rfl rfl) ?_
      refine AOps.call (o_assign _ rfl rfl) ?_
      refine AOps.nil ?_
      refine AWP.seq ?_
      refine AWP.seq ?_
      refine AWP.region ?_
      refine AOps.call (o_move _ rfl rfl) ?_
      refine AOps.call (o_len _ Tryz.underlying40 rfl rfl) ?_
      refine AOps.call (o_move _ rfl rfl) ?_
      refine AOps.nil ?_
      refine AWP.block ?_
      refine AWP.loop (ι := Nat) (fun i => AS.mk' 49 [(2, I n), (12, I (stN p w n)), (35, .sl (css (casL p w))), (36, I (css (casL p w)).length), (37, I i)] [] [] []) (fun i => i ≤ (casL p w).length ∧ ((casL p w).take i).all (fun l => decide (l.getD n.toNat 0 = stN p w n)) = true) (fun i => (casL p w).length - i) (0) (Weak.mk' rfl ⟨⟨.refl rfl, rfl⟩, ⟨⟨.refl rfl, rfl⟩, ⟨⟨.refl rfl, rfl⟩, ⟨⟨.refl rfl, rfl⟩, ⟨⟨.refl rfl, rfl⟩, trivial⟩⟩⟩⟩⟩ trivial trivial) (⟨Nat.zero_le _, rfl⟩) ?_
      rintro k ⟨hk, hall⟩
      try dsimp only at *
      refine AWP.seq ?_
      refine AWP.region ?_
      refine AOps.call (o_bin _ _ rfl rfl (fun _ => rfl) rfl) ?_
      refine AOps.nil ?_
      refine AWP.seq ?_
      refine AWP.cond _ rfl (fun h28 => ?_) (fun h28 => ?_)
      · skip
        have hlt : k < (casL p w).length := by have := of_decide_eq_true h28; omega
        have hel := css_at hlt
        have hrm := casL_mem hp (List.getElem_mem hlt)
        have hen := ints_get0 (l := (casL p w)[k]) (k := n) (j := n.toNat) rfl (by rw [hrm.1]; omega)
        refine AWP.skip ?_
        refine AWP.seq ?_
        refine AWP.block ?_
        refine AWP.seq ?_
        refine AWP.region ?_
        refine AOps.call (o_index _ _ Tryz.underlying40 Tryz.sizeOf25 rfl rfl (by omega) (by assumption) rfl rfl) ?_
        refine AOps.call (o_loadRd _ rfl Tryz.sizeOf25 Tryz.isAgg25 rfl rfl rfl) ?_
        refine AOps.call (o_assign _ rfl rfl) ?_
        refine AOps.nil ?_
        refine AWP.seq ?_
        refine AWP.region ?_
        refine AOps.call (o_move _ rfl rfl) ?_
        refine AOps.call (o_move _ rfl rfl) ?_
        refine AOps.call (o_index _ _ Tryz.underlying25 Tryz.sizeOf3 rfl rfl hnn.1 hen rfl rfl) ?_
        refine AOps.call (o_loadRd _ rfl Tryz.sizeOf3 Tryz.isAgg3 rfl rfl rfl) ?_
        refine AOps.call (o_move _ rfl rfl) ?_
        refine AOps.call (o_bin _ _ rfl rfl (fun _ => rfl) rfl) ?_
        refine AOps.nil ?_
        refine AWP.cond _ rfl (fun h35 => ?_) (fun h35 => ?_)
        · skip
          have hno : ¬ (casL p w)[k].getD n.toNat 0 = stN p w n := by simpa using h35
          have hsm : ¬ sameN p w n = true := fun h => hno (of_decide_eq_true (List.all_eq_true.1 h _ (List.getElem_mem hlt)))
          have hS : sureS p w n = (0, false) := (if_neg hnn2).trans (if_neg hsm)
          refine AWP.seq ?_
          refine AWP.region ?_
          refine AOps.call (o_assign _ rfl rfl) ?_
          refine AOps.call (o_assign _ rfl rfl) ?_
          refine AOps.call (o_assign _ rfl rfl) ?_
          refine AOps.nil ?_
          refine AWP.ret ?_
          refine postQ.ret3 Tryz.results43 rfl rfl rfl ?_
          rw [hS, hE]
          rfl
        · skip
          have hsame : (casL p w)[k].getD n.toNat 0 = stN p w n := by simpa using h35
          refine AWP.skip ?_
          refine AWP.region ?_
          refine AOps.call (o_add _ _ rfl rfl ⟨by (try dsimp only); omega, by (try dsimp only); omega⟩ rfl) ?_
          refine AOps.call (o_move _ rfl rfl) ?_
          refine AOps.nil ?_
          refine ⟨k + 1, ?_, (Weak.mk' rfl ⟨⟨.refl rfl, rfl⟩, ⟨⟨.refl rfl, rfl⟩, ⟨⟨.refl rfl, rfl⟩, ⟨⟨.refl rfl, rfl⟩, ⟨⟨.refl rfl, rfl⟩, trivial⟩⟩⟩⟩⟩ trivial trivial)⟩
          refine ⟨⟨by omega, ?_⟩, by omega⟩
          rw [List.take_succ_eq_append_getElem hlt, List.all_append, hall]
          show (true && (decide _ && true)) = true
          rw [decide_eq_true hsame]; rfl
      · skip
        have hkl : k = (casL p w).length := by have := of_decide_eq_false h28; omega
        have hsm : sameN p w n = true := by rw [hkl, List.take_length] at hall; exact hall
        have hS : sureS p w n = (stN p w n, true) := (if_neg hnn2).trans (if_pos hsm)
        refine AWP.exit ?_
        refine AWP.seq ?_
        refine AWP.region ?_
        refine AOps.call (o_move _ rfl rfl) ?_
        refine AOps.call (o_assign _ rfl rfl) ?_
        refine AOps.call (o_assign _ rfl rfl) ?_
        refine AOps.call (o_assign _ rfl rfl) ?_
        refine AOps.nil ?_
        refine AWP.ret ?_
        refine postQ.ret3 Tryz.results43 rfl rfl rfl ?_
        rw [hS, hE]
        rfl
set_option maxRecDepth 20000 in
theorem Sure_bad (p : Plw) (w : List Sp) (n : Int) (hw1 : w.length ≤ 9223372036854775807) (h : atE p w n ≠ 0) : FSpec Tryz.prog 43 [.agg (eP p), .sl (sps w), I n] (.tup [I 0, B false, I (atE p w n)]) (none) := by
  refine FSpec.of_body Tryz.func43 rfl (leB rfl) fun w0 M0 => ?_
  refine AWP.seq ?_
  refine AWP.region ?_
  refine AOps.call (o_box _ rfl rfl rfl) ?_
  refine AOps.call (o_assign _ rfl rfl) ?_
  refine AOps.call (o_assign _ rfl rfl) ?_
  refine AOps.call (o_assign _ rfl rfl) ?_
  refine AOps.nil ?_
  refine AWP.seq ?_
  refine AWP.region ?_
  refine AOps.call (o_loadRef _ rfl rfl Tryz.sizeOf24 Tryz.isAgg24 rfl rfl rfl) ?_
  refine AOps.call (o_move _ rfl rfl) ?_
  refine AOps.call (o_move _ rfl rfl) ?_
  refine AOps.call (o_call (casesAt_bad p w n hw1 h) Tryz.call76 rfl rfl) ?_
  refine AOps.call (o_move _ rfl rfl) ?_
  refine AOps.call (o_extract _ rfl rfl rfl rfl) ?_
  refine AOps.call (o_extract _ rfl rfl rfl rfl) ?_
  refine AOps.call (o_extract _ rfl rfl rfl rfl) ?_
  refine AOps.call (o_alloc ze91 rfl rfl) ?_
  refine AOps.cons (o_store _ _ rfl rfl Tryz.sizeOf91 rfl rfl rfl rfl rfl) ?_
  refine AOps.call (o_assign _ rfl rfl) ?_
  refine AOps.call (o_assign _ rfl rfl) ?_
  refine AOps.nil ?_
  refine AWP.seq ?_
  refine AWP.seq ?_
  refine AWP.region ?_
  refine AOps.call (o_move _ rfl rfl) ?_
  refine AOps.call (o_bin _ _ rfl rfl (fun _ => rfl) rfl) ?_
  refine AOps.nil ?_
  refine AWP.cond _ rfl (fun h13 => ?_) (fun h13 => ?_)
  · skip
    refine AWP.seq ?_
    refine AWP.region ?_
    refine AOps.call (o_move _ rfl rfl) ?_
    refine AOps.call (o_assign _ rfl rfl) ?_
    refine AOps.call (o_assign _ rfl rfl) ?_
    refine AOps.call (o_assign _ rfl rfl) ?_
    refine AOps.nil ?_
    refine AWP.ret ?_
    exact postQ.ret3 Tryz.results43 rfl rfl rfl rfl
  · skip
    exfalso
    simp at h13
    exact h h13
end Go.Proofs.YtelenedgaoglaaaGreatDoor
