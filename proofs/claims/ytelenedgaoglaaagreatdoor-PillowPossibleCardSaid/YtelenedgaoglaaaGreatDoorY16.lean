/- Y16. -/
import Derived.Test.YtelenedgaoglaaaGreatDoorY15
import Derived.Test.YtelenedgaoglaaaGreatDoorY12
import Derived.Test.YtelenedgaoglaaaGreatDoorR24
set_option linter.unusedSimpArgs false
set_option linter.unusedVariables false
namespace Go.Proofs.YtelenedgaoglaaaGreatDoor
open Go.Ab
open Go.Pil Go.RowKit
set_option maxHeartbeats 4000000 in
set_option maxRecDepth 20000 in
theorem PossibleR_bad (p : Plw) (w : List Sp) (n : Int) (hw1 : w.length ≤ 9223372036854775807) (hf : Few p) (h : PosE p w n ≠ 0) : FSpec Tryz.prog 40 [.agg (eP p), .sl (sps w), I n] (.tup [.sl [], I (PosE p w n)]) (none) := by
  refine FSpec.of_body Tryz.func40 rfl (leB rfl) fun w0 M0 => ?_
  have hA := atR_s p w n hw1 hf
  generalize PosE p w n = g at hA h
  generalize atL p w n = al at hA
  refine AWP.seq ?_
  refine AWP.region ?_
  refine AOps.call (o_box _ rfl rfl rfl) ?_
  refine AOps.call (o_nil (z := 2) (e := 54) rfl) ?_
  refine AOps.call (o_assign _ rfl rfl) ?_
  refine AOps.nil ?_
  refine AWP.seq ?_
  refine AWP.region ?_
  refine AOps.call (o_loadRef _ rfl rfl Tryz.sizeOf24 Tryz.isAgg24 rfl rfl rfl) ?_
  refine AOps.call (o_move _ rfl rfl) ?_
  refine AOps.call (o_move _ rfl rfl) ?_
  refine AOps.call (o_call hA Tryz.call78 rfl rfl) ?_
  refine AOps.call (o_move _ rfl rfl) ?_
  refine AOps.call (o_extract _ rfl rfl rfl rfl) ?_
  refine AOps.call (o_extract _ rfl rfl rfl rfl) ?_
  refine AOps.call (o_assign _ rfl rfl) ?_
  refine AOps.call (o_assign _ rfl rfl) ?_
  refine AOps.nil ?_
  refine AWP.seq ?_
  refine AWP.seq ?_
  refine AWP.region ?_
  refine AOps.call (o_move _ rfl rfl) ?_
  refine AOps.call (o_bin _ _ rfl rfl (fun _ => rfl) rfl) ?_
  refine AOps.nil ?_
  refine AWP.cond _ rfl (fun h11 => ?_) (fun h11 => ?_)
  · skip
    refine AWP.seq ?_
    refine AWP.region ?_
    refine AOps.call (o_move _ rfl rfl) ?_
    refine AOps.call (o_nil (z := 2) (e := 54) rfl) ?_
    refine AOps.call (o_assign _ rfl rfl) ?_
    refine AOps.nil ?_
    refine AWP.ret ?_
    exact postQ.ret2 Tryz.results40 rfl rfl rfl
  · skip
    exfalso
    simp at h11
    exact h h11
theorem PossibleR_s (p : Plw) (w : List Sp) (n : Int) (hw1 : w.length ≤ 9223372036854775807) (hf : Few p) : FSpec Tryz.prog 40 [.agg (eP p), .sl (sps w), I n] (.tup [.sl (sps (PosL p w n)), I (PosE p w n)]) none := by
  by_cases h : PosE p w n = 0
  · have h0 : atE p w n = 0 := by
      by_cases h1 : atE p w n = 0
      · exact h1
      · unfold PosE at h; rw [if_neg h1] at h; exact h
    have hc : casE p w = 0 := by unfold PosE at h; rw [if_pos h0] at h; exact h
    obtain ⟨h1, h2, h3⟩ := atE_0 h0
    rw [h, show PosL p w n = posL p w n from if_pos h0]
    exact PossibleR_ok p w n hw1 hf h1 h2 h3 h0 hc
  · rw [PosE_ne h]; exact PossibleR_bad p w n hw1 hf h
set_option maxHeartbeats 4000000 in
set_option maxRecDepth 20000 in
theorem HullR_s (p : Plw) (w : List Sp) (n : Int) (hw1 : w.length ≤ 9223372036854775807) (hf : Few p) : FSpec Tryz.prog 42 [.agg (eP p), .sl (sps w), I n] (.tup [.agg (eN (hullS p w n)), I (hullE p w n)]) (none) := by
  refine FSpec.of_body Tryz.func42 rfl (leB rfl) fun w0 M0 => ?_
  have hbd := casL_bd p w n
  have hsl := sps_len (PosL p w n)
  have hA := PossibleR_s p w n hw1 hf
  refine AWP.seq ?_
  refine AWP.region ?_
  refine AOps.call (o_box _ rfl rfl rfl) ?_
  refine AOps.call (o_alloc ze54 rfl rfl) ?_
  refine AOps.call (o_assign _ rfl rfl) ?_
  refine AOps.nil ?_
  refine AWP.seq ?_
  refine AWP.region ?_
  refine AOps.call (o_loadRef _ rfl rfl Tryz.sizeOf24 Tryz.isAgg24 rfl rfl rfl) ?_
  refine AOps.call (o_move _ rfl rfl) ?_
  refine AOps.call (o_move _ rfl rfl) ?_
  refine AOps.call (o_call hA Tryz.call40 rfl rfl) ?_
  refine AOps.call (o_move _ rfl rfl) ?_
  refine AOps.call (o_extract _ rfl rfl rfl rfl) ?_
  refine AOps.call (o_extract _ rfl rfl rfl rfl) ?_
  refine AOps.call (o_assign _ rfl rfl) ?_
  refine AOps.call (o_assign _ rfl rfl) ?_
  refine AOps.nil ?_
  refine AWP.seq ?_
  refine AWP.seq ?_
  refine AWP.region ?_
  refine AOps.call (o_move _ rfl rfl) ?_
  refine AOps.call (o_bin _ _ rfl rfl (fun _ => rfl) rfl) ?_
  refine AOps.nil ?_
  refine AWP.cond _ rfl (fun h11 => ?_) (fun h11 => ?_)
  · skip
    have hne : PosE p w n ≠ 0 := by simpa using h11
    have hS : hullS p w n = ⟨0, 0⟩ := if_pos (PosE_ne hne)
    have hE : hullE p w n = PosE p w n := if_pos hne
    refine AWP.seq ?_
    refine AWP.region ?_
    refine AOps.call (o_build bu54 rfl rfl rfl) ?_
    refine AOps.call (o_move _ rfl rfl) ?_
    refine AOps.cons (o_store _ _ rfl rfl Tryz.sizeOf54 rfl rfl rfl rfl rfl) ?_
    refine AOps.call (o_assign _ rfl rfl) ?_
    refine AOps.nil ?_
    refine AWP.ret ?_
    refine postQ.retC1 Tryz.results42 rfl rfl Tryz.sizeOf54 Tryz.isAgg54 rfl rfl ?_
    rw [hS, hE]
    rfl
  · skip
    have hz : ¬ PosE p w n ≠ 0 := by simpa using h11
    refine AWP.skip ?_
    refine AWP.seq ?_
    refine AWP.seq ?_
    refine AWP.region ?_
    refine AOps.call (o_move _ rfl rfl) ?_
    refine AOps.call (o_len _ Tryz.underlying38 rfl rfl) ?_
    refine AOps.call (o_bin _ _ rfl rfl (fun _ => rfl) rfl) ?_
    refine AOps.nil ?_
    refine AWP.cond _ rfl (fun h15 => ?_) (fun h15 => ?_)
    · skip
      have hnil : (PosL p w n) = [] := by
        have h1 : ((sps (PosL p w n)).length : Int) = 0 := by simpa using h15
        exact List.eq_nil_of_length_eq_zero (by omega)
      have hS : hullS p w n = ⟨0, 0⟩ := if_pos hnil
      have hE : hullE p w n = 33 := (if_neg hz).trans (if_pos hnil)
      refine AWP.seq ?_
      refine AWP.region ?_
      refine AOps.call (o_build bu54 rfl rfl rfl) ?_
      refine AOps.cons (o_store _ _ rfl rfl Tryz.sizeOf54 rfl rfl rfl rfl rfl) ?_
      refine AOps.call (o_assign _ rfl rfl) ?_
      refine AOps.nil ?_
      refine AWP.ret ?_
      refine postQ.retC1 Tryz.results42 rfl rfl Tryz.sizeOf54 Tryz.isAgg54 rfl rfl ?_
      rw [hS, hE]
      rfl
    · skip
      have hpos : 0 < (PosL p w n).length := by
        have h1 : ¬ ((sps (PosL p w n)).length : Int) = 0 := by simpa using h15
        omega
      have hnn : ¬ (PosL p w n) = [] := List.length_pos_iff.1 hpos
      have hS : hullS p w n = ⟨((PosL p w n).getD 0 ⟨0, 0⟩).lo, ((PosL p w n).getD ((PosL p w n).length - 1) ⟨0, 0⟩).hi⟩ := if_neg hnn
      have hE : hullE p w n = 0 := (if_neg hz).trans (if_neg hnn)
      have hel0 := sps_get0 (l := (PosL p w n)) (k := 0) (j := 0) rfl hpos
      have hel1 := sps_get0 (l := (PosL p w n)) (k := ((sps (PosL p w n)).length : Int) - 1) (j := (PosL p w n).length - 1) (by omega) (by omega)
      refine AWP.skip ?_
      refine AWP.seq ?_
      refine AWP.drawn 12 mixed (by kernel_rfl) ?_
      refine AHead.call (o_move _ rfl rfl) rfl ?_
      refine AHead.call (o_index _ _ Tryz.underlying38 Tryz.sizeOf54 rfl rfl (by decide) hel0 rfl rfl) rfl ?_
      refine AHead.call (o_fieldRd _ rfl fa54_0 rfl) rfl ?_
      refine AHead.call (o_loadRd _ rfl Tryz.sizeOf3 Tryz.isAgg3 rfl rfl rfl) rfl ?_
      refine AHead.call (o_move _ rfl rfl) rfl ?_
      refine AHead.call (o_move _ rfl rfl) rfl ?_
      refine AHead.call (o_len _ Tryz.underlying38 rfl rfl) rfl ?_
      refine AHead.call (o_sub _ _ rfl rfl ⟨by (try dsimp only); omega, by (try dsimp only); omega⟩ rfl) rfl ?_
      refine AHead.call (o_index _ _ Tryz.underlying38 Tryz.sizeOf54 rfl rfl (by omega) hel1 rfl rfl) rfl ?_
      refine AHead.call (o_fieldRd _ rfl fa54_1 rfl) rfl ?_
      refine AHead.call (o_loadRd _ rfl Tryz.sizeOf3 Tryz.isAgg3 rfl rfl rfl) rfl ?_
      refine AHead.call (o_build bu54 rfl rfl rfl) rfl ?_
      refine AHead.nil ?_
      refine AOps.cons (o_store _ _ rfl rfl Tryz.sizeOf54 rfl rfl rfl rfl rfl) ?_
      refine AOps.call (o_assign _ rfl rfl) ?_
      refine AOps.nil ?_
      refine AWP.ret ?_
      refine postQ.retC1 Tryz.results42 rfl rfl Tryz.sizeOf54 Tryz.isAgg54 rfl rfl ?_
      rw [hS, hE]
      rfl
set_option maxHeartbeats 4000000 in
set_option maxRecDepth 20000 in
theorem SureR_ok (p : Plw) (w : List Sp) (n : Int) (hw1 : w.length ≤ 9223372036854775807) (hf : Few p) (he : okP p = true) (hq : okW p w = true) (hh : hasB p n = true) (h0 : atE p w n = 0) : FSpec Tryz.prog 44 [.agg (eP p), .sl (sps w), I n] (.tup [I (sureS p w n).1, B (sureS p w n).2, I (sureE p w n)]) (none) := by
  refine FSpec.of_body Tryz.func44 rfl (leB rfl) fun w0 M0 => ?_
  have hp := okP_iff.1 he
  have h32 := hp.len
  have hcl := casL_len p w
  have hgl := css_len (casL p w)
  have hnn : 0 ≤ n ∧ n < p.log.length := by unfold hasB at hh; simpa using hh
  have hA := atR_s p w n hw1 hf
  rw [show atL p w n = casL p w from if_pos h0, show PosE p w n = casE p w from if_pos h0] at hA
  refine AWP.seq ?_
  refine AWP.region ?_
  refine AOps.call (o_box _ rfl rfl rfl) ?_
  refine AOps.call (o_assign _ rfl rfl) ?_
  refine AOps.call (o_assign _ rfl rfl) ?_
  refine AOps.call (o_assign _ rfl rfl) ?_
  refine AOps.nil ?_
  refine AWP.seq ?_
  refine AWP.region ?_
  refine AOps.call (o_loadRef _ rfl rfl Tryz.sizeOf24 Tryz.isAgg24 rfl rfl rfl) ?_
  refine AOps.call (o_move _ rfl rfl) ?_
  refine AOps.call (o_move _ rfl rfl) ?_
  refine AOps.call (o_call hA Tryz.call78 rfl rfl) ?_
  refine AOps.call (o_move _ rfl rfl) ?_
  refine AOps.call (o_extract _ rfl rfl rfl rfl) ?_
  refine AOps.call (o_extract _ rfl rfl rfl rfl) ?_
  refine AOps.call (o_assign _ rfl rfl) ?_
  refine AOps.call (o_assign _ rfl rfl) ?_
  refine AOps.nil ?_
  refine AWP.seq ?_
  refine AWP.seq ?_
  refine AWP.region ?_
  refine AOps.call (o_move _ rfl rfl) ?_
  refine AOps.call (o_bin _ _ rfl rfl (fun _ => rfl) rfl) ?_
  refine AOps.nil ?_
  refine AWP.cond _ rfl (fun h11 => ?_) (fun h11 => ?_)
  · skip
    have hne : casE p w ≠ 0 := by simpa using h11
    have hE : sureE p w n = casE p w := if_pos hne
    have hS : sureS p w n = (0, false) := if_pos (casE_ne hne).1
    refine AWP.seq ?_
    refine AWP.region ?_
    refine AOps.call (o_move _ rfl rfl) ?_
    refine AOps.call (o_assign _ rfl rfl) ?_
    refine AOps.call (o_assign _ rfl rfl) ?_
    refine AOps.call (o_assign _ rfl rfl) ?_
    refine AOps.nil ?_
    refine AWP.ret ?_
    refine postQ.ret3 Tryz.results44 rfl rfl rfl ?_
    rw [hS, hE]
    rfl
  · skip
    have hz : ¬ casE p w ≠ 0 := by simpa using h11
    refine AWP.skip ?_
    refine AWP.seq ?_
    refine AWP.seq ?_
    refine AWP.region ?_
    refine AOps.call (o_move _ rfl rfl) ?_
    refine AOps.call (o_len _ Tryz.underlying40 rfl rfl) ?_
    refine AOps.call (o_bin _ _ rfl rfl (fun _ => rfl) rfl) ?_
    refine AOps.nil ?_
    refine AWP.cond _ rfl (fun h15 => ?_) (fun h15 => ?_)
    · skip
      have hnil : (casL p w) = [] := by
        have h1 : ((css (casL p w)).length : Int) = 0 := by simpa using h15
        exact List.eq_nil_of_length_eq_zero (by omega)
      have hS : sureS p w n = (0, false) := if_pos hnil
      have hE : sureE p w n = 33 := (if_neg hz).trans (if_pos hnil)
      refine AWP.seq ?_
      refine AWP.region ?_
      refine AOps.call (o_assign _ rfl rfl) ?_
      refine AOps.call (o_assign _ rfl rfl) ?_
      refine AOps.call (o_assign _ rfl rfl) ?_
      refine AOps.nil ?_
      refine AWP.ret ?_
      refine postQ.ret3 Tryz.results44 rfl rfl rfl ?_
      rw [hS, hE]
      rfl
    · skip
      have hpos : 0 < (casL p w).length := by
        have h1 : ¬ ((css (casL p w)).length : Int) = 0 := by simpa using h15
        omega
      have hnn2 : ¬ (casL p w) = [] := List.length_pos_iff.1 hpos
      have hE : sureE p w n = 0 := (if_neg hz).trans (if_neg hnn2)
      have hel0 : (css (casL p w))[(0 : Int).toNat]? = some [stC ((casL p w).getD 0 [])] := by
        have h := css_at hpos
        have e : (casL p w).getD 0 [] = (casL p w)[0] := by rw [List.getD_eq_getElem?_getD, List.getElem?_eq_getElem hpos]; rfl
        rw [e]; exact h
      have hm0 : (casL p w).getD 0 [] ∈ (casL p w) := by rw [List.getD_eq_getElem?_getD, List.getElem?_eq_getElem hpos]; exact List.getElem_mem hpos
      have hst : (ints ((casL p w).getD 0 []))[n.toNat]? = some [I (stN p w n)] := ints_get0 rfl (by rw [(casL_mem hp hm0).1]; omega)
      refine AWP.skip ?_
      refine AWP.seq ?_
      refine AWP.seq ?_
      refine AWP.region ?_
      refine AOps.call (o_assign _ rfl rfl) ?_
      refine AOps.nil ?_
      refine AWP.block ?_
      refine AWP.loop (ι := Nat) (fun i => AS.mk' 51 [(2, I n), (9, .sl (css (casL p w))), (11, I i)] [] [] []) (fun i => i ≤ (casL p w).length ∧ ((casL p w).take i).all (fun l => decide (l.getD n.toNat 0 = stN p w n)) = true) (fun i => (casL p w).length - i) (0) (Weak.mk' rfl ⟨⟨.refl rfl, rfl⟩, ⟨⟨.refl rfl, rfl⟩, ⟨⟨.refl rfl, rfl⟩, trivial⟩⟩⟩ trivial trivial) (⟨Nat.zero_le _, rfl⟩) ?_
      rintro k ⟨hk, hall⟩
      try dsimp only at *
      refine AWP.seq ?_
      refine AWP.seq ?_
      refine AWP.region ?_
      refine AOps.call (o_move _ rfl rfl) ?_
      refine AOps.call (o_move _ rfl rfl) ?_
      refine AOps.call (o_len _ Tryz.underlying40 rfl rfl) ?_
      refine AOps.call (o_bin _ _ rfl rfl (fun _ => rfl) rfl) ?_
      refine AOps.nil ?_
      refine AWP.cond _ rfl (fun h21 => ?_) (fun h21 => ?_)
      · skip
        have hlt : k < (casL p w).length := by have := of_decide_eq_true h21; omega
        have hel := css_at hlt
        have hrm := casL_mem hp (List.getElem_mem hlt)
        have hen := ints_get0 (l := (casL p w)[k]) (k := n) (j := n.toNat) rfl (by rw [hrm.1]; omega)
        refine AWP.skip ?_
        refine AWP.seq ?_
        refine AWP.block ?_
        refine AWP.seq ?_
        refine AWP.drawn 14 mixed (by kernel_rfl) ?_
        refine AHead.call (o_move _ rfl rfl) rfl ?_
        refine AHead.call (o_move _ rfl rfl) rfl ?_
        refine AHead.call (o_index _ _ Tryz.underlying40 Tryz.sizeOf25 rfl rfl (by omega) hel rfl rfl) rfl ?_
        refine AHead.call (o_loadRd _ rfl Tryz.sizeOf25 Tryz.isAgg25 rfl rfl rfl) rfl ?_
        refine AHead.call (o_move _ rfl rfl) rfl ?_
        refine AHead.call (o_index _ _ Tryz.underlying25 Tryz.sizeOf3 rfl rfl hnn.1 hen rfl rfl) rfl ?_
        refine AHead.call (o_loadRd _ rfl Tryz.sizeOf3 Tryz.isAgg3 rfl rfl rfl) rfl ?_
        refine AHead.call (o_move _ rfl rfl) rfl ?_
        refine AHead.call (o_index _ _ Tryz.underlying40 Tryz.sizeOf25 rfl rfl (by decide) hel0 rfl rfl) rfl ?_
        refine AHead.call (o_loadRd _ rfl Tryz.sizeOf25 Tryz.isAgg25 rfl rfl rfl) rfl ?_
        refine AHead.call (o_move _ rfl rfl) rfl ?_
        refine AHead.call (o_index _ _ Tryz.underlying25 Tryz.sizeOf3 rfl rfl hnn.1 hst rfl rfl) rfl ?_
        refine AHead.call (o_loadRd _ rfl Tryz.sizeOf3 Tryz.isAgg3 rfl rfl rfl) rfl ?_
        refine AHead.call (o_bin _ _ rfl rfl (fun _ => rfl) rfl) rfl ?_
        refine AHead.nil ?_
        refine AOps.nil ?_
        refine AWP.cond _ rfl (fun h33 => ?_) (fun h33 => ?_)
        · skip
          have hno : ¬ (casL p w)[k].getD n.toNat 0 = stN p w n := by simpa using h33
          have hsm : ¬ sameN p w n = true := fun h => hno (of_decide_eq_true (List.all_eq_true.1 h _ (List.getElem_mem hlt)))
          have hS : sureS p w n = (0, false) := (if_neg hnn2).trans (if_neg hsm)
          refine AWP.seq ?_
          refine AWP.region ?_
          refine AOps.call (o_assign _ rfl rfl) ?_
          refine AOps.call (o_assign _ rfl rfl) ?_
          refine AOps.call (o_assign _ rfl rfl) ?_
          refine AOps.nil ?_
          refine AWP.ret ?_
          refine postQ.ret3 Tryz.results44 rfl rfl rfl ?_
          rw [hS, hE]
          rfl
        · skip
          have hsame : (casL p w)[k].getD n.toNat 0 = stN p w n := by simpa using h33
          refine AWP.skip ?_
          refine AWP.region ?_
          refine AOps.call (o_move _ rfl rfl) ?_
          refine AOps.call (o_add _ _ rfl rfl ⟨by (try dsimp only); omega, by (try dsimp only); omega⟩ rfl) ?_
          refine AOps.call (o_assign _ rfl rfl) ?_
          refine AOps.nil ?_
          refine ⟨k + 1, ?_, (Weak.mk' rfl ⟨⟨.refl rfl, rfl⟩, ⟨⟨.refl rfl, rfl⟩, ⟨⟨.refl rfl, rfl⟩, trivial⟩⟩⟩ trivial trivial)⟩
          refine ⟨⟨by omega, ?_⟩, by omega⟩
          rw [List.take_succ_eq_append_getElem hlt, List.all_append, hall]
          show (true && (decide _ && true)) = true
          rw [decide_eq_true hsame]; rfl
      · skip
        have hkl : k = (casL p w).length := by have := of_decide_eq_false h21; omega
        have hsm : sameN p w n = true := by rw [hkl, List.take_length] at hall; exact hall
        have hS : sureS p w n = (stN p w n, true) := (if_neg hnn2).trans (if_pos hsm)
        refine AWP.exit ?_
        refine AWP.seq ?_
        refine AWP.region ?_
        refine AOps.call (o_move _ rfl rfl) ?_
        refine AOps.call (o_index _ _ Tryz.underlying40 Tryz.sizeOf25 rfl rfl (by decide) hel0 rfl rfl) ?_
        refine AOps.call (o_loadRd _ rfl Tryz.sizeOf25 Tryz.isAgg25 rfl rfl rfl) ?_
        refine AOps.call (o_move _ rfl rfl) ?_
        refine AOps.call (o_index _ _ Tryz.underlying25 Tryz.sizeOf3 rfl rfl hnn.1 hst rfl rfl) ?_
        refine AOps.call (o_loadRd _ rfl Tryz.sizeOf3 Tryz.isAgg3 rfl rfl rfl) ?_
        refine AOps.call (o_assign _ rfl rfl) ?_
        refine AOps.call (o_assign _ rfl rfl) ?_
        refine AOps.call (o_assign _ rfl rfl) ?_
        refine AOps.nil ?_
        refine AWP.ret ?_
        refine postQ.ret3 Tryz.results44 rfl rfl rfl ?_
        rw [hS, hE]
        rfl
set_option maxHeartbeats 4000000 in
set_option maxRecDepth 20000 in
theorem SureR_bad (p : Plw) (w : List Sp) (n : Int) (hw1 : w.length ≤ 9223372036854775807) (hf : Few p) (h : atE p w n ≠ 0) : FSpec Tryz.prog 44 [.agg (eP p), .sl (sps w), I n] (.tup [I 0, B false, I (atE p w n)]) (none) := by
  refine FSpec.of_body Tryz.func44 rfl (leB rfl) fun w0 M0 => ?_
  have hA := atR_s p w n hw1 hf
  rw [show atL p w n = [] from if_neg h, show PosE p w n = atE p w n from if_neg h] at hA
  refine AWP.seq ?_
  refine AWP.region ?_
  refine AOps.call (o_box _ rfl rfl rfl) ?_
  refine AOps.call (o_assign _ rfl rfl) ?_
  refine AOps.call (o_assign _ rfl rfl) ?_
  refine AOps.call (o_assign _ rfl rfl) ?_
  refine AOps.nil ?_
  refine AWP.seq ?_
  refine AWP.region ?_
  refine AOps.call (o_loadRef _ rfl rfl Tryz.sizeOf24 Tryz.isAgg24 rfl rfl rfl) ?_
  refine AOps.call (o_move _ rfl rfl) ?_
  refine AOps.call (o_move _ rfl rfl) ?_
  refine AOps.call (o_call hA Tryz.call78 rfl rfl) ?_
  refine AOps.call (o_move _ rfl rfl) ?_
  refine AOps.call (o_extract _ rfl rfl rfl rfl) ?_
  refine AOps.call (o_extract _ rfl rfl rfl rfl) ?_
  refine AOps.call (o_assign _ rfl rfl) ?_
  refine AOps.call (o_assign _ rfl rfl) ?_
  refine AOps.nil ?_
  refine AWP.seq ?_
  refine AWP.seq ?_
  refine AWP.region ?_
  refine AOps.call (o_move _ rfl rfl) ?_
  refine AOps.call (o_bin _ _ rfl rfl (fun _ => rfl) rfl) ?_
  refine AOps.nil ?_
  refine AWP.cond _ rfl (fun h11 => ?_) (fun h11 => ?_)
  · skip
    refine AWP.seq ?_
    refine AWP.region ?_
    refine AOps.call (o_move _ rfl rfl) ?_
    refine AOps.call (o_assign _ rfl rfl) ?_
    refine AOps.call (o_assign _ rfl rfl) ?_
    refine AOps.call (o_assign _ rfl rfl) ?_
    refine AOps.nil ?_
    refine AWP.ret ?_
    exact postQ.ret3 Tryz.results44 rfl rfl rfl rfl
  · skip
    exfalso
    simp at h11
    exact h h11
def SureS (p : Plw) (w : List Sp) (n : Int) : Int × Bool := if atE p w n = 0 then sureS p w n else (0, false)
def SureE (p : Plw) (w : List Sp) (n : Int) : Int := if atE p w n = 0 then sureE p w n else atE p w n
theorem Sure_s (p : Plw) (w : List Sp) (n : Int) (hw1 : w.length ≤ 9223372036854775807) : FSpec Tryz.prog 43 [.agg (eP p), .sl (sps w), I n] (.tup [I (SureS p w n).1, B (SureS p w n).2, I (SureE p w n)]) none := by
  unfold SureS SureE
  by_cases h : atE p w n = 0
  · obtain ⟨h1, h2, h3⟩ := atE_0 h
    rw [if_pos h, if_pos h]; exact Sure_ok p w n hw1 h1 h2 h3
  · rw [if_neg h, if_neg h]; exact Sure_bad p w n hw1 h
theorem SureR_s (p : Plw) (w : List Sp) (n : Int) (hw1 : w.length ≤ 9223372036854775807) (hf : Few p) : FSpec Tryz.prog 44 [.agg (eP p), .sl (sps w), I n] (.tup [I (SureS p w n).1, B (SureS p w n).2, I (SureE p w n)]) none := by
  unfold SureS SureE
  by_cases h : atE p w n = 0
  · obtain ⟨h1, h2, h3⟩ := atE_0 h
    rw [if_pos h, if_pos h]; exact SureR_ok p w n hw1 hf h1 h2 h3 h
  · rw [if_neg h, if_neg h]; exact SureR_bad p w n hw1 hf h
set_option maxHeartbeats 4000000 in
set_option maxRecDepth 20000 in
theorem PillowPossible_s (p : Plw) (w : List Sp) (n : Int) (hw1 : w.length ≤ 9223372036854775807) : FSpecG Tryz.prog TAB 7 [.agg (eP p), .sl (sps w), I n] (B true) (none) := by
  refine FSpecG.of_body tab_stable Tryz.func7 rfl (leB rfl) fun w0 M0 hG => ?_
  have hF := few_s p
  have hS1 := spans_s (PosL p w n) (PosL p w n) (Nat.le_trans (casL_bd p w n) (by decide))
  rw [decide_eq_true rfl] at hS1
  have hQ1 := Possible_s p w n hw1
  have hQ3 := Hull_s p w n hw1
  have hQ5 := Sure_s p w n hw1
  refine AWP.seq ?_
  refine AWP.region ?_
  refine AOps.call (o_box _ rfl rfl rfl) ?_
  refine AOps.call (o_assign _ rfl rfl) ?_
  refine AOps.nil ?_
  refine AWP.seq ?_
  refine AWP.seq ?_
  refine AWP.region ?_
  refine AOps.call (o_callG (sane_s) hG Tryz.call12 rfl rfl) ?_
  refine AOps.call (o_un _ rfl (fun _ => rfl) rfl) ?_
  refine AOps.nil ?_
  refine AWP.cond _ rfl (fun h4 => ?_) (fun h4 => ?_)
  · skip
    exfalso
    simp at h4
  · skip
    refine AWP.skip ?_
    refine AWP.seq ?_
    refine AWP.seq ?_
    refine AWP.region ?_
    refine AOps.call (o_loadRef _ rfl rfl Tryz.sizeOf24 Tryz.isAgg24 rfl rfl rfl) ?_
    refine AOps.call (o_call (hF) Tryz.call22 rfl rfl) ?_
    refine AOps.call (o_un _ rfl (fun _ => rfl) rfl) ?_
    refine AOps.nil ?_
    refine AWP.cond _ rfl (fun h8 => ?_) (fun h8 => ?_)
    · skip
      skip
      refine AWP.seq ?_
      refine AWP.region ?_
      refine AOps.call (o_assign _ rfl rfl) ?_
      refine AOps.nil ?_
      refine AWP.ret ?_
      first
      | exact postQ.ret1 Tryz.results7 rfl rfl
      | (refine postQ.ret1 Tryz.results7 rfl ?_; simp [AV.close, AV.close.closeL, B, I]; done)
      | (refine postQ.ret1 Tryz.results7 rfl ?_; simp [AV.close, AV.close.closeL, B, I]; omega)
      | (refine postQ.ret1 Tryz.results7 rfl ?_; simp_all [AV.close, AV.close.closeL, B, I]; done)
      | (refine postQ.ret1 Tryz.results7 rfl ?_; simp_all [AV.close, AV.close.closeL, B, I]; omega)
    · skip
      have hf := fewB_few (p := p) (by simpa using h8)
      have hQ2 := PossibleR_s p w n hw1 hf
      have hQ4 := HullR_s p w n hw1 hf
      have hQ6 := SureR_s p w n hw1 hf
      generalize hullS p w n = hs at hQ3 hQ4
      generalize hullE p w n = hse at hQ3 hQ4
      generalize SureS p w n = su at hQ5 hQ6
      generalize SureE p w n = sue at hQ5 hQ6
      generalize PosL p w n = pl at hS1 hQ1 hQ2
      generalize PosE p w n = pe at hQ1 hQ2
      refine AWP.skip ?_
      refine AWP.seq ?_
      refine AWP.region ?_
      refine AOps.call (o_loadRef _ rfl rfl Tryz.sizeOf24 Tryz.isAgg24 rfl rfl rfl) ?_
      refine AOps.call (o_move _ rfl rfl) ?_
      refine AOps.call (o_move _ rfl rfl) ?_
      refine AOps.call (o_call (hQ1) Tryz.call39 rfl rfl) ?_
      refine AOps.call (o_move _ rfl rfl) ?_
      refine AOps.call (o_extract _ rfl rfl rfl rfl) ?_
      refine AOps.call (o_extract _ rfl rfl rfl rfl) ?_
      refine AOps.call (o_assign _ rfl rfl) ?_
      refine AOps.call (o_assign _ rfl rfl) ?_
      refine AOps.nil ?_
      refine AWP.seq ?_
      refine AWP.region ?_
      refine AOps.call (o_loadRef _ rfl rfl Tryz.sizeOf24 Tryz.isAgg24 rfl rfl rfl) ?_
      refine AOps.call (o_move _ rfl rfl) ?_
      refine AOps.call (o_move _ rfl rfl) ?_
      refine AOps.call (o_call (hQ2) Tryz.call40 rfl rfl) ?_
      refine AOps.call (o_move _ rfl rfl) ?_
      refine AOps.call (o_extract _ rfl rfl rfl rfl) ?_
      refine AOps.call (o_extract _ rfl rfl rfl rfl) ?_
      refine AOps.call (o_assign _ rfl rfl) ?_
      refine AOps.call (o_assign _ rfl rfl) ?_
      refine AOps.nil ?_
      refine AWP.seq ?_
      refine AWP.region ?_
      refine AOps.call (o_loadRef _ rfl rfl Tryz.sizeOf24 Tryz.isAgg24 rfl rfl rfl) ?_
      refine AOps.call (o_move _ rfl rfl) ?_
      refine AOps.call (o_move _ rfl rfl) ?_
      refine AOps.call (o_call (hQ3) Tryz.call41 rfl rfl) ?_
      refine AOps.call (o_move _ rfl rfl) ?_
      refine AOps.call (o_extract _ rfl rfl rfl rfl) ?_
      refine AOps.call (o_extract _ rfl rfl rfl rfl) ?_
      refine AOps.call (o_alloc ze54 rfl rfl) ?_
      refine AOps.cons (o_store _ _ rfl rfl Tryz.sizeOf54 rfl rfl rfl rfl rfl) ?_
      refine AOps.call (o_assign _ rfl rfl) ?_
      refine AOps.nil ?_
      refine AWP.seq ?_
      refine AWP.region ?_
      refine AOps.call (o_loadRef _ rfl rfl Tryz.sizeOf24 Tryz.isAgg24 rfl rfl rfl) ?_
      refine AOps.call (o_move _ rfl rfl) ?_
      refine AOps.call (o_move _ rfl rfl) ?_
      refine AOps.call (o_call (hQ4) Tryz.call42 rfl rfl) ?_
      refine AOps.call (o_move _ rfl rfl) ?_
      refine AOps.call (o_extract _ rfl rfl rfl rfl) ?_
      refine AOps.call (o_extract _ rfl rfl rfl rfl) ?_
      refine AOps.call (o_alloc ze54 rfl rfl) ?_
      refine AOps.cons (o_store _ _ rfl rfl Tryz.sizeOf54 rfl rfl rfl rfl rfl) ?_
      refine AOps.call (o_assign _ rfl rfl) ?_
      refine AOps.nil ?_
      refine AWP.seq ?_
      refine AWP.region ?_
      refine AOps.call (o_loadRef _ rfl rfl Tryz.sizeOf24 Tryz.isAgg24 rfl rfl rfl) ?_
      refine AOps.call (o_move _ rfl rfl) ?_
      refine AOps.call (o_move _ rfl rfl) ?_
      refine AOps.call (o_call (hQ5) Tryz.call43 rfl rfl) ?_
      refine AOps.call (o_move _ rfl rfl) ?_
      refine AOps.call (o_extract _ rfl rfl rfl rfl) ?_
      refine AOps.call (o_extract _ rfl rfl rfl rfl) ?_
      refine AOps.call (o_extract _ rfl rfl rfl rfl) ?_
      refine AOps.call (o_assign _ rfl rfl) ?_
      refine AOps.call (o_assign _ rfl rfl) ?_
      refine AOps.call (o_assign _ rfl rfl) ?_
      refine AOps.nil ?_
      refine AWP.seq ?_
      refine AWP.region ?_
      refine AOps.call (o_loadRef _ rfl rfl Tryz.sizeOf24 Tryz.isAgg24 rfl rfl rfl) ?_
      refine AOps.call (o_move _ rfl rfl) ?_
      refine AOps.call (o_move _ rfl rfl) ?_
      refine AOps.call (o_call (hQ6) Tryz.call44 rfl rfl) ?_
      refine AOps.call (o_move _ rfl rfl) ?_
      refine AOps.call (o_extract _ rfl rfl rfl rfl) ?_
      refine AOps.call (o_extract _ rfl rfl rfl rfl) ?_
      refine AOps.call (o_extract _ rfl rfl rfl rfl) ?_
      refine AOps.call (o_assign _ rfl rfl) ?_
      refine AOps.call (o_assign _ rfl rfl) ?_
      refine AOps.call (o_assign _ rfl rfl) ?_
      refine AOps.nil ?_
      refine AWP.seq ?_
      refine AWP.region ?_
      refine AOps.call (o_move _ rfl rfl) ?_
      refine AOps.call (o_move _ rfl rfl) ?_
      refine AOps.call (o_call (hS1) Tryz.call30 rfl rfl) ?_
      refine AOps.call (o_move _ rfl rfl) ?_
      refine AOps.split rfl rfl rfl (fun h50 => ?_) (fun h50 => ?_)
      · skip
        refine AOps.go rfl rfl rfl h50 (o_move _ rfl rfl) ?_
        refine AOps.go rfl rfl rfl h50 (o_move _ rfl rfl) ?_
        refine AOps.go rfl rfl rfl h50 (o_bin _ _ rfl rfl (fun _ => rfl) rfl) ?_
        refine AOps.call (o_pickT _ _ _ rfl h50 rfl rfl) ?_
        refine AOps.call (o_move _ rfl rfl) ?_
        refine AOps.split rfl rfl rfl (fun h52 => ?_) (fun h52 => ?_)
        · skip
          refine AOps.go rfl rfl rfl h52 (o_loadRef _ rfl rfl Tryz.sizeOf54 Tryz.isAgg54 rfl rfl rfl) ?_
          refine AOps.go rfl rfl rfl h52 (o_loadRef _ rfl rfl Tryz.sizeOf54 Tryz.isAgg54 rfl rfl rfl) ?_
          refine AOps.go rfl rfl rfl h52 (o_bin _ _ rfl rfl (el45 _ _ hs.lo hs.hi hs.lo hs.hi) rfl) ?_
          refine AOps.call (o_pickT _ _ _ rfl h52 rfl rfl) ?_
          refine AOps.call (o_move _ rfl rfl) ?_
          refine AOps.split rfl rfl rfl (fun h56 => ?_) (fun h56 => ?_)
          · skip
            refine AOps.go rfl rfl rfl h56 (o_move _ rfl rfl) ?_
            refine AOps.go rfl rfl rfl h56 (o_move _ rfl rfl) ?_
            refine AOps.go rfl rfl rfl h56 (o_bin _ _ rfl rfl (fun _ => rfl) rfl) ?_
            refine AOps.call (o_pickT _ _ _ rfl h56 rfl rfl) ?_
            refine AOps.call (o_move _ rfl rfl) ?_
            refine AOps.split rfl rfl rfl (fun h58 => ?_) (fun h58 => ?_)
            · skip
              refine AOps.go rfl rfl rfl h58 (o_move _ rfl rfl) ?_
              refine AOps.go rfl rfl rfl h58 (o_move _ rfl rfl) ?_
              refine AOps.go rfl rfl rfl h58 (o_bin _ _ rfl rfl (fun _ => rfl) rfl) ?_
              refine AOps.call (o_pickT _ _ _ rfl h58 rfl rfl) ?_
              refine AOps.call (o_move _ rfl rfl) ?_
              refine AOps.split rfl rfl rfl (fun h60 => ?_) (fun h60 => ?_)
              · skip
                refine AOps.go rfl rfl rfl h60 (o_move _ rfl rfl) ?_
                refine AOps.go rfl rfl rfl h60 (o_move _ rfl rfl) ?_
                refine AOps.go rfl rfl rfl h60 (o_bin _ _ rfl rfl (fun _ => rfl) rfl) ?_
                refine AOps.call (o_pickT _ _ _ rfl h60 rfl rfl) ?_
                refine AOps.call (o_move _ rfl rfl) ?_
                refine AOps.split rfl rfl rfl (fun h62 => ?_) (fun h62 => ?_)
                · skip
                  refine AOps.go rfl rfl rfl h62 (o_move _ rfl rfl) ?_
                  refine AOps.go rfl rfl rfl h62 (o_move _ rfl rfl) ?_
                  refine AOps.go rfl rfl rfl h62 (o_bin _ _ rfl rfl (fun _ => rfl) rfl) ?_
                  refine AOps.call (o_pickT _ _ _ rfl h62 rfl rfl) ?_
                  refine AOps.call (o_assign _ rfl rfl) ?_
                  refine AOps.nil ?_
                  refine AWP.ret ?_
                  first
                  | exact postQ.ret1 Tryz.results7 rfl rfl
                  | (refine postQ.ret1 Tryz.results7 rfl ?_; simp [AV.close, AV.close.closeL, B, I]; done)
                  | (refine postQ.ret1 Tryz.results7 rfl ?_; simp [AV.close, AV.close.closeL, B, I]; omega)
                  | (refine postQ.ret1 Tryz.results7 rfl ?_; simp_all [AV.close, AV.close.closeL, B, I]; done)
                  | (refine postQ.ret1 Tryz.results7 rfl ?_; simp_all [AV.close, AV.close.closeL, B, I]; omega)
                · skip
                  exfalso
                  simp at h62
              · skip
                exfalso
                simp at h60
            · skip
              exfalso
              simp at h58
          · skip
            exfalso
            simp at h56
        · skip
          exfalso
          simp at h52
      · skip
        exfalso
        simp at h50
end Go.Proofs.YtelenedgaoglaaaGreatDoor
