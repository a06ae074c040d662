/- Y7. -/
import Derived.Test.YtelenedgaoglaaaGreatDoorY5
import Derived.Test.YtelenedgaoglaaaGreatDoorR27
import Derived.Test.YtelenedgaoglaaaGreatDoorZ3
set_option linter.unusedSimpArgs false
set_option linter.unusedVariables false
namespace Go.Proofs.YtelenedgaoglaaaGreatDoor
open Go.Ab
open Go.Pil Go.RowKit
set_option maxRecDepth 20000 in
theorem Witness_log_true (p : Plw) (w : List Sp) (l : List Int) (hw1 : w.length ≤ 9223372036854775807) (hl1 : l.length ≤ 9223372036854775807) (n : Int) (he : okP p = false) : FSpec Tryz.prog 33 [.agg (eP p), .sl (sps w), .sl (ints l), I n, B true] (.tup [.sl [], I 30]) (none) := by
  refine FSpec.of_body Tryz.func33 rfl (leB rfl) fun w0 M0 => ?_
  refine AWP.seq ?_
  refine AWP.region ?_
  refine AOps.call (o_box _ rfl rfl rfl) ?_
  refine AOps.call (o_nil (z := 1) (e := 3) rfl) ?_
  refine AOps.call (o_assign _ rfl rfl) ?_
  refine AOps.nil ?_
  refine AWP.seq ?_
  refine AWP.region ?_
  refine AOps.call (o_loadRef _ rfl rfl Tryz.sizeOf24 Tryz.isAgg24 rfl rfl rfl) ?_
  refine AOps.call (o_move _ rfl rfl) ?_
  refine AOps.call (o_move _ rfl rfl) ?_
  refine AOps.call (o_call (readCase_log p w l hw1 hl1 he) Tryz.call69 rfl rfl) ?_
  refine AOps.call (o_move _ rfl rfl) ?_
  refine AOps.call (o_extract _ rfl rfl rfl rfl) ?_
  refine AOps.call (o_extract _ rfl rfl rfl rfl) ?_
  refine AOps.call (o_alloc ze91 rfl rfl) ?_
  refine AOps.cons (o_store _ _ rfl rfl Tryz.sizeOf91 rfl rfl rfl rfl rfl) ?_
  refine AOps.call (o_assign _ rfl rfl) ?_
  refine AOps.nil ?_
  refine AWP.seq ?_
  refine AWP.seq ?_
  refine AWP.region ?_
  refine AOps.call (o_move _ rfl rfl) ?_
  refine AOps.call (o_bin _ _ rfl rfl (fun _ => rfl) rfl) ?_
  refine AOps.nil ?_
  refine AWP.cond _ rfl (fun h12 => ?_) (fun h12 => ?_)
  · skip
    refine AWP.seq ?_
    refine AWP.region ?_
    refine AOps.call (o_move _ rfl rfl) ?_
    refine AOps.call (o_nil (z := 1) (e := 3) rfl) ?_
    refine AOps.call (o_assign _ rfl rfl) ?_
    refine AOps.nil ?_
    refine AWP.ret ?_
    exact postQ.ret2 Tryz.results33 rfl rfl rfl
  · skip
    exfalso
    exact absurd h12 (by decide)
set_option maxRecDepth 20000 in
theorem Witness_arg_true (p : Plw) (w : List Sp) (l : List Int) (hw1 : w.length ≤ 9223372036854775807) (hl1 : l.length ≤ 9223372036854775807) (n : Int) (he : okP p = true) (hq : okW p w = false) : FSpec Tryz.prog 33 [.agg (eP p), .sl (sps w), .sl (ints l), I n, B true] (.tup [.sl [], I 1]) (none) := by
  refine FSpec.of_body Tryz.func33 rfl (leB rfl) fun w0 M0 => ?_
  refine AWP.seq ?_
  refine AWP.region ?_
  refine AOps.call (o_box _ rfl rfl rfl) ?_
  refine AOps.call (o_nil (z := 1) (e := 3) rfl) ?_
  refine AOps.call (o_assign _ rfl rfl) ?_
  refine AOps.nil ?_
  refine AWP.seq ?_
  refine AWP.region ?_
  refine AOps.call (o_loadRef _ rfl rfl Tryz.sizeOf24 Tryz.isAgg24 rfl rfl rfl) ?_
  refine AOps.call (o_move _ rfl rfl) ?_
  refine AOps.call (o_move _ rfl rfl) ?_
  refine AOps.call (o_call (readCase_arg p w l hw1 hl1 he hq) Tryz.call69 rfl rfl) ?_
  refine AOps.call (o_move _ rfl rfl) ?_
  refine AOps.call (o_extract _ rfl rfl rfl rfl) ?_
  refine AOps.call (o_extract _ rfl rfl rfl rfl) ?_
  refine AOps.call (o_alloc ze91 rfl rfl) ?_
  refine AOps.cons (o_store _ _ rfl rfl Tryz.sizeOf91 rfl rfl rfl rfl rfl) ?_
  refine AOps.call (o_assign _ rfl rfl) ?_
  refine AOps.nil ?_
  refine AWP.seq ?_
  refine AWP.seq ?_
  refine AWP.region ?_
  refine AOps.call (o_move _ rfl rfl) ?_
  refine AOps.call (o_bin _ _ rfl rfl (fun _ => rfl) rfl) ?_
  refine AOps.nil ?_
  refine AWP.cond _ rfl (fun h12 => ?_) (fun h12 => ?_)
  · skip
    refine AWP.seq ?_
    refine AWP.region ?_
    refine AOps.call (o_move _ rfl rfl) ?_
    refine AOps.call (o_nil (z := 1) (e := 3) rfl) ?_
    refine AOps.call (o_assign _ rfl rfl) ?_
    refine AOps.nil ?_
    refine AWP.ret ?_
    exact postQ.ret2 Tryz.results33 rfl rfl rfl
  · skip
    exfalso
    exact absurd h12 (by decide)
set_option maxRecDepth 20000 in
theorem Witness_log_false (p : Plw) (w : List Sp) (l : List Int) (hw1 : w.length ≤ 9223372036854775807) (hl1 : l.length ≤ 9223372036854775807) (n : Int) (he : okP p = false) : FSpec Tryz.prog 33 [.agg (eP p), .sl (sps w), .sl (ints l), I n, B false] (.tup [.sl [], I 30]) (none) := by
  refine FSpec.of_body Tryz.func33 rfl (leB rfl) fun w0 M0 => ?_
  refine AWP.seq ?_
  refine AWP.region ?_
  refine AOps.call (o_box _ rfl rfl rfl) ?_
  refine AOps.call (o_nil (z := 1) (e := 3) rfl) ?_
  refine AOps.call (o_assign _ rfl rfl) ?_
  refine AOps.nil ?_
  refine AWP.seq ?_
  refine AWP.region ?_
  refine AOps.call (o_loadRef _ rfl rfl Tryz.sizeOf24 Tryz.isAgg24 rfl rfl rfl) ?_
  refine AOps.call (o_move _ rfl rfl) ?_
  refine AOps.call (o_move _ rfl rfl) ?_
  refine AOps.call (o_call (readCase_log p w l hw1 hl1 he) Tryz.call69 rfl rfl) ?_
  refine AOps.call (o_move _ rfl rfl) ?_
  refine AOps.call (o_extract _ rfl rfl rfl rfl) ?_
  refine AOps.call (o_extract _ rfl rfl rfl rfl) ?_
  refine AOps.call (o_alloc ze91 rfl rfl) ?_
  refine AOps.cons (o_store _ _ rfl rfl Tryz.sizeOf91 rfl rfl rfl rfl rfl) ?_
  refine AOps.call (o_assign _ rfl rfl) ?_
  refine AOps.nil ?_
  refine AWP.seq ?_
  refine AWP.seq ?_
  refine AWP.region ?_
  refine AOps.call (o_move _ rfl rfl) ?_
  refine AOps.call (o_bin _ _ rfl rfl (fun _ => rfl) rfl) ?_
  refine AOps.nil ?_
  refine AWP.cond _ rfl (fun h12 => ?_) (fun h12 => ?_)
  · skip
    refine AWP.seq ?_
    refine AWP.region ?_
    refine AOps.call (o_move _ rfl rfl) ?_
    refine AOps.call (o_nil (z := 1) (e := 3) rfl) ?_
    refine AOps.call (o_assign _ rfl rfl) ?_
    refine AOps.nil ?_
    refine AWP.ret ?_
    exact postQ.ret2 Tryz.results33 rfl rfl rfl
  · skip
    exfalso
    exact absurd h12 (by decide)
set_option maxRecDepth 20000 in
theorem Witness_arg_false (p : Plw) (w : List Sp) (l : List Int) (hw1 : w.length ≤ 9223372036854775807) (hl1 : l.length ≤ 9223372036854775807) (n : Int) (he : okP p = true) (hq : okW p w = false) : FSpec Tryz.prog 33 [.agg (eP p), .sl (sps w), .sl (ints l), I n, B false] (.tup [.sl [], I 1]) (none) := by
  refine FSpec.of_body Tryz.func33 rfl (leB rfl) fun w0 M0 => ?_
  refine AWP.seq ?_
  refine AWP.region ?_
  refine AOps.call (o_box _ rfl rfl rfl) ?_
  refine AOps.call (o_nil (z := 1) (e := 3) rfl) ?_
  refine AOps.call (o_assign _ rfl rfl) ?_
  refine AOps.nil ?_
  refine AWP.seq ?_
  refine AWP.region ?_
  refine AOps.call (o_loadRef _ rfl rfl Tryz.sizeOf24 Tryz.isAgg24 rfl rfl rfl) ?_
  refine AOps.call (o_move _ rfl rfl) ?_
  refine AOps.call (o_move _ rfl rfl) ?_
  refine AOps.call (o_call (readCase_arg p w l hw1 hl1 he hq) Tryz.call69 rfl rfl) ?_
  refine AOps.call (o_move _ rfl rfl) ?_
  refine AOps.call (o_extract _ rfl rfl rfl rfl) ?_
  refine AOps.call (o_extract _ rfl rfl rfl rfl) ?_
  refine AOps.call (o_alloc ze91 rfl rfl) ?_
  refine AOps.cons (o_store _ _ rfl rfl Tryz.sizeOf91 rfl rfl rfl rfl rfl) ?_
  refine AOps.call (o_assign _ rfl rfl) ?_
  refine AOps.nil ?_
  refine AWP.seq ?_
  refine AWP.seq ?_
  refine AWP.region ?_
  refine AOps.call (o_move _ rfl rfl) ?_
  refine AOps.call (o_bin _ _ rfl rfl (fun _ => rfl) rfl) ?_
  refine AOps.nil ?_
  refine AWP.cond _ rfl (fun h12 => ?_) (fun h12 => ?_)
  · skip
    refine AWP.seq ?_
    refine AWP.region ?_
    refine AOps.call (o_move _ rfl rfl) ?_
    refine AOps.call (o_nil (z := 1) (e := 3) rfl) ?_
    refine AOps.call (o_assign _ rfl rfl) ?_
    refine AOps.nil ?_
    refine AWP.ret ?_
    exact postQ.ret2 Tryz.results33 rfl rfl rfl
  · skip
    exfalso
    exact absurd h12 (by decide)
theorem witL_n {p : Plw} {w : List Sp} {l : List Int} {n e : Int} {most : Bool} (h : witE p w l n e ≠ 0) : witL p w l n e most = [] := if_neg h
theorem Witness_s_true (p : Plw) (w : List Sp) (l : List Int) (hw1 : w.length ≤ 9223372036854775807) (hl1 : l.length ≤ 9223372036854775807) (n : Int) : FSpec Tryz.prog 33 [.agg (eP p), .sl (sps w), .sl (ints l), I n, B true] (.tup [.sl (ints (witL p w l n (rcE p w l) true)), I (entE p w l n)]) none := by
  cases he : okP p with
  | false =>
    have e : rcE p w l = 30 := by unfold rcE; rw [if_pos he]
    have e2 : entE p w l n = 30 := by unfold entE; rw [e]; rfl
    have e3 : witE p w l n 30 ≠ 0 := fun h => absurd (show (30 : Int) = 0 from h) (by decide)
    rw [e, witL_n e3, e2]
    exact Witness_log_true p w l hw1 hl1 n he
  | true =>
    cases hq : okW p w with
    | false =>
      have e : rcE p w l = 1 := by unfold rcE; rw [if_neg (by rw [he]; decide), if_pos hq]
      have e2 : entE p w l n = 1 := by unfold entE; rw [e]; rfl
      have e3 : witE p w l n 1 ≠ 0 := fun h => absurd (show (1 : Int) = 0 from h) (by decide)
      rw [e, witL_n e3, e2]
      exact Witness_arg_true p w l hw1 hl1 n he hq
    | true =>
      have e : rcE p w l = caseE p l := by unfold rcE; rw [if_neg (by rw [he]; decide), if_neg (by rw [hq]; decide)]
      unfold entE; rw [e]
      exact Witness_ok_true p w l n hw1 hl1 he hq
theorem Witness_s_false (p : Plw) (w : List Sp) (l : List Int) (hw1 : w.length ≤ 9223372036854775807) (hl1 : l.length ≤ 9223372036854775807) (n : Int) : FSpec Tryz.prog 33 [.agg (eP p), .sl (sps w), .sl (ints l), I n, B false] (.tup [.sl (ints (witL p w l n (rcE p w l) false)), I (entE p w l n)]) none := by
  cases he : okP p with
  | false =>
    have e : rcE p w l = 30 := by unfold rcE; rw [if_pos he]
    have e2 : entE p w l n = 30 := by unfold entE; rw [e]; rfl
    have e3 : witE p w l n 30 ≠ 0 := fun h => absurd (show (30 : Int) = 0 from h) (by decide)
    rw [e, witL_n e3, e2]
    exact Witness_log_false p w l hw1 hl1 n he
  | true =>
    cases hq : okW p w with
    | false =>
      have e : rcE p w l = 1 := by unfold rcE; rw [if_neg (by rw [he]; decide), if_pos hq]
      have e2 : entE p w l n = 1 := by unfold entE; rw [e]; rfl
      have e3 : witE p w l n 1 ≠ 0 := fun h => absurd (show (1 : Int) = 0 from h) (by decide)
      rw [e, witL_n e3, e2]
      exact Witness_arg_false p w l hw1 hl1 n he hq
    | true =>
      have e : rcE p w l = caseE p l := by unfold rcE; rw [if_neg (by rw [he]; decide), if_neg (by rw [hq]; decide)]
      unfold entE; rw [e]
      exact Witness_ok_false p w l n hw1 hl1 he hq
theorem entE_0 {p : Plw} {w : List Sp} {l : List Int} {n : Int} (h : entE p w l n = 0) : rcE p w l = 0 ∧ (0 ≤ n ∧ n < p.log.length) ∧ aliveP p w l := by
  by_cases h1 : rcE p w l ≠ 0
  · rw [entE_rc h1] at h; exact absurd h h1
  · have h1' : rcE p w l = 0 := by omega
    by_cases h2 : 0 ≤ n ∧ n < p.log.length
    · rw [entE_al h1' h2] at h
      by_cases h3 : aliveP p w l
      · exact ⟨h1', h2, h3⟩
      · rw [if_neg h3] at h; omega
    · rw [entE_no h1' h2] at h; omega
set_option maxHeartbeats 4000000 in
set_option maxRecDepth 20000 in
theorem PillowWitnesses_a_true (p : Plw) (w : List Sp) (l y : List Int) (n : Int) (hw1 : w.length ≤ 9223372036854775807) (hl1 : l.length ≤ 9223372036854775807) (hy1 : y.length ≤ 9223372036854775807) (hne : entE p w l n ≠ 0) : FSpecG Tryz.prog TAB 5 [.agg (eP p), .sl (sps w), .sl (ints l), .sl (ints y), I n, B true] (B true) (none) := by
  refine FSpecG.of_body tab_stable Tryz.func5 rfl (leB rfl) fun w0 M0 hG => ?_
  have hW := Witness_s_true p w l hw1 hl1 n
  have hEn := Entry_s p w l hw1 hl1 n
  rw [witL_n hne] at hW
  generalize entE p w l n = en at hW hEn hne
  refine AWP.seq ?_
  refine AWP.region ?_
  refine AOps.call (o_box _ rfl rfl rfl) ?_
  refine AOps.call (o_assign _ rfl rfl) ?_
  refine AOps.nil ?_
  refine AWP.seq ?_
  refine AWP.seq ?_
  refine AWP.region ?_
  refine AOps.call (o_callG (sane_s) hG Tryz.call12 rfl rfl) ?_
  refine AOps.call (o_un _ rfl (fun _ => rfl) rfl) ?_
  refine AOps.nil ?_
  refine AWP.cond _ rfl (fun h4 => ?_) (fun h4 => ?_)
  · skip
    exfalso
    simp at h4
  · skip
    refine AWP.skip ?_
    refine AWP.seq ?_
    refine AWP.seq ?_
    refine AWP.drawn 11 mixed (by kernel_rfl) ?_
    refine AHead.call (o_loadRef _ rfl rfl Tryz.sizeOf24 Tryz.isAgg24 rfl rfl rfl) rfl ?_
    refine AHead.call (o_move _ rfl rfl) rfl ?_
    refine AHead.call (o_move _ rfl rfl) rfl ?_
    refine AHead.call (o_move _ rfl rfl) rfl ?_
    refine AHead.call (o_call (CheckWitness_s p w l y hw1 hl1) Tryz.call31 rfl rfl) rfl ?_
    refine AHead.call (o_loadRef _ rfl rfl Tryz.sizeOf24 Tryz.isAgg24 rfl rfl rfl) rfl ?_
    refine AHead.call (o_move _ rfl rfl) rfl ?_
    refine AHead.call (o_move _ rfl rfl) rfl ?_
    refine AHead.call (o_move _ rfl rfl) rfl ?_
    refine AHead.call (o_call (CheckWitnessR_s p w l y hw1 hl1 hy1) Tryz.call32 rfl rfl) rfl ?_
    refine AHead.call (o_bin _ _ rfl rfl (fun _ => rfl) rfl) rfl ?_
    refine AHead.nil ?_
    refine AOps.nil ?_
    refine AWP.cond _ rfl (fun h16 => ?_) (fun h16 => ?_)
    · skip
      exfalso
      simp at h16
    · skip
      refine AWP.skip ?_
      refine AWP.seq ?_
      refine AWP.region ?_
      refine AOps.call (o_loadRef _ rfl rfl Tryz.sizeOf24 Tryz.isAgg24 rfl rfl rfl) ?_
      refine AOps.call (o_move _ rfl rfl) ?_
      refine AOps.call (o_move _ rfl rfl) ?_
      refine AOps.call (o_move _ rfl rfl) ?_
      refine AOps.call (o_move _ rfl rfl) ?_
      refine AOps.call (o_call (hW) Tryz.call33 rfl rfl) ?_
      refine AOps.call (o_move _ rfl rfl) ?_
      refine AOps.call (o_extract _ rfl rfl rfl rfl) ?_
      refine AOps.call (o_extract _ rfl rfl rfl rfl) ?_
      refine AOps.call (o_assign _ rfl rfl) ?_
      refine AOps.call (o_assign _ rfl rfl) ?_
      refine AOps.nil ?_
      refine AWP.seq ?_
      refine AWP.seq ?_
      refine AWP.region ?_
      refine AOps.call (o_move _ rfl rfl) ?_
      refine AOps.call (o_loadRef _ rfl rfl Tryz.sizeOf24 Tryz.isAgg24 rfl rfl rfl) ?_
      refine AOps.call (o_move _ rfl rfl) ?_
      refine AOps.call (o_move _ rfl rfl) ?_
      refine AOps.call (o_move _ rfl rfl) ?_
      refine AOps.call (o_call (hEn) Tryz.call34 rfl rfl) ?_
      refine AOps.call (o_bin _ _ rfl rfl (fun _ => rfl) rfl) ?_
      refine AOps.nil ?_
      refine AWP.cond _ rfl (fun h31 => ?_) (fun h31 => ?_)
      · skip
        exfalso
        simp at h31
      · skip
        refine AWP.skip ?_
        refine AWP.seq ?_
        refine AWP.seq ?_
        refine AWP.region ?_
        refine AOps.call (o_move _ rfl rfl) ?_
        refine AOps.call (o_bin _ _ rfl rfl (fun _ => rfl) rfl) ?_
        refine AOps.nil ?_
        refine AWP.cond _ rfl (fun h33 => ?_) (fun h33 => ?_)
        · skip
          refine AWP.seq ?_
          refine AWP.region ?_
          refine AOps.call (o_move _ rfl rfl) ?_
          refine AOps.call (o_len _ Tryz.underlying25 rfl rfl) ?_
          refine AOps.call (o_bin _ _ rfl rfl (fun _ => rfl) rfl) ?_
          refine AOps.call (o_assign _ rfl rfl) ?_
          refine AOps.nil ?_
          refine AWP.ret ?_
          first
          | exact postQ.ret1 Tryz.results5 rfl rfl
          | (refine postQ.ret1 Tryz.results5 rfl ?_; simp [AV.close, AV.close.closeL, B, I]; done)
          | (refine postQ.ret1 Tryz.results5 rfl ?_; simp [AV.close, AV.close.closeL, B, I]; omega)
          | (refine postQ.ret1 Tryz.results5 rfl ?_; simp_all [AV.close, AV.close.closeL, B, I]; done)
          | (refine postQ.ret1 Tryz.results5 rfl ?_; simp_all [AV.close, AV.close.closeL, B, I]; omega)
        · skip
          exfalso
          simp at h33
          exact hne h33
set_option maxHeartbeats 4000000 in
set_option maxRecDepth 20000 in
theorem PillowWitnesses_b_true (p : Plw) (w : List Sp) (l y : List Int) (n : Int) (hw1 : w.length ≤ 9223372036854775807) (hl1 : l.length ≤ 9223372036854775807) (hy1 : y.length ≤ 9223372036854775807) (h0 : entE p w l n = 0) : FSpecG Tryz.prog TAB 5 [.agg (eP p), .sl (sps w), .sl (ints l), .sl (ints y), I n, B true] (B true) (none) := by
  refine FSpecG.of_body tab_stable Tryz.func5 rfl (leB rfl) fun w0 M0 hG => ?_
  have hW := Witness_s_true p w l hw1 hl1 n
  have hEn := Entry_s p w l hw1 hl1 n
  obtain ⟨hz, hn, ha⟩ := entE_0 h0
  obtain ⟨hp, hq, hll⟩ := rcE_hyp hz
  have h32 := hp.len
  have hwe : witE p w l n (rcE p w l) = 0 := h0
  rw [show witL p w l n (rcE p w l) true = outW true (endsP p w l) from if_pos hwe] at hW
  rw [h0] at hW hEn
  have hL := LoadsR_s p w l hw1 hl1
  rw [show ldL p w l (rcE p w l) = endsP p w l from if_pos ⟨hz, ha⟩, show ldE p w l (rcE p w l) = 0 from (if_neg (fun h => h.2 ha)).trans hz] at hL
  have hol := outW_len (most := true) (p := p) (w := w) (l := l)
  have hC := CheckWitnessR_s p w l (outW true (endsP p w l)) hw1 hl1 (by rw [hol]; exact hl1)
  rw [cwE_outW true hz ha] at hC
  have hx := ints_gW (most := true) (p := p) (w := w) (l := l) (k := n) (j := n.toNat) rfl (by omega)
  have hel : (endsP p w l).length = l.length := by simp [endsP]
  have hee := sps_gD (L := endsP p w l) (k := n) (j := n.toNat) rfl (by omega)
  rw [endsP_gD (by omega)] at hee
  refine AWP.seq ?_
  refine AWP.region ?_
  refine AOps.call (o_box _ rfl rfl rfl) ?_
  refine AOps.call (o_assign _ rfl rfl) ?_
  refine AOps.nil ?_
  refine AWP.seq ?_
  refine AWP.seq ?_
  refine AWP.region ?_
  refine AOps.call (o_callG (sane_s) hG Tryz.call12 rfl rfl) ?_
  refine AOps.call (o_un _ rfl (fun _ => rfl) rfl) ?_
  refine AOps.nil ?_
  refine AWP.cond _ rfl (fun h4 => ?_) (fun h4 => ?_)
  · skip
    exfalso
    simp at h4
  · skip
    refine AWP.skip ?_
    refine AWP.seq ?_
    refine AWP.seq ?_
    refine AWP.drawn 11 mixed (by kernel_rfl) ?_
    refine AHead.call (o_loadRef _ rfl rfl Tryz.sizeOf24 Tryz.isAgg24 rfl rfl rfl) rfl ?_
    refine AHead.call (o_move _ rfl rfl) rfl ?_
    refine AHead.call (o_move _ rfl rfl) rfl ?_
    refine AHead.call (o_move _ rfl rfl) rfl ?_
    refine AHead.call (o_call (CheckWitness_s p w l y hw1 hl1) Tryz.call31 rfl rfl) rfl ?_
    refine AHead.call (o_loadRef _ rfl rfl Tryz.sizeOf24 Tryz.isAgg24 rfl rfl rfl) rfl ?_
    refine AHead.call (o_move _ rfl rfl) rfl ?_
    refine AHead.call (o_move _ rfl rfl) rfl ?_
    refine AHead.call (o_move _ rfl rfl) rfl ?_
    refine AHead.call (o_call (CheckWitnessR_s p w l y hw1 hl1 hy1) Tryz.call32 rfl rfl) rfl ?_
    refine AHead.call (o_bin _ _ rfl rfl (fun _ => rfl) rfl) rfl ?_
    refine AHead.nil ?_
    refine AOps.nil ?_
    refine AWP.cond _ rfl (fun h16 => ?_) (fun h16 => ?_)
    · skip
      exfalso
      simp at h16
    · skip
      refine AWP.skip ?_
      refine AWP.seq ?_
      refine AWP.region ?_
      refine AOps.call (o_loadRef _ rfl rfl Tryz.sizeOf24 Tryz.isAgg24 rfl rfl rfl) ?_
      refine AOps.call (o_move _ rfl rfl) ?_
      refine AOps.call (o_move _ rfl rfl) ?_
      refine AOps.call (o_move _ rfl rfl) ?_
      refine AOps.call (o_move _ rfl rfl) ?_
      refine AOps.call (o_call (hW) Tryz.call33 rfl rfl) ?_
      refine AOps.call (o_move _ rfl rfl) ?_
      refine AOps.call (o_extract _ rfl rfl rfl rfl) ?_
      refine AOps.call (o_extract _ rfl rfl rfl rfl) ?_
      refine AOps.call (o_assign _ rfl rfl) ?_
      refine AOps.call (o_assign _ rfl rfl) ?_
      refine AOps.nil ?_
      refine AWP.seq ?_
      refine AWP.seq ?_
      refine AWP.region ?_
      refine AOps.call (o_move _ rfl rfl) ?_
      refine AOps.call (o_loadRef _ rfl rfl Tryz.sizeOf24 Tryz.isAgg24 rfl rfl rfl) ?_
      refine AOps.call (o_move _ rfl rfl) ?_
      refine AOps.call (o_move _ rfl rfl) ?_
      refine AOps.call (o_move _ rfl rfl) ?_
      refine AOps.call (o_call (hEn) Tryz.call34 rfl rfl) ?_
      refine AOps.call (o_bin _ _ rfl rfl (fun _ => rfl) rfl) ?_
      refine AOps.nil ?_
      refine AWP.cond _ rfl (fun h31 => ?_) (fun h31 => ?_)
      · skip
        exfalso
        exact absurd h31 (by decide)
      · skip
        refine AWP.skip ?_
        refine AWP.seq ?_
        refine AWP.seq ?_
        refine AWP.region ?_
        refine AOps.call (o_move _ rfl rfl) ?_
        refine AOps.call (o_bin _ _ rfl rfl (fun _ => rfl) rfl) ?_
        refine AOps.nil ?_
        refine AWP.cond _ rfl (fun h33 => ?_) (fun h33 => ?_)
        · skip
          exfalso
          exact absurd h33 (by decide)
        · skip
          refine AWP.skip ?_
          refine AWP.seq ?_
          refine AWP.region ?_
          refine AOps.call (o_loadRef _ rfl rfl Tryz.sizeOf24 Tryz.isAgg24 rfl rfl rfl) ?_
          refine AOps.call (o_move _ rfl rfl) ?_
          refine AOps.call (o_move _ rfl rfl) ?_
          refine AOps.call (o_call (hL) Tryz.call28 rfl rfl) ?_
          refine AOps.call (o_move _ rfl rfl) ?_
          refine AOps.call (o_extract _ rfl rfl rfl rfl) ?_
          refine AOps.call (o_extract _ rfl rfl rfl rfl) ?_
          refine AOps.call (o_assign _ rfl rfl) ?_
          refine AOps.call (o_assign _ rfl rfl) ?_
          refine AOps.nil ?_
          refine AWP.seq ?_
          refine AWP.seq ?_
          refine AWP.region ?_
          refine AOps.call (o_move _ rfl rfl) ?_
          refine AOps.call (o_bin _ _ rfl rfl (fun _ => rfl) rfl) ?_
          refine AOps.call (o_move _ rfl rfl) ?_
          refine AOps.split rfl rfl rfl (fun h41 => ?_) (fun h41 => ?_)
          · skip
            refine AOps.go rfl rfl rfl h41 (o_loadRef _ rfl rfl Tryz.sizeOf24 Tryz.isAgg24 rfl rfl rfl) ?_
            refine AOps.go rfl rfl rfl h41 (o_move _ rfl rfl) ?_
            refine AOps.go rfl rfl rfl h41 (o_move _ rfl rfl) ?_
            refine AOps.go rfl rfl rfl h41 (o_move _ rfl rfl) ?_
            refine AOps.go rfl rfl rfl h41 (o_call (hC) Tryz.call32 rfl rfl) ?_
            refine AOps.go rfl rfl rfl h41 (o_bin _ _ rfl rfl (fun _ => rfl) rfl) ?_
            refine AOps.call (o_pickF _ _ _ rfl h41 rfl rfl) ?_
            refine AOps.nil ?_
            refine AWP.cond _ rfl (fun h47 => ?_) (fun h47 => ?_)
            · skip
              exfalso
              exact absurd h47 (by decide)
            · skip
              refine AWP.skip ?_
              refine AWP.seq ?_
              refine AWP.seq ?_
              refine AWP.region ?_
              refine AOps.call (o_move _ rfl rfl) ?_
              refine AOps.nil ?_
              refine AWP.cond _ rfl (fun h49 => ?_) (fun h49 => ?_)
              · skip
                refine AWP.seq ?_
                refine AWP.drawn 11 mixed (by kernel_rfl) ?_
                refine AHead.call (o_move _ rfl rfl) rfl ?_
                refine AHead.call (o_move _ rfl rfl) rfl ?_
                refine AHead.call (o_index _ _ Tryz.underlying25 Tryz.sizeOf3 rfl rfl (by omega) hx rfl rfl) rfl ?_
                refine AHead.call (o_loadRd _ rfl Tryz.sizeOf3 Tryz.isAgg3 rfl rfl rfl) rfl ?_
                refine AHead.call (o_move _ rfl rfl) rfl ?_
                refine AHead.call (o_move _ rfl rfl) rfl ?_
                refine AHead.call (o_index _ _ Tryz.underlying38 Tryz.sizeOf54 rfl rfl (by omega) hee rfl rfl) rfl ?_
                refine AHead.call (o_fieldRd _ rfl fa54_1 rfl) rfl ?_
                refine AHead.call (o_loadRd _ rfl Tryz.sizeOf3 Tryz.isAgg3 rfl rfl rfl) rfl ?_
                refine AHead.call (o_bin _ _ rfl rfl (fun _ => rfl) rfl) rfl ?_
                refine AHead.call (o_assign _ rfl rfl) rfl ?_
                refine AHead.nil ?_
                refine AOps.nil ?_
                refine AWP.ret ?_
                first
                | exact postQ.ret1 Tryz.results5 rfl rfl
                | (refine postQ.ret1 Tryz.results5 rfl ?_; simp [AV.close, AV.close.closeL, B, I]; done)
                | (refine postQ.ret1 Tryz.results5 rfl ?_; simp [AV.close, AV.close.closeL, B, I]; omega)
                | (refine postQ.ret1 Tryz.results5 rfl ?_; simp_all [AV.close, AV.close.closeL, B, I]; done)
                | (refine postQ.ret1 Tryz.results5 rfl ?_; simp_all [AV.close, AV.close.closeL, B, I]; omega)
                | (refine postQ.ret1 Tryz.results5 rfl ?_; simp [AV.close, AV.close.closeL, B, I, endV]; done)
              · skip
                exfalso
                exact absurd h49 (by decide)
          · skip
            exfalso
            exact absurd h41 (by decide)
set_option maxHeartbeats 4000000 in
set_option maxRecDepth 20000 in
theorem PillowWitnesses_a_false (p : Plw) (w : List Sp) (l y : List Int) (n : Int) (hw1 : w.length ≤ 9223372036854775807) (hl1 : l.length ≤ 9223372036854775807) (hy1 : y.length ≤ 9223372036854775807) (hne : entE p w l n ≠ 0) : FSpecG Tryz.prog TAB 5 [.agg (eP p), .sl (sps w), .sl (ints l), .sl (ints y), I n, B false] (B true) (none) := by
  refine FSpecG.of_body tab_stable Tryz.func5 rfl (leB rfl) fun w0 M0 hG => ?_
  have hW := Witness_s_false p w l hw1 hl1 n
  have hEn := Entry_s p w l hw1 hl1 n
  rw [witL_n hne] at hW
  generalize entE p w l n = en at hW hEn hne
  refine AWP.seq ?_
  refine AWP.region ?_
  refine AOps.call (o_box _ rfl rfl rfl) ?_
  refine AOps.call (o_assign _ rfl rfl) ?_
  refine AOps.nil ?_
  refine AWP.seq ?_
  refine AWP.seq ?_
  refine AWP.region ?_
  refine AOps.call (o_callG (sane_s) hG Tryz.call12 rfl rfl) ?_
  refine AOps.call (o_un _ rfl (fun _ => rfl) rfl) ?_
  refine AOps.nil ?_
  refine AWP.cond _ rfl (fun h4 => ?_) (fun h4 => ?_)
  · skip
    exfalso
    simp at h4
  · skip
    refine AWP.skip ?_
    refine AWP.seq ?_
    refine AWP.seq ?_
    refine AWP.drawn 11 mixed (by kernel_rfl) ?_
    refine AHead.call (o_loadRef _ rfl rfl Tryz.sizeOf24 Tryz.isAgg24 rfl rfl rfl) rfl ?_
    refine AHead.call (o_move _ rfl rfl) rfl ?_
    refine AHead.call (o_move _ rfl rfl) rfl ?_
    refine AHead.call (o_move _ rfl rfl) rfl ?_
    refine AHead.call (o_call (CheckWitness_s p w l y hw1 hl1) Tryz.call31 rfl rfl) rfl ?_
    refine AHead.call (o_loadRef _ rfl rfl Tryz.sizeOf24 Tryz.isAgg24 rfl rfl rfl) rfl ?_
    refine AHead.call (o_move _ rfl rfl) rfl ?_
    refine AHead.call (o_move _ rfl rfl) rfl ?_
    refine AHead.call (o_move _ rfl rfl) rfl ?_
    refine AHead.call (o_call (CheckWitnessR_s p w l y hw1 hl1 hy1) Tryz.call32 rfl rfl) rfl ?_
    refine AHead.call (o_bin _ _ rfl rfl (fun _ => rfl) rfl) rfl ?_
    refine AHead.nil ?_
    refine AOps.nil ?_
    refine AWP.cond _ rfl (fun h16 => ?_) (fun h16 => ?_)
    · skip
      exfalso
      simp at h16
    · skip
      refine AWP.skip ?_
      refine AWP.seq ?_
      refine AWP.region ?_
      refine AOps.call (o_loadRef _ rfl rfl Tryz.sizeOf24 Tryz.isAgg24 rfl rfl rfl) ?_
      refine AOps.call (o_move _ rfl rfl) ?_
      refine AOps.call (o_move _ rfl rfl) ?_
      refine AOps.call (o_move _ rfl rfl) ?_
      refine AOps.call (o_move _ rfl rfl) ?_
      refine AOps.call (o_call (hW) Tryz.call33 rfl rfl) ?_
      refine AOps.call (o_move _ rfl rfl) ?_
      refine AOps.call (o_extract _ rfl rfl rfl rfl) ?_
      refine AOps.call (o_extract _ rfl rfl rfl rfl) ?_
      refine AOps.call (o_assign _ rfl rfl) ?_
      refine AOps.call (o_assign _ rfl rfl) ?_
      refine AOps.nil ?_
      refine AWP.seq ?_
      refine AWP.seq ?_
      refine AWP.region ?_
      refine AOps.call (o_move _ rfl rfl) ?_
      refine AOps.call (o_loadRef _ rfl rfl Tryz.sizeOf24 Tryz.isAgg24 rfl rfl rfl) ?_
      refine AOps.call (o_move _ rfl rfl) ?_
      refine AOps.call (o_move _ rfl rfl) ?_
      refine AOps.call (o_move _ rfl rfl) ?_
      refine AOps.call (o_call (hEn) Tryz.call34 rfl rfl) ?_
      refine AOps.call (o_bin _ _ rfl rfl (fun _ => rfl) rfl) ?_
      refine AOps.nil ?_
      refine AWP.cond _ rfl (fun h31 => ?_) (fun h31 => ?_)
      · skip
        exfalso
        simp at h31
      · skip
        refine AWP.skip ?_
        refine AWP.seq ?_
        refine AWP.seq ?_
        refine AWP.region ?_
        refine AOps.call (o_move _ rfl rfl) ?_
        refine AOps.call (o_bin _ _ rfl rfl (fun _ => rfl) rfl) ?_
        refine AOps.nil ?_
        refine AWP.cond _ rfl (fun h33 => ?_) (fun h33 => ?_)
        · skip
          refine AWP.seq ?_
          refine AWP.region ?_
          refine AOps.call (o_move _ rfl rfl) ?_
          refine AOps.call (o_len _ Tryz.underlying25 rfl rfl) ?_
          refine AOps.call (o_bin _ _ rfl rfl (fun _ => rfl) rfl) ?_
          refine AOps.call (o_assign _ rfl rfl) ?_
          refine AOps.nil ?_
          refine AWP.ret ?_
          first
          | exact postQ.ret1 Tryz.results5 rfl rfl
          | (refine postQ.ret1 Tryz.results5 rfl ?_; simp [AV.close, AV.close.closeL, B, I]; done)
          | (refine postQ.ret1 Tryz.results5 rfl ?_; simp [AV.close, AV.close.closeL, B, I]; omega)
          | (refine postQ.ret1 Tryz.results5 rfl ?_; simp_all [AV.close, AV.close.closeL, B, I]; done)
          | (refine postQ.ret1 Tryz.results5 rfl ?_; simp_all [AV.close, AV.close.closeL, B, I]; omega)
        · skip
          exfalso
          simp at h33
          exact hne h33
set_option maxHeartbeats 4000000 in
set_option maxRecDepth 20000 in
theorem PillowWitnesses_b_false (p : Plw) (w : List Sp) (l y : List Int) (n : Int) (hw1 : w.length ≤ 9223372036854775807) (hl1 : l.length ≤ 9223372036854775807) (hy1 : y.length ≤ 9223372036854775807) (h0 : entE p w l n = 0) : FSpecG Tryz.prog TAB 5 [.agg (eP p), .sl (sps w), .sl (ints l), .sl (ints y), I n, B false] (B true) (none) := by
  refine FSpecG.of_body tab_stable Tryz.func5 rfl (leB rfl) fun w0 M0 hG => ?_
  have hW := Witness_s_false p w l hw1 hl1 n
  have hEn := Entry_s p w l hw1 hl1 n
  obtain ⟨hz, hn, ha⟩ := entE_0 h0
  obtain ⟨hp, hq, hll⟩ := rcE_hyp hz
  have h32 := hp.len
  have hwe : witE p w l n (rcE p w l) = 0 := h0
  rw [show witL p w l n (rcE p w l) false = outW false (endsP p w l) from if_pos hwe] at hW
  rw [h0] at hW hEn
  have hL := LoadsR_s p w l hw1 hl1
  rw [show ldL p w l (rcE p w l) = endsP p w l from if_pos ⟨hz, ha⟩, show ldE p w l (rcE p w l) = 0 from (if_neg (fun h => h.2 ha)).trans hz] at hL
  have hol := outW_len (most := false) (p := p) (w := w) (l := l)
  have hC := CheckWitnessR_s p w l (outW false (endsP p w l)) hw1 hl1 (by rw [hol]; exact hl1)
  rw [cwE_outW false hz ha] at hC
  have hx := ints_gW (most := false) (p := p) (w := w) (l := l) (k := n) (j := n.toNat) rfl (by omega)
  have hel : (endsP p w l).length = l.length := by simp [endsP]
  have hee := sps_gD (L := endsP p w l) (k := n) (j := n.toNat) rfl (by omega)
  rw [endsP_gD (by omega)] at hee
  refine AWP.seq ?_
  refine AWP.region ?_
  refine AOps.call (o_box _ rfl rfl rfl) ?_
  refine AOps.call (o_assign _ rfl rfl) ?_
  refine AOps.nil ?_
  refine AWP.seq ?_
  refine AWP.seq ?_
  refine AWP.region ?_
  refine AOps.call (o_callG (sane_s) hG Tryz.call12 rfl rfl) ?_
  refine AOps.call (o_un _ rfl (fun _ => rfl) rfl) ?_
  refine AOps.nil ?_
  refine AWP.cond _ rfl (fun h4 => ?_) (fun h4 => ?_)
  · skip
    exfalso
    simp at h4
  · skip
    refine AWP.skip ?_
    refine AWP.seq ?_
    refine AWP.seq ?_
    refine AWP.drawn 11 mixed (by kernel_rfl) ?_
    refine AHead.call (o_loadRef _ rfl rfl Tryz.sizeOf24 Tryz.isAgg24 rfl rfl rfl) rfl ?_
    refine AHead.call (o_move _ rfl rfl) rfl ?_
    refine AHead.call (o_move _ rfl rfl) rfl ?_
    refine AHead.call (o_move _ rfl rfl) rfl ?_
    refine AHead.call (o_call (CheckWitness_s p w l y hw1 hl1) Tryz.call31 rfl rfl) rfl ?_
    refine AHead.call (o_loadRef _ rfl rfl Tryz.sizeOf24 Tryz.isAgg24 rfl rfl rfl) rfl ?_
    refine AHead.call (o_move _ rfl rfl) rfl ?_
    refine AHead.call (o_move _ rfl rfl) rfl ?_
    refine AHead.call (o_move _ rfl rfl) rfl ?_
    refine AHead.call (o_call (CheckWitnessR_s p w l y hw1 hl1 hy1) Tryz.call32 rfl rfl) rfl ?_
    refine AHead.call (o_bin _ _ rfl rfl (fun _ => rfl) rfl) rfl ?_
    refine AHead.nil ?_
    refine AOps.nil ?_
    refine AWP.cond _ rfl (fun h16 => ?_) (fun h16 => ?_)
    · skip
      exfalso
      simp at h16
    · skip
      refine AWP.skip ?_
      refine AWP.seq ?_
      refine AWP.region ?_
      refine AOps.call (o_loadRef _ rfl rfl Tryz.sizeOf24 Tryz.isAgg24 rfl rfl rfl) ?_
      refine AOps.call (o_move _ rfl rfl) ?_
      refine AOps.call (o_move _ rfl rfl) ?_
      refine AOps.call (o_move _ rfl rfl) ?_
      refine AOps.call (o_move _ rfl rfl) ?_
      refine AOps.call (o_call (hW) Tryz.call33 rfl rfl) ?_
      refine AOps.call (o_move _ rfl rfl) ?_
      refine AOps.call (o_extract _ rfl rfl rfl rfl) ?_
      refine AOps.call (o_extract _ rfl rfl rfl rfl) ?_
      refine AOps.call (o_assign _ rfl rfl) ?_
      refine AOps.call (o_assign _ rfl rfl) ?_
      refine AOps.nil ?_
      refine AWP.seq ?_
      refine AWP.seq ?_
      refine AWP.region ?_
      refine AOps.call (o_move _ rfl rfl) ?_
      refine AOps.call (o_loadRef _ rfl rfl Tryz.sizeOf24 Tryz.isAgg24 rfl rfl rfl) ?_
      refine AOps.call (o_move _ rfl rfl) ?_
      refine AOps.call (o_move _ rfl rfl) ?_
      refine AOps.call (o_move _ rfl rfl) ?_
      refine AOps.call (o_call (hEn) Tryz.call34 rfl rfl) ?_
      refine AOps.call (o_bin _ _ rfl rfl (fun _ => rfl) rfl) ?_
      refine AOps.nil ?_
      refine AWP.cond _ rfl (fun h31 => ?_) (fun h31 => ?_)
      · skip
        exfalso
        exact absurd h31 (by decide)
      · skip
        refine AWP.skip ?_
        refine AWP.seq ?_
        refine AWP.seq ?_
        refine AWP.region ?_
        refine AOps.call (o_move _ rfl rfl) ?_
        refine AOps.call (o_bin _ _ rfl rfl (fun _ => rfl) rfl) ?_
        refine AOps.nil ?_
        refine AWP.cond _ rfl (fun h33 => ?_) (fun h33 => ?_)
        · skip
          exfalso
          exact absurd h33 (by decide)
        · skip
          refine AWP.skip ?_
          refine AWP.seq ?_
          refine AWP.region ?_
          refine AOps.call (o_loadRef _ rfl rfl Tryz.sizeOf24 Tryz.isAgg24 rfl rfl rfl) ?_
          refine AOps.call (o_move _ rfl rfl) ?_
          refine AOps.call (o_move _ rfl rfl) ?_
          refine AOps.call (o_call (hL) Tryz.call28 rfl rfl) ?_
          refine AOps.call (o_move _ rfl rfl) ?_
          refine AOps.call (o_extract _ rfl rfl rfl rfl) ?_
          refine AOps.call (o_extract _ rfl rfl rfl rfl) ?_
          refine AOps.call (o_assign _ rfl rfl) ?_
          refine AOps.call (o_assign _ rfl rfl) ?_
          refine AOps.nil ?_
          refine AWP.seq ?_
          refine AWP.seq ?_
          refine AWP.region ?_
          refine AOps.call (o_move _ rfl rfl) ?_
          refine AOps.call (o_bin _ _ rfl rfl (fun _ => rfl) rfl) ?_
          refine AOps.call (o_move _ rfl rfl) ?_
          refine AOps.split rfl rfl rfl (fun h41 => ?_) (fun h41 => ?_)
          · skip
            refine AOps.go rfl rfl rfl h41 (o_loadRef _ rfl rfl Tryz.sizeOf24 Tryz.isAgg24 rfl rfl rfl) ?_
            refine AOps.go rfl rfl rfl h41 (o_move _ rfl rfl) ?_
            refine AOps.go rfl rfl rfl h41 (o_move _ rfl rfl) ?_
            refine AOps.go rfl rfl rfl h41 (o_move _ rfl rfl) ?_
            refine AOps.go rfl rfl rfl h41 (o_call (hC) Tryz.call32 rfl rfl) ?_
            refine AOps.go rfl rfl rfl h41 (o_bin _ _ rfl rfl (fun _ => rfl) rfl) ?_
            refine AOps.call (o_pickF _ _ _ rfl h41 rfl rfl) ?_
            refine AOps.nil ?_
            refine AWP.cond _ rfl (fun h47 => ?_) (fun h47 => ?_)
            · skip
              exfalso
              exact absurd h47 (by decide)
            · skip
              refine AWP.skip ?_
              refine AWP.seq ?_
              refine AWP.seq ?_
              refine AWP.region ?_
              refine AOps.call (o_move _ rfl rfl) ?_
              refine AOps.nil ?_
              refine AWP.cond _ rfl (fun h49 => ?_) (fun h49 => ?_)
              · skip
                exfalso
                exact absurd h49 (by decide)
              · skip
                refine AWP.skip ?_
                refine AWP.seq ?_
                refine AWP.drawn 11 mixed (by kernel_rfl) ?_
                refine AHead.call (o_move _ rfl rfl) rfl ?_
                refine AHead.call (o_move _ rfl rfl) rfl ?_
                refine AHead.call (o_index _ _ Tryz.underlying25 Tryz.sizeOf3 rfl rfl (by omega) hx rfl rfl) rfl ?_
                refine AHead.call (o_loadRd _ rfl Tryz.sizeOf3 Tryz.isAgg3 rfl rfl rfl) rfl ?_
                refine AHead.call (o_move _ rfl rfl) rfl ?_
                refine AHead.call (o_move _ rfl rfl) rfl ?_
                refine AHead.call (o_index _ _ Tryz.underlying38 Tryz.sizeOf54 rfl rfl (by omega) hee rfl rfl) rfl ?_
                refine AHead.call (o_fieldRd _ rfl fa54_0 rfl) rfl ?_
                refine AHead.call (o_loadRd _ rfl Tryz.sizeOf3 Tryz.isAgg3 rfl rfl rfl) rfl ?_
                refine AHead.call (o_bin _ _ rfl rfl (fun _ => rfl) rfl) rfl ?_
                refine AHead.call (o_assign _ rfl rfl) rfl ?_
                refine AHead.nil ?_
                refine AOps.nil ?_
                refine AWP.ret ?_
                first
                | exact postQ.ret1 Tryz.results5 rfl rfl
                | (refine postQ.ret1 Tryz.results5 rfl ?_; simp [AV.close, AV.close.closeL, B, I]; done)
                | (refine postQ.ret1 Tryz.results5 rfl ?_; simp [AV.close, AV.close.closeL, B, I]; omega)
                | (refine postQ.ret1 Tryz.results5 rfl ?_; simp_all [AV.close, AV.close.closeL, B, I]; done)
                | (refine postQ.ret1 Tryz.results5 rfl ?_; simp_all [AV.close, AV.close.closeL, B, I]; omega)
                | (refine postQ.ret1 Tryz.results5 rfl ?_; simp [AV.close, AV.close.closeL, B, I, endV]; done)
          · skip
            exfalso
            exact absurd h41 (by decide)
theorem PillowWitnesses_s (p : Plw) (w : List Sp) (l y : List Int) (n : Int) (most : Bool) (hw1 : w.length ≤ 9223372036854775807) (hl1 : l.length ≤ 9223372036854775807) (hy1 : y.length ≤ 9223372036854775807) : FSpecG Tryz.prog TAB 5 [.agg (eP p), .sl (sps w), .sl (ints l), .sl (ints y), I n, B most] (B true) none := by
  by_cases h : entE p w l n = 0
  · cases most with
    | true => exact PillowWitnesses_b_true p w l y n hw1 hl1 hy1 h
    | false => exact PillowWitnesses_b_false p w l y n hw1 hl1 hy1 h
  · cases most with
    | true => exact PillowWitnesses_a_true p w l y n hw1 hl1 hy1 h
    | false => exact PillowWitnesses_a_false p w l y n hw1 hl1 hy1 h
end Go.Proofs.YtelenedgaoglaaaGreatDoor
