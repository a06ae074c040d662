/- Y12. -/
import Derived.Test.YtelenedgaoglaaaGreatDoorY11
import Derived.Test.YtelenedgaoglaaaGreatDoorR27
import Derived.Test.YtelenedgaoglaaaGreatDoorR26
set_option linter.unusedSimpArgs false
set_option linter.unusedVariables false
namespace Go.Proofs.YtelenedgaoglaaaGreatDoor
open Go.Ab
open Go.Pil Go.RowKit
def fewB (p : Plw) : Bool := decide (p.log.length ≤ 8) || (decide (32 < p.log.length) && decide (p.log.length ≤ 40))
theorem fewB_few {p : Plw} (h : fewB p = true) : Few p := by
  unfold fewB at h; unfold Few
  simp at h; omega
theorem TreeL_len (p : Plw) (w : List Sp) : (TreeL p w).length ≤ 1000000 := by
  unfold TreeL
  by_cases h : rdE p w = 0
  · rw [if_pos h]
    obtain ⟨he, hq⟩ := rdE_0 h
    have := (okP_iff.1 he).len
    unfold treeL
    split
    · decide
    · rw [cnts_len]; omega
  · rw [if_neg h]; decide
set_option maxRecDepth 20000 in
theorem few_s (p : Plw) : FSpec Tryz.prog 22 [.agg (eP p)] (B (fewB p)) (none) := by
  refine FSpec.of_body Tryz.func22 rfl (leB rfl) fun w0 M0 => ?_
  have hpl := shws_len p.log
  refine AWP.seq ?_
  refine AWP.region ?_
  refine AOps.call (o_box _ rfl rfl rfl) ?_
  refine AOps.call (o_assign _ rfl rfl) ?_
  refine AOps.nil ?_
  refine AWP.seq ?_
  refine AWP.region ?_
  refine AOps.call (o_fieldRef _ rfl fa24_6 rfl rfl) ?_
  refine AOps.call (o_loadRef _ rfl rfl Tryz.sizeOf22 Tryz.isAgg22 rfl rfl rfl) ?_
  refine AOps.call (o_len _ Tryz.underlying22 rfl rfl) ?_
  refine AOps.call (o_bin _ _ rfl rfl (fun _ => rfl) rfl) ?_
  refine AOps.call (o_move _ rfl rfl) ?_
  refine AOps.split rfl rfl rfl (fun h6 => ?_) (fun h6 => ?_)
  · skip
    refine AOps.go rfl rfl rfl h6 (o_fieldRef _ rfl fa24_6 rfl rfl) ?_
    refine AOps.go rfl rfl rfl h6 (o_loadRef _ rfl rfl Tryz.sizeOf22 Tryz.isAgg22 rfl rfl rfl) ?_
    refine AOps.go rfl rfl rfl h6 (o_len _ Tryz.underlying22 rfl rfl) ?_
    refine AOps.go rfl rfl rfl h6 (o_bin _ _ rfl rfl (fun _ => rfl) rfl) ?_
    refine AOps.go rfl rfl rfl h6 (o_move _ rfl rfl) ?_
    refine AOps.split rfl rfl rfl (fun h11 => ?_) (fun h11 => ?_)
    · skip
      refine AOps.go rfl rfl rfl h11 (o_fieldRef _ rfl fa24_6 rfl rfl) ?_
      refine AOps.go rfl rfl rfl h11 (o_loadRef _ rfl rfl Tryz.sizeOf22 Tryz.isAgg22 rfl rfl rfl) ?_
      refine AOps.go rfl rfl rfl h11 (o_len _ Tryz.underlying22 rfl rfl) ?_
      refine AOps.go rfl rfl rfl h11 (o_bin _ _ rfl rfl (fun _ => rfl) rfl) ?_
      refine AOps.go rfl rfl rfl h6 (o_pickT _ _ _ rfl h11 rfl rfl) ?_
      refine AOps.call (o_pickF _ _ _ rfl h6 rfl rfl) ?_
      refine AOps.call (o_assign _ rfl rfl) ?_
      refine AOps.nil ?_
      refine AWP.ret ?_
      refine postQ.ret1 Tryz.results22 rfl ?_
      refine congrArg (fun b => some (B b)) ?_
      unfold fewB
      rw [Bool.eq_iff_iff]
      simp_all
      try omega
    · skip
      refine AOps.pass rfl rfl rfl h11 rfl ?_
      refine AOps.pass rfl rfl rfl h11 rfl ?_
      refine AOps.pass rfl rfl rfl h11 rfl ?_
      refine AOps.pass rfl rfl rfl h11 rfl ?_
      refine AOps.go rfl rfl rfl h6 (o_pickF _ _ _ rfl h11 rfl rfl) ?_
      refine AOps.call (o_pickF _ _ _ rfl h6 rfl rfl) ?_
      refine AOps.call (o_assign _ rfl rfl) ?_
      refine AOps.nil ?_
      refine AWP.ret ?_
      refine postQ.ret1 Tryz.results22 rfl ?_
      refine congrArg (fun b => some (B b)) ?_
      unfold fewB
      rw [Bool.eq_iff_iff]
      simp_all
      try omega
  · skip
    refine AOps.pass rfl rfl rfl h6 rfl ?_
    refine AOps.pass rfl rfl rfl h6 rfl ?_
    refine AOps.pass rfl rfl rfl h6 rfl ?_
    refine AOps.pass rfl rfl rfl h6 rfl ?_
    refine AOps.pass rfl rfl rfl h6 rfl ?_
    refine AOps.passU rfl rfl rfl rfl ?_
    refine AOps.passU rfl rfl rfl rfl ?_
    refine AOps.passU rfl rfl rfl rfl ?_
    refine AOps.passU rfl rfl rfl rfl ?_
    refine AOps.pass rfl rfl rfl h6 rfl ?_
    refine AOps.call (o_pickT _ _ _ rfl h6 rfl rfl) ?_
    refine AOps.call (o_assign _ rfl rfl) ?_
    refine AOps.nil ?_
    refine AWP.ret ?_
    refine postQ.ret1 Tryz.results22 rfl ?_
    refine congrArg (fun b => some (B b)) ?_
    unfold fewB
    rw [Bool.eq_iff_iff]
    simp_all
    try omega
set_option maxHeartbeats 4000000 in
set_option maxRecDepth 20000 in
theorem PillowTrees_s (p : Plw) (w : List Sp) (a b : List Int) (hw1 : w.length ≤ 9223372036854775807) (ha1 : a.length ≤ 9223372036854775807) (hb1 : b.length ≤ 9223372036854775807) : FSpecG Tryz.prog TAB 8 [.agg (eP p), .sl (sps w), .sl (ints a), .sl (ints b)] (B true) (none) := by
  refine FSpecG.of_body tab_stable Tryz.func8 rfl (leB rfl) fun w0 M0 hG => ?_
  have hF := few_s p
  have hS1 := ints_s (TreeL p w) (TreeL p w) (TreeL_len p w)
  rw [decide_eq_true rfl] at hS1
  have hQ1 := Tree_s p w hw1
  have hQ3 := PartedP_s p a b ha1 hb1
  have hQ4 := PartedR_s p a b ha1 hb1
  generalize prtN p a b = pn at hQ3 hQ4
  generalize prtB p a b = pb at hQ3 hQ4
  generalize prtE p a b = pe at hQ3 hQ4
  refine AWP.seq ?_
  refine AWP.region ?_
  refine AOps.call (o_box _ rfl rfl rfl) ?_
  refine AOps.call (o_assign _ rfl rfl) ?_
  refine AOps.nil ?_
  refine AWP.seq ?_
  refine AWP.seq ?_
  refine AWP.region ?_
  refine AOps.call (o_callG (sane_s) hG Tryz.call12 rfl rfl) ?_
  refine AOps.call (o_un _ rfl (fun _ => rfl) rfl) ?_
  refine AOps.nil ?_
  refine AWP.cond _ rfl (fun h4 => ?_) (fun h4 => ?_)
  · skip
    exfalso
    simp at h4
  · skip
    refine AWP.skip ?_
    refine AWP.seq ?_
    refine AWP.seq ?_
    refine AWP.region ?_
    refine AOps.call (o_loadRef _ rfl rfl Tryz.sizeOf24 Tryz.isAgg24 rfl rfl rfl) ?_
    refine AOps.call (o_call (hF) Tryz.call22 rfl rfl) ?_
    refine AOps.call (o_un _ rfl (fun _ => rfl) rfl) ?_
    refine AOps.nil ?_
    refine AWP.cond _ rfl (fun h8 => ?_) (fun h8 => ?_)
    · skip
      skip
      refine AWP.seq ?_
      refine AWP.region ?_
      refine AOps.call (o_assign _ rfl rfl) ?_
      refine AOps.nil ?_
      refine AWP.ret ?_
      first
      | exact postQ.ret1 Tryz.results8 rfl rfl
      | (refine postQ.ret1 Tryz.results8 rfl ?_; simp [AV.close, AV.close.closeL, B, I]; done)
      | (refine postQ.ret1 Tryz.results8 rfl ?_; simp [AV.close, AV.close.closeL, B, I]; omega)
      | (refine postQ.ret1 Tryz.results8 rfl ?_; simp_all [AV.close, AV.close.closeL, B, I]; done)
      | (refine postQ.ret1 Tryz.results8 rfl ?_; simp_all [AV.close, AV.close.closeL, B, I]; omega)
    · skip
      have hf := fewB_few (p := p) (by simpa using h8)
      have hQ2 := TreeR_s p w hw1 hf
      generalize TreeL p w = tl at hS1 hQ1 hQ2
      generalize TreeE p w = te at hQ1 hQ2
      refine AWP.skip ?_
      refine AWP.seq ?_
      refine AWP.region ?_
      refine AOps.call (o_loadRef _ rfl rfl Tryz.sizeOf24 Tryz.isAgg24 rfl rfl rfl) ?_
      refine AOps.call (o_move _ rfl rfl) ?_
      refine AOps.call (o_call (hQ1) Tryz.call45 rfl rfl) ?_
      refine AOps.call (o_move _ rfl rfl) ?_
      refine AOps.call (o_extract _ rfl rfl rfl rfl) ?_
      refine AOps.call (o_extract _ rfl rfl rfl rfl) ?_
      refine AOps.call (o_assign _ rfl rfl) ?_
      refine AOps.call (o_assign _ rfl rfl) ?_
      refine AOps.nil ?_
      refine AWP.seq ?_
      refine AWP.region ?_
      refine AOps.call (o_loadRef _ rfl rfl Tryz.sizeOf24 Tryz.isAgg24 rfl rfl rfl) ?_
      refine AOps.call (o_move _ rfl rfl) ?_
      refine AOps.call (o_call (hQ2) Tryz.call46 rfl rfl) ?_
      refine AOps.call (o_move _ rfl rfl) ?_
      refine AOps.call (o_extract _ rfl rfl rfl rfl) ?_
      refine AOps.call (o_extract _ rfl rfl rfl rfl) ?_
      refine AOps.call (o_assign _ rfl rfl) ?_
      refine AOps.call (o_assign _ rfl rfl) ?_
      refine AOps.nil ?_
      refine AWP.seq ?_
      refine AWP.region ?_
      refine AOps.call (o_loadRef _ rfl rfl Tryz.sizeOf24 Tryz.isAgg24 rfl rfl rfl) ?_
      refine AOps.call (o_move _ rfl rfl) ?_
      refine AOps.call (o_move _ rfl rfl) ?_
      refine AOps.call (o_call (hQ3) Tryz.call47 rfl rfl) ?_
      refine AOps.call (o_move _ rfl rfl) ?_
      refine AOps.call (o_extract _ rfl rfl rfl rfl) ?_
      refine AOps.call (o_extract _ rfl rfl rfl rfl) ?_
      refine AOps.call (o_extract _ rfl rfl rfl rfl) ?_
      refine AOps.call (o_assign _ rfl rfl) ?_
      refine AOps.call (o_assign _ rfl rfl) ?_
      refine AOps.call (o_assign _ rfl rfl) ?_
      refine AOps.nil ?_
      refine AWP.seq ?_
      refine AWP.region ?_
      refine AOps.call (o_loadRef _ rfl rfl Tryz.sizeOf24 Tryz.isAgg24 rfl rfl rfl) ?_
      refine AOps.call (o_move _ rfl rfl) ?_
      refine AOps.call (o_move _ rfl rfl) ?_
      refine AOps.call (o_call (hQ4) Tryz.call48 rfl rfl) ?_
      refine AOps.call (o_move _ rfl rfl) ?_
      refine AOps.call (o_extract _ rfl rfl rfl rfl) ?_
      refine AOps.call (o_extract _ rfl rfl rfl rfl) ?_
      refine AOps.call (o_extract _ rfl rfl rfl rfl) ?_
      refine AOps.call (o_assign _ rfl rfl) ?_
      refine AOps.call (o_assign _ rfl rfl) ?_
      refine AOps.call (o_assign _ rfl rfl) ?_
      refine AOps.nil ?_
      refine AWP.seq ?_
      refine AWP.region ?_
      refine AOps.call (o_move _ rfl rfl) ?_
      refine AOps.call (o_move _ rfl rfl) ?_
      refine AOps.call (o_call (hS1) Tryz.call49 rfl rfl) ?_
      refine AOps.call (o_move _ rfl rfl) ?_
      refine AOps.split rfl rfl rfl (fun h34 => ?_) (fun h34 => ?_)
      · skip
        refine AOps.go rfl rfl rfl h34 (o_move _ rfl rfl) ?_
        refine AOps.go rfl rfl rfl h34 (o_move _ rfl rfl) ?_
        refine AOps.go rfl rfl rfl h34 (o_bin _ _ rfl rfl (fun _ => rfl) rfl) ?_
        refine AOps.call (o_pickT _ _ _ rfl h34 rfl rfl) ?_
        refine AOps.call (o_move _ rfl rfl) ?_
        refine AOps.split rfl rfl rfl (fun h36 => ?_) (fun h36 => ?_)
        · skip
          refine AOps.go rfl rfl rfl h36 (o_move _ rfl rfl) ?_
          refine AOps.go rfl rfl rfl h36 (o_move _ rfl rfl) ?_
          refine AOps.go rfl rfl rfl h36 (o_bin _ _ rfl rfl (fun _ => rfl) rfl) ?_
          refine AOps.call (o_pickT _ _ _ rfl h36 rfl rfl) ?_
          refine AOps.call (o_move _ rfl rfl) ?_
          refine AOps.split rfl rfl rfl (fun h38 => ?_) (fun h38 => ?_)
          · skip
            refine AOps.go rfl rfl rfl h38 (o_move _ rfl rfl) ?_
            refine AOps.go rfl rfl rfl h38 (o_move _ rfl rfl) ?_
            refine AOps.go rfl rfl rfl h38 (o_bin _ _ rfl rfl (fun _ => rfl) rfl) ?_
            refine AOps.call (o_pickT _ _ _ rfl h38 rfl rfl) ?_
            refine AOps.call (o_move _ rfl rfl) ?_
            refine AOps.split rfl rfl rfl (fun h40 => ?_) (fun h40 => ?_)
            · skip
              refine AOps.go rfl rfl rfl h40 (o_move _ rfl rfl) ?_
              refine AOps.go rfl rfl rfl h40 (o_move _ rfl rfl) ?_
              refine AOps.go rfl rfl rfl h40 (o_bin _ _ rfl rfl (fun _ => rfl) rfl) ?_
              refine AOps.call (o_pickT _ _ _ rfl h40 rfl rfl) ?_
              refine AOps.call (o_assign _ rfl rfl) ?_
              refine AOps.nil ?_
              refine AWP.ret ?_
              first
              | exact postQ.ret1 Tryz.results8 rfl rfl
              | (refine postQ.ret1 Tryz.results8 rfl ?_; simp [AV.close, AV.close.closeL, B, I]; done)
              | (refine postQ.ret1 Tryz.results8 rfl ?_; simp [AV.close, AV.close.closeL, B, I]; omega)
              | (refine postQ.ret1 Tryz.results8 rfl ?_; simp_all [AV.close, AV.close.closeL, B, I]; done)
              | (refine postQ.ret1 Tryz.results8 rfl ?_; simp_all [AV.close, AV.close.closeL, B, I]; omega)
            · skip
              exfalso
              simp at h40
          · skip
            exfalso
            simp at h38
        · skip
          exfalso
          simp at h36
      · skip
        exfalso
        simp at h34
end Go.Proofs.YtelenedgaoglaaaGreatDoor
