/- Y12. -/
import Derived.Test.YtelenedgaoglaaaGreatDoorY11
import Derived.Test.YtelenedgaoglaaaGreatDoorR27
import Derived.Test.YtelenedgaoglaaaGreatDoorR26
set_option linter.unusedSimpArgs false
set_option linter.unusedVariables false
namespace Go.Proofs.YtelenedgaoglaaaGreatDoor
open Go.Ab
open Go.Pil Go.RowKit
def fewB (p : Plw) : Bool := decide (p.log.length ≤ 8) || (decide (32 < p.log.length) && decide (p.log.length ≤ 40))
theorem fewB_few {p : Plw} (h : fewB p = true) : Few p := by
  unfold fewB at h; unfold Few
  simp at h; omega
theorem CasL_ok (p : Plw) (w : List Sp) : (CasL p w).length ≤ 1000000 ∧ ∀ l ∈ CasL p w, l.length ≤ 1000000 := by
  unfold CasL
  by_cases h : rdE p w = 0
  · rw [if_pos h]
    obtain ⟨he, hq⟩ := rdE_0 h
    have hp := okP_iff.1 he
    have h32 := hp.len
    exact ⟨Nat.le_trans (casL_len p w) (by decide), fun l hl => by have := (casL_mem hp hl).1; omega⟩
  · rw [if_neg h]; exact ⟨by decide, fun l hl => by cases hl⟩
theorem ldL_len (p : Plw) (w : List Sp) (l : List Int) : (ldL p w l (rcE p w l)).length ≤ 1000000 := by
  unfold ldL
  by_cases h : rcE p w l = 0 ∧ aliveP p w l
  · rw [if_pos h]
    obtain ⟨hp, _, hll⟩ := rcE_hyp h.1
    have := hp.len
    simp [endsP]; omega
  · rw [if_neg h]; decide
set_option maxRecDepth 20000 in
theorem few_s (p : Plw) : FSpec Tryz.prog 22 [.agg (eP p)] (B (fewB p)) (none) := by
  refine FSpec.of_body Tryz.func22 rfl (leB rfl) fun w0 M0 => ?_
  have hpl := shws_len p.log
  refine AWP.seq ?_
  refine AWP.region ?_
  refine AOps.call (o_box _ rfl rfl rfl) ?_
  refine AOps.call (o_assign _ rfl rfl) ?_
  refine AOps.nil ?_
  refine AWP.seq ?_
  refine AWP.region ?_
  refine AOps.call (o_fieldRef _ rfl fa24_6 rfl rfl) ?_
  refine AOps.call (o_loadRef _ rfl rfl Tryz.sizeOf22 Tryz.isAgg22 rfl rfl rfl) ?_
  refine AOps.call (o_len _ Tryz.underlying22 rfl rfl) ?_
  refine AOps.call (o_bin _ _ rfl rfl (fun _ => rfl) rfl) ?_
  refine AOps.call (o_move _ rfl rfl) ?_
  refine AOps.split rfl rfl rfl (fun h6 => ?_) (fun h6 => ?_)
  · skip
    refine AOps.go rfl rfl rfl h6 (o_fieldRef _ rfl fa24_6 rfl rfl) ?_
    refine AOps.go rfl rfl rfl h6 (o_loadRef _ rfl rfl Tryz.sizeOf22 Tryz.isAgg22 rfl rfl rfl) ?_
    refine AOps.go rfl rfl rfl h6 (o_len _ Tryz.underlying22 rfl rfl) ?_
    refine AOps.go rfl rfl rfl h6 (o_bin _ _ rfl rfl (fun _ => rfl) rfl) ?_
    refine AOps.go rfl rfl rfl h6 (o_move _ rfl rfl) ?_
    refine AOps.split rfl rfl rfl (fun h11 => ?_) (fun h11 => ?_)
    · skip
      refine AOps.go rfl rfl rfl h11 (o_fieldRef _ rfl fa24_6 rfl rfl) ?_
      refine AOps.go rfl rfl rfl h11 (o_loadRef _ rfl rfl Tryz.sizeOf22 Tryz.isAgg22 rfl rfl rfl) ?_
      refine AOps.go rfl rfl rfl h11 (o_len _ Tryz.underlying22 rfl rfl) ?_
      refine AOps.go rfl rfl rfl h11 (o_bin _ _ rfl rfl (fun _ => rfl) rfl) ?_
      refine AOps.go rfl rfl rfl h6 (o_pickT _ _ _ rfl h11 rfl rfl) ?_
      refine AOps.call (o_pickF _ _ _ rfl h6 rfl rfl) ?_
      refine AOps.call (o_assign _ rfl rfl) ?_
      refine AOps.nil ?_
      refine AWP.ret ?_
      refine postQ.ret1 Tryz.results22 rfl ?_
      refine congrArg (fun b => some (B b)) ?_
      unfold fewB
      rw [Bool.eq_iff_iff]
      simp_all
      try omega
    · skip
      refine AOps.pass rfl rfl rfl h11 rfl ?_
      refine AOps.pass rfl rfl rfl h11 rfl ?_
      refine AOps.pass rfl rfl rfl h11 rfl ?_
      refine AOps.pass rfl rfl rfl h11 rfl ?_
      refine AOps.go rfl rfl rfl h6 (o_pickF _ _ _ rfl h11 rfl rfl) ?_
      refine AOps.call (o_pickF _ _ _ rfl h6 rfl rfl) ?_
      refine AOps.call (o_assign _ rfl rfl) ?_
      refine AOps.nil ?_
      refine AWP.ret ?_
      refine postQ.ret1 Tryz.results22 rfl ?_
      refine congrArg (fun b => some (B b)) ?_
      unfold fewB
      rw [Bool.eq_iff_iff]
      simp_all
      try omega
  · skip
    refine AOps.pass rfl rfl rfl h6 rfl ?_
    refine AOps.pass rfl rfl rfl h6 rfl ?_
    refine AOps.pass rfl rfl rfl h6 rfl ?_
    refine AOps.pass rfl rfl rfl h6 rfl ?_
    refine AOps.pass rfl rfl rfl h6 rfl ?_
    refine AOps.passU rfl rfl rfl rfl ?_
    refine AOps.passU rfl rfl rfl rfl ?_
    refine AOps.passU rfl rfl rfl rfl ?_
    refine AOps.passU rfl rfl rfl rfl ?_
    refine AOps.pass rfl rfl rfl h6 rfl ?_
    refine AOps.call (o_pickT _ _ _ rfl h6 rfl rfl) ?_
    refine AOps.call (o_assign _ rfl rfl) ?_
    refine AOps.nil ?_
    refine AWP.ret ?_
    refine postQ.ret1 Tryz.results22 rfl ?_
    refine congrArg (fun b => some (B b)) ?_
    unfold fewB
    rw [Bool.eq_iff_iff]
    simp_all
    try omega
set_option maxHeartbeats 4000000 in
set_option maxRecDepth 20000 in
theorem PillowCases_s (p : Plw) (w : List Sp) (l : List Int) (hw1 : w.length ≤ 9223372036854775807) (hl1 : l.length ≤ 9223372036854775807) : FSpecG Tryz.prog TAB 4 [.agg (eP p), .sl (sps w), .sl (ints l)] (B true) (none) := by
  refine FSpecG.of_body tab_stable Tryz.func4 rfl (leB rfl) fun w0 M0 hG => ?_
  have hF := few_s p
  have hS1 := lists_s (CasL p w) (CasL p w) (CasL_ok p w).1 (CasL_ok p w).2
  rw [decide_eq_true rfl] at hS1
  have hS2 := spans_s (ldL p w l (rcE p w l)) (ldL p w l (rcE p w l)) (ldL_len p w l)
  rw [decide_eq_true rfl] at hS2
  have hQ1 := Cases_s p w hw1
  have hQ3 := Alive_s p w l hw1 hl1
  have hQ4 := AliveR_s p w l hw1 hl1
  have hQ5 := Loads_s p w l hw1 hl1
  have hQ6 := LoadsR_s p w l hw1 hl1
  generalize ldL p w l (rcE p w l) = ll at hS2 hQ5 hQ6
  generalize ldE p w l (rcE p w l) = le at hQ5 hQ6
  generalize decide (rcE p w l = 0 ∧ aliveP p w l) = ab at hQ3 hQ4
  generalize rcE p w l = ae at hQ3 hQ4
  refine AWP.seq ?_
  refine AWP.region ?_
  refine AOps.call (o_box _ rfl rfl rfl) ?_
  refine AOps.call (o_assign _ rfl rfl) ?_
  refine AOps.nil ?_
  refine AWP.seq ?_
  refine AWP.seq ?_
  refine AWP.region ?_
  refine AOps.call (o_callG (sane_s) hG Tryz.call12 rfl rfl) ?_
  refine AOps.call (o_un _ rfl (fun _ => rfl) rfl) ?_
  refine AOps.nil ?_
  refine AWP.cond _ rfl (fun h4 => ?_) (fun h4 => ?_)
  · skip
    exfalso
    simp at h4
  · skip
    refine AWP.skip ?_
    refine AWP.seq ?_
    refine AWP.seq ?_
    refine AWP.region ?_
    refine AOps.call (o_loadRef _ rfl rfl Tryz.sizeOf24 Tryz.isAgg24 rfl rfl rfl) ?_
    refine AOps.call (o_call (hF) Tryz.call22 rfl rfl) ?_
    refine AOps.call (o_un _ rfl (fun _ => rfl) rfl) ?_
    refine AOps.nil ?_
    refine AWP.cond _ rfl (fun h8 => ?_) (fun h8 => ?_)
    · skip
      skip
      refine AWP.seq ?_
      refine AWP.region ?_
      refine AOps.call (o_assign _ rfl rfl) ?_
      refine AOps.nil ?_
      refine AWP.ret ?_
      first
      | exact postQ.ret1 Tryz.results4 rfl rfl
      | (refine postQ.ret1 Tryz.results4 rfl ?_; simp [AV.close, AV.close.closeL, B, I]; done)
      | (refine postQ.ret1 Tryz.results4 rfl ?_; simp [AV.close, AV.close.closeL, B, I]; omega)
      | (refine postQ.ret1 Tryz.results4 rfl ?_; simp_all [AV.close, AV.close.closeL, B, I]; done)
      | (refine postQ.ret1 Tryz.results4 rfl ?_; simp_all [AV.close, AV.close.closeL, B, I]; omega)
    · skip
      have hf := fewB_few (p := p) (by simpa using h8)
      have hQ2 := CasesR_s p w hw1 hf
      generalize CasL p w = cl at hS1 hQ1 hQ2
      generalize CasE p w = ce at hQ1 hQ2
      refine AWP.skip ?_
      refine AWP.seq ?_
      refine AWP.region ?_
      refine AOps.call (o_loadRef _ rfl rfl Tryz.sizeOf24 Tryz.isAgg24 rfl rfl rfl) ?_
      refine AOps.call (o_move _ rfl rfl) ?_
      refine AOps.call (o_call (hQ1) Tryz.call23 rfl rfl) ?_
      refine AOps.call (o_move _ rfl rfl) ?_
      refine AOps.call (o_extract _ rfl rfl rfl rfl) ?_
      refine AOps.call (o_extract _ rfl rfl rfl rfl) ?_
      refine AOps.call (o_assign _ rfl rfl) ?_
      refine AOps.call (o_assign _ rfl rfl) ?_
      refine AOps.nil ?_
      refine AWP.seq ?_
      refine AWP.region ?_
      refine AOps.call (o_loadRef _ rfl rfl Tryz.sizeOf24 Tryz.isAgg24 rfl rfl rfl) ?_
      refine AOps.call (o_move _ rfl rfl) ?_
      refine AOps.call (o_call (hQ2) Tryz.call24 rfl rfl) ?_
      refine AOps.call (o_move _ rfl rfl) ?_
      refine AOps.call (o_extract _ rfl rfl rfl rfl) ?_
      refine AOps.call (o_extract _ rfl rfl rfl rfl) ?_
      refine AOps.call (o_assign _ rfl rfl) ?_
      refine AOps.call (o_assign _ rfl rfl) ?_
      refine AOps.nil ?_
      refine AWP.seq ?_
      refine AWP.region ?_
      refine AOps.call (o_loadRef _ rfl rfl Tryz.sizeOf24 Tryz.isAgg24 rfl rfl rfl) ?_
      refine AOps.call (o_move _ rfl rfl) ?_
      refine AOps.call (o_move _ rfl rfl) ?_
      refine AOps.call (o_call (hQ3) Tryz.call25 rfl rfl) ?_
      refine AOps.call (o_move _ rfl rfl) ?_
      refine AOps.call (o_extract _ rfl rfl rfl rfl) ?_
      refine AOps.call (o_extract _ rfl rfl rfl rfl) ?_
      refine AOps.call (o_assign _ rfl rfl) ?_
      refine AOps.call (o_assign _ rfl rfl) ?_
      refine AOps.nil ?_
      refine AWP.seq ?_
      refine AWP.region ?_
      refine AOps.call (o_loadRef _ rfl rfl Tryz.sizeOf24 Tryz.isAgg24 rfl rfl rfl) ?_
      refine AOps.call (o_move _ rfl rfl) ?_
      refine AOps.call (o_move _ rfl rfl) ?_
      refine AOps.call (o_call (hQ4) Tryz.call26 rfl rfl) ?_
      refine AOps.call (o_move _ rfl rfl) ?_
      refine AOps.call (o_extract _ rfl rfl rfl rfl) ?_
      refine AOps.call (o_extract _ rfl rfl rfl rfl) ?_
      refine AOps.call (o_assign _ rfl rfl) ?_
      refine AOps.call (o_assign _ rfl rfl) ?_
      refine AOps.nil ?_
      refine AWP.seq ?_
      refine AWP.region ?_
      refine AOps.call (o_loadRef _ rfl rfl Tryz.sizeOf24 Tryz.isAgg24 rfl rfl rfl) ?_
      refine AOps.call (o_move _ rfl rfl) ?_
      refine AOps.call (o_move _ rfl rfl) ?_
      refine AOps.call (o_call (hQ5) Tryz.call27 rfl rfl) ?_
      refine AOps.call (o_move _ rfl rfl) ?_
      refine AOps.call (o_extract _ rfl rfl rfl rfl) ?_
      refine AOps.call (o_extract _ rfl rfl rfl rfl) ?_
      refine AOps.call (o_assign _ rfl rfl) ?_
      refine AOps.call (o_assign _ rfl rfl) ?_
      refine AOps.nil ?_
      refine AWP.seq ?_
      refine AWP.region ?_
      refine AOps.call (o_loadRef _ rfl rfl Tryz.sizeOf24 Tryz.isAgg24 rfl rfl rfl) ?_
      refine AOps.call (o_move _ rfl rfl) ?_
      refine AOps.call (o_move _ rfl rfl) ?_
      refine AOps.call (o_call (hQ6) Tryz.call28 rfl rfl) ?_
      refine AOps.call (o_move _ rfl rfl) ?_
      refine AOps.call (o_extract _ rfl rfl rfl rfl) ?_
      refine AOps.call (o_extract _ rfl rfl rfl rfl) ?_
      refine AOps.call (o_assign _ rfl rfl) ?_
      refine AOps.call (o_assign _ rfl rfl) ?_
      refine AOps.nil ?_
      refine AWP.seq ?_
      refine AWP.region ?_
      refine AOps.call (o_move _ rfl rfl) ?_
      refine AOps.call (o_move _ rfl rfl) ?_
      refine AOps.call (o_call (hS1) Tryz.call29 rfl rfl) ?_
      refine AOps.call (o_move _ rfl rfl) ?_
      refine AOps.split rfl rfl rfl (fun h44 => ?_) (fun h44 => ?_)
      · skip
        refine AOps.go rfl rfl rfl h44 (o_move _ rfl rfl) ?_
        refine AOps.go rfl rfl rfl h44 (o_move _ rfl rfl) ?_
        refine AOps.go rfl rfl rfl h44 (o_bin _ _ rfl rfl (fun _ => rfl) rfl) ?_
        refine AOps.call (o_pickT _ _ _ rfl h44 rfl rfl) ?_
        refine AOps.call (o_move _ rfl rfl) ?_
        refine AOps.split rfl rfl rfl (fun h46 => ?_) (fun h46 => ?_)
        · skip
          refine AOps.go rfl rfl rfl h46 (o_move _ rfl rfl) ?_
          refine AOps.go rfl rfl rfl h46 (o_move _ rfl rfl) ?_
          refine AOps.go rfl rfl rfl h46 (o_bin _ _ rfl rfl (fun _ => rfl) rfl) ?_
          refine AOps.call (o_pickT _ _ _ rfl h46 rfl rfl) ?_
          refine AOps.call (o_move _ rfl rfl) ?_
          refine AOps.split rfl rfl rfl (fun h48 => ?_) (fun h48 => ?_)
          · skip
            refine AOps.go rfl rfl rfl h48 (o_move _ rfl rfl) ?_
            refine AOps.go rfl rfl rfl h48 (o_move _ rfl rfl) ?_
            refine AOps.go rfl rfl rfl h48 (o_bin _ _ rfl rfl (fun _ => rfl) rfl) ?_
            refine AOps.call (o_pickT _ _ _ rfl h48 rfl rfl) ?_
            refine AOps.call (o_move _ rfl rfl) ?_
            refine AOps.split rfl rfl rfl (fun h50 => ?_) (fun h50 => ?_)
            · skip
              refine AOps.go rfl rfl rfl h50 (o_move _ rfl rfl) ?_
              refine AOps.go rfl rfl rfl h50 (o_move _ rfl rfl) ?_
              refine AOps.go rfl rfl rfl h50 (o_call (hS2) Tryz.call30 rfl rfl) ?_
              refine AOps.call (o_pickT _ _ _ rfl h50 rfl rfl) ?_
              refine AOps.call (o_move _ rfl rfl) ?_
              refine AOps.split rfl rfl rfl (fun h52 => ?_) (fun h52 => ?_)
              · skip
                refine AOps.go rfl rfl rfl h52 (o_move _ rfl rfl) ?_
                refine AOps.go rfl rfl rfl h52 (o_move _ rfl rfl) ?_
                refine AOps.go rfl rfl rfl h52 (o_bin _ _ rfl rfl (fun _ => rfl) rfl) ?_
                refine AOps.call (o_pickT _ _ _ rfl h52 rfl rfl) ?_
                refine AOps.call (o_assign _ rfl rfl) ?_
                refine AOps.nil ?_
                refine AWP.ret ?_
                first
                | exact postQ.ret1 Tryz.results4 rfl rfl
                | (refine postQ.ret1 Tryz.results4 rfl ?_; simp [AV.close, AV.close.closeL, B, I]; done)
                | (refine postQ.ret1 Tryz.results4 rfl ?_; simp [AV.close, AV.close.closeL, B, I]; omega)
                | (refine postQ.ret1 Tryz.results4 rfl ?_; simp_all [AV.close, AV.close.closeL, B, I]; done)
                | (refine postQ.ret1 Tryz.results4 rfl ?_; simp_all [AV.close, AV.close.closeL, B, I]; omega)
              · skip
                exfalso
                simp at h52
            · skip
              exfalso
              simp at h50
          · skip
            exfalso
            simp at h48
        · skip
          exfalso
          simp at h46
      · skip
        exfalso
        simp at h44
end Go.Proofs.YtelenedgaoglaaaGreatDoor
