/- Y11. -/
import Derived.Test.YtelenedgaoglaaaGreatDoorY10
import Derived.Test.YtelenedgaoglaaaGreatDoorR29
import Derived.Test.YtelenedgaoglaaaGreatDoorR22
set_option linter.unusedSimpArgs false
set_option linter.unusedVariables false
namespace Go.Proofs.YtelenedgaoglaaaGreatDoor
open Go.Ab
open Go.Pil Go.RowKit
def Few (p : Plw) : Prop := p.log.length ≤ 8 ∨ 32 < p.log.length
theorem Few.le {p : Plw} (h : Few p) (hp : OkP p) : p.log.length ≤ 8 := by have := hp.len; unfold Few at h; omega
theorem ask0 (p : Plw) (w : List Sp) : askE p w (-1) [] = rdE p w := by
  unfold rdE
  cases h : okP p with
  | false => rw [askE_log h]; rfl
  | true =>
    cases h2 : okW p w with
    | false => rw [askE_arg h h2]; rfl
    | true => rw [askE_end h h2 rfl, if_pos (inB_iff.2 ⟨by omega, by omega⟩)]; rfl
theorem asked0_s (p : Plw) (w : List Sp) (hw1 : w.length ≤ 9223372036854775807) : FSpec Tryz.prog 67 [.agg (eP p), .sl (sps w), I (-1), .sl []] (I (rdE p w)) none := by
  rw [← ask0]
  exact asked_s p w (-1) [] hw1 (by simp) (fun m hm => by cases hm)
set_option maxHeartbeats 4000000 in
set_option maxRecDepth 20000 in
theorem CasesR_s (p : Plw) (w : List Sp) (hw1 : w.length ≤ 9223372036854775807) (hf : Few p) : FSpec Tryz.prog 24 [.agg (eP p), .sl (sps w)] (.tup [.sl (css (CasL p w)), I (CasE p w)]) (none) := by
  refine FSpec.of_body Tryz.func24 rfl (leB rfl) fun w0 M0 => ?_
  refine AWP.seq ?_
  refine AWP.region ?_
  refine AOps.call (o_box _ rfl rfl rfl) ?_
  refine AOps.call (o_nil (z := 1) (e := 25) rfl) ?_
  refine AOps.call (o_assign _ rfl rfl) ?_
  refine AOps.nil ?_
  refine AWP.seq ?_
  refine AWP.region ?_
  refine AOps.call (o_loadRef _ rfl rfl Tryz.sizeOf24 Tryz.isAgg24 rfl rfl rfl) ?_
  refine AOps.call (o_move _ rfl rfl) ?_
  refine AOps.call (o_call (asked0_s p w hw1) Tryz.call67 rfl rfl) ?_
  refine AOps.call (o_assign _ rfl rfl) ?_
  refine AOps.nil ?_
  refine AWP.seq ?_
  refine AWP.seq ?_
  refine AWP.region ?_
  refine AOps.call (o_move _ rfl rfl) ?_
  refine AOps.call (o_bin _ _ rfl rfl (fun _ => rfl) rfl) ?_
  refine AOps.nil ?_
  refine AWP.cond _ rfl (fun h8 => ?_) (fun h8 => ?_)
  · skip
    have hne : rdE p w ≠ 0 := by simpa using h8
    have hL : CasL p w = [] := if_neg hne
    have hE : CasE p w = rdE p w := if_neg hne
    refine AWP.seq ?_
    refine AWP.region ?_
    refine AOps.call (o_move _ rfl rfl) ?_
    refine AOps.call (o_nil (z := 1) (e := 25) rfl) ?_
    refine AOps.call (o_assign _ rfl rfl) ?_
    refine AOps.nil ?_
    refine AWP.ret ?_
    refine postQ.ret2 Tryz.results24 rfl rfl ?_
    rw [hL, hE]
    rfl
  · skip
    have hz : rdE p w = 0 := by simpa using h8
    obtain ⟨he, hq⟩ := rdE_0 hz
    have hp := okP_iff.1 he
    have h8 := hf.le hp
    have hgl := css_len (casesA p w)
    have hL0 : CasL p w = casL p w := if_pos hz
    have hE0 : CasE p w = casE p w := if_pos hz
    refine AWP.skip ?_
    refine AWP.seq ?_
    refine AWP.region ?_
    refine AOps.call (o_loadRef _ rfl rfl Tryz.sizeOf24 Tryz.isAgg24 rfl rfl rfl) ?_
    refine AOps.call (o_move _ rfl rfl) ?_
    refine AOps.call (o_call (remaining_s p w hp hq h8) Tryz.call68 rfl rfl) ?_
    refine AOps.call (o_assign _ rfl rfl) ?_
    refine AOps.nil ?_
    refine AWP.seq ?_
    refine AWP.seq ?_
    refine AWP.region ?_
    refine AOps.call (o_move _ rfl rfl) ?_
    refine AOps.call (o_len _ Tryz.underlying40 rfl rfl) ?_
    refine AOps.call (o_bin _ _ rfl rfl (fun _ => rfl) rfl) ?_
    refine AOps.nil ?_
    refine AWP.cond _ rfl (fun h15 => ?_) (fun h15 => ?_)
    · skip
      have h64 : 64 < (casesA p w).length := by have := of_decide_eq_true h15; omega
      have hL : CasL p w = [] := hL0.trans (if_pos h64)
      have hE : CasE p w = 2 := hE0.trans (if_pos h64)
      refine AWP.seq ?_
      refine AWP.region ?_
      refine AOps.call (o_nil (z := 1) (e := 25) rfl) ?_
      refine AOps.call (o_assign _ rfl rfl) ?_
      refine AOps.nil ?_
      refine AWP.ret ?_
      refine postQ.ret2 Tryz.results24 rfl rfl ?_
      rw [hL, hE]
      rfl
    · skip
      have h64 : ¬ 64 < (casesA p w).length := by have := of_decide_eq_false h15; omega
      have hL : CasL p w = casesA p w := hL0.trans (if_neg h64)
      have hE : CasE p w = 0 := hE0.trans (if_neg h64)
      refine AWP.skip ?_
      refine AWP.seq ?_
      refine AWP.region ?_
      refine AOps.call (o_move _ rfl rfl) ?_
      refine AOps.call (o_assign _ rfl rfl) ?_
      refine AOps.call (o_assign _ rfl rfl) ?_
      refine AOps.nil ?_
      refine AWP.ret ?_
      refine postQ.ret2 Tryz.results24 rfl rfl ?_
      rw [hL, hE]
      rfl
end Go.Proofs.YtelenedgaoglaaaGreatDoor
