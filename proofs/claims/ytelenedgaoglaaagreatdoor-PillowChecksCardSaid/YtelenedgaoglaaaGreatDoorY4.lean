/- Y4. -/
import Derived.Test.YtelenedgaoglaaaGreatDoorY2
import Derived.Test.YtelenedgaoglaaaGreatDoorR12
import Derived.Test.YtelenedgaoglaaaGreatDoorR21
import Derived.Test.YtelenedgaoglaaaGreatDoorZ1
import Derived.Test.YtelenedgaoglaaaGreatDoorR15
set_option linter.unusedSimpArgs false
set_option linter.unusedVariables false
namespace Go.Proofs.YtelenedgaoglaaaGreatDoor
open Go.Ab
open Go.Pil Go.RowKit
theorem logE_ok {p : Plw} (h : okP p = true) : logE p = 0 := if_pos h
theorem logE_bad {p : Plw} (h : okP p = false) : logE p = 30 := if_neg (by rw [h]; decide)
theorem okP_of {p : Plw} (h : logE p = 0) : okP p = true := by
  cases hc : okP p with
  | true => rfl
  | false => rw [logE_bad hc] at h; omega
theorem okP_no {p : Plw} (h : logE p ≠ 0) : okP p = false := by
  cases hc : okP p with
  | false => rfl
  | true => exact absurd (logE_ok hc) h
set_option maxRecDepth 20000 in
theorem CheckCaseR_s (p : Plw) (l : List Int) (hl1 : l.length ≤ 9223372036854775807) : FSpec Tryz.prog 20 [.agg (eP p), .sl (ints l)] (I (caseE p l)) (none) := by
  refine FSpec.of_body Tryz.func20 rfl (leB rfl) fun w0 M0 => ?_
  refine AWP.seq ?_
  refine AWP.region ?_
  refine AOps.call (o_box _ rfl rfl rfl) ?_
  refine AOps.call (o_assign _ rfl rfl) ?_
  refine AOps.nil ?_
  refine AWP.seq ?_
  refine AWP.seq ?_
  refine AWP.region ?_
  refine AOps.call (o_loadRef _ rfl rfl Tryz.sizeOf24 Tryz.isAgg24 rfl rfl rfl) ?_
  refine AOps.call (o_call (CheckR_s p) Tryz.call18 rfl rfl) ?_
  refine AOps.call (o_bin _ _ rfl rfl (fun _ => rfl) rfl) ?_
  refine AOps.nil ?_
  refine AWP.cond _ rfl (fun h6 => ?_) (fun h6 => ?_)
  · skip
    have hE : caseE p l = 30 := if_pos (okP_no (by simpa using h6))
    refine AWP.seq ?_
    refine AWP.region ?_
    refine AOps.call (o_assign _ rfl rfl) ?_
    refine AOps.nil ?_
    refine AWP.ret ?_
    refine postQ.ret1 Tryz.results20 rfl ?_
    rw [hE]
    rfl
  · skip
    have he := okP_of (by simpa using h6)
    have hp := okP_iff.1 he
    have hE2 : caseE p l = if l.length = p.log.length ∧ Rt (p.pb []) l then 0 else 31 := if_neg (by rw [he]; decide)
    refine AWP.skip ?_
    refine AWP.seq ?_
    refine AWP.seq ?_
    refine AWP.region ?_
    refine AOps.call (o_loadRef _ rfl rfl Tryz.sizeOf24 Tryz.isAgg24 rfl rfl rfl) ?_
    refine AOps.call (o_move _ rfl rfl) ?_
    refine AOps.call (o_call (right_s p l hp hl1) Tryz.call64 rfl rfl) ?_
    refine AOps.call (o_un _ rfl (fun _ => rfl) rfl) ?_
    refine AOps.nil ?_
    refine AWP.cond _ rfl (fun h12 => ?_) (fun h12 => ?_)
    · skip
      have hr : rgt p l = false := by simpa using h12
      have hE : caseE p l = 31 := by
        unfold rgt at hr
        rw [hE2, if_neg (of_decide_eq_false hr)]
      refine AWP.seq ?_
      refine AWP.region ?_
      refine AOps.call (o_assign _ rfl rfl) ?_
      refine AOps.nil ?_
      refine AWP.ret ?_
      refine postQ.ret1 Tryz.results20 rfl ?_
      rw [hE]
      rfl
    · skip
      have hr : rgt p l = true := by simpa using h12
      have hE : caseE p l = 0 := by
        unfold rgt at hr
        rw [hE2, if_pos (of_decide_eq_true hr)]
      refine AWP.skip ?_
      refine AWP.seq ?_
      refine AWP.region ?_
      refine AOps.call (o_assign _ rfl rfl) ?_
      refine AOps.nil ?_
      refine AWP.ret ?_
      refine postQ.ret1 Tryz.results20 rfl ?_
      rw [hE]
      rfl
end Go.Proofs.YtelenedgaoglaaaGreatDoor
