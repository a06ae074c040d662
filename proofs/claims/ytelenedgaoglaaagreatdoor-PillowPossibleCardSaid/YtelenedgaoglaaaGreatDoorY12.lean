/- Y12. -/
import Derived.Test.YtelenedgaoglaaaGreatDoorY11
import Derived.Test.YtelenedgaoglaaaGreatDoorR27
import Derived.Test.YtelenedgaoglaaaGreatDoorR26
set_option linter.unusedSimpArgs false
set_option linter.unusedVariables false
namespace Go.Proofs.YtelenedgaoglaaaGreatDoor
open Go.Ab
open Go.Pil Go.RowKit
def fewB (p : Plw) : Bool := decide (p.log.length ≤ 8) || (decide (32 < p.log.length) && decide (p.log.length ≤ 40))
theorem fewB_few {p : Plw} (h : fewB p = true) : Few p := by
  unfold fewB at h; unfold Few
  simp at h; omega
set_option maxRecDepth 20000 in
theorem few_s (p : Plw) : FSpec Tryz.prog 22 [.agg (eP p)] (B (fewB p)) (none) := by
  refine FSpec.of_body Tryz.func22 rfl (leB rfl) fun w0 M0 => ?_
  have hpl := shws_len p.log
  refine AWP.seq ?_
  refine AWP.region ?_
  refine AOps.call (o_box _ rfl rfl rfl) ?_
  refine AOps.call (o_assign _ rfl rfl) ?_
  refine AOps.nil ?_
  refine AWP.seq ?_
  refine AWP.region ?_
  refine AOps.call (o_fieldRef _ rfl fa24_6 rfl rfl) ?_
  refine AOps.call (o_loadRef _ rfl rfl Tryz.sizeOf22 Tryz.isAgg22 rfl rfl rfl) ?_
  refine AOps.call (o_len _ Tryz.underlying22 rfl rfl) ?_
  refine AOps.call (o_bin _ _ rfl rfl (fun _ => rfl) rfl) ?_
  refine AOps.call (o_move _ rfl rfl) ?_
  refine AOps.split rfl rfl rfl (fun h6 => ?_) (fun h6 => ?_)
  · skip
    refine AOps.go rfl rfl rfl h6 (o_fieldRef _ rfl fa24_6 rfl rfl) ?_
    refine AOps.go rfl rfl rfl h6 (o_loadRef _ rfl rfl Tryz.sizeOf22 Tryz.isAgg22 rfl rfl rfl) ?_
    refine AOps.go rfl rfl rfl h6 (o_len _ Tryz.underlying22 rfl rfl) ?_
    refine AOps.go rfl rfl rfl h6 (o_bin _ _ rfl rfl (fun _ => rfl) rfl) ?_
    refine AOps.go rfl rfl rfl h6 (o_move _ rfl rfl) ?_
    refine AOps.split rfl rfl rfl (fun h11 => ?_) (fun h11 => ?_)
    · skip
      refine AOps.go rfl rfl rfl h11 (o_fieldRef _ rfl fa24_6 rfl rfl) ?_
      refine AOps.go rfl rfl rfl h11 (o_loadRef _ rfl rfl Tryz.sizeOf22 Tryz.isAgg22 rfl rfl rfl) ?_
      refine AOps.go rfl rfl rfl h11 (o_len _ Tryz.underlying22 rfl rfl) ?_
      refine AOps.go rfl rfl rfl h11 (o_bin _ _ rfl rfl (fun _ => rfl) rfl) ?_
      refine AOps.go rfl rfl rfl h6 (o_pickT _ _ _ rfl h11 rfl rfl) ?_
      refine AOps.call (o_pickF _ _ _ rfl h6 rfl rfl) ?_
      refine AOps.call (o_assign _ rfl rfl) ?_
      refine AOps.nil ?_
      refine AWP.ret ?_
      refine postQ.ret1 Tryz.results22 rfl ?_
      refine congrArg (fun b => some (B b)) ?_
      unfold fewB
      rw [Bool.eq_iff_iff]
      simp_all
      try omega
    · skip
      refine AOps.pass rfl rfl rfl h11 rfl ?_
      refine AOps.pass rfl rfl rfl h11 rfl ?_
      refine AOps.pass rfl rfl rfl h11 rfl ?_
      refine AOps.pass rfl rfl rfl h11 rfl ?_
      refine AOps.go rfl rfl rfl h6 (o_pickF _ _ _ rfl h11 rfl rfl) ?_
      refine AOps.call (o_pickF _ _ _ rfl h6 rfl rfl) ?_
      refine AOps.call (o_assign _ rfl rfl) ?_
      refine AOps.nil ?_
      refine AWP.ret ?_
      refine postQ.ret1 Tryz.results22 rfl ?_
      refine congrArg (fun b => some (B b)) ?_
      unfold fewB
      rw [Bool.eq_iff_iff]
      simp_all
      try omega
  · skip
    refine AOps.pass rfl rfl rfl h6 rfl ?_
    refine AOps.pass rfl rfl rfl h6 rfl ?_
    refine AOps.pass rfl rfl rfl h6 rfl ?_
    refine AOps.pass rfl rfl rfl h6 rfl ?_
    refine AOps.pass rfl rfl rfl h6 rfl ?_
    refine AOps.passU rfl rfl rfl rfl ?_
    refine AOps.passU rfl rfl rfl rfl ?_
    refine AOps.passU rfl rfl rfl rfl ?_
    refine AOps.passU rfl rfl rfl rfl ?_
    refine AOps.pass rfl rfl rfl h6 rfl ?_
    refine AOps.call (o_pickT _ _ _ rfl h6 rfl rfl) ?_
    refine AOps.call (o_assign _ rfl rfl) ?_
    refine AOps.nil ?_
    refine AWP.ret ?_
    refine postQ.ret1 Tryz.results22 rfl ?_
    refine congrArg (fun b => some (B b)) ?_
    unfold fewB
    rw [Bool.eq_iff_iff]
    simp_all
    try omega
end Go.Proofs.YtelenedgaoglaaaGreatDoor
