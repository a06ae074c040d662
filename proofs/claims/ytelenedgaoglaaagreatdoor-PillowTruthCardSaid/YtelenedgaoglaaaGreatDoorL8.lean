/- L8. -/
import Derived.Test.YtelenedgaoglaaaGreatDoorL7
set_option linter.unusedSimpArgs false
set_option linter.unusedVariables false
namespace Go.Proofs.YtelenedgaoglaaaGreatDoor
open Go.Ab
open Go.Pil Go.RowKit
set_option maxHeartbeats 4000000 in
set_option maxRecDepth 20000 in
theorem PillowTruth_a (t : Tru) (hch : t.changes.length = 9223372036854775807) : FSpecG Tryz.prog TAB 11 [.agg (eT t)] (B true) (none) := by
  refine FSpecG.of_body tab_stable Tryz.func11 rfl (leB rfl) fun w0 M0 hG => ?_
  have hic := ints_len t.changes
  have his := ints_len t.states
  have hbig : ((ints t.changes).length : Int) = 9223372036854775807 := by rw [hic, hch]; rfl
  refine AWP.seq ?_
  refine AWP.region ?_
  refine AOps.call (o_box _ rfl rfl rfl) ?_
  refine AOps.call (o_assign _ rfl rfl) ?_
  refine AOps.nil ?_
  refine AWP.seq ?_
  refine AWP.seq ?_
  refine AWP.region ?_
  refine AOps.call (o_callG (sane_s) hG Tryz.call12 rfl rfl) ?_
  refine AOps.call (o_un _ rfl (fun _ => rfl) rfl) ?_
  refine AOps.nil ?_
  refine AWP.cond _ rfl (fun h4 => ?_) (fun h4 => ?_)
  · skip
    exfalso
    simp at h4
  · skip
    refine AWP.skip ?_
    refine AWP.seq ?_
    refine AWP.region ?_
    refine AOps.call (o_fieldRef _ rfl fa78_5 rfl rfl) ?_
    refine AOps.call (o_loadRef _ rfl rfl Tryz.sizeOf25 Tryz.isAgg25 rfl rfl rfl) ?_
    refine AOps.call (o_len _ Tryz.underlying25 rfl rfl) ?_
    refine AOps.call (o_bin (cv := .int .i64 (-9223372036854775808)) _ _ rfl rfl (fun w => by rw [hbig]; rfl) rfl) ?_
    refine AOps.call (o_assign _ rfl rfl) ?_
    refine AOps.nil ?_
    refine AWP.seq ?_
    refine AWP.seq ?_
    refine AWP.region ?_
    refine AOps.call (o_move _ rfl rfl) ?_
    refine AOps.call (o_bin _ _ rfl rfl (fun _ => rfl) rfl) ?_
    refine AOps.call (o_move _ rfl rfl) ?_
    refine AOps.split rfl rfl rfl (fun h10 => ?_) (fun h10 => ?_)
    · skip
      refine AOps.go rfl rfl rfl h10 (o_fieldRef _ rfl fa78_6 rfl rfl) ?_
      refine AOps.go rfl rfl rfl h10 (o_loadRef _ rfl rfl Tryz.sizeOf25 Tryz.isAgg25 rfl rfl rfl) ?_
      refine AOps.go rfl rfl rfl h10 (o_len _ Tryz.underlying25 rfl rfl) ?_
      refine AOps.go rfl rfl rfl h10 (o_move _ rfl rfl) ?_
      refine AOps.go rfl rfl rfl h10 (o_bin _ _ rfl rfl (fun _ => rfl) rfl) ?_
      refine AOps.call (o_pickF _ _ _ rfl h10 rfl rfl) ?_
      refine AOps.call (o_move _ rfl rfl) ?_
      refine AOps.split rfl rfl rfl (fun h15 => ?_) (fun h15 => ?_)
      · skip
        exfalso
        have hq := h15
        first
        | (simp at hq; done)
        | (simp at hq; omega)
      · skip
        refine AOps.pass rfl rfl rfl h15 rfl ?_
        refine AOps.pass rfl rfl rfl h15 rfl ?_
        refine AOps.pass rfl rfl rfl h15 rfl ?_
        refine AOps.pass rfl rfl rfl h15 rfl ?_
        refine AOps.pass rfl rfl rfl h15 rfl ?_
        refine AOps.call (o_pickT _ _ _ rfl h15 rfl rfl) ?_
        refine AOps.call (o_move _ rfl rfl) ?_
        refine AOps.pass rfl rfl rfl rfl rfl ?_
        refine AOps.pass rfl rfl rfl rfl rfl ?_
        refine AOps.pass rfl rfl rfl rfl rfl ?_
        refine AOps.pass rfl rfl rfl rfl rfl ?_
        refine AOps.pass rfl rfl rfl rfl rfl ?_
        refine AOps.call (o_pickT _ _ _ rfl rfl rfl rfl) ?_
        refine AOps.call (o_move _ rfl rfl) ?_
        refine AOps.pass rfl rfl rfl rfl rfl ?_
        refine AOps.pass rfl rfl rfl rfl rfl ?_
        refine AOps.pass rfl rfl rfl rfl rfl ?_
        refine AOps.pass rfl rfl rfl rfl rfl ?_
        refine AOps.pass rfl rfl rfl rfl rfl ?_
        refine AOps.call (o_pickT _ _ _ rfl rfl rfl rfl) ?_
        refine AOps.call (o_move _ rfl rfl) ?_
        refine AOps.pass rfl rfl rfl rfl rfl ?_
        refine AOps.pass rfl rfl rfl rfl rfl ?_
        refine AOps.pass rfl rfl rfl rfl rfl ?_
        refine AOps.call (o_pickT _ _ _ rfl rfl rfl rfl) ?_
        refine AOps.call (o_move _ rfl rfl) ?_
        refine AOps.pass rfl rfl rfl rfl rfl ?_
        refine AOps.pass rfl rfl rfl rfl rfl ?_
        refine AOps.pass rfl rfl rfl rfl rfl ?_
        refine AOps.call (o_pickT _ _ _ rfl rfl rfl rfl) ?_
        refine AOps.call (o_move _ rfl rfl) ?_
        refine AOps.pass rfl rfl rfl rfl rfl ?_
        refine AOps.pass rfl rfl rfl rfl rfl ?_
        refine AOps.pass rfl rfl rfl rfl rfl ?_
        refine AOps.call (o_pickT _ _ _ rfl rfl rfl rfl) ?_
        refine AOps.call (o_move _ rfl rfl) ?_
        refine AOps.pass rfl rfl rfl rfl rfl ?_
        refine AOps.pass rfl rfl rfl rfl rfl ?_
        refine AOps.pass rfl rfl rfl rfl rfl ?_
        refine AOps.call (o_pickT _ _ _ rfl rfl rfl rfl) ?_
        refine AOps.call (o_move _ rfl rfl) ?_
        refine AOps.pass rfl rfl rfl rfl rfl ?_
        refine AOps.pass rfl rfl rfl rfl rfl ?_
        refine AOps.pass rfl rfl rfl rfl rfl ?_
        refine AOps.call (o_pickT _ _ _ rfl rfl rfl rfl) ?_
        refine AOps.call (o_move _ rfl rfl) ?_
        refine AOps.pass rfl rfl rfl rfl rfl ?_
        refine AOps.pass rfl rfl rfl rfl rfl ?_
        refine AOps.pass rfl rfl rfl rfl rfl ?_
        refine AOps.call (o_pickT _ _ _ rfl rfl rfl rfl) ?_
        refine AOps.call (o_move _ rfl rfl) ?_
        refine AOps.pass rfl rfl rfl rfl rfl ?_
        refine AOps.pass rfl rfl rfl rfl rfl ?_
        refine AOps.pass rfl rfl rfl rfl rfl ?_
        refine AOps.call (o_pickT _ _ _ rfl rfl rfl rfl) ?_
        refine AOps.call (o_move _ rfl rfl) ?_
        refine AOps.pass rfl rfl rfl rfl rfl ?_
        refine AOps.pass rfl rfl rfl rfl rfl ?_
        refine AOps.pass rfl rfl rfl rfl rfl ?_
        refine AOps.call (o_pickT _ _ _ rfl rfl rfl rfl) ?_
        refine AOps.nil ?_
        refine AWP.condT rfl ?_
        refine AWP.seq ?_
        refine AWP.region ?_
        refine AOps.call (o_assign _ rfl rfl) ?_
        refine AOps.nil ?_
        refine AWP.ret ?_
        first
        | exact postQ.ret1 Tryz.results11 rfl rfl
        | (refine postQ.ret1 Tryz.results11 rfl ?_; simp [AV.close, AV.close.closeL, B, I]; done)
        | (refine postQ.ret1 Tryz.results11 rfl ?_; simp [AV.close, AV.close.closeL, B, I]; omega)
        | (refine postQ.ret1 Tryz.results11 rfl ?_; simp_all [AV.close, AV.close.closeL, B, I]; done)
        | (refine postQ.ret1 Tryz.results11 rfl ?_; simp_all [AV.close, AV.close.closeL, B, I]; omega)
    · skip
      exfalso
      exact absurd h10 (by decide)
theorem PillowTruth_s (t : Tru) (hch : t.changes.length ≤ 9223372036854775807) : FSpecG Tryz.prog TAB 11 [.agg (eT t)] (B true) none := by
  by_cases h : t.changes.length = 9223372036854775807
  · exact PillowTruth_a t h
  · exact PillowTruth_b t (by omega)
end Go.Proofs.YtelenedgaoglaaaGreatDoor
