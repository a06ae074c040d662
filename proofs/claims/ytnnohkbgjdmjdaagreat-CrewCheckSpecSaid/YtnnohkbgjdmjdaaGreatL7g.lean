import Derived.Test.YtnnohkbgjdmjdaaGreatL7f
import Derived.Test.YtnnohkbgjdmjdaaGreatAbC
set_option linter.unusedSimpArgs false
set_option linter.unusedVariables false
namespace Go.Proofs.YtnnohkbgjdmjdaaGreat
open Go.Ab

set_option maxRecDepth 20000 in
theorem CrewCheckSpec_s (r : Rng) (d w s : Int) : FSpec Tryz.prog 3 [.agg (eRg r), I d, I w, I s] (B true) (none) := by
  refine FSpec.of_body Tryz.func3 rfl (leB rfl) fun w0 M0 => ?_
  refine AWP.seq ?_
  refine AWP.region ?_
  refine AOps.call (o_box _ rfl rfl rfl) ?_
  refine AOps.call (o_assign _ rfl rfl) ?_
  refine AOps.nil ?_
  refine AWP.seq ?_
  refine AWP.seq ?_
  refine AWP.region ?_
  refine AOps.call (o_call (sane_s) Tryz.call6 rfl rfl) ?_
  refine AOps.call (o_un _ rfl (fun _ => rfl) rfl) ?_
  refine AOps.nil ?_
  refine AWP.cond _ rfl (fun h4 => ?_) (fun h4 => ?_)
  · skip
    exfalso
    simp at h4
  · skip
    refine AWP.skip ?_
    refine AWP.seq ?_
    refine AWP.region ?_
    refine AOps.call (o_move _ rfl rfl) ?_
    refine AOps.call (o_call (Light_s d) Tryz.call7 rfl rfl) ?_
    refine AOps.call (o_move _ rfl rfl) ?_
    refine AOps.call (o_extract _ rfl rfl rfl rfl) ?_
    refine AOps.call (o_extract _ rfl rfl rfl rfl) ?_
    refine AOps.call (o_assign _ rfl rfl) ?_
    refine AOps.call (o_assign _ rfl rfl) ?_
    refine AOps.nil ?_
    refine AWP.seq ?_
    refine AWP.region ?_
    refine AOps.call (o_move _ rfl rfl) ?_
    refine AOps.call (o_call (LightR_s d) Tryz.call8 rfl rfl) ?_
    refine AOps.call (o_move _ rfl rfl) ?_
    refine AOps.call (o_extract _ rfl rfl rfl rfl) ?_
    refine AOps.call (o_extract _ rfl rfl rfl rfl) ?_
    refine AOps.call (o_assign _ rfl rfl) ?_
    refine AOps.call (o_assign _ rfl rfl) ?_
    refine AOps.nil ?_
    refine AWP.seq ?_
    refine AWP.region ?_
    refine AOps.call (o_move _ rfl rfl) ?_
    refine AOps.call (o_move _ rfl rfl) ?_
    refine AOps.call (o_call (Breaks_s w s) Tryz.call9 rfl rfl) ?_
    refine AOps.call (o_move _ rfl rfl) ?_
    refine AOps.call (o_extract _ rfl rfl rfl rfl) ?_
    refine AOps.call (o_extract _ rfl rfl rfl rfl) ?_
    refine AOps.call (o_assign _ rfl rfl) ?_
    refine AOps.call (o_assign _ rfl rfl) ?_
    refine AOps.nil ?_
    refine AWP.seq ?_
    refine AWP.region ?_
    refine AOps.call (o_move _ rfl rfl) ?_
    refine AOps.call (o_move _ rfl rfl) ?_
    refine AOps.call (o_call (BreaksR_s w s) Tryz.call10 rfl rfl) ?_
    refine AOps.call (o_move _ rfl rfl) ?_
    refine AOps.call (o_extract _ rfl rfl rfl rfl) ?_
    refine AOps.call (o_extract _ rfl rfl rfl rfl) ?_
    refine AOps.call (o_assign _ rfl rfl) ?_
    refine AOps.call (o_assign _ rfl rfl) ?_
    refine AOps.nil ?_
    refine AWP.seq ?_
    refine AWP.region ?_
    refine AOps.call (o_move _ rfl rfl) ?_
    refine AOps.call (o_call (Bears_s s) Tryz.call11 rfl rfl) ?_
    refine AOps.call (o_move _ rfl rfl) ?_
    refine AOps.call (o_extract _ rfl rfl rfl rfl) ?_
    refine AOps.call (o_extract _ rfl rfl rfl rfl) ?_
    refine AOps.call (o_assign _ rfl rfl) ?_
    refine AOps.call (o_assign _ rfl rfl) ?_
    refine AOps.nil ?_
    refine AWP.seq ?_
    refine AWP.region ?_
    refine AOps.call (o_move _ rfl rfl) ?_
    refine AOps.call (o_call (BearsR_s s) Tryz.call12 rfl rfl) ?_
    refine AOps.call (o_move _ rfl rfl) ?_
    refine AOps.call (o_extract _ rfl rfl rfl rfl) ?_
    refine AOps.call (o_extract _ rfl rfl rfl rfl) ?_
    refine AOps.call (o_assign _ rfl rfl) ?_
    refine AOps.call (o_assign _ rfl rfl) ?_
    refine AOps.nil ?_
    refine AWP.seq ?_
    refine AWP.drawn 36 mixed (by kernel_rfl) ?_
    refine AHead.call (o_loadRef _ rfl rfl Tryz.sizeOf25 Tryz.isAgg25 rfl rfl rfl) rfl ?_
    refine AHead.call (o_call (CheckRange_s r) Tryz.call13 rfl rfl) rfl ?_
    refine AHead.call (o_loadRef _ rfl rfl Tryz.sizeOf25 Tryz.isAgg25 rfl rfl rfl) rfl ?_
    refine AHead.call (o_call (CheckRangeR_s r) Tryz.call14 rfl rfl) rfl ?_
    refine AHead.call (o_bin _ _ rfl rfl (fun _ => rfl) rfl) rfl ?_
    refine AHead.call (o_move _ rfl rfl) rfl ?_
    refine AHead.split rfl rfl rfl (fun h36 => ?_) (fun h36 => ?_)
    · skip
      refine AHead.go rfl rfl rfl h36 (o_move _ rfl rfl) rfl ?_
      refine AHead.go rfl rfl rfl h36 (o_move _ rfl rfl) rfl ?_
      refine AHead.go rfl rfl rfl h36 (o_bin _ _ rfl rfl (fun _ => rfl) rfl) rfl ?_
      refine AHead.call (o_pickT _ _ _ rfl h36 rfl rfl) rfl ?_
      refine AHead.call (o_move _ rfl rfl) rfl ?_
      refine AHead.split rfl rfl rfl (fun h38 => ?_) (fun h38 => ?_)
      · skip
        refine AHead.go rfl rfl rfl h38 (o_move _ rfl rfl) rfl ?_
        refine AHead.go rfl rfl rfl h38 (o_move _ rfl rfl) rfl ?_
        refine AHead.go rfl rfl rfl h38 (o_bin _ _ rfl rfl (fun _ => rfl) rfl) rfl ?_
        refine AHead.call (o_pickT _ _ _ rfl h38 rfl rfl) rfl ?_
        refine AHead.call (o_move _ rfl rfl) rfl ?_
        refine AHead.split rfl rfl rfl (fun h40 => ?_) (fun h40 => ?_)
        · skip
          refine AHead.go rfl rfl rfl h40 (o_move _ rfl rfl) rfl ?_
          refine AHead.go rfl rfl rfl h40 (o_move _ rfl rfl) rfl ?_
          refine AHead.go rfl rfl rfl h40 (o_bin _ _ rfl rfl (fun _ => rfl) rfl) rfl ?_
          refine AHead.call (o_pickT _ _ _ rfl h40 rfl rfl) rfl ?_
          refine AHead.call (o_move _ rfl rfl) rfl ?_
          refine AHead.split rfl rfl rfl (fun h42 => ?_) (fun h42 => ?_)
          · skip
            refine AHead.go rfl rfl rfl h42 (o_move _ rfl rfl) rfl ?_
            refine AHead.go rfl rfl rfl h42 (o_move _ rfl rfl) rfl ?_
            refine AHead.go rfl rfl rfl h42 (o_bin _ _ rfl rfl (fun _ => rfl) rfl) rfl ?_
            refine AHead.call (o_pickT _ _ _ rfl h42 rfl rfl) rfl ?_
            refine AHead.call (o_move _ rfl rfl) rfl ?_
            refine AHead.split rfl rfl rfl (fun h44 => ?_) (fun h44 => ?_)
            · skip
              refine AHead.go rfl rfl rfl h44 (o_move _ rfl rfl) rfl ?_
              refine AHead.go rfl rfl rfl h44 (o_move _ rfl rfl) rfl ?_
              refine AHead.go rfl rfl rfl h44 (o_bin _ _ rfl rfl (fun _ => rfl) rfl) rfl ?_
              refine AHead.call (o_pickT _ _ _ rfl h44 rfl rfl) rfl ?_
              refine AHead.call (o_move _ rfl rfl) rfl ?_
              refine AHead.split rfl rfl rfl (fun h46 => ?_) (fun h46 => ?_)
              · skip
                refine AHead.go rfl rfl rfl h46 (o_move _ rfl rfl) rfl ?_
                refine AHead.go rfl rfl rfl h46 (o_move _ rfl rfl) rfl ?_
                refine AHead.go rfl rfl rfl h46 (o_bin _ _ rfl rfl (fun _ => rfl) rfl) rfl ?_
                refine AHead.call (o_pickT _ _ _ rfl h46 rfl rfl) rfl ?_
                refine AHead.call (o_assign _ rfl rfl) rfl ?_
                refine AHead.nil ?_
                refine AOps.nil ?_
                refine AWP.ret ?_
                refine postQ.ret1 Tryz.results3 rfl ?_
                simp_all [AV.close, B]
              · skip
                refine AHead.pass rfl rfl rfl h46 rfl ?_
                refine AHead.pass rfl rfl rfl h46 rfl ?_
                refine AHead.pass rfl rfl rfl h46 rfl ?_
                refine AHead.call (o_pickF _ _ _ rfl h46 rfl rfl) rfl ?_
                refine AHead.call (o_assign _ rfl rfl) rfl ?_
                refine AHead.nil ?_
                refine AOps.nil ?_
                refine AWP.ret ?_
                refine postQ.ret1 Tryz.results3 rfl ?_
                simp_all [AV.close, B]
            · skip
              refine AHead.pass rfl rfl rfl h44 rfl ?_
              refine AHead.pass rfl rfl rfl h44 rfl ?_
              refine AHead.pass rfl rfl rfl h44 rfl ?_
              refine AHead.call (o_pickF _ _ _ rfl h44 rfl rfl) rfl ?_
              refine AHead.call (o_move _ rfl rfl) rfl ?_
              refine AHead.pass rfl rfl rfl rfl rfl ?_
              refine AHead.pass rfl rfl rfl rfl rfl ?_
              refine AHead.pass rfl rfl rfl rfl rfl ?_
              refine AHead.call (o_pickF _ _ _ rfl rfl rfl rfl) rfl ?_
              refine AHead.call (o_assign _ rfl rfl) rfl ?_
              refine AHead.nil ?_
              refine AOps.nil ?_
              refine AWP.ret ?_
              refine postQ.ret1 Tryz.results3 rfl ?_
              simp_all [AV.close, B]
          · skip
            refine AHead.pass rfl rfl rfl h42 rfl ?_
            refine AHead.pass rfl rfl rfl h42 rfl ?_
            refine AHead.pass rfl rfl rfl h42 rfl ?_
            refine AHead.call (o_pickF _ _ _ rfl h42 rfl rfl) rfl ?_
            refine AHead.call (o_move _ rfl rfl) rfl ?_
            refine AHead.pass rfl rfl rfl rfl rfl ?_
            refine AHead.pass rfl rfl rfl rfl rfl ?_
            refine AHead.pass rfl rfl rfl rfl rfl ?_
            refine AHead.call (o_pickF _ _ _ rfl rfl rfl rfl) rfl ?_
            refine AHead.call (o_move _ rfl rfl) rfl ?_
            refine AHead.pass rfl rfl rfl rfl rfl ?_
            refine AHead.pass rfl rfl rfl rfl rfl ?_
            refine AHead.pass rfl rfl rfl rfl rfl ?_
            refine AHead.call (o_pickF _ _ _ rfl rfl rfl rfl) rfl ?_
            refine AHead.call (o_assign _ rfl rfl) rfl ?_
            refine AHead.nil ?_
            refine AOps.nil ?_
            refine AWP.ret ?_
            refine postQ.ret1 Tryz.results3 rfl ?_
            simp_all [AV.close, B]
        · skip
          refine AHead.pass rfl rfl rfl h40 rfl ?_
          refine AHead.pass rfl rfl rfl h40 rfl ?_
          refine AHead.pass rfl rfl rfl h40 rfl ?_
          refine AHead.call (o_pickF _ _ _ rfl h40 rfl rfl) rfl ?_
          refine AHead.call (o_move _ rfl rfl) rfl ?_
          refine AHead.pass rfl rfl rfl rfl rfl ?_
          refine AHead.pass rfl rfl rfl rfl rfl ?_
          refine AHead.pass rfl rfl rfl rfl rfl ?_
          refine AHead.call (o_pickF _ _ _ rfl rfl rfl rfl) rfl ?_
          refine AHead.call (o_move _ rfl rfl) rfl ?_
          refine AHead.pass rfl rfl rfl rfl rfl ?_
          refine AHead.pass rfl rfl rfl rfl rfl ?_
          refine AHead.pass rfl rfl rfl rfl rfl ?_
          refine AHead.call (o_pickF _ _ _ rfl rfl rfl rfl) rfl ?_
          refine AHead.call (o_move _ rfl rfl) rfl ?_
          refine AHead.pass rfl rfl rfl rfl rfl ?_
          refine AHead.pass rfl rfl rfl rfl rfl ?_
          refine AHead.pass rfl rfl rfl rfl rfl ?_
          refine AHead.call (o_pickF _ _ _ rfl rfl rfl rfl) rfl ?_
          refine AHead.call (o_assign _ rfl rfl) rfl ?_
          refine AHead.nil ?_
          refine AOps.nil ?_
          refine AWP.ret ?_
          refine postQ.ret1 Tryz.results3 rfl ?_
          simp_all [AV.close, B]
      · skip
        refine AHead.pass rfl rfl rfl h38 rfl ?_
        refine AHead.pass rfl rfl rfl h38 rfl ?_
        refine AHead.pass rfl rfl rfl h38 rfl ?_
        refine AHead.call (o_pickF _ _ _ rfl h38 rfl rfl) rfl ?_
        refine AHead.call (o_move _ rfl rfl) rfl ?_
        refine AHead.pass rfl rfl rfl rfl rfl ?_
        refine AHead.pass rfl rfl rfl rfl rfl ?_
        refine AHead.pass rfl rfl rfl rfl rfl ?_
        refine AHead.call (o_pickF _ _ _ rfl rfl rfl rfl) rfl ?_
        refine AHead.call (o_move _ rfl rfl) rfl ?_
        refine AHead.pass rfl rfl rfl rfl rfl ?_
        refine AHead.pass rfl rfl rfl rfl rfl ?_
        refine AHead.pass rfl rfl rfl rfl rfl ?_
        refine AHead.call (o_pickF _ _ _ rfl rfl rfl rfl) rfl ?_
        refine AHead.call (o_move _ rfl rfl) rfl ?_
        refine AHead.pass rfl rfl rfl rfl rfl ?_
        refine AHead.pass rfl rfl rfl rfl rfl ?_
        refine AHead.pass rfl rfl rfl rfl rfl ?_
        refine AHead.call (o_pickF _ _ _ rfl rfl rfl rfl) rfl ?_
        refine AHead.call (o_move _ rfl rfl) rfl ?_
        refine AHead.pass rfl rfl rfl rfl rfl ?_
        refine AHead.pass rfl rfl rfl rfl rfl ?_
        refine AHead.pass rfl rfl rfl rfl rfl ?_
        refine AHead.call (o_pickF _ _ _ rfl rfl rfl rfl) rfl ?_
        refine AHead.call (o_assign _ rfl rfl) rfl ?_
        refine AHead.nil ?_
        refine AOps.nil ?_
        refine AWP.ret ?_
        refine postQ.ret1 Tryz.results3 rfl ?_
        simp_all [AV.close, B]
    · skip
      refine AHead.pass rfl rfl rfl h36 rfl ?_
      refine AHead.pass rfl rfl rfl h36 rfl ?_
      refine AHead.pass rfl rfl rfl h36 rfl ?_
      refine AHead.call (o_pickF _ _ _ rfl h36 rfl rfl) rfl ?_
      refine AHead.call (o_move _ rfl rfl) rfl ?_
      refine AHead.pass rfl rfl rfl rfl rfl ?_
      refine AHead.pass rfl rfl rfl rfl rfl ?_
      refine AHead.pass rfl rfl rfl rfl rfl ?_
      refine AHead.call (o_pickF _ _ _ rfl rfl rfl rfl) rfl ?_
      refine AHead.call (o_move _ rfl rfl) rfl ?_
      refine AHead.pass rfl rfl rfl rfl rfl ?_
      refine AHead.pass rfl rfl rfl rfl rfl ?_
      refine AHead.pass rfl rfl rfl rfl rfl ?_
      refine AHead.call (o_pickF _ _ _ rfl rfl rfl rfl) rfl ?_
      refine AHead.call (o_move _ rfl rfl) rfl ?_
      refine AHead.pass rfl rfl rfl rfl rfl ?_
      refine AHead.pass rfl rfl rfl rfl rfl ?_
      refine AHead.pass rfl rfl rfl rfl rfl ?_
      refine AHead.call (o_pickF _ _ _ rfl rfl rfl rfl) rfl ?_
      refine AHead.call (o_move _ rfl rfl) rfl ?_
      refine AHead.pass rfl rfl rfl rfl rfl ?_
      refine AHead.pass rfl rfl rfl rfl rfl ?_
      refine AHead.pass rfl rfl rfl rfl rfl ?_
      refine AHead.call (o_pickF _ _ _ rfl rfl rfl rfl) rfl ?_
      refine AHead.call (o_move _ rfl rfl) rfl ?_
      refine AHead.pass rfl rfl rfl rfl rfl ?_
      refine AHead.pass rfl rfl rfl rfl rfl ?_
      refine AHead.pass rfl rfl rfl rfl rfl ?_
      refine AHead.call (o_pickF _ _ _ rfl rfl rfl rfl) rfl ?_
      refine AHead.call (o_assign _ rfl rfl) rfl ?_
      refine AHead.nil ?_
      refine AOps.nil ?_
      refine AWP.ret ?_
      refine postQ.ret1 Tryz.results3 rfl ?_
      simp_all [AV.close, B]

end Go.Proofs.YtnnohkbgjdmjdaaGreat

