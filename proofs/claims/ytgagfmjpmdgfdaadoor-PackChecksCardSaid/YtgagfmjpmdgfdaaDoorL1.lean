import Derived.Test.YtgagfmjpmdgfdaaDoorQ16
set_option linter.unusedSimpArgs false
set_option linter.unusedVariables false
namespace Go.Proofs.YtgagfmjpmdgfdaaDoor
open Go.Ab

set_option maxRecDepth 20000 in
theorem PackChecks_s (p : List Lay) (s : Stp) (l : Lay) : FSpecG Tryd.prog TAB 3 [.agg (eK p), .agg (eT s), .agg (eL l)] (B true) (none) := by
  refine FSpecG.of_body tab_stable Tryd.func3 rfl (leB rfl) fun w0 M0 hG => ?_
  refine AWP.seq ?_
  refine AWP.region ?_
  refine AOps.call (o_box _ rfl rfl rfl) ?_
  refine AOps.call (o_box _ rfl rfl rfl) ?_
  refine AOps.call (o_box _ rfl rfl rfl) ?_
  refine AOps.call (o_assign _ rfl rfl) ?_
  refine AOps.nil ?_
  refine AWP.seq ?_
  refine AWP.seq ?_
  refine AWP.region ?_
  refine AOps.call (o_callG (sane_s) hG Tryd.call18 rfl rfl) ?_
  refine AOps.call (o_un _ rfl (fun _ => rfl) rfl) ?_
  refine AOps.nil ?_
  refine AWP.cond _ rfl (fun h6 => ?_) (fun h6 => ?_)
  · skip
    exfalso
    simp at h6
  · skip
    refine AWP.skip ?_
    refine AWP.seq ?_
    refine AWP.seq ?_
    refine AWP.region ?_
    refine AOps.call (o_loadRef _ rfl rfl Tryd.sizeOf24 Tryd.isAgg24 rfl rfl rfl) ?_
    refine AOps.call (o_lit Tryd.underlying73 Tryd.sizeOf24 Tryd.zeroValue24 rfl rfl rfl rfl rfl rfl rfl) ?_
    refine AOps.call (o_call (few_s [p] (leB rfl)) Tryd.call19 rfl rfl) ?_
    refine AOps.call (o_un _ rfl (fun _ => rfl) rfl) ?_
    refine AOps.nil ?_
    refine AWP.cond _ rfl (fun h11 => ?_) (fun h11 => ?_)
    · skip
      refine AWP.seq ?_
      refine AWP.region ?_
      refine AOps.call (o_assign _ rfl rfl) ?_
      refine AOps.nil ?_
      refine AWP.ret ?_
      first
      | exact postQ.ret1 Tryd.results3 rfl rfl
      | (exfalso; simp at *; done)
      | (exfalso; simp_all; done)
      | (refine postQ.ret1 Tryd.results3 rfl ?_; simp [AV.close, B]; done)
      | (refine postQ.ret1 Tryd.results3 rfl ?_; simp_all [AV.close, B]; done)
    · skip
      refine AWP.skip ?_
      refine AWP.seq ?_
      refine AWP.region ?_
      refine AOps.call (o_loadRef _ rfl rfl Tryd.sizeOf28 Tryd.isAgg28 rfl rfl rfl) ?_
      refine AOps.call (o_call (Hold_s l) Tryd.call20 rfl rfl) ?_
      refine AOps.call (o_move _ rfl rfl) ?_
      refine AOps.call (o_extract _ rfl rfl rfl rfl) ?_
      refine AOps.call (o_extract _ rfl rfl rfl rfl) ?_
      refine AOps.call (o_assign _ rfl rfl) ?_
      refine AOps.call (o_assign _ rfl rfl) ?_
      refine AOps.nil ?_
      refine AWP.seq ?_
      refine AWP.region ?_
      refine AOps.call (o_loadRef _ rfl rfl Tryd.sizeOf28 Tryd.isAgg28 rfl rfl rfl) ?_
      refine AOps.call (o_call (rHold_s l) Tryd.call21 rfl rfl) ?_
      refine AOps.call (o_move _ rfl rfl) ?_
      refine AOps.call (o_extract _ rfl rfl rfl rfl) ?_
      refine AOps.call (o_extract _ rfl rfl rfl rfl) ?_
      refine AOps.call (o_assign _ rfl rfl) ?_
      refine AOps.call (o_assign _ rfl rfl) ?_
      refine AOps.nil ?_
      refine AWP.seq ?_
      refine AWP.region ?_
      refine AOps.call (o_loadRef _ rfl rfl Tryd.sizeOf24 Tryd.isAgg24 rfl rfl rfl) ?_
      refine AOps.call (o_call (Water_s p) Tryd.call22 rfl rfl) ?_
      refine AOps.call (o_move _ rfl rfl) ?_
      refine AOps.call (o_extract _ rfl rfl rfl rfl) ?_
      refine AOps.call (o_extract _ rfl rfl rfl rfl) ?_
      refine AOps.call (o_assign _ rfl rfl) ?_
      refine AOps.call (o_assign _ rfl rfl) ?_
      refine AOps.nil ?_
      refine AWP.seq ?_
      refine AWP.region ?_
      refine AOps.call (o_loadRef _ rfl rfl Tryd.sizeOf24 Tryd.isAgg24 rfl rfl rfl) ?_
      refine AOps.call (o_call (rWater_s p) Tryd.call23 rfl rfl) ?_
      refine AOps.call (o_move _ rfl rfl) ?_
      refine AOps.call (o_extract _ rfl rfl rfl rfl) ?_
      refine AOps.call (o_extract _ rfl rfl rfl rfl) ?_
      refine AOps.call (o_assign _ rfl rfl) ?_
      refine AOps.call (o_assign _ rfl rfl) ?_
      refine AOps.nil ?_
      refine AWP.seq ?_
      refine AWP.region ?_
      refine AOps.call (o_loadRef _ rfl rfl Tryd.sizeOf24 Tryd.isAgg24 rfl rfl rfl) ?_
      refine AOps.call (o_call (Cold_s p) Tryd.call24 rfl rfl) ?_
      refine AOps.call (o_move _ rfl rfl) ?_
      refine AOps.call (o_extract _ rfl rfl rfl rfl) ?_
      refine AOps.call (o_extract _ rfl rfl rfl rfl) ?_
      refine AOps.call (o_assign _ rfl rfl) ?_
      refine AOps.call (o_assign _ rfl rfl) ?_
      refine AOps.nil ?_
      refine AWP.seq ?_
      refine AWP.region ?_
      refine AOps.call (o_loadRef _ rfl rfl Tryd.sizeOf24 Tryd.isAgg24 rfl rfl rfl) ?_
      refine AOps.call (o_call (rCold_s p) Tryd.call25 rfl rfl) ?_
      refine AOps.call (o_move _ rfl rfl) ?_
      refine AOps.call (o_extract _ rfl rfl rfl rfl) ?_
      refine AOps.call (o_extract _ rfl rfl rfl rfl) ?_
      refine AOps.call (o_assign _ rfl rfl) ?_
      refine AOps.call (o_assign _ rfl rfl) ?_
      refine AOps.nil ?_
      refine AWP.seq ?_
      refine AWP.drawn 43 mixed (by kernel_rfl) ?_
      refine AHead.call (o_loadRef _ rfl rfl Tryd.sizeOf24 Tryd.isAgg24 rfl rfl rfl) rfl ?_
      refine AHead.call (o_call (Check_s p) Tryd.call26 rfl rfl) rfl ?_
      refine AHead.call (o_loadRef _ rfl rfl Tryd.sizeOf24 Tryd.isAgg24 rfl rfl rfl) rfl ?_
      refine AHead.call (o_call (rCheck_s p) Tryd.call27 rfl rfl) rfl ?_
      refine AHead.call (o_bin _ _ rfl rfl (fun _ => rfl) rfl) rfl ?_
      refine AHead.call (o_move _ rfl rfl) rfl ?_
      refine AHead.split rfl rfl rfl (fun h41 => ?_) (fun h41 => ?_)
      · skip
        refine AHead.go rfl rfl rfl h41 (o_loadRef _ rfl rfl Tryd.sizeOf26 Tryd.isAgg26 rfl rfl rfl) rfl ?_
        refine AHead.go rfl rfl rfl h41 (o_call (CheckStep_s s) Tryd.call28 rfl rfl) rfl ?_
        refine AHead.go rfl rfl rfl h41 (o_loadRef _ rfl rfl Tryd.sizeOf26 Tryd.isAgg26 rfl rfl rfl) rfl ?_
        refine AHead.go rfl rfl rfl h41 (o_call (rCheckStep_s s) Tryd.call29 rfl rfl) rfl ?_
        refine AHead.go rfl rfl rfl h41 (o_bin _ _ rfl rfl (fun _ => rfl) rfl) rfl ?_
        refine AHead.call (o_pickT _ _ _ rfl h41 rfl rfl) rfl ?_
        refine AHead.call (o_move _ rfl rfl) rfl ?_
        refine AHead.split rfl rfl rfl (fun h47 => ?_) (fun h47 => ?_)
        · skip
          refine AHead.go rfl rfl rfl h47 (o_move _ rfl rfl) rfl ?_
          refine AHead.go rfl rfl rfl h47 (o_move _ rfl rfl) rfl ?_
          refine AHead.go rfl rfl rfl h47 (o_bin _ _ rfl rfl (fun _ => rfl) rfl) rfl ?_
          refine AHead.call (o_pickT _ _ _ rfl h47 rfl rfl) rfl ?_
          refine AHead.call (o_move _ rfl rfl) rfl ?_
          refine AHead.split rfl rfl rfl (fun h49 => ?_) (fun h49 => ?_)
          · skip
            refine AHead.go rfl rfl rfl h49 (o_move _ rfl rfl) rfl ?_
            refine AHead.go rfl rfl rfl h49 (o_move _ rfl rfl) rfl ?_
            refine AHead.go rfl rfl rfl h49 (o_bin _ _ rfl rfl (fun _ => rfl) rfl) rfl ?_
            refine AHead.call (o_pickT _ _ _ rfl h49 rfl rfl) rfl ?_
            refine AHead.call (o_move _ rfl rfl) rfl ?_
            refine AHead.split rfl rfl rfl (fun h51 => ?_) (fun h51 => ?_)
            · skip
              refine AHead.go rfl rfl rfl h51 (o_move _ rfl rfl) rfl ?_
              refine AHead.go rfl rfl rfl h51 (o_move _ rfl rfl) rfl ?_
              refine AHead.go rfl rfl rfl h51 (o_bin _ _ rfl rfl (fun _ => rfl) rfl) rfl ?_
              refine AHead.call (o_pickT _ _ _ rfl h51 rfl rfl) rfl ?_
              refine AHead.call (o_move _ rfl rfl) rfl ?_
              refine AHead.split rfl rfl rfl (fun h53 => ?_) (fun h53 => ?_)
              · skip
                refine AHead.go rfl rfl rfl h53 (o_move _ rfl rfl) rfl ?_
                refine AHead.go rfl rfl rfl h53 (o_move _ rfl rfl) rfl ?_
                refine AHead.go rfl rfl rfl h53 (o_bin _ _ rfl rfl (fun _ => rfl) rfl) rfl ?_
                refine AHead.call (o_pickT _ _ _ rfl h53 rfl rfl) rfl ?_
                refine AHead.call (o_move _ rfl rfl) rfl ?_
                refine AHead.split rfl rfl rfl (fun h55 => ?_) (fun h55 => ?_)
                · skip
                  refine AHead.go rfl rfl rfl h55 (o_move _ rfl rfl) rfl ?_
                  refine AHead.go rfl rfl rfl h55 (o_move _ rfl rfl) rfl ?_
                  refine AHead.go rfl rfl rfl h55 (o_bin _ _ rfl rfl (fun _ => rfl) rfl) rfl ?_
                  refine AHead.call (o_pickT _ _ _ rfl h55 rfl rfl) rfl ?_
                  refine AHead.call (o_move _ rfl rfl) rfl ?_
                  refine AHead.split rfl rfl rfl (fun h57 => ?_) (fun h57 => ?_)
                  · skip
                    refine AHead.go rfl rfl rfl h57 (o_move _ rfl rfl) rfl ?_
                    refine AHead.go rfl rfl rfl h57 (o_move _ rfl rfl) rfl ?_
                    refine AHead.go rfl rfl rfl h57 (o_bin _ _ rfl rfl (fun _ => rfl) rfl) rfl ?_
                    refine AHead.call (o_pickT _ _ _ rfl h57 rfl rfl) rfl ?_
                    refine AHead.call (o_assign _ rfl rfl) rfl ?_
                    refine AHead.nil ?_
                    refine AOps.nil ?_
                    refine AWP.ret ?_
                    first
                    | exact postQ.ret1 Tryd.results3 rfl rfl
                    | (exfalso; simp at *; done)
                    | (exfalso; simp_all; done)
                    | (refine postQ.ret1 Tryd.results3 rfl ?_; simp [AV.close, B]; done)
                    | (refine postQ.ret1 Tryd.results3 rfl ?_; simp_all [AV.close, B]; done)
                  · skip
                    exfalso
                    simp at h57
                · skip
                  exfalso
                  simp at h55
              · skip
                exfalso
                simp at h53
            · skip
              exfalso
              simp at h51
          · skip
            exfalso
            simp at h49
        · skip
          exfalso
          simp at h47
      · skip
        exfalso
        simp at h41

end Go.Proofs.YtgagfmjpmdgfdaaDoor
