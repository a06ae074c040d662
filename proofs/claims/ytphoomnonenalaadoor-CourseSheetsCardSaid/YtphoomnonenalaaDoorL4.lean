import Derived.Test.YtphoomnonenalaaDoorR6
import Derived.Test.YtphoomnonenalaaDoorC14
import Derived.Test.YtphoomnonenalaaDoorL2
set_option linter.unusedSimpArgs false
set_option linter.unusedVariables false
namespace Go.Proofs.YtphoomnonenalaaDoor
open Go.Ab

set_option maxRecDepth 20000 in
theorem CourseSheets_s (c : Scl) (h : Sht) (k known : Int) : FSpecG Tryd.prog TAB 6 [.agg (eS c), .agg (eH h), I k, I known] (B true) (none) := by
  refine FSpecG.of_body tab_stable Tryd.func6 rfl (leB rfl) fun w0 M0 hG => ?_
  refine AWP.seq ?_
  refine AWP.region ?_
  refine AOps.call (o_box _ rfl rfl rfl) ?_
  refine AOps.call (o_box _ rfl rfl rfl) ?_
  refine AOps.call (o_assign _ rfl rfl) ?_
  refine AOps.nil ?_
  refine AWP.seq ?_
  refine AWP.seq ?_
  refine AWP.region ?_
  refine AOps.call (o_callG (sane_s) hG Tryd.call12 rfl rfl) ?_
  refine AOps.call (o_un _ rfl (fun _ => rfl) rfl) ?_
  refine AOps.nil ?_
  refine AWP.cond _ rfl (fun h5 => ?_) (fun h5 => ?_)
  · skip
    refine AWP.seq ?_
    refine AWP.region ?_
    refine AOps.call (o_assign _ rfl rfl) ?_
    refine AOps.nil ?_
    refine AWP.ret ?_
    first
    | exact postQ.ret1 Tryd.results6 rfl rfl
    | (exfalso; simp at *; done)
    | (exfalso; simp_all; done)
    | (refine postQ.ret1 Tryd.results6 rfl ?_; simp [AV.close, B]; done)
  · skip
    refine AWP.skip ?_
    refine AWP.seq ?_
    refine AWP.seq ?_
    refine AWP.region ?_
    refine AOps.call (o_fieldRef _ rfl fa24_2 rfl rfl) ?_
    refine AOps.call (o_loadRef _ rfl rfl Tryd.sizeOf22 Tryd.isAgg22 rfl rfl rfl) ?_
    refine AOps.call (o_len _ Tryd.underlying22 rfl rfl) ?_
    refine AOps.call (o_bin _ _ rfl rfl (fun _ => rfl) rfl) ?_
    refine AOps.call (o_move _ rfl rfl) ?_
    refine AOps.split rfl rfl rfl (fun h10 => ?_) (fun h10 => ?_)
    · skip
      refine AOps.go rfl rfl rfl h10 (o_fieldRef _ rfl fa54_8 rfl rfl) ?_
      refine AOps.go rfl rfl rfl h10 (o_loadRef _ rfl rfl Tryd.sizeOf52 Tryd.isAgg52 rfl rfl rfl) ?_
      refine AOps.go rfl rfl rfl h10 (o_len _ Tryd.underlying52 rfl rfl) ?_
      refine AOps.go rfl rfl rfl h10 (o_bin _ _ rfl rfl (fun _ => rfl) rfl) ?_
      refine AOps.call (o_pickF _ _ _ rfl h10 rfl rfl) ?_
      refine AOps.nil ?_
      refine AWP.cond _ rfl (fun h15 => ?_) (fun h15 => ?_)
      · skip
        refine AWP.seq ?_
        refine AWP.region ?_
        refine AOps.call (o_assign _ rfl rfl) ?_
        refine AOps.nil ?_
        refine AWP.ret ?_
        first
        | exact postQ.ret1 Tryd.results6 rfl rfl
        | (exfalso; simp at *; done)
        | (exfalso; simp_all; done)
        | (refine postQ.ret1 Tryd.results6 rfl ?_; simp [AV.close, B]; done)
      · skip
        refine AWP.skip ?_
        refine AWP.seq ?_
        refine AWP.region ?_
        refine AOps.call (o_loadRef _ rfl rfl Tryd.sizeOf24 Tryd.isAgg24 rfl rfl rfl) ?_
        refine AOps.call (o_loadRef _ rfl rfl Tryd.sizeOf54 Tryd.isAgg54 rfl rfl rfl) ?_
        refine AOps.call (o_move _ rfl rfl) ?_
        refine AOps.call (o_move _ rfl rfl) ?_
        refine AOps.call (o_call (Core_s c h k known) Tryd.call31 rfl rfl) ?_
        refine AOps.call (o_move _ rfl rfl) ?_
        refine AOps.call (o_extract _ rfl rfl rfl rfl) ?_
        refine AOps.call (o_extract _ rfl rfl rfl rfl) ?_
        refine AOps.call (o_alloc ze40 rfl rfl) ?_
        refine AOps.cons (o_store _ _ rfl rfl Tryd.sizeOf40 rfl rfl rfl rfl rfl) ?_
        refine AOps.call (o_assign _ rfl rfl) ?_
        refine AOps.nil ?_
        refine AWP.seq ?_
        refine AWP.region ?_
        refine AOps.call (o_loadRef _ rfl rfl Tryd.sizeOf24 Tryd.isAgg24 rfl rfl rfl) ?_
        refine AOps.call (o_loadRef _ rfl rfl Tryd.sizeOf54 Tryd.isAgg54 rfl rfl rfl) ?_
        refine AOps.call (o_move _ rfl rfl) ?_
        refine AOps.call (o_move _ rfl rfl) ?_
        refine AOps.call (o_call (rCore_s c h k known) Tryd.call32 rfl rfl) ?_
        refine AOps.call (o_move _ rfl rfl) ?_
        refine AOps.call (o_extract _ rfl rfl rfl rfl) ?_
        refine AOps.call (o_extract _ rfl rfl rfl rfl) ?_
        refine AOps.call (o_alloc ze40 rfl rfl) ?_
        refine AOps.cons (o_store _ _ rfl rfl Tryd.sizeOf40 rfl rfl rfl rfl rfl) ?_
        refine AOps.call (o_assign _ rfl rfl) ?_
        refine AOps.nil ?_
        refine AWP.seq ?_
        refine AWP.region ?_
        refine AOps.call (o_loadRef _ rfl rfl Tryd.sizeOf24 Tryd.isAgg24 rfl rfl rfl) ?_
        refine AOps.call (o_loadRef _ rfl rfl Tryd.sizeOf54 Tryd.isAgg54 rfl rfl rfl) ?_
        refine AOps.call (o_move _ rfl rfl) ?_
        refine AOps.call (o_move _ rfl rfl) ?_
        refine AOps.call (o_call (Water_s c h k known) Tryd.call33 rfl rfl) ?_
        refine AOps.call (o_move _ rfl rfl) ?_
        refine AOps.call (o_extract _ rfl rfl rfl rfl) ?_
        refine AOps.call (o_extract _ rfl rfl rfl rfl) ?_
        refine AOps.call (o_alloc ze40 rfl rfl) ?_
        refine AOps.cons (o_store _ _ rfl rfl Tryd.sizeOf40 rfl rfl rfl rfl rfl) ?_
        refine AOps.call (o_assign _ rfl rfl) ?_
        refine AOps.nil ?_
        refine AWP.seq ?_
        refine AWP.region ?_
        refine AOps.call (o_loadRef _ rfl rfl Tryd.sizeOf24 Tryd.isAgg24 rfl rfl rfl) ?_
        refine AOps.call (o_loadRef _ rfl rfl Tryd.sizeOf54 Tryd.isAgg54 rfl rfl rfl) ?_
        refine AOps.call (o_move _ rfl rfl) ?_
        refine AOps.call (o_move _ rfl rfl) ?_
        refine AOps.call (o_call (rWater_s c h k known) Tryd.call34 rfl rfl) ?_
        refine AOps.call (o_move _ rfl rfl) ?_
        refine AOps.call (o_extract _ rfl rfl rfl rfl) ?_
        refine AOps.call (o_extract _ rfl rfl rfl rfl) ?_
        refine AOps.call (o_alloc ze40 rfl rfl) ?_
        refine AOps.cons (o_store _ _ rfl rfl Tryd.sizeOf40 rfl rfl rfl rfl rfl) ?_
        refine AOps.call (o_assign _ rfl rfl) ?_
        refine AOps.nil ?_
        refine AWP.seq ?_
        refine AWP.drawn 26 mixed (by kernel_rfl) ?_
        refine AHead.call (o_loadRef _ rfl rfl Tryd.sizeOf54 Tryd.isAgg54 rfl rfl rfl) rfl ?_
        refine AHead.call (o_call (CheckSheet_s h) Tryd.call35 rfl rfl) rfl ?_
        refine AHead.call (o_loadRef _ rfl rfl Tryd.sizeOf54 Tryd.isAgg54 rfl rfl rfl) rfl ?_
        refine AHead.call (o_call (rCheckSheet_s h) Tryd.call36 rfl rfl) rfl ?_
        refine AHead.call (o_bin _ _ rfl rfl (fun _ => rfl) rfl) rfl ?_
        refine AHead.call (o_move _ rfl rfl) rfl ?_
        refine AHead.split rfl rfl rfl (fun h53 => ?_) (fun h53 => ?_)
        · skip
          refine AHead.go rfl rfl rfl h53 (o_loadRef _ rfl rfl Tryd.sizeOf40 Tryd.isAgg40 rfl rfl rfl) rfl ?_
          refine AHead.go rfl rfl rfl h53 (o_loadRef _ rfl rfl Tryd.sizeOf40 Tryd.isAgg40 rfl rfl rfl) rfl ?_
          refine AHead.go rfl rfl rfl h53 (o_bin _ _ rfl rfl (spanEqS _ _ _ _) rfl) rfl ?_
          refine AHead.call (o_pickT _ _ _ rfl h53 rfl rfl) rfl ?_
          refine AHead.call (o_move _ rfl rfl) rfl ?_
          refine AHead.split rfl rfl rfl (fun h57 => ?_) (fun h57 => ?_)
          · skip
            refine AHead.go rfl rfl rfl h57 (o_move _ rfl rfl) rfl ?_
            refine AHead.go rfl rfl rfl h57 (o_move _ rfl rfl) rfl ?_
            refine AHead.go rfl rfl rfl h57 (o_bin _ _ rfl rfl (fun _ => rfl) rfl) rfl ?_
            refine AHead.call (o_pickT _ _ _ rfl h57 rfl rfl) rfl ?_
            refine AHead.call (o_move _ rfl rfl) rfl ?_
            refine AHead.split rfl rfl rfl (fun h59 => ?_) (fun h59 => ?_)
            · skip
              refine AHead.go rfl rfl rfl h59 (o_loadRef _ rfl rfl Tryd.sizeOf40 Tryd.isAgg40 rfl rfl rfl) rfl ?_
              refine AHead.go rfl rfl rfl h59 (o_loadRef _ rfl rfl Tryd.sizeOf40 Tryd.isAgg40 rfl rfl rfl) rfl ?_
              refine AHead.go rfl rfl rfl h59 (o_bin _ _ rfl rfl (spanEqS _ _ _ _) rfl) rfl ?_
              refine AHead.call (o_pickT _ _ _ rfl h59 rfl rfl) rfl ?_
              refine AHead.call (o_move _ rfl rfl) rfl ?_
              refine AHead.split rfl rfl rfl (fun h63 => ?_) (fun h63 => ?_)
              · skip
                refine AHead.go rfl rfl rfl h63 (o_move _ rfl rfl) rfl ?_
                refine AHead.go rfl rfl rfl h63 (o_move _ rfl rfl) rfl ?_
                refine AHead.go rfl rfl rfl h63 (o_bin _ _ rfl rfl (fun _ => rfl) rfl) rfl ?_
                refine AHead.call (o_pickT _ _ _ rfl h63 rfl rfl) rfl ?_
                refine AHead.call (o_assign _ rfl rfl) rfl ?_
                refine AHead.nil ?_
                refine AOps.nil ?_
                refine AWP.ret ?_
                first
                | exact postQ.ret1 Tryd.results6 rfl rfl
                | (exfalso; simp at *; done)
                | (exfalso; simp_all; done)
                | (refine postQ.ret1 Tryd.results6 rfl ?_; simp [AV.close, B]; done)
              · skip
                refine AHead.pass rfl rfl rfl h63 rfl ?_
                refine AHead.pass rfl rfl rfl h63 rfl ?_
                refine AHead.pass rfl rfl rfl h63 rfl ?_
                refine AHead.call (o_pickF _ _ _ rfl h63 rfl rfl) rfl ?_
                refine AHead.call (o_assign _ rfl rfl) rfl ?_
                refine AHead.nil ?_
                refine AOps.nil ?_
                refine AWP.ret ?_
                first
                | exact postQ.ret1 Tryd.results6 rfl rfl
                | (exfalso; simp at *; done)
                | (exfalso; simp_all; done)
                | (refine postQ.ret1 Tryd.results6 rfl ?_; simp [AV.close, B]; done)
            · skip
              refine AHead.pass rfl rfl rfl h59 rfl ?_
              refine AHead.pass rfl rfl rfl h59 rfl ?_
              refine AHead.pass rfl rfl rfl h59 rfl ?_
              refine AHead.call (o_pickF _ _ _ rfl h59 rfl rfl) rfl ?_
              refine AHead.call (o_move _ rfl rfl) rfl ?_
              refine AHead.pass rfl rfl rfl rfl rfl ?_
              refine AHead.pass rfl rfl rfl rfl rfl ?_
              refine AHead.pass rfl rfl rfl rfl rfl ?_
              refine AHead.call (o_pickF _ _ _ rfl rfl rfl rfl) rfl ?_
              refine AHead.call (o_assign _ rfl rfl) rfl ?_
              refine AHead.nil ?_
              refine AOps.nil ?_
              refine AWP.ret ?_
              first
              | exact postQ.ret1 Tryd.results6 rfl rfl
              | (exfalso; simp at *; done)
              | (exfalso; simp_all; done)
              | (refine postQ.ret1 Tryd.results6 rfl ?_; simp [AV.close, B]; done)
          · skip
            refine AHead.pass rfl rfl rfl h57 rfl ?_
            refine AHead.pass rfl rfl rfl h57 rfl ?_
            refine AHead.pass rfl rfl rfl h57 rfl ?_
            refine AHead.call (o_pickF _ _ _ rfl h57 rfl rfl) rfl ?_
            refine AHead.call (o_move _ rfl rfl) rfl ?_
            refine AHead.pass rfl rfl rfl rfl rfl ?_
            refine AHead.pass rfl rfl rfl rfl rfl ?_
            refine AHead.pass rfl rfl rfl rfl rfl ?_
            refine AHead.call (o_pickF _ _ _ rfl rfl rfl rfl) rfl ?_
            refine AHead.call (o_move _ rfl rfl) rfl ?_
            refine AHead.pass rfl rfl rfl rfl rfl ?_
            refine AHead.pass rfl rfl rfl rfl rfl ?_
            refine AHead.pass rfl rfl rfl rfl rfl ?_
            refine AHead.call (o_pickF _ _ _ rfl rfl rfl rfl) rfl ?_
            refine AHead.call (o_assign _ rfl rfl) rfl ?_
            refine AHead.nil ?_
            refine AOps.nil ?_
            refine AWP.ret ?_
            first
            | exact postQ.ret1 Tryd.results6 rfl rfl
            | (exfalso; simp at *; done)
            | (exfalso; simp_all; done)
            | (refine postQ.ret1 Tryd.results6 rfl ?_; simp [AV.close, B]; done)
        · skip
          refine AHead.pass rfl rfl rfl h53 rfl ?_
          refine AHead.pass rfl rfl rfl h53 rfl ?_
          refine AHead.pass rfl rfl rfl h53 rfl ?_
          refine AHead.call (o_pickF _ _ _ rfl h53 rfl rfl) rfl ?_
          refine AHead.call (o_move _ rfl rfl) rfl ?_
          refine AHead.pass rfl rfl rfl rfl rfl ?_
          refine AHead.pass rfl rfl rfl rfl rfl ?_
          refine AHead.pass rfl rfl rfl rfl rfl ?_
          refine AHead.call (o_pickF _ _ _ rfl rfl rfl rfl) rfl ?_
          refine AHead.call (o_move _ rfl rfl) rfl ?_
          refine AHead.pass rfl rfl rfl rfl rfl ?_
          refine AHead.pass rfl rfl rfl rfl rfl ?_
          refine AHead.pass rfl rfl rfl rfl rfl ?_
          refine AHead.call (o_pickF _ _ _ rfl rfl rfl rfl) rfl ?_
          refine AHead.call (o_move _ rfl rfl) rfl ?_
          refine AHead.pass rfl rfl rfl rfl rfl ?_
          refine AHead.pass rfl rfl rfl rfl rfl ?_
          refine AHead.pass rfl rfl rfl rfl rfl ?_
          refine AHead.call (o_pickF _ _ _ rfl rfl rfl rfl) rfl ?_
          refine AHead.call (o_assign _ rfl rfl) rfl ?_
          refine AHead.nil ?_
          refine AOps.nil ?_
          refine AWP.ret ?_
          first
          | exact postQ.ret1 Tryd.results6 rfl rfl
          | (exfalso; simp at *; done)
          | (exfalso; simp_all; done)
          | (refine postQ.ret1 Tryd.results6 rfl ?_; simp [AV.close, B]; done)
    · skip
      refine AOps.pass rfl rfl rfl h10 rfl ?_
      refine AOps.pass rfl rfl rfl h10 rfl ?_
      refine AOps.pass rfl rfl rfl h10 rfl ?_
      refine AOps.pass rfl rfl rfl h10 rfl ?_
      refine AOps.call (o_pickT _ _ _ rfl h10 rfl rfl) ?_
      refine AOps.nil ?_
      refine AWP.condT rfl ?_
      refine AWP.seq ?_
      refine AWP.region ?_
      refine AOps.call (o_assign _ rfl rfl) ?_
      refine AOps.nil ?_
      refine AWP.ret ?_
      first
      | exact postQ.ret1 Tryd.results6 rfl rfl
      | (exfalso; simp at *; done)
      | (exfalso; simp_all; done)
      | (refine postQ.ret1 Tryd.results6 rfl ?_; simp [AV.close, B]; done)

end Go.Proofs.YtphoomnonenalaaDoor
