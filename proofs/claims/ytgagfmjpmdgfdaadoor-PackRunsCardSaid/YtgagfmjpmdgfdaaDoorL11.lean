import Derived.Test.YtgagfmjpmdgfdaaDoorQ26
import Derived.Test.YtgagfmjpmdgfdaaDoorBq
set_option linter.unusedSimpArgs false
set_option linter.unusedVariables false
namespace Go.Proofs.YtgagfmjpmdgfdaaDoor
open Go.Ab

set_option maxHeartbeats 4000000 in
set_option maxRecDepth 20000 in
theorem PackRuns_s (p : List Lay) (l : List Stp) (hl : l.length ≤ 9223372036854775807) : FSpecG Tryd.prog TAB 5 [.agg (eK p), .sl (stpsL l)] (B true) (none) := by
  refine FSpecG.of_body tab_stable Tryd.func5 rfl (leB rfl) fun w0 M0 hG => ?_
  have hsl := stpsL_len l
  refine AWP.seq ?_
  refine AWP.region ?_
  refine AOps.call (o_box _ rfl rfl rfl) ?_
  refine AOps.call (o_assign _ rfl rfl) ?_
  refine AOps.nil ?_
  refine AWP.seq ?_
  refine AWP.seq ?_
  refine AWP.region ?_
  refine AOps.call (o_callG (sane_s) hG Tryd.call18 rfl rfl) ?_
  refine AOps.call (o_un _ rfl (fun _ => rfl) rfl) ?_
  refine AOps.nil ?_
  refine AWP.cond _ rfl (fun h4 => ?_) (fun h4 => ?_)
  · skip
    exfalso
    simp at h4
  · skip
    refine AWP.skip ?_
    refine AWP.seq ?_
    refine AWP.seq ?_
    refine AWP.region ?_
    refine AOps.call (o_loadRef _ rfl rfl Tryd.sizeOf24 Tryd.isAgg24 rfl rfl rfl) ?_
    refine AOps.call (o_lit Tryd.underlying73 Tryd.sizeOf24 Tryd.zeroValue24 rfl rfl rfl rfl rfl rfl rfl) ?_
    refine AOps.call (o_call (few_s [p] (leB rfl)) Tryd.call19 rfl rfl) ?_
    refine AOps.call (o_un _ rfl (fun _ => rfl) rfl) ?_
    refine AOps.call (o_move _ rfl rfl) ?_
    refine AOps.split rfl rfl rfl (fun h9 => ?_) (fun h9 => ?_)
    · skip
      refine AOps.go rfl rfl rfl h9 (o_move _ rfl rfl) ?_
      refine AOps.go rfl rfl rfl h9 (o_call (light_s l hl) Tryd.call30 rfl rfl) ?_
      refine AOps.go rfl rfl rfl h9 (o_un _ rfl (fun _ => rfl) rfl) ?_
      refine AOps.call (o_pickF _ _ _ rfl h9 rfl rfl) ?_
      refine AOps.call (o_move _ rfl rfl) ?_
      refine AOps.split rfl rfl rfl (fun h13 => ?_) (fun h13 => ?_)
      · skip
        refine AOps.go rfl rfl rfl h13 (o_move _ rfl rfl) ?_
        refine AOps.go rfl rfl rfl h13 (o_len _ Tryd.underlying43 rfl rfl) ?_
        refine AOps.go rfl rfl rfl h13 (o_bin _ _ rfl rfl (fun _ => rfl) rfl) ?_
        refine AOps.go rfl rfl rfl h13 (o_move _ rfl rfl) ?_
        refine AOps.split rfl rfl rfl (fun h17 => ?_) (fun h17 => ?_)
        · skip
          refine AOps.go rfl rfl rfl h17 (o_move _ rfl rfl) ?_
          refine AOps.go rfl rfl rfl h17 (o_len _ Tryd.underlying43 rfl rfl) ?_
          refine AOps.go rfl rfl rfl h17 (o_bin _ _ rfl rfl (fun _ => rfl) rfl) ?_
          refine AOps.go rfl rfl rfl h13 (o_pickT _ _ _ rfl h17 rfl rfl) ?_
          refine AOps.call (o_pickF _ _ _ rfl h13 rfl rfl) ?_
          refine AOps.call (o_move _ rfl rfl) ?_
          refine AOps.split rfl rfl rfl (fun h21 => ?_) (fun h21 => ?_)
          · skip
            refine AOps.go rfl rfl rfl h21 (o_move _ rfl rfl) ?_
            refine AOps.go rfl rfl rfl h21 (o_len _ Tryd.underlying43 rfl rfl) ?_
            refine AOps.go rfl rfl rfl h21 (o_bin _ _ rfl rfl (fun _ => rfl) rfl) ?_
            refine AOps.call (o_pickF _ _ _ rfl h21 rfl rfl) ?_
            refine AOps.nil ?_
            refine AWP.cond _ rfl (fun h25 => ?_) (fun h25 => ?_)
            · skip
              refine AWP.seq ?_
              refine AWP.region ?_
              refine AOps.call (o_assign _ rfl rfl) ?_
              refine AOps.nil ?_
              refine AWP.ret ?_
              first
              | exact postQ.ret1 Tryd.results5 rfl rfl
              | (refine postQ.ret1 Tryd.results5 rfl ?_; simp [AV.close, AV.close.closeL, B, I]; done)
              | (refine postQ.ret1 Tryd.results5 rfl ?_; simp [AV.close, AV.close.closeL, B, I]; omega)
              | (refine postQ.ret1 Tryd.results5 rfl ?_; simp_all [AV.close, AV.close.closeL, B, I]; done)
              | (refine postQ.ret1 Tryd.results5 rfl ?_; simp_all [AV.close, AV.close.closeL, B, I]; omega)
            · skip
              refine AWP.skip ?_
              refine AWP.seq ?_
              refine AWP.region ?_
              refine AOps.call (o_loadRef _ rfl rfl Tryd.sizeOf24 Tryd.isAgg24 rfl rfl rfl) ?_
              refine AOps.call (o_move _ rfl rfl) ?_
              refine AOps.call (o_call (Run_s p l) Tryd.call34 rfl rfl) ?_
              refine AOps.call (o_move _ rfl rfl) ?_
              refine AOps.call (o_extract _ rfl rfl rfl rfl) ?_
              refine AOps.call (o_extract _ rfl rfl rfl rfl) ?_
              refine AOps.call (o_extract _ rfl rfl rfl rfl) ?_
              refine AOps.call (o_alloc ze24 rfl rfl) ?_
              refine AOps.cons (o_store _ _ rfl rfl Tryd.sizeOf24 rfl rfl rfl rfl rfl) ?_
              refine AOps.call (o_assign _ rfl rfl) ?_
              refine AOps.call (o_assign _ rfl rfl) ?_
              refine AOps.nil ?_
              refine AWP.seq ?_
              refine AWP.region ?_
              refine AOps.call (o_loadRef _ rfl rfl Tryd.sizeOf24 Tryd.isAgg24 rfl rfl rfl) ?_
              refine AOps.call (o_move _ rfl rfl) ?_
              refine AOps.call (o_call (rRun_s p l) Tryd.call35 rfl rfl) ?_
              refine AOps.call (o_move _ rfl rfl) ?_
              refine AOps.call (o_extract _ rfl rfl rfl rfl) ?_
              refine AOps.call (o_extract _ rfl rfl rfl rfl) ?_
              refine AOps.call (o_extract _ rfl rfl rfl rfl) ?_
              refine AOps.call (o_alloc ze24 rfl rfl) ?_
              refine AOps.cons (o_store _ _ rfl rfl Tryd.sizeOf24 rfl rfl rfl rfl rfl) ?_
              refine AOps.call (o_assign _ rfl rfl) ?_
              refine AOps.call (o_assign _ rfl rfl) ?_
              refine AOps.nil ?_
              refine AWP.seq ?_
              refine AWP.region ?_
              refine AOps.call (o_loadRef _ rfl rfl Tryd.sizeOf24 Tryd.isAgg24 rfl rfl rfl) ?_
              refine AOps.call (o_loadRef _ rfl rfl Tryd.sizeOf24 Tryd.isAgg24 rfl rfl rfl) ?_
              refine AOps.call (o_call (Same_s (runM p l).1 (runM p l).1 (by have := (run_len p l).1; omega)) Tryd.call33 rfl rfl) ?_
              refine AOps.call (o_move _ rfl rfl) ?_
              refine AOps.split rfl rfl rfl (fun h43 => ?_) (fun h43 => ?_)
              · skip
                refine AOps.go rfl rfl rfl h43 (o_move _ rfl rfl) ?_
                refine AOps.go rfl rfl rfl h43 (o_move _ rfl rfl) ?_
                refine AOps.go rfl rfl rfl h43 (o_call (ints_s (runM p l).2.1 (runM p l).2.1 (by have := (run_len p l).2; omega)) Tryd.call36 rfl rfl) ?_
                refine AOps.call (o_pickT _ _ _ rfl h43 rfl rfl) ?_
                refine AOps.call (o_move _ rfl rfl) ?_
                refine AOps.split rfl rfl rfl (fun h45 => ?_) (fun h45 => ?_)
                · skip
                  refine AOps.go rfl rfl rfl h45 (o_move _ rfl rfl) ?_
                  refine AOps.go rfl rfl rfl h45 (o_move _ rfl rfl) ?_
                  refine AOps.go rfl rfl rfl h45 (o_bin _ _ rfl rfl (fun _ => rfl) rfl) ?_
                  refine AOps.call (o_pickT _ _ _ rfl h45 rfl rfl) ?_
                  refine AOps.call (o_assign _ rfl rfl) ?_
                  refine AOps.nil ?_
                  refine AWP.ret ?_
                  first
                  | exact postQ.ret1 Tryd.results5 rfl rfl
                  | (refine postQ.ret1 Tryd.results5 rfl ?_; simp [AV.close, AV.close.closeL, B, I]; done)
                  | (refine postQ.ret1 Tryd.results5 rfl ?_; simp [AV.close, AV.close.closeL, B, I]; omega)
                  | (refine postQ.ret1 Tryd.results5 rfl ?_; simp_all [AV.close, AV.close.closeL, B, I]; done)
                  | (refine postQ.ret1 Tryd.results5 rfl ?_; simp_all [AV.close, AV.close.closeL, B, I]; omega)
                · skip
                  exfalso
                  simp at h45
              · skip
                exfalso
                rw [same_yes rfl] at h43
                cases h43
          · skip
            refine AOps.pass rfl rfl rfl h21 rfl ?_
            refine AOps.pass rfl rfl rfl h21 rfl ?_
            refine AOps.pass rfl rfl rfl h21 rfl ?_
            refine AOps.call (o_pickT _ _ _ rfl h21 rfl rfl) ?_
            refine AOps.nil ?_
            refine AWP.condT rfl ?_
            refine AWP.seq ?_
            refine AWP.region ?_
            refine AOps.call (o_assign _ rfl rfl) ?_
            refine AOps.nil ?_
            refine AWP.ret ?_
            first
            | exact postQ.ret1 Tryd.results5 rfl rfl
            | (refine postQ.ret1 Tryd.results5 rfl ?_; simp [AV.close, AV.close.closeL, B, I]; done)
            | (refine postQ.ret1 Tryd.results5 rfl ?_; simp [AV.close, AV.close.closeL, B, I]; omega)
            | (refine postQ.ret1 Tryd.results5 rfl ?_; simp_all [AV.close, AV.close.closeL, B, I]; done)
            | (refine postQ.ret1 Tryd.results5 rfl ?_; simp_all [AV.close, AV.close.closeL, B, I]; omega)
        · skip
          refine AOps.pass rfl rfl rfl h17 rfl ?_
          refine AOps.pass rfl rfl rfl h17 rfl ?_
          refine AOps.pass rfl rfl rfl h17 rfl ?_
          refine AOps.go rfl rfl rfl h13 (o_pickF _ _ _ rfl h17 rfl rfl) ?_
          refine AOps.call (o_pickF _ _ _ rfl h13 rfl rfl) ?_
          refine AOps.call (o_move _ rfl rfl) ?_
          refine AOps.go rfl rfl rfl rfl (o_move _ rfl rfl) ?_
          refine AOps.go rfl rfl rfl rfl (o_len _ Tryd.underlying43 rfl rfl) ?_
          refine AOps.go rfl rfl rfl rfl (o_bin _ _ rfl rfl (fun _ => rfl) rfl) ?_
          refine AOps.call (o_pickF _ _ _ rfl rfl rfl rfl) ?_
          refine AOps.nil ?_
          refine AWP.cond _ rfl (fun h50 => ?_) (fun h50 => ?_)
          · skip
            refine AWP.seq ?_
            refine AWP.region ?_
            refine AOps.call (o_assign _ rfl rfl) ?_
            refine AOps.nil ?_
            refine AWP.ret ?_
            first
            | exact postQ.ret1 Tryd.results5 rfl rfl
            | (refine postQ.ret1 Tryd.results5 rfl ?_; simp [AV.close, AV.close.closeL, B, I]; done)
            | (refine postQ.ret1 Tryd.results5 rfl ?_; simp [AV.close, AV.close.closeL, B, I]; omega)
            | (refine postQ.ret1 Tryd.results5 rfl ?_; simp_all [AV.close, AV.close.closeL, B, I]; done)
            | (refine postQ.ret1 Tryd.results5 rfl ?_; simp_all [AV.close, AV.close.closeL, B, I]; omega)
          · skip
            refine AWP.skip ?_
            refine AWP.seq ?_
            refine AWP.region ?_
            refine AOps.call (o_loadRef _ rfl rfl Tryd.sizeOf24 Tryd.isAgg24 rfl rfl rfl) ?_
            refine AOps.call (o_move _ rfl rfl) ?_
            refine AOps.call (o_call (Run_s p l) Tryd.call34 rfl rfl) ?_
            refine AOps.call (o_move _ rfl rfl) ?_
            refine AOps.call (o_extract _ rfl rfl rfl rfl) ?_
            refine AOps.call (o_extract _ rfl rfl rfl rfl) ?_
            refine AOps.call (o_extract _ rfl rfl rfl rfl) ?_
            refine AOps.call (o_alloc ze24 rfl rfl) ?_
            refine AOps.cons (o_store _ _ rfl rfl Tryd.sizeOf24 rfl rfl rfl rfl rfl) ?_
            refine AOps.call (o_assign _ rfl rfl) ?_
            refine AOps.call (o_assign _ rfl rfl) ?_
            refine AOps.nil ?_
            refine AWP.seq ?_
            refine AWP.region ?_
            refine AOps.call (o_loadRef _ rfl rfl Tryd.sizeOf24 Tryd.isAgg24 rfl rfl rfl) ?_
            refine AOps.call (o_move _ rfl rfl) ?_
            refine AOps.call (o_call (rRun_s p l) Tryd.call35 rfl rfl) ?_
            refine AOps.call (o_move _ rfl rfl) ?_
            refine AOps.call (o_extract _ rfl rfl rfl rfl) ?_
            refine AOps.call (o_extract _ rfl rfl rfl rfl) ?_
            refine AOps.call (o_extract _ rfl rfl rfl rfl) ?_
            refine AOps.call (o_alloc ze24 rfl rfl) ?_
            refine AOps.cons (o_store _ _ rfl rfl Tryd.sizeOf24 rfl rfl rfl rfl rfl) ?_
            refine AOps.call (o_assign _ rfl rfl) ?_
            refine AOps.call (o_assign _ rfl rfl) ?_
            refine AOps.nil ?_
            refine AWP.seq ?_
            refine AWP.region ?_
            refine AOps.call (o_loadRef _ rfl rfl Tryd.sizeOf24 Tryd.isAgg24 rfl rfl rfl) ?_
            refine AOps.call (o_loadRef _ rfl rfl Tryd.sizeOf24 Tryd.isAgg24 rfl rfl rfl) ?_
            refine AOps.call (o_call (Same_s (runM p l).1 (runM p l).1 (by have := (run_len p l).1; omega)) Tryd.call33 rfl rfl) ?_
            refine AOps.call (o_move _ rfl rfl) ?_
            refine AOps.split rfl rfl rfl (fun h68 => ?_) (fun h68 => ?_)
            · skip
              refine AOps.go rfl rfl rfl h68 (o_move _ rfl rfl) ?_
              refine AOps.go rfl rfl rfl h68 (o_move _ rfl rfl) ?_
              refine AOps.go rfl rfl rfl h68 (o_call (ints_s (runM p l).2.1 (runM p l).2.1 (by have := (run_len p l).2; omega)) Tryd.call36 rfl rfl) ?_
              refine AOps.call (o_pickT _ _ _ rfl h68 rfl rfl) ?_
              refine AOps.call (o_move _ rfl rfl) ?_
              refine AOps.split rfl rfl rfl (fun h70 => ?_) (fun h70 => ?_)
              · skip
                refine AOps.go rfl rfl rfl h70 (o_move _ rfl rfl) ?_
                refine AOps.go rfl rfl rfl h70 (o_move _ rfl rfl) ?_
                refine AOps.go rfl rfl rfl h70 (o_bin _ _ rfl rfl (fun _ => rfl) rfl) ?_
                refine AOps.call (o_pickT _ _ _ rfl h70 rfl rfl) ?_
                refine AOps.call (o_assign _ rfl rfl) ?_
                refine AOps.nil ?_
                refine AWP.ret ?_
                first
                | exact postQ.ret1 Tryd.results5 rfl rfl
                | (refine postQ.ret1 Tryd.results5 rfl ?_; simp [AV.close, AV.close.closeL, B, I]; done)
                | (refine postQ.ret1 Tryd.results5 rfl ?_; simp [AV.close, AV.close.closeL, B, I]; omega)
                | (refine postQ.ret1 Tryd.results5 rfl ?_; simp_all [AV.close, AV.close.closeL, B, I]; done)
                | (refine postQ.ret1 Tryd.results5 rfl ?_; simp_all [AV.close, AV.close.closeL, B, I]; omega)
              · skip
                exfalso
                simp at h70
            · skip
              exfalso
              rw [same_yes rfl] at h68
              cases h68
      · skip
        refine AOps.pass rfl rfl rfl h13 rfl ?_
        refine AOps.pass rfl rfl rfl h13 rfl ?_
        refine AOps.pass rfl rfl rfl h13 rfl ?_
        refine AOps.pass rfl rfl rfl h13 rfl ?_
        refine AOps.passU rfl rfl rfl rfl ?_
        refine AOps.passU rfl rfl rfl rfl ?_
        refine AOps.passU rfl rfl rfl rfl ?_
        refine AOps.pass rfl rfl rfl h13 rfl ?_
        refine AOps.call (o_pickT _ _ _ rfl h13 rfl rfl) ?_
        refine AOps.call (o_move _ rfl rfl) ?_
        refine AOps.pass rfl rfl rfl rfl rfl ?_
        refine AOps.pass rfl rfl rfl rfl rfl ?_
        refine AOps.pass rfl rfl rfl rfl rfl ?_
        refine AOps.call (o_pickT _ _ _ rfl rfl rfl rfl) ?_
        refine AOps.nil ?_
        refine AWP.condT rfl ?_
        refine AWP.seq ?_
        refine AWP.region ?_
        refine AOps.call (o_assign _ rfl rfl) ?_
        refine AOps.nil ?_
        refine AWP.ret ?_
        first
        | exact postQ.ret1 Tryd.results5 rfl rfl
        | (refine postQ.ret1 Tryd.results5 rfl ?_; simp [AV.close, AV.close.closeL, B, I]; done)
        | (refine postQ.ret1 Tryd.results5 rfl ?_; simp [AV.close, AV.close.closeL, B, I]; omega)
        | (refine postQ.ret1 Tryd.results5 rfl ?_; simp_all [AV.close, AV.close.closeL, B, I]; done)
        | (refine postQ.ret1 Tryd.results5 rfl ?_; simp_all [AV.close, AV.close.closeL, B, I]; omega)
    · skip
      refine AOps.pass rfl rfl rfl h9 rfl ?_
      refine AOps.pass rfl rfl rfl h9 rfl ?_
      refine AOps.pass rfl rfl rfl h9 rfl ?_
      refine AOps.call (o_pickT _ _ _ rfl h9 rfl rfl) ?_
      refine AOps.call (o_move _ rfl rfl) ?_
      refine AOps.pass rfl rfl rfl rfl rfl ?_
      refine AOps.pass rfl rfl rfl rfl rfl ?_
      refine AOps.pass rfl rfl rfl rfl rfl ?_
      refine AOps.pass rfl rfl rfl rfl rfl ?_
      refine AOps.passU rfl rfl rfl rfl ?_
      refine AOps.passU rfl rfl rfl rfl ?_
      refine AOps.passU rfl rfl rfl rfl ?_
      refine AOps.pass rfl rfl rfl rfl rfl ?_
      refine AOps.call (o_pickT _ _ _ rfl rfl rfl rfl) ?_
      refine AOps.call (o_move _ rfl rfl) ?_
      refine AOps.pass rfl rfl rfl rfl rfl ?_
      refine AOps.pass rfl rfl rfl rfl rfl ?_
      refine AOps.pass rfl rfl rfl rfl rfl ?_
      refine AOps.call (o_pickT _ _ _ rfl rfl rfl rfl) ?_
      refine AOps.nil ?_
      refine AWP.condT rfl ?_
      refine AWP.seq ?_
      refine AWP.region ?_
      refine AOps.call (o_assign _ rfl rfl) ?_
      refine AOps.nil ?_
      refine AWP.ret ?_
      first
      | exact postQ.ret1 Tryd.results5 rfl rfl
      | (refine postQ.ret1 Tryd.results5 rfl ?_; simp [AV.close, AV.close.closeL, B, I]; done)
      | (refine postQ.ret1 Tryd.results5 rfl ?_; simp [AV.close, AV.close.closeL, B, I]; omega)
      | (refine postQ.ret1 Tryd.results5 rfl ?_; simp_all [AV.close, AV.close.closeL, B, I]; done)
      | (refine postQ.ret1 Tryd.results5 rfl ?_; simp_all [AV.close, AV.close.closeL, B, I]; omega)

end Go.Proofs.YtgagfmjpmdgfdaaDoor
