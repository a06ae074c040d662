import Derived.Test.YtphoomnonenalaaDoorL5a
set_option linter.unusedSimpArgs false
set_option linter.unusedVariables false
namespace Go.Proofs.YtphoomnonenalaaDoor
open Go.Ab

set_option maxRecDepth 20000 in
theorem CourseEnds_a1 (s : Scl) (fr to day grams tn : Int) (h1 : ¬ askE s [fr, day] = 0) (h2 : ¬ askE s [fr, to, day] = 0) : FSpecG Tryd.prog TAB 8 [.agg (eS s), I fr, I to, I day, I grams, I tn] (B true) (none) := by
  refine FSpecG.of_body tab_stable Tryd.func8 rfl (leB rfl) fun w0 M0 hG => ?_
  have hA := Drift_s s fr day
  have hB := Turn_s s fr to day
  rw [if_neg h1] at hA
  rw [if_neg h2] at hB
  generalize askE s [fr, day] = e at *
  generalize askE s [fr, to, day] = f at *
  refine AWP.seq ?_
  refine AWP.region ?_
  refine AOps.call (o_box _ rfl rfl rfl) ?_
  refine AOps.call (o_box _ rfl rfl rfl) ?_
  refine AOps.call (o_box _ rfl rfl rfl) ?_
  refine AOps.call (o_box _ rfl rfl rfl) ?_
  refine AOps.call (o_assign _ rfl rfl) ?_
  refine AOps.nil ?_
  refine AWP.seq ?_
  refine AWP.seq ?_
  refine AWP.region ?_
  refine AOps.call (o_callG (sane_s) hG Tryd.call12 rfl rfl) ?_
  refine AOps.call (o_un _ rfl (fun _ => rfl) rfl) ?_
  refine AOps.nil ?_
  refine AWP.cond _ rfl (fun h7 => ?_) (fun h7 => ?_)
  · skip
    refine AWP.seq ?_
    refine AWP.region ?_
    refine AOps.call (o_assign _ rfl rfl) ?_
    refine AOps.nil ?_
    refine AWP.ret ?_
    first
    | exact postQ.ret1 Tryd.results8 rfl rfl
    | (exfalso; simp at *; done)
    | (exfalso; simp_all; done)
    | (refine postQ.ret1 Tryd.results8 rfl ?_; simp [AV.close, B]; done)
  · skip
    refine AWP.skip ?_
    refine AWP.seq ?_
    refine AWP.seq ?_
    refine AWP.region ?_
    refine AOps.call (o_fieldRef _ rfl fa24_2 rfl rfl) ?_
    refine AOps.call (o_loadRef _ rfl rfl Tryd.sizeOf22 Tryd.isAgg22 rfl rfl rfl) ?_
    refine AOps.call (o_len _ Tryd.underlying22 rfl rfl) ?_
    refine AOps.call (o_bin _ _ rfl rfl (fun _ => rfl) rfl) ?_
    refine AOps.nil ?_
    refine AWP.cond _ rfl (fun h12 => ?_) (fun h12 => ?_)
    · skip
      refine AWP.seq ?_
      refine AWP.region ?_
      refine AOps.call (o_assign _ rfl rfl) ?_
      refine AOps.nil ?_
      refine AWP.ret ?_
      first
      | exact postQ.ret1 Tryd.results8 rfl rfl
      | (exfalso; simp at *; done)
      | (exfalso; simp_all; done)
      | (refine postQ.ret1 Tryd.results8 rfl ?_; simp [AV.close, B]; done)
    · skip
      have h100 : s.tests.length ≤ 100 := by simp [tests_len] at h12; omega
      refine AWP.skip ?_
      refine AWP.seq ?_
      refine AWP.region ?_
      refine AOps.call (o_loadRef _ rfl rfl Tryd.sizeOf24 Tryd.isAgg24 rfl rfl rfl) ?_
      refine AOps.call (o_loadRef _ rfl rfl Tryd.sizeOf3 Tryd.isAgg3 rfl rfl rfl) ?_
      refine AOps.call (o_loadRef _ rfl rfl Tryd.sizeOf3 Tryd.isAgg3 rfl rfl rfl) ?_
      refine AOps.call (o_call (hA) Tryd.call22 rfl rfl) ?_
      refine AOps.call (o_move _ rfl rfl) ?_
      refine AOps.call (o_extract _ rfl rfl rfl rfl) ?_
      refine AOps.call (o_extract _ rfl rfl rfl rfl) ?_
      refine AOps.call (o_alloc ze40 rfl rfl) ?_
      refine AOps.cons (o_store _ _ rfl rfl Tryd.sizeOf40 rfl rfl rfl rfl rfl) ?_
      refine AOps.call (o_assign _ rfl rfl) ?_
      refine AOps.nil ?_
      refine AWP.seq ?_
      refine AWP.region ?_
      refine AOps.call (o_loadRef _ rfl rfl Tryd.sizeOf24 Tryd.isAgg24 rfl rfl rfl) ?_
      refine AOps.call (o_loadRef _ rfl rfl Tryd.sizeOf3 Tryd.isAgg3 rfl rfl rfl) ?_
      refine AOps.call (o_loadRef _ rfl rfl Tryd.sizeOf3 Tryd.isAgg3 rfl rfl rfl) ?_
      refine AOps.call (o_loadRef _ rfl rfl Tryd.sizeOf3 Tryd.isAgg3 rfl rfl rfl) ?_
      refine AOps.call (o_call (hB) Tryd.call24 rfl rfl) ?_
      refine AOps.call (o_move _ rfl rfl) ?_
      refine AOps.call (o_extract _ rfl rfl rfl rfl) ?_
      refine AOps.call (o_extract _ rfl rfl rfl rfl) ?_
      refine AOps.call (o_alloc ze40 rfl rfl) ?_
      refine AOps.cons (o_store _ _ rfl rfl Tryd.sizeOf40 rfl rfl rfl rfl rfl) ?_
      refine AOps.call (o_assign _ rfl rfl) ?_
      refine AOps.nil ?_
      refine AWP.seq ?_
      refine AWP.seq ?_
      refine AWP.region ?_
      refine AOps.call (o_move _ rfl rfl) ?_
      refine AOps.call (o_bin _ _ rfl rfl (fun _ => rfl) rfl) ?_
      refine AOps.call (o_move _ rfl rfl) ?_
      refine AOps.split rfl rfl rfl (fun h29 => ?_) (fun h29 => ?_)
      · skip
        refine AOps.go rfl rfl rfl h29 (o_move _ rfl rfl) ?_
        refine AOps.go rfl rfl rfl h29 (o_bin _ _ rfl rfl (fun _ => rfl) rfl) ?_
        refine AOps.call (o_pickF _ _ _ rfl h29 rfl rfl) ?_
        refine AOps.nil ?_
        refine AWP.cond _ rfl (fun h31 => ?_) (fun h31 => ?_)
        · skip
          refine AWP.seq ?_
          refine AWP.region ?_
          refine AOps.call (o_loadRef _ rfl rfl Tryd.sizeOf40 Tryd.isAgg40 rfl rfl rfl) ?_
          refine AOps.call (o_build bu40 rfl rfl rfl) ?_
          refine AOps.call (o_bin _ _ rfl rfl (spanEq _ _ _ _ _ _) rfl) ?_
          refine AOps.call (o_move _ rfl rfl) ?_
          refine AOps.split rfl rfl rfl (fun h35 => ?_) (fun h35 => ?_)
          · skip
            refine AOps.go rfl rfl rfl h35 (o_loadRef _ rfl rfl Tryd.sizeOf40 Tryd.isAgg40 rfl rfl rfl) ?_
            refine AOps.go rfl rfl rfl h35 (o_build bu40 rfl rfl rfl) ?_
            refine AOps.go rfl rfl rfl h35 (o_bin _ _ rfl rfl (spanEq _ _ _ _ _ _) rfl) ?_
            refine AOps.call (o_pickT _ _ _ rfl h35 rfl rfl) ?_
            refine AOps.call (o_move _ rfl rfl) ?_
            refine AOps.split rfl rfl rfl (fun h39 => ?_) (fun h39 => ?_)
            · skip
              refine AOps.go rfl rfl rfl h39 (o_move _ rfl rfl) ?_
              refine AOps.go rfl rfl rfl h39 (o_bin _ _ rfl rfl (fun _ => rfl) rfl) ?_
              refine AOps.call (o_pickT _ _ _ rfl h39 rfl rfl) ?_
              refine AOps.call (o_move _ rfl rfl) ?_
              refine AOps.split rfl rfl rfl (fun h41 => ?_) (fun h41 => ?_)
              · skip
                refine AOps.go rfl rfl rfl h41 (o_move _ rfl rfl) ?_
                refine AOps.go rfl rfl rfl h41 (o_bin _ _ rfl rfl (fun _ => rfl) rfl) ?_
                refine AOps.call (o_pickT _ _ _ rfl h41 rfl rfl) ?_
                refine AOps.call (o_move _ rfl rfl) ?_
                refine AOps.split rfl rfl rfl (fun h43 => ?_) (fun h43 => ?_)
                · skip
                  refine AOps.go rfl rfl rfl h43 (o_move _ rfl rfl) ?_
                  refine AOps.go rfl rfl rfl h43 (o_bin _ _ rfl rfl (fun _ => rfl) rfl) ?_
                  refine AOps.go rfl rfl rfl h43 (o_move _ rfl rfl) ?_
                  refine AOps.split rfl rfl rfl (fun h45 => ?_) (fun h45 => ?_)
                  · skip
                    refine AOps.go rfl rfl rfl h45 (o_move _ rfl rfl) ?_
                    refine AOps.go rfl rfl rfl h45 (o_bin _ _ rfl rfl (fun _ => rfl) rfl) ?_
                    refine AOps.go rfl rfl rfl h43 (o_pickT _ _ _ rfl h45 rfl rfl) ?_
                    refine AOps.call (o_pickF _ _ _ rfl h43 rfl rfl) ?_
                    refine AOps.call (o_assign _ rfl rfl) ?_
                    refine AOps.nil ?_
                    refine AWP.ret ?_
                    first
                    | exact postQ.ret1 Tryd.results8 rfl rfl
                    | (exfalso; simp at *; done)
                    | (exfalso; simp_all; done)
                    | (refine postQ.ret1 Tryd.results8 rfl ?_; simp [AV.close, B]; done)
                  · skip
                    refine AOps.pass rfl rfl rfl h45 rfl ?_
                    refine AOps.pass rfl rfl rfl h45 rfl ?_
                    refine AOps.go rfl rfl rfl h43 (o_pickF _ _ _ rfl h45 rfl rfl) ?_
                    refine AOps.call (o_pickF _ _ _ rfl h43 rfl rfl) ?_
                    refine AOps.call (o_assign _ rfl rfl) ?_
                    refine AOps.nil ?_
                    refine AWP.ret ?_
                    first
                    | exact postQ.ret1 Tryd.results8 rfl rfl
                    | (exfalso; simp at *; done)
                    | (exfalso; simp_all; done)
                    | (refine postQ.ret1 Tryd.results8 rfl ?_; simp [AV.close, B]; done)
                · skip
                  refine AOps.pass rfl rfl rfl h43 rfl ?_
                  refine AOps.pass rfl rfl rfl h43 rfl ?_
                  refine AOps.pass rfl rfl rfl h43 rfl ?_
                  refine AOps.passU rfl rfl rfl rfl ?_
                  refine AOps.passU rfl rfl rfl rfl ?_
                  refine AOps.pass rfl rfl rfl h43 rfl ?_
                  refine AOps.call (o_pickT _ _ _ rfl h43 rfl rfl) ?_
                  refine AOps.call (o_assign _ rfl rfl) ?_
                  refine AOps.nil ?_
                  refine AWP.ret ?_
                  first
                  | exact postQ.ret1 Tryd.results8 rfl rfl
                  | (exfalso; simp at *; done)
                  | (exfalso; simp_all; done)
                  | (refine postQ.ret1 Tryd.results8 rfl ?_; simp [AV.close, B]; done)
              · skip
                refine AOps.pass rfl rfl rfl h41 rfl ?_
                refine AOps.pass rfl rfl rfl h41 rfl ?_
                refine AOps.call (o_pickF _ _ _ rfl h41 rfl rfl) ?_
                refine AOps.call (o_move _ rfl rfl) ?_
                refine AOps.go rfl rfl rfl rfl (o_move _ rfl rfl) ?_
                refine AOps.go rfl rfl rfl rfl (o_bin _ _ rfl rfl (fun _ => rfl) rfl) ?_
                refine AOps.go rfl rfl rfl rfl (o_move _ rfl rfl) ?_
                refine AOps.split rfl rfl rfl (fun h48 => ?_) (fun h48 => ?_)
                · skip
                  refine AOps.go rfl rfl rfl h48 (o_move _ rfl rfl) ?_
                  refine AOps.go rfl rfl rfl h48 (o_bin _ _ rfl rfl (fun _ => rfl) rfl) ?_
                  refine AOps.go rfl rfl rfl rfl (o_pickT _ _ _ rfl h48 rfl rfl) ?_
                  refine AOps.call (o_pickF _ _ _ rfl rfl rfl rfl) ?_
                  refine AOps.call (o_assign _ rfl rfl) ?_
                  refine AOps.nil ?_
                  refine AWP.ret ?_
                  first
                  | exact postQ.ret1 Tryd.results8 rfl rfl
                  | (exfalso; simp at *; done)
                  | (exfalso; simp_all; done)
                  | (refine postQ.ret1 Tryd.results8 rfl ?_; simp [AV.close, B]; done)
                · skip
                  refine AOps.pass rfl rfl rfl h48 rfl ?_
                  refine AOps.pass rfl rfl rfl h48 rfl ?_
                  refine AOps.go rfl rfl rfl rfl (o_pickF _ _ _ rfl h48 rfl rfl) ?_
                  refine AOps.call (o_pickF _ _ _ rfl rfl rfl rfl) ?_
                  refine AOps.call (o_assign _ rfl rfl) ?_
                  refine AOps.nil ?_
                  refine AWP.ret ?_
                  first
                  | exact postQ.ret1 Tryd.results8 rfl rfl
                  | (exfalso; simp at *; done)
                  | (exfalso; simp_all; done)
                  | (refine postQ.ret1 Tryd.results8 rfl ?_; simp [AV.close, B]; done)
            · skip
              refine AOps.pass rfl rfl rfl h39 rfl ?_
              refine AOps.pass rfl rfl rfl h39 rfl ?_
              refine AOps.call (o_pickF _ _ _ rfl h39 rfl rfl) ?_
              refine AOps.call (o_move _ rfl rfl) ?_
              refine AOps.pass rfl rfl rfl rfl rfl ?_
              refine AOps.pass rfl rfl rfl rfl rfl ?_
              refine AOps.call (o_pickF _ _ _ rfl rfl rfl rfl) ?_
              refine AOps.call (o_move _ rfl rfl) ?_
              refine AOps.go rfl rfl rfl rfl (o_move _ rfl rfl) ?_
              refine AOps.go rfl rfl rfl rfl (o_bin _ _ rfl rfl (fun _ => rfl) rfl) ?_
              refine AOps.go rfl rfl rfl rfl (o_move _ rfl rfl) ?_
              refine AOps.split rfl rfl rfl (fun h51 => ?_) (fun h51 => ?_)
              · skip
                refine AOps.go rfl rfl rfl h51 (o_move _ rfl rfl) ?_
                refine AOps.go rfl rfl rfl h51 (o_bin _ _ rfl rfl (fun _ => rfl) rfl) ?_
                refine AOps.go rfl rfl rfl rfl (o_pickT _ _ _ rfl h51 rfl rfl) ?_
                refine AOps.call (o_pickF _ _ _ rfl rfl rfl rfl) ?_
                refine AOps.call (o_assign _ rfl rfl) ?_
                refine AOps.nil ?_
                refine AWP.ret ?_
                first
                | exact postQ.ret1 Tryd.results8 rfl rfl
                | (exfalso; simp at *; done)
                | (exfalso; simp_all; done)
                | (refine postQ.ret1 Tryd.results8 rfl ?_; simp [AV.close, B]; done)
              · skip
                refine AOps.pass rfl rfl rfl h51 rfl ?_
                refine AOps.pass rfl rfl rfl h51 rfl ?_
                refine AOps.go rfl rfl rfl rfl (o_pickF _ _ _ rfl h51 rfl rfl) ?_
                refine AOps.call (o_pickF _ _ _ rfl rfl rfl rfl) ?_
                refine AOps.call (o_assign _ rfl rfl) ?_
                refine AOps.nil ?_
                refine AWP.ret ?_
                first
                | exact postQ.ret1 Tryd.results8 rfl rfl
                | (exfalso; simp at *; done)
                | (exfalso; simp_all; done)
                | (refine postQ.ret1 Tryd.results8 rfl ?_; simp [AV.close, B]; done)
          · skip
            refine AOps.pass rfl rfl rfl h35 rfl ?_
            refine AOps.pass rfl rfl rfl h35 rfl ?_
            refine AOps.pass rfl rfl rfl h35 rfl ?_
            refine AOps.call (o_pickF _ _ _ rfl h35 rfl rfl) ?_
            refine AOps.call (o_move _ rfl rfl) ?_
            refine AOps.pass rfl rfl rfl rfl rfl ?_
            refine AOps.pass rfl rfl rfl rfl rfl ?_
            refine AOps.call (o_pickF _ _ _ rfl rfl rfl rfl) ?_
            refine AOps.call (o_move _ rfl rfl) ?_
            refine AOps.pass rfl rfl rfl rfl rfl ?_
            refine AOps.pass rfl rfl rfl rfl rfl ?_
            refine AOps.call (o_pickF _ _ _ rfl rfl rfl rfl) ?_
            refine AOps.call (o_move _ rfl rfl) ?_
            refine AOps.go rfl rfl rfl rfl (o_move _ rfl rfl) ?_
            refine AOps.go rfl rfl rfl rfl (o_bin _ _ rfl rfl (fun _ => rfl) rfl) ?_
            refine AOps.go rfl rfl rfl rfl (o_move _ rfl rfl) ?_
            refine AOps.split rfl rfl rfl (fun h54 => ?_) (fun h54 => ?_)
            · skip
              refine AOps.go rfl rfl rfl h54 (o_move _ rfl rfl) ?_
              refine AOps.go rfl rfl rfl h54 (o_bin _ _ rfl rfl (fun _ => rfl) rfl) ?_
              refine AOps.go rfl rfl rfl rfl (o_pickT _ _ _ rfl h54 rfl rfl) ?_
              refine AOps.call (o_pickF _ _ _ rfl rfl rfl rfl) ?_
              refine AOps.call (o_assign _ rfl rfl) ?_
              refine AOps.nil ?_
              refine AWP.ret ?_
              first
              | exact postQ.ret1 Tryd.results8 rfl rfl
              | (exfalso; simp at *; done)
              | (exfalso; simp_all; done)
              | (refine postQ.ret1 Tryd.results8 rfl ?_; simp [AV.close, B]; done)
            · skip
              refine AOps.pass rfl rfl rfl h54 rfl ?_
              refine AOps.pass rfl rfl rfl h54 rfl ?_
              refine AOps.go rfl rfl rfl rfl (o_pickF _ _ _ rfl h54 rfl rfl) ?_
              refine AOps.call (o_pickF _ _ _ rfl rfl rfl rfl) ?_
              refine AOps.call (o_assign _ rfl rfl) ?_
              refine AOps.nil ?_
              refine AWP.ret ?_
              first
              | exact postQ.ret1 Tryd.results8 rfl rfl
              | (exfalso; simp at *; done)
              | (exfalso; simp_all; done)
              | (refine postQ.ret1 Tryd.results8 rfl ?_; simp [AV.close, B]; done)
        · skip
          exfalso
          simp_all
      · skip
        refine AOps.pass rfl rfl rfl h29 rfl ?_
        refine AOps.pass rfl rfl rfl h29 rfl ?_
        refine AOps.call (o_pickT _ _ _ rfl h29 rfl rfl) ?_
        refine AOps.nil ?_
        refine AWP.condT rfl ?_
        refine AWP.seq ?_
        refine AWP.region ?_
        refine AOps.call (o_loadRef _ rfl rfl Tryd.sizeOf40 Tryd.isAgg40 rfl rfl rfl) ?_
        refine AOps.call (o_build bu40 rfl rfl rfl) ?_
        refine AOps.call (o_bin _ _ rfl rfl (spanEq _ _ _ _ _ _) rfl) ?_
        refine AOps.call (o_move _ rfl rfl) ?_
        refine AOps.split rfl rfl rfl (fun h59 => ?_) (fun h59 => ?_)
        · skip
          refine AOps.go rfl rfl rfl h59 (o_loadRef _ rfl rfl Tryd.sizeOf40 Tryd.isAgg40 rfl rfl rfl) ?_
          refine AOps.go rfl rfl rfl h59 (o_build bu40 rfl rfl rfl) ?_
          refine AOps.go rfl rfl rfl h59 (o_bin _ _ rfl rfl (spanEq _ _ _ _ _ _) rfl) ?_
          refine AOps.call (o_pickT _ _ _ rfl h59 rfl rfl) ?_
          refine AOps.call (o_move _ rfl rfl) ?_
          refine AOps.split rfl rfl rfl (fun h63 => ?_) (fun h63 => ?_)
          · skip
            refine AOps.go rfl rfl rfl h63 (o_move _ rfl rfl) ?_
            refine AOps.go rfl rfl rfl h63 (o_bin _ _ rfl rfl (fun _ => rfl) rfl) ?_
            refine AOps.call (o_pickT _ _ _ rfl h63 rfl rfl) ?_
            refine AOps.call (o_move _ rfl rfl) ?_
            refine AOps.split rfl rfl rfl (fun h65 => ?_) (fun h65 => ?_)
            · skip
              refine AOps.go rfl rfl rfl h65 (o_move _ rfl rfl) ?_
              refine AOps.go rfl rfl rfl h65 (o_bin _ _ rfl rfl (fun _ => rfl) rfl) ?_
              refine AOps.call (o_pickT _ _ _ rfl h65 rfl rfl) ?_
              refine AOps.call (o_move _ rfl rfl) ?_
              refine AOps.split rfl rfl rfl (fun h67 => ?_) (fun h67 => ?_)
              · skip
                refine AOps.go rfl rfl rfl h67 (o_move _ rfl rfl) ?_
                refine AOps.go rfl rfl rfl h67 (o_bin _ _ rfl rfl (fun _ => rfl) rfl) ?_
                refine AOps.go rfl rfl rfl h67 (o_move _ rfl rfl) ?_
                refine AOps.split rfl rfl rfl (fun h69 => ?_) (fun h69 => ?_)
                · skip
                  refine AOps.go rfl rfl rfl h69 (o_move _ rfl rfl) ?_
                  refine AOps.go rfl rfl rfl h69 (o_bin _ _ rfl rfl (fun _ => rfl) rfl) ?_
                  refine AOps.go rfl rfl rfl h67 (o_pickT _ _ _ rfl h69 rfl rfl) ?_
                  refine AOps.call (o_pickF _ _ _ rfl h67 rfl rfl) ?_
                  refine AOps.call (o_assign _ rfl rfl) ?_
                  refine AOps.nil ?_
                  refine AWP.ret ?_
                  first
                  | exact postQ.ret1 Tryd.results8 rfl rfl
                  | (exfalso; simp at *; done)
                  | (exfalso; simp_all; done)
                  | (refine postQ.ret1 Tryd.results8 rfl ?_; simp [AV.close, B]; done)
                · skip
                  refine AOps.pass rfl rfl rfl h69 rfl ?_
                  refine AOps.pass rfl rfl rfl h69 rfl ?_
                  refine AOps.go rfl rfl rfl h67 (o_pickF _ _ _ rfl h69 rfl rfl) ?_
                  refine AOps.call (o_pickF _ _ _ rfl h67 rfl rfl) ?_
                  refine AOps.call (o_assign _ rfl rfl) ?_
                  refine AOps.nil ?_
                  refine AWP.ret ?_
                  first
                  | exact postQ.ret1 Tryd.results8 rfl rfl
                  | (exfalso; simp at *; done)
                  | (exfalso; simp_all; done)
                  | (refine postQ.ret1 Tryd.results8 rfl ?_; simp [AV.close, B]; done)
              · skip
                refine AOps.pass rfl rfl rfl h67 rfl ?_
                refine AOps.pass rfl rfl rfl h67 rfl ?_
                refine AOps.pass rfl rfl rfl h67 rfl ?_
                refine AOps.passU rfl rfl rfl rfl ?_
                refine AOps.passU rfl rfl rfl rfl ?_
                refine AOps.pass rfl rfl rfl h67 rfl ?_
                refine AOps.call (o_pickT _ _ _ rfl h67 rfl rfl) ?_
                refine AOps.call (o_assign _ rfl rfl) ?_
                refine AOps.nil ?_
                refine AWP.ret ?_
                first
                | exact postQ.ret1 Tryd.results8 rfl rfl
                | (exfalso; simp at *; done)
                | (exfalso; simp_all; done)
                | (refine postQ.ret1 Tryd.results8 rfl ?_; simp [AV.close, B]; done)
            · skip
              refine AOps.pass rfl rfl rfl h65 rfl ?_
              refine AOps.pass rfl rfl rfl h65 rfl ?_
              refine AOps.call (o_pickF _ _ _ rfl h65 rfl rfl) ?_
              refine AOps.call (o_move _ rfl rfl) ?_
              refine AOps.go rfl rfl rfl rfl (o_move _ rfl rfl) ?_
              refine AOps.go rfl rfl rfl rfl (o_bin _ _ rfl rfl (fun _ => rfl) rfl) ?_
              refine AOps.go rfl rfl rfl rfl (o_move _ rfl rfl) ?_
              refine AOps.split rfl rfl rfl (fun h72 => ?_) (fun h72 => ?_)
              · skip
                refine AOps.go rfl rfl rfl h72 (o_move _ rfl rfl) ?_
                refine AOps.go rfl rfl rfl h72 (o_bin _ _ rfl rfl (fun _ => rfl) rfl) ?_
                refine AOps.go rfl rfl rfl rfl (o_pickT _ _ _ rfl h72 rfl rfl) ?_
                refine AOps.call (o_pickF _ _ _ rfl rfl rfl rfl) ?_
                refine AOps.call (o_assign _ rfl rfl) ?_
                refine AOps.nil ?_
                refine AWP.ret ?_
                first
                | exact postQ.ret1 Tryd.results8 rfl rfl
                | (exfalso; simp at *; done)
                | (exfalso; simp_all; done)
                | (refine postQ.ret1 Tryd.results8 rfl ?_; simp [AV.close, B]; done)
              · skip
                refine AOps.pass rfl rfl rfl h72 rfl ?_
                refine AOps.pass rfl rfl rfl h72 rfl ?_
                refine AOps.go rfl rfl rfl rfl (o_pickF _ _ _ rfl h72 rfl rfl) ?_
                refine AOps.call (o_pickF _ _ _ rfl rfl rfl rfl) ?_
                refine AOps.call (o_assign _ rfl rfl) ?_
                refine AOps.nil ?_
                refine AWP.ret ?_
                first
                | exact postQ.ret1 Tryd.results8 rfl rfl
                | (exfalso; simp at *; done)
                | (exfalso; simp_all; done)
                | (refine postQ.ret1 Tryd.results8 rfl ?_; simp [AV.close, B]; done)
          · skip
            refine AOps.pass rfl rfl rfl h63 rfl ?_
            refine AOps.pass rfl rfl rfl h63 rfl ?_
            refine AOps.call (o_pickF _ _ _ rfl h63 rfl rfl) ?_
            refine AOps.call (o_move _ rfl rfl) ?_
            refine AOps.pass rfl rfl rfl rfl rfl ?_
            refine AOps.pass rfl rfl rfl rfl rfl ?_
            refine AOps.call (o_pickF _ _ _ rfl rfl rfl rfl) ?_
            refine AOps.call (o_move _ rfl rfl) ?_
            refine AOps.go rfl rfl rfl rfl (o_move _ rfl rfl) ?_
            refine AOps.go rfl rfl rfl rfl (o_bin _ _ rfl rfl (fun _ => rfl) rfl) ?_
            refine AOps.go rfl rfl rfl rfl (o_move _ rfl rfl) ?_
            refine AOps.split rfl rfl rfl (fun h75 => ?_) (fun h75 => ?_)
            · skip
              refine AOps.go rfl rfl rfl h75 (o_move _ rfl rfl) ?_
              refine AOps.go rfl rfl rfl h75 (o_bin _ _ rfl rfl (fun _ => rfl) rfl) ?_
              refine AOps.go rfl rfl rfl rfl (o_pickT _ _ _ rfl h75 rfl rfl) ?_
              refine AOps.call (o_pickF _ _ _ rfl rfl rfl rfl) ?_
              refine AOps.call (o_assign _ rfl rfl) ?_
              refine AOps.nil ?_
              refine AWP.ret ?_
              first
              | exact postQ.ret1 Tryd.results8 rfl rfl
              | (exfalso; simp at *; done)
              | (exfalso; simp_all; done)
              | (refine postQ.ret1 Tryd.results8 rfl ?_; simp [AV.close, B]; done)
            · skip
              refine AOps.pass rfl rfl rfl h75 rfl ?_
              refine AOps.pass rfl rfl rfl h75 rfl ?_
              refine AOps.go rfl rfl rfl rfl (o_pickF _ _ _ rfl h75 rfl rfl) ?_
              refine AOps.call (o_pickF _ _ _ rfl rfl rfl rfl) ?_
              refine AOps.call (o_assign _ rfl rfl) ?_
              refine AOps.nil ?_
              refine AWP.ret ?_
              first
              | exact postQ.ret1 Tryd.results8 rfl rfl
              | (exfalso; simp at *; done)
              | (exfalso; simp_all; done)
              | (refine postQ.ret1 Tryd.results8 rfl ?_; simp [AV.close, B]; done)
        · skip
          refine AOps.pass rfl rfl rfl h59 rfl ?_
          refine AOps.pass rfl rfl rfl h59 rfl ?_
          refine AOps.pass rfl rfl rfl h59 rfl ?_
          refine AOps.call (o_pickF _ _ _ rfl h59 rfl rfl) ?_
          refine AOps.call (o_move _ rfl rfl) ?_
          refine AOps.pass rfl rfl rfl rfl rfl ?_
          refine AOps.pass rfl rfl rfl rfl rfl ?_
          refine AOps.call (o_pickF _ _ _ rfl rfl rfl rfl) ?_
          refine AOps.call (o_move _ rfl rfl) ?_
          refine AOps.pass rfl rfl rfl rfl rfl ?_
          refine AOps.pass rfl rfl rfl rfl rfl ?_
          refine AOps.call (o_pickF _ _ _ rfl rfl rfl rfl) ?_
          refine AOps.call (o_move _ rfl rfl) ?_
          refine AOps.go rfl rfl rfl rfl (o_move _ rfl rfl) ?_
          refine AOps.go rfl rfl rfl rfl (o_bin _ _ rfl rfl (fun _ => rfl) rfl) ?_
          refine AOps.go rfl rfl rfl rfl (o_move _ rfl rfl) ?_
          refine AOps.split rfl rfl rfl (fun h78 => ?_) (fun h78 => ?_)
          · skip
            refine AOps.go rfl rfl rfl h78 (o_move _ rfl rfl) ?_
            refine AOps.go rfl rfl rfl h78 (o_bin _ _ rfl rfl (fun _ => rfl) rfl) ?_
            refine AOps.go rfl rfl rfl rfl (o_pickT _ _ _ rfl h78 rfl rfl) ?_
            refine AOps.call (o_pickF _ _ _ rfl rfl rfl rfl) ?_
            refine AOps.call (o_assign _ rfl rfl) ?_
            refine AOps.nil ?_
            refine AWP.ret ?_
            first
            | exact postQ.ret1 Tryd.results8 rfl rfl
            | (exfalso; simp at *; done)
            | (exfalso; simp_all; done)
            | (refine postQ.ret1 Tryd.results8 rfl ?_; simp [AV.close, B]; done)
          · skip
            refine AOps.pass rfl rfl rfl h78 rfl ?_
            refine AOps.pass rfl rfl rfl h78 rfl ?_
            refine AOps.go rfl rfl rfl rfl (o_pickF _ _ _ rfl h78 rfl rfl) ?_
            refine AOps.call (o_pickF _ _ _ rfl rfl rfl rfl) ?_
            refine AOps.call (o_assign _ rfl rfl) ?_
            refine AOps.nil ?_
            refine AWP.ret ?_
            first
            | exact postQ.ret1 Tryd.results8 rfl rfl
            | (exfalso; simp at *; done)
            | (exfalso; simp_all; done)
            | (refine postQ.ret1 Tryd.results8 rfl ?_; simp [AV.close, B]; done)

set_option maxRecDepth 20000 in
theorem CourseEnds_a2 (s : Scl) (fr to day grams tn : Int) (h1 : askE s [fr, day] = 0) (h2 : askE s [fr, to, day] = 1) : FSpecG Tryd.prog TAB 8 [.agg (eS s), I fr, I to, I day, I grams, I tn] (B true) (none) := by
  refine FSpecG.of_body tab_stable Tryd.func8 rfl (leB rfl) fun w0 M0 hG => ?_
  have hA := Drift_s s fr day
  have hB := Turn_s s fr to day
  rw [if_pos h1] at hA
  rw [if_neg (by omega), h2] at hB
  refine AWP.seq ?_
  refine AWP.region ?_
  refine AOps.call (o_box _ rfl rfl rfl) ?_
  refine AOps.call (o_box _ rfl rfl rfl) ?_
  refine AOps.call (o_box _ rfl rfl rfl) ?_
  refine AOps.call (o_box _ rfl rfl rfl) ?_
  refine AOps.call (o_assign _ rfl rfl) ?_
  refine AOps.nil ?_
  refine AWP.seq ?_
  refine AWP.seq ?_
  refine AWP.region ?_
  refine AOps.call (o_callG (sane_s) hG Tryd.call12 rfl rfl) ?_
  refine AOps.call (o_un _ rfl (fun _ => rfl) rfl) ?_
  refine AOps.nil ?_
  refine AWP.cond _ rfl (fun h7 => ?_) (fun h7 => ?_)
  · skip
    refine AWP.seq ?_
    refine AWP.region ?_
    refine AOps.call (o_assign _ rfl rfl) ?_
    refine AOps.nil ?_
    refine AWP.ret ?_
    first
    | exact postQ.ret1 Tryd.results8 rfl rfl
    | (exfalso; simp at *; done)
    | (exfalso; simp_all; done)
    | (refine postQ.ret1 Tryd.results8 rfl ?_; simp [AV.close, B]; done)
  · skip
    refine AWP.skip ?_
    refine AWP.seq ?_
    refine AWP.seq ?_
    refine AWP.region ?_
    refine AOps.call (o_fieldRef _ rfl fa24_2 rfl rfl) ?_
    refine AOps.call (o_loadRef _ rfl rfl Tryd.sizeOf22 Tryd.isAgg22 rfl rfl rfl) ?_
    refine AOps.call (o_len _ Tryd.underlying22 rfl rfl) ?_
    refine AOps.call (o_bin _ _ rfl rfl (fun _ => rfl) rfl) ?_
    refine AOps.nil ?_
    refine AWP.cond _ rfl (fun h12 => ?_) (fun h12 => ?_)
    · skip
      refine AWP.seq ?_
      refine AWP.region ?_
      refine AOps.call (o_assign _ rfl rfl) ?_
      refine AOps.nil ?_
      refine AWP.ret ?_
      first
      | exact postQ.ret1 Tryd.results8 rfl rfl
      | (exfalso; simp at *; done)
      | (exfalso; simp_all; done)
      | (refine postQ.ret1 Tryd.results8 rfl ?_; simp [AV.close, B]; done)
    · skip
      have h100 : s.tests.length ≤ 100 := by simp [tests_len] at h12; omega
      refine AWP.skip ?_
      refine AWP.seq ?_
      refine AWP.region ?_
      refine AOps.call (o_loadRef _ rfl rfl Tryd.sizeOf24 Tryd.isAgg24 rfl rfl rfl) ?_
      refine AOps.call (o_loadRef _ rfl rfl Tryd.sizeOf3 Tryd.isAgg3 rfl rfl rfl) ?_
      refine AOps.call (o_loadRef _ rfl rfl Tryd.sizeOf3 Tryd.isAgg3 rfl rfl rfl) ?_
      refine AOps.call (o_call (hA) Tryd.call22 rfl rfl) ?_
      refine AOps.call (o_move _ rfl rfl) ?_
      refine AOps.call (o_extract _ rfl rfl rfl rfl) ?_
      refine AOps.call (o_extract _ rfl rfl rfl rfl) ?_
      refine AOps.call (o_alloc ze40 rfl rfl) ?_
      refine AOps.cons (o_store _ _ rfl rfl Tryd.sizeOf40 rfl rfl rfl rfl rfl) ?_
      refine AOps.call (o_assign _ rfl rfl) ?_
      refine AOps.nil ?_
      refine AWP.seq ?_
      refine AWP.region ?_
      refine AOps.call (o_loadRef _ rfl rfl Tryd.sizeOf24 Tryd.isAgg24 rfl rfl rfl) ?_
      refine AOps.call (o_loadRef _ rfl rfl Tryd.sizeOf3 Tryd.isAgg3 rfl rfl rfl) ?_
      refine AOps.call (o_loadRef _ rfl rfl Tryd.sizeOf3 Tryd.isAgg3 rfl rfl rfl) ?_
      refine AOps.call (o_loadRef _ rfl rfl Tryd.sizeOf3 Tryd.isAgg3 rfl rfl rfl) ?_
      refine AOps.call (o_call (hB) Tryd.call24 rfl rfl) ?_
      refine AOps.call (o_move _ rfl rfl) ?_
      refine AOps.call (o_extract _ rfl rfl rfl rfl) ?_
      refine AOps.call (o_extract _ rfl rfl rfl rfl) ?_
      refine AOps.call (o_alloc ze40 rfl rfl) ?_
      refine AOps.cons (o_store _ _ rfl rfl Tryd.sizeOf40 rfl rfl rfl rfl rfl) ?_
      refine AOps.call (o_assign _ rfl rfl) ?_
      refine AOps.nil ?_
      refine AWP.seq ?_
      refine AWP.seq ?_
      refine AWP.region ?_
      refine AOps.call (o_move _ rfl rfl) ?_
      refine AOps.call (o_bin _ _ rfl rfl (fun _ => rfl) rfl) ?_
      refine AOps.call (o_move _ rfl rfl) ?_
      refine AOps.split rfl rfl rfl (fun h29 => ?_) (fun h29 => ?_)
      · skip
        refine AOps.go rfl rfl rfl h29 (o_move _ rfl rfl) ?_
        refine AOps.go rfl rfl rfl h29 (o_bin _ _ rfl rfl (fun _ => rfl) rfl) ?_
        refine AOps.call (o_pickF _ _ _ rfl h29 rfl rfl) ?_
        refine AOps.nil ?_
        refine AWP.cond _ rfl (fun h31 => ?_) (fun h31 => ?_)
        · skip
          refine AWP.seq ?_
          refine AWP.region ?_
          refine AOps.call (o_loadRef _ rfl rfl Tryd.sizeOf40 Tryd.isAgg40 rfl rfl rfl) ?_
          refine AOps.call (o_build bu40 rfl rfl rfl) ?_
          refine AOps.call (o_bin _ _ rfl rfl (spanEq _ _ _ _ _ _) rfl) ?_
          refine AOps.call (o_move _ rfl rfl) ?_
          refine AOps.split rfl rfl rfl (fun h35 => ?_) (fun h35 => ?_)
          · skip
            refine AOps.go rfl rfl rfl h35 (o_loadRef _ rfl rfl Tryd.sizeOf40 Tryd.isAgg40 rfl rfl rfl) ?_
            refine AOps.go rfl rfl rfl h35 (o_build bu40 rfl rfl rfl) ?_
            refine AOps.go rfl rfl rfl h35 (o_bin _ _ rfl rfl (spanEq _ _ _ _ _ _) rfl) ?_
            refine AOps.call (o_pickT _ _ _ rfl h35 rfl rfl) ?_
            refine AOps.call (o_move _ rfl rfl) ?_
            refine AOps.split rfl rfl rfl (fun h39 => ?_) (fun h39 => ?_)
            · skip
              refine AOps.go rfl rfl rfl h39 (o_move _ rfl rfl) ?_
              refine AOps.go rfl rfl rfl h39 (o_bin _ _ rfl rfl (fun _ => rfl) rfl) ?_
              refine AOps.call (o_pickT _ _ _ rfl h39 rfl rfl) ?_
              refine AOps.call (o_move _ rfl rfl) ?_
              refine AOps.split rfl rfl rfl (fun h41 => ?_) (fun h41 => ?_)
              · skip
                refine AOps.go rfl rfl rfl h41 (o_move _ rfl rfl) ?_
                refine AOps.go rfl rfl rfl h41 (o_bin _ _ rfl rfl (fun _ => rfl) rfl) ?_
                refine AOps.call (o_pickT _ _ _ rfl h41 rfl rfl) ?_
                refine AOps.call (o_move _ rfl rfl) ?_
                refine AOps.split rfl rfl rfl (fun h43 => ?_) (fun h43 => ?_)
                · skip
                  refine AOps.go rfl rfl rfl h43 (o_move _ rfl rfl) ?_
                  refine AOps.go rfl rfl rfl h43 (o_bin _ _ rfl rfl (fun _ => rfl) rfl) ?_
                  refine AOps.go rfl rfl rfl h43 (o_move _ rfl rfl) ?_
                  refine AOps.split rfl rfl rfl (fun h45 => ?_) (fun h45 => ?_)
                  · skip
                    refine AOps.go rfl rfl rfl h45 (o_move _ rfl rfl) ?_
                    refine AOps.go rfl rfl rfl h45 (o_bin _ _ rfl rfl (fun _ => rfl) rfl) ?_
                    refine AOps.go rfl rfl rfl h43 (o_pickT _ _ _ rfl h45 rfl rfl) ?_
                    refine AOps.call (o_pickF _ _ _ rfl h43 rfl rfl) ?_
                    refine AOps.call (o_assign _ rfl rfl) ?_
                    refine AOps.nil ?_
                    refine AWP.ret ?_
                    first
                    | exact postQ.ret1 Tryd.results8 rfl rfl
                    | (exfalso; simp at *; done)
                    | (exfalso; simp_all; done)
                    | (refine postQ.ret1 Tryd.results8 rfl ?_; simp [AV.close, B]; done)
                  · skip
                    refine AOps.pass rfl rfl rfl h45 rfl ?_
                    refine AOps.pass rfl rfl rfl h45 rfl ?_
                    refine AOps.go rfl rfl rfl h43 (o_pickF _ _ _ rfl h45 rfl rfl) ?_
                    refine AOps.call (o_pickF _ _ _ rfl h43 rfl rfl) ?_
                    refine AOps.call (o_assign _ rfl rfl) ?_
                    refine AOps.nil ?_
                    refine AWP.ret ?_
                    first
                    | exact postQ.ret1 Tryd.results8 rfl rfl
                    | (exfalso; simp at *; done)
                    | (exfalso; simp_all; done)
                    | (refine postQ.ret1 Tryd.results8 rfl ?_; simp [AV.close, B]; done)
                · skip
                  refine AOps.pass rfl rfl rfl h43 rfl ?_
                  refine AOps.pass rfl rfl rfl h43 rfl ?_
                  refine AOps.pass rfl rfl rfl h43 rfl ?_
                  refine AOps.passU rfl rfl rfl rfl ?_
                  refine AOps.passU rfl rfl rfl rfl ?_
                  refine AOps.pass rfl rfl rfl h43 rfl ?_
                  refine AOps.call (o_pickT _ _ _ rfl h43 rfl rfl) ?_
                  refine AOps.call (o_assign _ rfl rfl) ?_
                  refine AOps.nil ?_
                  refine AWP.ret ?_
                  first
                  | exact postQ.ret1 Tryd.results8 rfl rfl
                  | (exfalso; simp at *; done)
                  | (exfalso; simp_all; done)
                  | (refine postQ.ret1 Tryd.results8 rfl ?_; simp [AV.close, B]; done)
              · skip
                refine AOps.pass rfl rfl rfl h41 rfl ?_
                refine AOps.pass rfl rfl rfl h41 rfl ?_
                refine AOps.call (o_pickF _ _ _ rfl h41 rfl rfl) ?_
                refine AOps.call (o_move _ rfl rfl) ?_
                refine AOps.go rfl rfl rfl rfl (o_move _ rfl rfl) ?_
                refine AOps.go rfl rfl rfl rfl (o_bin _ _ rfl rfl (fun _ => rfl) rfl) ?_
                refine AOps.go rfl rfl rfl rfl (o_move _ rfl rfl) ?_
                refine AOps.split rfl rfl rfl (fun h48 => ?_) (fun h48 => ?_)
                · skip
                  refine AOps.go rfl rfl rfl h48 (o_move _ rfl rfl) ?_
                  refine AOps.go rfl rfl rfl h48 (o_bin _ _ rfl rfl (fun _ => rfl) rfl) ?_
                  refine AOps.go rfl rfl rfl rfl (o_pickT _ _ _ rfl h48 rfl rfl) ?_
                  refine AOps.call (o_pickF _ _ _ rfl rfl rfl rfl) ?_
                  refine AOps.call (o_assign _ rfl rfl) ?_
                  refine AOps.nil ?_
                  refine AWP.ret ?_
                  first
                  | exact postQ.ret1 Tryd.results8 rfl rfl
                  | (exfalso; simp at *; done)
                  | (exfalso; simp_all; done)
                  | (refine postQ.ret1 Tryd.results8 rfl ?_; simp [AV.close, B]; done)
                · skip
                  refine AOps.pass rfl rfl rfl h48 rfl ?_
                  refine AOps.pass rfl rfl rfl h48 rfl ?_
                  refine AOps.go rfl rfl rfl rfl (o_pickF _ _ _ rfl h48 rfl rfl) ?_
                  refine AOps.call (o_pickF _ _ _ rfl rfl rfl rfl) ?_
                  refine AOps.call (o_assign _ rfl rfl) ?_
                  refine AOps.nil ?_
                  refine AWP.ret ?_
                  first
                  | exact postQ.ret1 Tryd.results8 rfl rfl
                  | (exfalso; simp at *; done)
                  | (exfalso; simp_all; done)
                  | (refine postQ.ret1 Tryd.results8 rfl ?_; simp [AV.close, B]; done)
            · skip
              refine AOps.pass rfl rfl rfl h39 rfl ?_
              refine AOps.pass rfl rfl rfl h39 rfl ?_
              refine AOps.call (o_pickF _ _ _ rfl h39 rfl rfl) ?_
              refine AOps.call (o_move _ rfl rfl) ?_
              refine AOps.pass rfl rfl rfl rfl rfl ?_
              refine AOps.pass rfl rfl rfl rfl rfl ?_
              refine AOps.call (o_pickF _ _ _ rfl rfl rfl rfl) ?_
              refine AOps.call (o_move _ rfl rfl) ?_
              refine AOps.go rfl rfl rfl rfl (o_move _ rfl rfl) ?_
              refine AOps.go rfl rfl rfl rfl (o_bin _ _ rfl rfl (fun _ => rfl) rfl) ?_
              refine AOps.go rfl rfl rfl rfl (o_move _ rfl rfl) ?_
              refine AOps.split rfl rfl rfl (fun h51 => ?_) (fun h51 => ?_)
              · skip
                refine AOps.go rfl rfl rfl h51 (o_move _ rfl rfl) ?_
                refine AOps.go rfl rfl rfl h51 (o_bin _ _ rfl rfl (fun _ => rfl) rfl) ?_
                refine AOps.go rfl rfl rfl rfl (o_pickT _ _ _ rfl h51 rfl rfl) ?_
                refine AOps.call (o_pickF _ _ _ rfl rfl rfl rfl) ?_
                refine AOps.call (o_assign _ rfl rfl) ?_
                refine AOps.nil ?_
                refine AWP.ret ?_
                first
                | exact postQ.ret1 Tryd.results8 rfl rfl
                | (exfalso; simp at *; done)
                | (exfalso; simp_all; done)
                | (refine postQ.ret1 Tryd.results8 rfl ?_; simp [AV.close, B]; done)
              · skip
                refine AOps.pass rfl rfl rfl h51 rfl ?_
                refine AOps.pass rfl rfl rfl h51 rfl ?_
                refine AOps.go rfl rfl rfl rfl (o_pickF _ _ _ rfl h51 rfl rfl) ?_
                refine AOps.call (o_pickF _ _ _ rfl rfl rfl rfl) ?_
                refine AOps.call (o_assign _ rfl rfl) ?_
                refine AOps.nil ?_
                refine AWP.ret ?_
                first
                | exact postQ.ret1 Tryd.results8 rfl rfl
                | (exfalso; simp at *; done)
                | (exfalso; simp_all; done)
                | (refine postQ.ret1 Tryd.results8 rfl ?_; simp [AV.close, B]; done)
          · skip
            refine AOps.pass rfl rfl rfl h35 rfl ?_
            refine AOps.pass rfl rfl rfl h35 rfl ?_
            refine AOps.pass rfl rfl rfl h35 rfl ?_
            refine AOps.call (o_pickF _ _ _ rfl h35 rfl rfl) ?_
            refine AOps.call (o_move _ rfl rfl) ?_
            refine AOps.pass rfl rfl rfl rfl rfl ?_
            refine AOps.pass rfl rfl rfl rfl rfl ?_
            refine AOps.call (o_pickF _ _ _ rfl rfl rfl rfl) ?_
            refine AOps.call (o_move _ rfl rfl) ?_
            refine AOps.pass rfl rfl rfl rfl rfl ?_
            refine AOps.pass rfl rfl rfl rfl rfl ?_
            refine AOps.call (o_pickF _ _ _ rfl rfl rfl rfl) ?_
            refine AOps.call (o_move _ rfl rfl) ?_
            refine AOps.go rfl rfl rfl rfl (o_move _ rfl rfl) ?_
            refine AOps.go rfl rfl rfl rfl (o_bin _ _ rfl rfl (fun _ => rfl) rfl) ?_
            refine AOps.go rfl rfl rfl rfl (o_move _ rfl rfl) ?_
            refine AOps.split rfl rfl rfl (fun h54 => ?_) (fun h54 => ?_)
            · skip
              refine AOps.go rfl rfl rfl h54 (o_move _ rfl rfl) ?_
              refine AOps.go rfl rfl rfl h54 (o_bin _ _ rfl rfl (fun _ => rfl) rfl) ?_
              refine AOps.go rfl rfl rfl rfl (o_pickT _ _ _ rfl h54 rfl rfl) ?_
              refine AOps.call (o_pickF _ _ _ rfl rfl rfl rfl) ?_
              refine AOps.call (o_assign _ rfl rfl) ?_
              refine AOps.nil ?_
              refine AWP.ret ?_
              first
              | exact postQ.ret1 Tryd.results8 rfl rfl
              | (exfalso; simp at *; done)
              | (exfalso; simp_all; done)
              | (refine postQ.ret1 Tryd.results8 rfl ?_; simp [AV.close, B]; done)
            · skip
              refine AOps.pass rfl rfl rfl h54 rfl ?_
              refine AOps.pass rfl rfl rfl h54 rfl ?_
              refine AOps.go rfl rfl rfl rfl (o_pickF _ _ _ rfl h54 rfl rfl) ?_
              refine AOps.call (o_pickF _ _ _ rfl rfl rfl rfl) ?_
              refine AOps.call (o_assign _ rfl rfl) ?_
              refine AOps.nil ?_
              refine AWP.ret ?_
              first
              | exact postQ.ret1 Tryd.results8 rfl rfl
              | (exfalso; simp at *; done)
              | (exfalso; simp_all; done)
              | (refine postQ.ret1 Tryd.results8 rfl ?_; simp [AV.close, B]; done)
        · skip
          exfalso
          simp_all
      · skip
        refine AOps.pass rfl rfl rfl h29 rfl ?_
        refine AOps.pass rfl rfl rfl h29 rfl ?_
        refine AOps.call (o_pickT _ _ _ rfl h29 rfl rfl) ?_
        refine AOps.nil ?_
        refine AWP.condT rfl ?_
        refine AWP.seq ?_
        refine AWP.region ?_
        refine AOps.call (o_loadRef _ rfl rfl Tryd.sizeOf40 Tryd.isAgg40 rfl rfl rfl) ?_
        refine AOps.call (o_build bu40 rfl rfl rfl) ?_
        refine AOps.call (o_bin _ _ rfl rfl (spanEq _ _ _ _ _ _) rfl) ?_
        refine AOps.call (o_move _ rfl rfl) ?_
        refine AOps.split rfl rfl rfl (fun h59 => ?_) (fun h59 => ?_)
        · skip
          refine AOps.go rfl rfl rfl h59 (o_loadRef _ rfl rfl Tryd.sizeOf40 Tryd.isAgg40 rfl rfl rfl) ?_
          refine AOps.go rfl rfl rfl h59 (o_build bu40 rfl rfl rfl) ?_
          refine AOps.go rfl rfl rfl h59 (o_bin _ _ rfl rfl (spanEq _ _ _ _ _ _) rfl) ?_
          refine AOps.call (o_pickT _ _ _ rfl h59 rfl rfl) ?_
          refine AOps.call (o_move _ rfl rfl) ?_
          refine AOps.split rfl rfl rfl (fun h63 => ?_) (fun h63 => ?_)
          · skip
            refine AOps.go rfl rfl rfl h63 (o_move _ rfl rfl) ?_
            refine AOps.go rfl rfl rfl h63 (o_bin _ _ rfl rfl (fun _ => rfl) rfl) ?_
            refine AOps.call (o_pickT _ _ _ rfl h63 rfl rfl) ?_
            refine AOps.call (o_move _ rfl rfl) ?_
            refine AOps.split rfl rfl rfl (fun h65 => ?_) (fun h65 => ?_)
            · skip
              refine AOps.go rfl rfl rfl h65 (o_move _ rfl rfl) ?_
              refine AOps.go rfl rfl rfl h65 (o_bin _ _ rfl rfl (fun _ => rfl) rfl) ?_
              refine AOps.call (o_pickT _ _ _ rfl h65 rfl rfl) ?_
              refine AOps.call (o_move _ rfl rfl) ?_
              refine AOps.split rfl rfl rfl (fun h67 => ?_) (fun h67 => ?_)
              · skip
                refine AOps.go rfl rfl rfl h67 (o_move _ rfl rfl) ?_
                refine AOps.go rfl rfl rfl h67 (o_bin _ _ rfl rfl (fun _ => rfl) rfl) ?_
                refine AOps.go rfl rfl rfl h67 (o_move _ rfl rfl) ?_
                refine AOps.split rfl rfl rfl (fun h69 => ?_) (fun h69 => ?_)
                · skip
                  refine AOps.go rfl rfl rfl h69 (o_move _ rfl rfl) ?_
                  refine AOps.go rfl rfl rfl h69 (o_bin _ _ rfl rfl (fun _ => rfl) rfl) ?_
                  refine AOps.go rfl rfl rfl h67 (o_pickT _ _ _ rfl h69 rfl rfl) ?_
                  refine AOps.call (o_pickF _ _ _ rfl h67 rfl rfl) ?_
                  refine AOps.call (o_assign _ rfl rfl) ?_
                  refine AOps.nil ?_
                  refine AWP.ret ?_
                  first
                  | exact postQ.ret1 Tryd.results8 rfl rfl
                  | (exfalso; simp at *; done)
                  | (exfalso; simp_all; done)
                  | (refine postQ.ret1 Tryd.results8 rfl ?_; simp [AV.close, B]; done)
                · skip
                  refine AOps.pass rfl rfl rfl h69 rfl ?_
                  refine AOps.pass rfl rfl rfl h69 rfl ?_
                  refine AOps.go rfl rfl rfl h67 (o_pickF _ _ _ rfl h69 rfl rfl) ?_
                  refine AOps.call (o_pickF _ _ _ rfl h67 rfl rfl) ?_
                  refine AOps.call (o_assign _ rfl rfl) ?_
                  refine AOps.nil ?_
                  refine AWP.ret ?_
                  first
                  | exact postQ.ret1 Tryd.results8 rfl rfl
                  | (exfalso; simp at *; done)
                  | (exfalso; simp_all; done)
                  | (refine postQ.ret1 Tryd.results8 rfl ?_; simp [AV.close, B]; done)
              · skip
                refine AOps.pass rfl rfl rfl h67 rfl ?_
                refine AOps.pass rfl rfl rfl h67 rfl ?_
                refine AOps.pass rfl rfl rfl h67 rfl ?_
                refine AOps.passU rfl rfl rfl rfl ?_
                refine AOps.passU rfl rfl rfl rfl ?_
                refine AOps.pass rfl rfl rfl h67 rfl ?_
                refine AOps.call (o_pickT _ _ _ rfl h67 rfl rfl) ?_
                refine AOps.call (o_assign _ rfl rfl) ?_
                refine AOps.nil ?_
                refine AWP.ret ?_
                first
                | exact postQ.ret1 Tryd.results8 rfl rfl
                | (exfalso; simp at *; done)
                | (exfalso; simp_all; done)
                | (refine postQ.ret1 Tryd.results8 rfl ?_; simp [AV.close, B]; done)
            · skip
              refine AOps.pass rfl rfl rfl h65 rfl ?_
              refine AOps.pass rfl rfl rfl h65 rfl ?_
              refine AOps.call (o_pickF _ _ _ rfl h65 rfl rfl) ?_
              refine AOps.call (o_move _ rfl rfl) ?_
              refine AOps.go rfl rfl rfl rfl (o_move _ rfl rfl) ?_
              refine AOps.go rfl rfl rfl rfl (o_bin _ _ rfl rfl (fun _ => rfl) rfl) ?_
              refine AOps.go rfl rfl rfl rfl (o_move _ rfl rfl) ?_
              refine AOps.split rfl rfl rfl (fun h72 => ?_) (fun h72 => ?_)
              · skip
                refine AOps.go rfl rfl rfl h72 (o_move _ rfl rfl) ?_
                refine AOps.go rfl rfl rfl h72 (o_bin _ _ rfl rfl (fun _ => rfl) rfl) ?_
                refine AOps.go rfl rfl rfl rfl (o_pickT _ _ _ rfl h72 rfl rfl) ?_
                refine AOps.call (o_pickF _ _ _ rfl rfl rfl rfl) ?_
                refine AOps.call (o_assign _ rfl rfl) ?_
                refine AOps.nil ?_
                refine AWP.ret ?_
                first
                | exact postQ.ret1 Tryd.results8 rfl rfl
                | (exfalso; simp at *; done)
                | (exfalso; simp_all; done)
                | (refine postQ.ret1 Tryd.results8 rfl ?_; simp [AV.close, B]; done)
              · skip
                refine AOps.pass rfl rfl rfl h72 rfl ?_
                refine AOps.pass rfl rfl rfl h72 rfl ?_
                refine AOps.go rfl rfl rfl rfl (o_pickF _ _ _ rfl h72 rfl rfl) ?_
                refine AOps.call (o_pickF _ _ _ rfl rfl rfl rfl) ?_
                refine AOps.call (o_assign _ rfl rfl) ?_
                refine AOps.nil ?_
                refine AWP.ret ?_
                first
                | exact postQ.ret1 Tryd.results8 rfl rfl
                | (exfalso; simp at *; done)
                | (exfalso; simp_all; done)
                | (refine postQ.ret1 Tryd.results8 rfl ?_; simp [AV.close, B]; done)
          · skip
            refine AOps.pass rfl rfl rfl h63 rfl ?_
            refine AOps.pass rfl rfl rfl h63 rfl ?_
            refine AOps.call (o_pickF _ _ _ rfl h63 rfl rfl) ?_
            refine AOps.call (o_move _ rfl rfl) ?_
            refine AOps.pass rfl rfl rfl rfl rfl ?_
            refine AOps.pass rfl rfl rfl rfl rfl ?_
            refine AOps.call (o_pickF _ _ _ rfl rfl rfl rfl) ?_
            refine AOps.call (o_move _ rfl rfl) ?_
            refine AOps.go rfl rfl rfl rfl (o_move _ rfl rfl) ?_
            refine AOps.go rfl rfl rfl rfl (o_bin _ _ rfl rfl (fun _ => rfl) rfl) ?_
            refine AOps.go rfl rfl rfl rfl (o_move _ rfl rfl) ?_
            refine AOps.split rfl rfl rfl (fun h75 => ?_) (fun h75 => ?_)
            · skip
              refine AOps.go rfl rfl rfl h75 (o_move _ rfl rfl) ?_
              refine AOps.go rfl rfl rfl h75 (o_bin _ _ rfl rfl (fun _ => rfl) rfl) ?_
              refine AOps.go rfl rfl rfl rfl (o_pickT _ _ _ rfl h75 rfl rfl) ?_
              refine AOps.call (o_pickF _ _ _ rfl rfl rfl rfl) ?_
              refine AOps.call (o_assign _ rfl rfl) ?_
              refine AOps.nil ?_
              refine AWP.ret ?_
              first
              | exact postQ.ret1 Tryd.results8 rfl rfl
              | (exfalso; simp at *; done)
              | (exfalso; simp_all; done)
              | (refine postQ.ret1 Tryd.results8 rfl ?_; simp [AV.close, B]; done)
            · skip
              refine AOps.pass rfl rfl rfl h75 rfl ?_
              refine AOps.pass rfl rfl rfl h75 rfl ?_
              refine AOps.go rfl rfl rfl rfl (o_pickF _ _ _ rfl h75 rfl rfl) ?_
              refine AOps.call (o_pickF _ _ _ rfl rfl rfl rfl) ?_
              refine AOps.call (o_assign _ rfl rfl) ?_
              refine AOps.nil ?_
              refine AWP.ret ?_
              first
              | exact postQ.ret1 Tryd.results8 rfl rfl
              | (exfalso; simp at *; done)
              | (exfalso; simp_all; done)
              | (refine postQ.ret1 Tryd.results8 rfl ?_; simp [AV.close, B]; done)
        · skip
          refine AOps.pass rfl rfl rfl h59 rfl ?_
          refine AOps.pass rfl rfl rfl h59 rfl ?_
          refine AOps.pass rfl rfl rfl h59 rfl ?_
          refine AOps.call (o_pickF _ _ _ rfl h59 rfl rfl) ?_
          refine AOps.call (o_move _ rfl rfl) ?_
          refine AOps.pass rfl rfl rfl rfl rfl ?_
          refine AOps.pass rfl rfl rfl rfl rfl ?_
          refine AOps.call (o_pickF _ _ _ rfl rfl rfl rfl) ?_
          refine AOps.call (o_move _ rfl rfl) ?_
          refine AOps.pass rfl rfl rfl rfl rfl ?_
          refine AOps.pass rfl rfl rfl rfl rfl ?_
          refine AOps.call (o_pickF _ _ _ rfl rfl rfl rfl) ?_
          refine AOps.call (o_move _ rfl rfl) ?_
          refine AOps.go rfl rfl rfl rfl (o_move _ rfl rfl) ?_
          refine AOps.go rfl rfl rfl rfl (o_bin _ _ rfl rfl (fun _ => rfl) rfl) ?_
          refine AOps.go rfl rfl rfl rfl (o_move _ rfl rfl) ?_
          refine AOps.split rfl rfl rfl (fun h78 => ?_) (fun h78 => ?_)
          · skip
            refine AOps.go rfl rfl rfl h78 (o_move _ rfl rfl) ?_
            refine AOps.go rfl rfl rfl h78 (o_bin _ _ rfl rfl (fun _ => rfl) rfl) ?_
            refine AOps.go rfl rfl rfl rfl (o_pickT _ _ _ rfl h78 rfl rfl) ?_
            refine AOps.call (o_pickF _ _ _ rfl rfl rfl rfl) ?_
            refine AOps.call (o_assign _ rfl rfl) ?_
            refine AOps.nil ?_
            refine AWP.ret ?_
            first
            | exact postQ.ret1 Tryd.results8 rfl rfl
            | (exfalso; simp at *; done)
            | (exfalso; simp_all; done)
            | (refine postQ.ret1 Tryd.results8 rfl ?_; simp [AV.close, B]; done)
          · skip
            refine AOps.pass rfl rfl rfl h78 rfl ?_
            refine AOps.pass rfl rfl rfl h78 rfl ?_
            refine AOps.go rfl rfl rfl rfl (o_pickF _ _ _ rfl h78 rfl rfl) ?_
            refine AOps.call (o_pickF _ _ _ rfl rfl rfl rfl) ?_
            refine AOps.call (o_assign _ rfl rfl) ?_
            refine AOps.nil ?_
            refine AWP.ret ?_
            first
            | exact postQ.ret1 Tryd.results8 rfl rfl
            | (exfalso; simp at *; done)
            | (exfalso; simp_all; done)
            | (refine postQ.ret1 Tryd.results8 rfl ?_; simp [AV.close, B]; done)

set_option maxRecDepth 20000 in
theorem CourseEnds_b (s : Scl) (fr to day grams tn : Int) (hz : scaleE s = 0) (hf : 0 ≤ fr ∧ fr ≤ 1048576) (ht : 0 ≤ to ∧ to ≤ 1048576) (hd : dayB day = true) : FSpecG Tryd.prog TAB 8 [.agg (eS s), I fr, I to, I day, I grams, I tn] (B true) (none) := by
  refine FSpecG.of_body tab_stable Tryd.func8 rfl (leB rfl) fun w0 M0 hG => ?_
  have hs := scaleE_0 hz
  have hA := Drift_s s fr day
  have hB := Turn_s s fr to day
  rw [if_pos (askE_ok2 hz (bdB hf) hd)] at hA
  rw [if_pos (askE_ok3 hz (bdB hf) (bdB ht) hd)] at hB
  have hH := History_s s day [fr] [grams]
  rw [if_pos (givenE_ok (grams := [grams]) hz hd (daysB1 hf) rfl), pin1 hz] at hH
  have hTB := tnS_bd (k := day) hs hf ht
  have hle := tn_le (k := day) hz hf ht
  refine AWP.seq ?_
  refine AWP.region ?_
  refine AOps.call (o_box _ rfl rfl rfl) ?_
  refine AOps.call (o_box _ rfl rfl rfl) ?_
  refine AOps.call (o_box _ rfl rfl rfl) ?_
  refine AOps.call (o_box _ rfl rfl rfl) ?_
  refine AOps.call (o_assign _ rfl rfl) ?_
  refine AOps.nil ?_
  refine AWP.seq ?_
  refine AWP.seq ?_
  refine AWP.region ?_
  refine AOps.call (o_callG (sane_s) hG Tryd.call12 rfl rfl) ?_
  refine AOps.call (o_un _ rfl (fun _ => rfl) rfl) ?_
  refine AOps.nil ?_
  refine AWP.cond _ rfl (fun h7 => ?_) (fun h7 => ?_)
  · skip
    refine AWP.seq ?_
    refine AWP.region ?_
    refine AOps.call (o_assign _ rfl rfl) ?_
    refine AOps.nil ?_
    refine AWP.ret ?_
    first
    | exact postQ.ret1 Tryd.results8 rfl rfl
    | (exfalso; simp at *; done)
    | (exfalso; simp_all; done)
    | (refine postQ.ret1 Tryd.results8 rfl ?_; simp [AV.close, B]; done)
    | (refine postQ.ret1 Tryd.results8 rfl ?_; rw [hY]; rfl)
    | (refine postQ.ret1 Tryd.results8 rfl ?_; simp_all [AV.close, B]; done)
  · skip
    refine AWP.skip ?_
    refine AWP.seq ?_
    refine AWP.seq ?_
    refine AWP.region ?_
    refine AOps.call (o_fieldRef _ rfl fa24_2 rfl rfl) ?_
    refine AOps.call (o_loadRef _ rfl rfl Tryd.sizeOf22 Tryd.isAgg22 rfl rfl rfl) ?_
    refine AOps.call (o_len _ Tryd.underlying22 rfl rfl) ?_
    refine AOps.call (o_bin _ _ rfl rfl (fun _ => rfl) rfl) ?_
    refine AOps.nil ?_
    refine AWP.cond _ rfl (fun h12 => ?_) (fun h12 => ?_)
    · skip
      refine AWP.seq ?_
      refine AWP.region ?_
      refine AOps.call (o_assign _ rfl rfl) ?_
      refine AOps.nil ?_
      refine AWP.ret ?_
      first
      | exact postQ.ret1 Tryd.results8 rfl rfl
      | (exfalso; simp at *; done)
      | (exfalso; simp_all; done)
      | (refine postQ.ret1 Tryd.results8 rfl ?_; simp [AV.close, B]; done)
      | (refine postQ.ret1 Tryd.results8 rfl ?_; rw [hY]; rfl)
      | (refine postQ.ret1 Tryd.results8 rfl ?_; simp_all [AV.close, B]; done)
    · skip
      have h100 : s.tests.length ≤ 100 := by simp [tests_len] at h12; omega
      refine AWP.skip ?_
      refine AWP.seq ?_
      refine AWP.region ?_
      refine AOps.call (o_loadRef _ rfl rfl Tryd.sizeOf24 Tryd.isAgg24 rfl rfl rfl) ?_
      refine AOps.call (o_loadRef _ rfl rfl Tryd.sizeOf3 Tryd.isAgg3 rfl rfl rfl) ?_
      refine AOps.call (o_loadRef _ rfl rfl Tryd.sizeOf3 Tryd.isAgg3 rfl rfl rfl) ?_
      refine AOps.call (o_call (hA) Tryd.call22 rfl rfl) ?_
      refine AOps.call (o_move _ rfl rfl) ?_
      refine AOps.call (o_extract _ rfl rfl rfl rfl) ?_
      refine AOps.call (o_extract _ rfl rfl rfl rfl) ?_
      refine AOps.call (o_alloc ze40 rfl rfl) ?_
      refine AOps.cons (o_store _ _ rfl rfl Tryd.sizeOf40 rfl rfl rfl rfl rfl) ?_
      refine AOps.call (o_assign _ rfl rfl) ?_
      refine AOps.nil ?_
      refine AWP.seq ?_
      refine AWP.region ?_
      refine AOps.call (o_loadRef _ rfl rfl Tryd.sizeOf24 Tryd.isAgg24 rfl rfl rfl) ?_
      refine AOps.call (o_loadRef _ rfl rfl Tryd.sizeOf3 Tryd.isAgg3 rfl rfl rfl) ?_
      refine AOps.call (o_loadRef _ rfl rfl Tryd.sizeOf3 Tryd.isAgg3 rfl rfl rfl) ?_
      refine AOps.call (o_loadRef _ rfl rfl Tryd.sizeOf3 Tryd.isAgg3 rfl rfl rfl) ?_
      refine AOps.call (o_call (hB) Tryd.call24 rfl rfl) ?_
      refine AOps.call (o_move _ rfl rfl) ?_
      refine AOps.call (o_extract _ rfl rfl rfl rfl) ?_
      refine AOps.call (o_extract _ rfl rfl rfl rfl) ?_
      refine AOps.call (o_alloc ze40 rfl rfl) ?_
      refine AOps.cons (o_store _ _ rfl rfl Tryd.sizeOf40 rfl rfl rfl rfl rfl) ?_
      refine AOps.call (o_assign _ rfl rfl) ?_
      refine AOps.nil ?_
      refine AWP.seq ?_
      refine AWP.seq ?_
      refine AWP.region ?_
      refine AOps.call (o_move _ rfl rfl) ?_
      refine AOps.call (o_bin _ _ rfl rfl (fun _ => rfl) rfl) ?_
      refine AOps.call (o_move _ rfl rfl) ?_
      refine AOps.split rfl rfl rfl (fun h29 => ?_) (fun h29 => ?_)
      · skip
        refine AOps.go rfl rfl rfl h29 (o_move _ rfl rfl) ?_
        refine AOps.go rfl rfl rfl h29 (o_bin _ _ rfl rfl (fun _ => rfl) rfl) ?_
        refine AOps.call (o_pickF _ _ _ rfl h29 rfl rfl) ?_
        refine AOps.nil ?_
        refine AWP.cond _ rfl (fun h31 => ?_) (fun h31 => ?_)
        · skip
          exfalso
          first
          | (simp at *; done)
          | (simp_all; done)
        · skip
          refine AWP.skip ?_
          refine AWP.seq ?_
          refine AWP.region ?_
          refine AOps.call (o_loadRef _ rfl rfl Tryd.sizeOf24 Tryd.isAgg24 rfl rfl rfl) ?_
          refine AOps.call (o_loadRef _ rfl rfl Tryd.sizeOf3 Tryd.isAgg3 rfl rfl rfl) ?_
          refine AOps.call (o_loadRef _ rfl rfl Tryd.sizeOf3 Tryd.isAgg3 rfl rfl rfl) ?_
          refine AOps.call (o_lit Tryd.underlying45 Tryd.sizeOf3 Tryd.zeroValue3 rfl rfl rfl rfl rfl rfl rfl) ?_
          refine AOps.call (o_move _ rfl rfl) ?_
          refine AOps.call (o_lit Tryd.underlying45 Tryd.sizeOf3 Tryd.zeroValue3 rfl rfl rfl rfl rfl rfl rfl) ?_
          refine AOps.call (o_call (hH) Tryd.call26 rfl rfl) ?_
          refine AOps.call (o_move _ rfl rfl) ?_
          refine AOps.call (o_extract _ rfl rfl rfl rfl) ?_
          refine AOps.call (o_extract _ rfl rfl rfl rfl) ?_
          refine AOps.call (o_assign _ rfl rfl) ?_
          refine AOps.call (o_assign _ rfl rfl) ?_
          refine AOps.nil ?_
          refine AWP.seq ?_
          refine AWP.seq ?_
          refine AWP.region ?_
          refine AOps.call (o_move _ rfl rfl) ?_
          refine AOps.call (o_bin _ _ rfl rfl (fun _ => rfl) rfl) ?_
          refine AOps.call (o_move _ rfl rfl) ?_
          refine AOps.split rfl rfl rfl (fun h42 => ?_) (fun h42 => ?_)
          · skip
            refine AOps.go rfl rfl rfl h42 (o_move _ rfl rfl) ?_
            refine AOps.go rfl rfl rfl h42 (o_fieldRef _ rfl fa40_0 rfl rfl) ?_
            refine AOps.go rfl rfl rfl h42 (o_loadRef _ rfl rfl Tryd.sizeOf3 Tryd.isAgg3 rfl rfl rfl) ?_
            refine AOps.go rfl rfl rfl h42 (o_move _ rfl rfl) ?_
            refine AOps.go rfl rfl rfl h42 (o_bin _ _ rfl rfl (fun _ => rfl) rfl) ?_
            refine AOps.go rfl rfl rfl h42 (o_move _ rfl rfl) ?_
            refine AOps.split rfl rfl rfl (fun h47 => ?_) (fun h47 => ?_)
            · skip
              refine AOps.go rfl rfl rfl h47 (o_move _ rfl rfl) ?_
              refine AOps.go rfl rfl rfl h47 (o_fieldRef _ rfl fa40_1 rfl rfl) ?_
              refine AOps.go rfl rfl rfl h47 (o_loadRef _ rfl rfl Tryd.sizeOf3 Tryd.isAgg3 rfl rfl rfl) ?_
              refine AOps.go rfl rfl rfl h47 (o_bin _ _ rfl rfl (fun _ => rfl) rfl) ?_
              refine AOps.go rfl rfl rfl h42 (o_pickT _ _ _ rfl h47 rfl rfl) ?_
              refine AOps.go rfl rfl rfl h42 (o_bin _ _ rfl rfl (fun _ => rfl) rfl) ?_
              refine AOps.call (o_pickF _ _ _ rfl h42 rfl rfl) ?_
              refine AOps.nil ?_
              refine AWP.cond _ rfl (fun h53 => ?_) (fun h53 => ?_)
              · skip
                exfalso
                first
                | (simp at *; done)
                | (simp_all; done)
                | (simp_all; omega)
              · skip
                refine AWP.skip ?_
                refine AWP.seq ?_
                refine AWP.seq ?_
                refine AWP.region ?_
                refine AOps.call (o_loadRef _ rfl rfl Tryd.sizeOf3 Tryd.isAgg3 rfl rfl rfl) ?_
                refine AOps.call (o_loadRef _ rfl rfl Tryd.sizeOf3 Tryd.isAgg3 rfl rfl rfl) ?_
                refine AOps.call (o_bin _ _ rfl rfl (fun _ => rfl) rfl) ?_
                refine AOps.nil ?_
                refine AWP.cond _ rfl (fun h57 => ?_) (fun h57 => ?_)
                · skip
                  have hft : fr = to := by simpa using h57
                  subst hft
                  have hY := tn_self (k := day) hz hf
                  refine AWP.seq ?_
                  refine AWP.region ?_
                  refine AOps.call (o_loadRef _ rfl rfl Tryd.sizeOf40 Tryd.isAgg40 rfl rfl rfl) ?_
                  refine AOps.call (o_build bu40 rfl rfl rfl) ?_
                  refine AOps.call (o_bin _ _ rfl rfl (spanEq _ _ _ _ _ _) rfl) ?_
                  refine AOps.call (o_assign _ rfl rfl) ?_
                  refine AOps.nil ?_
                  refine AWP.ret ?_
                  first
                  | exact postQ.ret1 Tryd.results8 rfl rfl
                  | (exfalso; simp at *; done)
                  | (exfalso; simp_all; done)
                  | (refine postQ.ret1 Tryd.results8 rfl ?_; simp [AV.close, B]; done)
                  | (refine postQ.ret1 Tryd.results8 rfl ?_; rw [hY]; rfl)
                  | (refine postQ.ret1 Tryd.results8 rfl ?_; simp_all [AV.close, B]; done)
                · skip
                  have hne : fr ≠ to := by simpa using h57
                  refine AWP.skip ?_
                  refine AWP.seq ?_
                  refine AWP.region ?_
                  refine AOps.weak (Weak.frzv (id := (6, 0)) (t := 6) rfl rfl rfl) ?_
                  refine AOps.weak (Weak.frzv (id := (8, 0)) (t := 8) rfl rfl rfl) ?_
                  refine AOps.weak (Weak.frzv (id := (9, 0)) (t := 9) rfl rfl rfl) ?_
                  refine AOps.weak (Weak.frzv (id := (13, 0)) (t := 13) rfl rfl rfl) ?_
                  refine AOps.weak (Weak.frzv (id := (7, 0)) (t := 7) rfl rfl rfl) ?_
                  refine AOps.call (o_makeClo rfl rfl) ?_
                  refine AOps.call (o_assign _ rfl rfl) ?_
                  refine AOps.nil ?_
                  refine AWP.seq ?_
                  refine AWP.seq ?_
                  refine AWP.region ?_
                  refine AOps.call (o_fieldRef _ rfl fa40_0 rfl rfl) ?_
                  refine AOps.call (o_loadRef _ rfl rfl Tryd.sizeOf3 Tryd.isAgg3 rfl rfl rfl) ?_
                  refine AOps.call (o_fieldRef _ rfl fa40_1 rfl rfl) ?_
                  refine AOps.call (o_loadRef _ rfl rfl Tryd.sizeOf3 Tryd.isAgg3 rfl rfl rfl) ?_
                  refine AOps.call (o_move _ rfl rfl) ?_
                  refine AOps.call (o_lit Tryd.underlying45 Tryd.sizeOf3 Tryd.zeroValue3 rfl rfl rfl rfl rfl rfl rfl) ?_
                  refine AOps.call (o_len _ Tryd.underlying45 rfl rfl) ?_
                  refine AOps.call (o_move _ rfl rfl) ?_
                  refine AOps.nil ?_
                  refine AWP.block ?_
                  refine AWP.loop (ι := Nat) (fun i => AS.mk' 180 [(15, .ref (15, 0) 0), (18, .clo 43 [.rd (eS s), .rd [I to], .rd [I day], .rd (eP (drS s fr day)), .rd [I fr]]), (116, .sl (ints [(tnS s fr to day).lo, (tnS s fr to day).hi, tn])), (117, I 3), (118, I i)] [((15, 0), eP (tnS s fr to day))] [] [(15, 1)]) (fun i => i ≤ 3) (fun i => 3 - i) (0) (Weak.mk' rfl ⟨⟨.refl rfl, rfl⟩, ⟨⟨.refl rfl, rfl⟩, ⟨⟨.sl rfl, rfl⟩, ⟨⟨.refl rfl, rfl⟩, ⟨⟨.refl rfl, rfl⟩, trivial⟩⟩⟩⟩⟩ ⟨⟨rfl, rfl, rfl⟩, trivial⟩ trivial) (Nat.zero_le _) ?_
                  rintro k hk
                  try dsimp only at *
                  refine AWP.seq ?_
                  refine AWP.region ?_
                  refine AOps.call (o_bin _ _ rfl rfl (fun _ => rfl) rfl) ?_
                  refine AOps.nil ?_
                  refine AWP.seq ?_
                  refine AWP.cond _ rfl (fun h71 => ?_) (fun h71 => ?_)
                  · skip
                    have hk3 : k < 3 := by simp at h71; omega
                    have hlt : k < [(tnS s fr to day).lo, (tnS s fr to day).hi, tn].length := hk3
                    have hel := ints_get hlt
                    have hR := endsReach_s s [(tnS s fr to day).lo, (tnS s fr to day).hi, tn][k] fr to day hz hf ht hd hne
                    refine AWP.skip ?_
                    refine AWP.seq ?_
                    refine AWP.block ?_
                    refine AWP.seq ?_
                    refine AWP.region ?_
                    refine AOps.call (o_index _ _ Tryd.underlying45 Tryd.sizeOf3 rfl rfl (by omega) hel rfl rfl) ?_
                    refine AOps.call (o_loadRd _ rfl Tryd.sizeOf3 Tryd.isAgg3 rfl rfl rfl) ?_
                    refine AOps.call (o_assign _ rfl rfl) ?_
                    refine AOps.nil ?_
                    refine AWP.seq ?_
                    refine AWP.region ?_
                    refine AOps.call (o_move _ rfl rfl) ?_
                    refine AOps.call (o_move _ rfl rfl) ?_
                    refine AOps.call (o_callV (cl := [I [(tnS s fr to day).lo, (tnS s fr to day).hi, tn][k]]) (ccl := [.rd (eS s), .rd [I to], .rd [I day], .rd (eP (drS s fr day)), .rd [I fr]]) _ rfl (hR) Tryd.call43 rfl rfl rfl) ?_
                    refine AOps.call (o_move _ rfl rfl) ?_
                    refine AOps.call (o_extract _ rfl rfl rfl rfl) ?_
                    refine AOps.call (o_extract _ rfl rfl rfl rfl) ?_
                    refine AOps.call (o_assign _ rfl rfl) ?_
                    refine AOps.call (o_assign _ rfl rfl) ?_
                    refine AOps.nil ?_
                    refine AWP.seq ?_
                    refine AWP.region ?_
                    refine AOps.call (o_move _ rfl rfl) ?_
                    refine AOps.call (o_un _ rfl (fun _ => rfl) rfl) ?_
                    refine AOps.call (o_move _ rfl rfl) ?_
                    refine AOps.split rfl rfl rfl (fun h78 => ?_) (fun h78 => ?_)
                    · skip
                      refine AOps.go rfl rfl rfl h78 (o_move _ rfl rfl) ?_
                      refine AOps.go rfl rfl rfl h78 (o_fieldRef _ rfl fa40_0 rfl rfl) ?_
                      refine AOps.go rfl rfl rfl h78 (o_loadRef _ rfl rfl Tryd.sizeOf3 Tryd.isAgg3 rfl rfl rfl) ?_
                      refine AOps.go rfl rfl rfl h78 (o_move _ rfl rfl) ?_
                      refine AOps.go rfl rfl rfl h78 (o_bin _ _ rfl rfl (fun _ => rfl) rfl) ?_
                      refine AOps.go rfl rfl rfl h78 (o_move _ rfl rfl) ?_
                      refine AOps.split rfl rfl rfl (fun h82 => ?_) (fun h82 => ?_)
                      · skip
                        refine AOps.go rfl rfl rfl h82 (o_move _ rfl rfl) ?_
                        refine AOps.go rfl rfl rfl h82 (o_fieldRef _ rfl fa40_1 rfl rfl) ?_
                        refine AOps.go rfl rfl rfl h82 (o_loadRef _ rfl rfl Tryd.sizeOf3 Tryd.isAgg3 rfl rfl rfl) ?_
                        refine AOps.go rfl rfl rfl h82 (o_bin _ _ rfl rfl (fun _ => rfl) rfl) ?_
                        refine AOps.go rfl rfl rfl h78 (o_pickT _ _ _ rfl h82 rfl rfl) ?_
                        refine AOps.go rfl rfl rfl h78 (o_bin _ _ rfl rfl (fun _ => rfl) rfl) ?_
                        refine AOps.call (o_pickF _ _ _ rfl h78 rfl rfl) ?_
                        refine AOps.nil ?_
                        refine AWP.cond _ rfl (fun h87 => ?_) (fun h87 => ?_)
                        · skip
                          exfalso
                          first
                          | (simp at *; done)
                          | (simp_all; done)
                          | (simp_all; omega)
                        · skip
                          refine AWP.skip ?_
                          refine AWP.region ?_
                          refine AOps.call (o_add _ _ rfl rfl ⟨by (try dsimp only); omega, by (try dsimp only); omega⟩ rfl) ?_
                          refine AOps.call (o_move _ rfl rfl) ?_
                          refine AOps.nil ?_
                          refine ⟨k + 1, ?_, (Weak.mk' rfl ⟨⟨.refl rfl, rfl⟩, ⟨⟨.refl rfl, rfl⟩, ⟨⟨.refl rfl, rfl⟩, ⟨⟨.refl rfl, rfl⟩, ⟨⟨.refl rfl, rfl⟩, trivial⟩⟩⟩⟩⟩ ⟨⟨rfl, rfl, rfl⟩, trivial⟩ trivial)⟩
                          exact ⟨by omega, by omega⟩
                      · skip
                        refine AOps.pass rfl rfl rfl h82 rfl ?_
                        refine AOps.pass rfl rfl rfl h82 rfl ?_
                        refine AOps.pass rfl rfl rfl h82 rfl ?_
                        refine AOps.pass rfl rfl rfl h82 rfl ?_
                        refine AOps.go rfl rfl rfl h78 (o_pickF _ _ _ rfl h82 rfl rfl) ?_
                        refine AOps.go rfl rfl rfl h78 (o_bin _ _ rfl rfl (fun _ => rfl) rfl) ?_
                        refine AOps.call (o_pickF _ _ _ rfl h78 rfl rfl) ?_
                        refine AOps.nil ?_
                        refine AWP.cond _ rfl (fun h90 => ?_) (fun h90 => ?_)
                        · skip
                          exfalso
                          first
                          | (simp at *; done)
                          | (simp_all; done)
                          | (simp_all; omega)
                        · skip
                          refine AWP.skip ?_
                          refine AWP.region ?_
                          refine AOps.call (o_add _ _ rfl rfl ⟨by (try dsimp only); omega, by (try dsimp only); omega⟩ rfl) ?_
                          refine AOps.call (o_move _ rfl rfl) ?_
                          refine AOps.nil ?_
                          refine ⟨k + 1, ?_, (Weak.mk' rfl ⟨⟨.refl rfl, rfl⟩, ⟨⟨.refl rfl, rfl⟩, ⟨⟨.refl rfl, rfl⟩, ⟨⟨.refl rfl, rfl⟩, ⟨⟨.refl rfl, rfl⟩, trivial⟩⟩⟩⟩⟩ ⟨⟨rfl, rfl, rfl⟩, trivial⟩ trivial)⟩
                          exact ⟨by omega, by omega⟩
                    · skip
                      refine AOps.pass rfl rfl rfl h78 rfl ?_
                      refine AOps.pass rfl rfl rfl h78 rfl ?_
                      refine AOps.pass rfl rfl rfl h78 rfl ?_
                      refine AOps.pass rfl rfl rfl h78 rfl ?_
                      refine AOps.pass rfl rfl rfl h78 rfl ?_
                      refine AOps.pass rfl rfl rfl h78 rfl ?_
                      refine AOps.passU rfl rfl rfl rfl ?_
                      refine AOps.passU rfl rfl rfl rfl ?_
                      refine AOps.passU rfl rfl rfl rfl ?_
                      refine AOps.passU rfl rfl rfl rfl ?_
                      refine AOps.pass rfl rfl rfl h78 rfl ?_
                      refine AOps.pass rfl rfl rfl h78 rfl ?_
                      refine AOps.call (o_pickT _ _ _ rfl h78 rfl rfl) ?_
                      refine AOps.nil ?_
                      refine AWP.condT rfl ?_
                      exfalso
                      first
                      | (simp at *; done)
                      | (simp_all; done)
                      | (simp_all; omega)
                  · skip
                    have hRb := endsReach_s s ((tnS s fr to day).lo - 1) fr to day hz hf ht hd hne
                    rw [show decide ((tnS s fr to day).lo ≤ (tnS s fr to day).lo - 1 ∧ (tnS s fr to day).lo - 1 ≤ (tnS s fr to day).hi) = false by rw [decide_eq_false_iff_not]; omega] at hRb
                    have hRa := endsReach_s s ((tnS s fr to day).hi + 1) fr to day hz hf ht hd hne
                    rw [show decide ((tnS s fr to day).lo ≤ (tnS s fr to day).hi + 1 ∧ (tnS s fr to day).hi + 1 ≤ (tnS s fr to day).hi) = false by rw [decide_eq_false_iff_not]; omega] at hRa
                    refine AWP.exit ?_
                    refine AWP.seq ?_
                    refine AWP.region ?_
                    refine AOps.call (o_move _ rfl rfl) ?_
                    refine AOps.call (o_fieldRef _ rfl fa40_0 rfl rfl) ?_
                    refine AOps.call (o_loadRef _ rfl rfl Tryd.sizeOf3 Tryd.isAgg3 rfl rfl rfl) ?_
                    refine AOps.call (o_sub _ _ rfl rfl ⟨by (try dsimp only); omega, by (try dsimp only); omega⟩ rfl) ?_
                    refine AOps.call (o_callV (cl := [I ((tnS s fr to day).lo - 1)]) (ccl := [.rd (eS s), .rd [I to], .rd [I day], .rd (eP (drS s fr day)), .rd [I fr]]) _ rfl (hRb) Tryd.call43 rfl rfl rfl) ?_
                    refine AOps.call (o_move _ rfl rfl) ?_
                    refine AOps.call (o_extract _ rfl rfl rfl rfl) ?_
                    refine AOps.call (o_extract _ rfl rfl rfl rfl) ?_
                    refine AOps.call (o_assign _ rfl rfl) ?_
                    refine AOps.call (o_assign _ rfl rfl) ?_
                    refine AOps.nil ?_
                    refine AWP.seq ?_
                    refine AWP.region ?_
                    refine AOps.call (o_move _ rfl rfl) ?_
                    refine AOps.call (o_fieldRef _ rfl fa40_1 rfl rfl) ?_
                    refine AOps.call (o_loadRef _ rfl rfl Tryd.sizeOf3 Tryd.isAgg3 rfl rfl rfl) ?_
                    refine AOps.call (o_add _ _ rfl rfl ⟨by (try dsimp only); omega, by (try dsimp only); omega⟩ rfl) ?_
                    refine AOps.call (o_callV (cl := [I ((tnS s fr to day).hi + 1)]) (ccl := [.rd (eS s), .rd [I to], .rd [I day], .rd (eP (drS s fr day)), .rd [I fr]]) _ rfl (hRa) Tryd.call43 rfl rfl rfl) ?_
                    refine AOps.call (o_move _ rfl rfl) ?_
                    refine AOps.call (o_extract _ rfl rfl rfl rfl) ?_
                    refine AOps.call (o_extract _ rfl rfl rfl rfl) ?_
                    refine AOps.call (o_assign _ rfl rfl) ?_
                    refine AOps.call (o_assign _ rfl rfl) ?_
                    refine AOps.nil ?_
                    refine AWP.seq ?_
                    refine AWP.region ?_
                    refine AOps.call (o_move _ rfl rfl) ?_
                    refine AOps.call (o_move _ rfl rfl) ?_
                    refine AOps.split rfl rfl rfl (fun h104 => ?_) (fun h104 => ?_)
                    · skip
                      refine AOps.go rfl rfl rfl h104 (o_move _ rfl rfl) ?_
                      refine AOps.call (o_pickT _ _ _ rfl h104 rfl rfl) ?_
                      refine AOps.call (o_move _ rfl rfl) ?_
                      refine AOps.split rfl rfl rfl (fun h105 => ?_) (fun h105 => ?_)
                      · skip
                        refine AOps.go rfl rfl rfl h105 (o_move _ rfl rfl) ?_
                        refine AOps.go rfl rfl rfl h105 (o_un _ rfl (fun _ => rfl) rfl) ?_
                        refine AOps.call (o_pickT _ _ _ rfl h105 rfl rfl) ?_
                        refine AOps.call (o_move _ rfl rfl) ?_
                        refine AOps.split rfl rfl rfl (fun h107 => ?_) (fun h107 => ?_)
                        · skip
                          refine AOps.go rfl rfl rfl h107 (o_move _ rfl rfl) ?_
                          refine AOps.go rfl rfl rfl h107 (o_un _ rfl (fun _ => rfl) rfl) ?_
                          refine AOps.call (o_pickT _ _ _ rfl h107 rfl rfl) ?_
                          refine AOps.call (o_move _ rfl rfl) ?_
                          refine AOps.split rfl rfl rfl (fun h109 => ?_) (fun h109 => ?_)
                          · skip
                            refine AOps.go rfl rfl rfl h109 (o_fieldRef _ rfl fa40_0 rfl rfl) ?_
                            refine AOps.go rfl rfl rfl h109 (o_loadRef _ rfl rfl Tryd.sizeOf3 Tryd.isAgg3 rfl rfl rfl) ?_
                            refine AOps.go rfl rfl rfl h109 (o_fieldRef _ rfl fa40_1 rfl rfl) ?_
                            refine AOps.go rfl rfl rfl h109 (o_loadRef _ rfl rfl Tryd.sizeOf3 Tryd.isAgg3 rfl rfl rfl) ?_
                            refine AOps.go rfl rfl rfl h109 (o_bin _ _ rfl rfl (fun _ => rfl) rfl) ?_
                            refine AOps.call (o_pickT _ _ _ rfl h109 rfl rfl) ?_
                            refine AOps.call (o_assign _ rfl rfl) ?_
                            refine AOps.nil ?_
                            refine AWP.ret ?_
                            first
                            | exact postQ.ret1 Tryd.results8 rfl rfl
                            | (exfalso; simp at *; done)
                            | (exfalso; simp_all; done)
                            | (refine postQ.ret1 Tryd.results8 rfl ?_; simp [AV.close, B]; done)
                            | (refine postQ.ret1 Tryd.results8 rfl ?_; rw [hY]; rfl)
                            | (refine postQ.ret1 Tryd.results8 rfl ?_; simp_all [AV.close, B]; done)
                          · skip
                            refine AOps.pass rfl rfl rfl h109 rfl ?_
                            refine AOps.pass rfl rfl rfl h109 rfl ?_
                            refine AOps.pass rfl rfl rfl h109 rfl ?_
                            refine AOps.pass rfl rfl rfl h109 rfl ?_
                            refine AOps.pass rfl rfl rfl h109 rfl ?_
                            refine AOps.call (o_pickF _ _ _ rfl h109 rfl rfl) ?_
                            refine AOps.call (o_assign _ rfl rfl) ?_
                            refine AOps.nil ?_
                            refine AWP.ret ?_
                            first
                            | exact postQ.ret1 Tryd.results8 rfl rfl
                            | (exfalso; simp at *; done)
                            | (exfalso; simp_all; done)
                            | (refine postQ.ret1 Tryd.results8 rfl ?_; simp [AV.close, B]; done)
                            | (refine postQ.ret1 Tryd.results8 rfl ?_; rw [hY]; rfl)
                            | (refine postQ.ret1 Tryd.results8 rfl ?_; simp_all [AV.close, B]; done)
                        · skip
                          refine AOps.pass rfl rfl rfl h107 rfl ?_
                          refine AOps.pass rfl rfl rfl h107 rfl ?_
                          refine AOps.call (o_pickF _ _ _ rfl h107 rfl rfl) ?_
                          refine AOps.call (o_move _ rfl rfl) ?_
                          refine AOps.pass rfl rfl rfl rfl rfl ?_
                          refine AOps.pass rfl rfl rfl rfl rfl ?_
                          refine AOps.pass rfl rfl rfl rfl rfl ?_
                          refine AOps.pass rfl rfl rfl rfl rfl ?_
                          refine AOps.pass rfl rfl rfl rfl rfl ?_
                          refine AOps.call (o_pickF _ _ _ rfl rfl rfl rfl) ?_
                          refine AOps.call (o_assign _ rfl rfl) ?_
                          refine AOps.nil ?_
                          refine AWP.ret ?_
                          first
                          | exact postQ.ret1 Tryd.results8 rfl rfl
                          | (exfalso; simp at *; done)
                          | (exfalso; simp_all; done)
                          | (refine postQ.ret1 Tryd.results8 rfl ?_; simp [AV.close, B]; done)
                          | (refine postQ.ret1 Tryd.results8 rfl ?_; rw [hY]; rfl)
                          | (refine postQ.ret1 Tryd.results8 rfl ?_; simp_all [AV.close, B]; done)
                      · skip
                        refine AOps.pass rfl rfl rfl h105 rfl ?_
                        refine AOps.pass rfl rfl rfl h105 rfl ?_
                        refine AOps.call (o_pickF _ _ _ rfl h105 rfl rfl) ?_
                        refine AOps.call (o_move _ rfl rfl) ?_
                        refine AOps.pass rfl rfl rfl rfl rfl ?_
                        refine AOps.pass rfl rfl rfl rfl rfl ?_
                        refine AOps.call (o_pickF _ _ _ rfl rfl rfl rfl) ?_
                        refine AOps.call (o_move _ rfl rfl) ?_
                        refine AOps.pass rfl rfl rfl rfl rfl ?_
                        refine AOps.pass rfl rfl rfl rfl rfl ?_
                        refine AOps.pass rfl rfl rfl rfl rfl ?_
                        refine AOps.pass rfl rfl rfl rfl rfl ?_
                        refine AOps.pass rfl rfl rfl rfl rfl ?_
                        refine AOps.call (o_pickF _ _ _ rfl rfl rfl rfl) ?_
                        refine AOps.call (o_assign _ rfl rfl) ?_
                        refine AOps.nil ?_
                        refine AWP.ret ?_
                        first
                        | exact postQ.ret1 Tryd.results8 rfl rfl
                        | (exfalso; simp at *; done)
                        | (exfalso; simp_all; done)
                        | (refine postQ.ret1 Tryd.results8 rfl ?_; simp [AV.close, B]; done)
                        | (refine postQ.ret1 Tryd.results8 rfl ?_; rw [hY]; rfl)
                        | (refine postQ.ret1 Tryd.results8 rfl ?_; simp_all [AV.close, B]; done)
                    · skip
                      refine AOps.pass rfl rfl rfl h104 rfl ?_
                      refine AOps.call (o_pickF _ _ _ rfl h104 rfl rfl) ?_
                      refine AOps.call (o_move _ rfl rfl) ?_
                      refine AOps.pass rfl rfl rfl rfl rfl ?_
                      refine AOps.pass rfl rfl rfl rfl rfl ?_
                      refine AOps.call (o_pickF _ _ _ rfl rfl rfl rfl) ?_
                      refine AOps.call (o_move _ rfl rfl) ?_
                      refine AOps.pass rfl rfl rfl rfl rfl ?_
                      refine AOps.pass rfl rfl rfl rfl rfl ?_
                      refine AOps.call (o_pickF _ _ _ rfl rfl rfl rfl) ?_
                      refine AOps.call (o_move _ rfl rfl) ?_
                      refine AOps.pass rfl rfl rfl rfl rfl ?_
                      refine AOps.pass rfl rfl rfl rfl rfl ?_
                      refine AOps.pass rfl rfl rfl rfl rfl ?_
                      refine AOps.pass rfl rfl rfl rfl rfl ?_
                      refine AOps.pass rfl rfl rfl rfl rfl ?_
                      refine AOps.call (o_pickF _ _ _ rfl rfl rfl rfl) ?_
                      refine AOps.call (o_assign _ rfl rfl) ?_
                      refine AOps.nil ?_
                      refine AWP.ret ?_
                      first
                      | exact postQ.ret1 Tryd.results8 rfl rfl
                      | (exfalso; simp at *; done)
                      | (exfalso; simp_all; done)
                      | (refine postQ.ret1 Tryd.results8 rfl ?_; simp [AV.close, B]; done)
                      | (refine postQ.ret1 Tryd.results8 rfl ?_; rw [hY]; rfl)
                      | (refine postQ.ret1 Tryd.results8 rfl ?_; simp_all [AV.close, B]; done)
            · skip
              refine AOps.pass rfl rfl rfl h47 rfl ?_
              refine AOps.pass rfl rfl rfl h47 rfl ?_
              refine AOps.pass rfl rfl rfl h47 rfl ?_
              refine AOps.pass rfl rfl rfl h47 rfl ?_
              refine AOps.go rfl rfl rfl h42 (o_pickF _ _ _ rfl h47 rfl rfl) ?_
              refine AOps.go rfl rfl rfl h42 (o_bin _ _ rfl rfl (fun _ => rfl) rfl) ?_
              refine AOps.call (o_pickF _ _ _ rfl h42 rfl rfl) ?_
              refine AOps.nil ?_
              refine AWP.cond _ rfl (fun h116 => ?_) (fun h116 => ?_)
              · skip
                exfalso
                first
                | (simp at *; done)
                | (simp_all; done)
                | (simp_all; omega)
              · skip
                refine AWP.skip ?_
                refine AWP.seq ?_
                refine AWP.seq ?_
                refine AWP.region ?_
                refine AOps.call (o_loadRef _ rfl rfl Tryd.sizeOf3 Tryd.isAgg3 rfl rfl rfl) ?_
                refine AOps.call (o_loadRef _ rfl rfl Tryd.sizeOf3 Tryd.isAgg3 rfl rfl rfl) ?_
                refine AOps.call (o_bin _ _ rfl rfl (fun _ => rfl) rfl) ?_
                refine AOps.nil ?_
                refine AWP.cond _ rfl (fun h120 => ?_) (fun h120 => ?_)
                · skip
                  have hft : fr = to := by simpa using h120
                  subst hft
                  have hY := tn_self (k := day) hz hf
                  refine AWP.seq ?_
                  refine AWP.region ?_
                  refine AOps.call (o_loadRef _ rfl rfl Tryd.sizeOf40 Tryd.isAgg40 rfl rfl rfl) ?_
                  refine AOps.call (o_build bu40 rfl rfl rfl) ?_
                  refine AOps.call (o_bin _ _ rfl rfl (spanEq _ _ _ _ _ _) rfl) ?_
                  refine AOps.call (o_assign _ rfl rfl) ?_
                  refine AOps.nil ?_
                  refine AWP.ret ?_
                  first
                  | exact postQ.ret1 Tryd.results8 rfl rfl
                  | (exfalso; simp at *; done)
                  | (exfalso; simp_all; done)
                  | (refine postQ.ret1 Tryd.results8 rfl ?_; simp [AV.close, B]; done)
                  | (refine postQ.ret1 Tryd.results8 rfl ?_; rw [hY]; rfl)
                  | (refine postQ.ret1 Tryd.results8 rfl ?_; simp_all [AV.close, B]; done)
                · skip
                  have hne : fr ≠ to := by simpa using h120
                  refine AWP.skip ?_
                  refine AWP.seq ?_
                  refine AWP.region ?_
                  refine AOps.weak (Weak.frzv (id := (6, 0)) (t := 6) rfl rfl rfl) ?_
                  refine AOps.weak (Weak.frzv (id := (8, 0)) (t := 8) rfl rfl rfl) ?_
                  refine AOps.weak (Weak.frzv (id := (9, 0)) (t := 9) rfl rfl rfl) ?_
                  refine AOps.weak (Weak.frzv (id := (13, 0)) (t := 13) rfl rfl rfl) ?_
                  refine AOps.weak (Weak.frzv (id := (7, 0)) (t := 7) rfl rfl rfl) ?_
                  refine AOps.call (o_makeClo rfl rfl) ?_
                  refine AOps.call (o_assign _ rfl rfl) ?_
                  refine AOps.nil ?_
                  refine AWP.seq ?_
                  refine AWP.seq ?_
                  refine AWP.region ?_
                  refine AOps.call (o_fieldRef _ rfl fa40_0 rfl rfl) ?_
                  refine AOps.call (o_loadRef _ rfl rfl Tryd.sizeOf3 Tryd.isAgg3 rfl rfl rfl) ?_
                  refine AOps.call (o_fieldRef _ rfl fa40_1 rfl rfl) ?_
                  refine AOps.call (o_loadRef _ rfl rfl Tryd.sizeOf3 Tryd.isAgg3 rfl rfl rfl) ?_
                  refine AOps.call (o_move _ rfl rfl) ?_
                  refine AOps.call (o_lit Tryd.underlying45 Tryd.sizeOf3 Tryd.zeroValue3 rfl rfl rfl rfl rfl rfl rfl) ?_
                  refine AOps.call (o_len _ Tryd.underlying45 rfl rfl) ?_
                  refine AOps.call (o_move _ rfl rfl) ?_
                  refine AOps.nil ?_
                  refine AWP.block ?_
                  refine AWP.loop (ι := Nat) (fun i => AS.mk' 180 [(15, .ref (15, 0) 0), (18, .clo 43 [.rd (eS s), .rd [I to], .rd [I day], .rd (eP (drS s fr day)), .rd [I fr]]), (116, .sl (ints [(tnS s fr to day).lo, (tnS s fr to day).hi, tn])), (117, I 3), (118, I i)] [((15, 0), eP (tnS s fr to day))] [] [(15, 1)]) (fun i => i ≤ 3) (fun i => 3 - i) (0) (Weak.mk' rfl ⟨⟨.refl rfl, rfl⟩, ⟨⟨.refl rfl, rfl⟩, ⟨⟨.sl rfl, rfl⟩, ⟨⟨.refl rfl, rfl⟩, ⟨⟨.refl rfl, rfl⟩, trivial⟩⟩⟩⟩⟩ ⟨⟨rfl, rfl, rfl⟩, trivial⟩ trivial) (Nat.zero_le _) ?_
                  rintro k hk
                  try dsimp only at *
                  refine AWP.seq ?_
                  refine AWP.region ?_
                  refine AOps.call (o_bin _ _ rfl rfl (fun _ => rfl) rfl) ?_
                  refine AOps.nil ?_
                  refine AWP.seq ?_
                  refine AWP.cond _ rfl (fun h134 => ?_) (fun h134 => ?_)
                  · skip
                    have hk3 : k < 3 := by simp at h134; omega
                    have hlt : k < [(tnS s fr to day).lo, (tnS s fr to day).hi, tn].length := hk3
                    have hel := ints_get hlt
                    have hR := endsReach_s s [(tnS s fr to day).lo, (tnS s fr to day).hi, tn][k] fr to day hz hf ht hd hne
                    refine AWP.skip ?_
                    refine AWP.seq ?_
                    refine AWP.block ?_
                    refine AWP.seq ?_
                    refine AWP.region ?_
                    refine AOps.call (o_index _ _ Tryd.underlying45 Tryd.sizeOf3 rfl rfl (by omega) hel rfl rfl) ?_
                    refine AOps.call (o_loadRd _ rfl Tryd.sizeOf3 Tryd.isAgg3 rfl rfl rfl) ?_
                    refine AOps.call (o_assign _ rfl rfl) ?_
                    refine AOps.nil ?_
                    refine AWP.seq ?_
                    refine AWP.region ?_
                    refine AOps.call (o_move _ rfl rfl) ?_
                    refine AOps.call (o_move _ rfl rfl) ?_
                    refine AOps.call (o_callV (cl := [I [(tnS s fr to day).lo, (tnS s fr to day).hi, tn][k]]) (ccl := [.rd (eS s), .rd [I to], .rd [I day], .rd (eP (drS s fr day)), .rd [I fr]]) _ rfl (hR) Tryd.call43 rfl rfl rfl) ?_
                    refine AOps.call (o_move _ rfl rfl) ?_
                    refine AOps.call (o_extract _ rfl rfl rfl rfl) ?_
                    refine AOps.call (o_extract _ rfl rfl rfl rfl) ?_
                    refine AOps.call (o_assign _ rfl rfl) ?_
                    refine AOps.call (o_assign _ rfl rfl) ?_
                    refine AOps.nil ?_
                    refine AWP.seq ?_
                    refine AWP.region ?_
                    refine AOps.call (o_move _ rfl rfl) ?_
                    refine AOps.call (o_un _ rfl (fun _ => rfl) rfl) ?_
                    refine AOps.call (o_move _ rfl rfl) ?_
                    refine AOps.split rfl rfl rfl (fun h141 => ?_) (fun h141 => ?_)
                    · skip
                      refine AOps.go rfl rfl rfl h141 (o_move _ rfl rfl) ?_
                      refine AOps.go rfl rfl rfl h141 (o_fieldRef _ rfl fa40_0 rfl rfl) ?_
                      refine AOps.go rfl rfl rfl h141 (o_loadRef _ rfl rfl Tryd.sizeOf3 Tryd.isAgg3 rfl rfl rfl) ?_
                      refine AOps.go rfl rfl rfl h141 (o_move _ rfl rfl) ?_
                      refine AOps.go rfl rfl rfl h141 (o_bin _ _ rfl rfl (fun _ => rfl) rfl) ?_
                      refine AOps.go rfl rfl rfl h141 (o_move _ rfl rfl) ?_
                      refine AOps.split rfl rfl rfl (fun h145 => ?_) (fun h145 => ?_)
                      · skip
                        refine AOps.go rfl rfl rfl h145 (o_move _ rfl rfl) ?_
                        refine AOps.go rfl rfl rfl h145 (o_fieldRef _ rfl fa40_1 rfl rfl) ?_
                        refine AOps.go rfl rfl rfl h145 (o_loadRef _ rfl rfl Tryd.sizeOf3 Tryd.isAgg3 rfl rfl rfl) ?_
                        refine AOps.go rfl rfl rfl h145 (o_bin _ _ rfl rfl (fun _ => rfl) rfl) ?_
                        refine AOps.go rfl rfl rfl h141 (o_pickT _ _ _ rfl h145 rfl rfl) ?_
                        refine AOps.go rfl rfl rfl h141 (o_bin _ _ rfl rfl (fun _ => rfl) rfl) ?_
                        refine AOps.call (o_pickF _ _ _ rfl h141 rfl rfl) ?_
                        refine AOps.nil ?_
                        refine AWP.cond _ rfl (fun h150 => ?_) (fun h150 => ?_)
                        · skip
                          exfalso
                          first
                          | (simp at *; done)
                          | (simp_all; done)
                          | (simp_all; omega)
                        · skip
                          refine AWP.skip ?_
                          refine AWP.region ?_
                          refine AOps.call (o_add _ _ rfl rfl ⟨by (try dsimp only); omega, by (try dsimp only); omega⟩ rfl) ?_
                          refine AOps.call (o_move _ rfl rfl) ?_
                          refine AOps.nil ?_
                          refine ⟨k + 1, ?_, (Weak.mk' rfl ⟨⟨.refl rfl, rfl⟩, ⟨⟨.refl rfl, rfl⟩, ⟨⟨.refl rfl, rfl⟩, ⟨⟨.refl rfl, rfl⟩, ⟨⟨.refl rfl, rfl⟩, trivial⟩⟩⟩⟩⟩ ⟨⟨rfl, rfl, rfl⟩, trivial⟩ trivial)⟩
                          exact ⟨by omega, by omega⟩
                      · skip
                        refine AOps.pass rfl rfl rfl h145 rfl ?_
                        refine AOps.pass rfl rfl rfl h145 rfl ?_
                        refine AOps.pass rfl rfl rfl h145 rfl ?_
                        refine AOps.pass rfl rfl rfl h145 rfl ?_
                        refine AOps.go rfl rfl rfl h141 (o_pickF _ _ _ rfl h145 rfl rfl) ?_
                        refine AOps.go rfl rfl rfl h141 (o_bin _ _ rfl rfl (fun _ => rfl) rfl) ?_
                        refine AOps.call (o_pickF _ _ _ rfl h141 rfl rfl) ?_
                        refine AOps.nil ?_
                        refine AWP.cond _ rfl (fun h153 => ?_) (fun h153 => ?_)
                        · skip
                          exfalso
                          first
                          | (simp at *; done)
                          | (simp_all; done)
                          | (simp_all; omega)
                        · skip
                          refine AWP.skip ?_
                          refine AWP.region ?_
                          refine AOps.call (o_add _ _ rfl rfl ⟨by (try dsimp only); omega, by (try dsimp only); omega⟩ rfl) ?_
                          refine AOps.call (o_move _ rfl rfl) ?_
                          refine AOps.nil ?_
                          refine ⟨k + 1, ?_, (Weak.mk' rfl ⟨⟨.refl rfl, rfl⟩, ⟨⟨.refl rfl, rfl⟩, ⟨⟨.refl rfl, rfl⟩, ⟨⟨.refl rfl, rfl⟩, ⟨⟨.refl rfl, rfl⟩, trivial⟩⟩⟩⟩⟩ ⟨⟨rfl, rfl, rfl⟩, trivial⟩ trivial)⟩
                          exact ⟨by omega, by omega⟩
                    · skip
                      refine AOps.pass rfl rfl rfl h141 rfl ?_
                      refine AOps.pass rfl rfl rfl h141 rfl ?_
                      refine AOps.pass rfl rfl rfl h141 rfl ?_
                      refine AOps.pass rfl rfl rfl h141 rfl ?_
                      refine AOps.pass rfl rfl rfl h141 rfl ?_
                      refine AOps.pass rfl rfl rfl h141 rfl ?_
                      refine AOps.passU rfl rfl rfl rfl ?_
                      refine AOps.passU rfl rfl rfl rfl ?_
                      refine AOps.passU rfl rfl rfl rfl ?_
                      refine AOps.passU rfl rfl rfl rfl ?_
                      refine AOps.pass rfl rfl rfl h141 rfl ?_
                      refine AOps.pass rfl rfl rfl h141 rfl ?_
                      refine AOps.call (o_pickT _ _ _ rfl h141 rfl rfl) ?_
                      refine AOps.nil ?_
                      refine AWP.condT rfl ?_
                      exfalso
                      first
                      | (simp at *; done)
                      | (simp_all; done)
                      | (simp_all; omega)
                  · skip
                    have hRb := endsReach_s s ((tnS s fr to day).lo - 1) fr to day hz hf ht hd hne
                    rw [show decide ((tnS s fr to day).lo ≤ (tnS s fr to day).lo - 1 ∧ (tnS s fr to day).lo - 1 ≤ (tnS s fr to day).hi) = false by rw [decide_eq_false_iff_not]; omega] at hRb
                    have hRa := endsReach_s s ((tnS s fr to day).hi + 1) fr to day hz hf ht hd hne
                    rw [show decide ((tnS s fr to day).lo ≤ (tnS s fr to day).hi + 1 ∧ (tnS s fr to day).hi + 1 ≤ (tnS s fr to day).hi) = false by rw [decide_eq_false_iff_not]; omega] at hRa
                    refine AWP.exit ?_
                    refine AWP.seq ?_
                    refine AWP.region ?_
                    refine AOps.call (o_move _ rfl rfl) ?_
                    refine AOps.call (o_fieldRef _ rfl fa40_0 rfl rfl) ?_
                    refine AOps.call (o_loadRef _ rfl rfl Tryd.sizeOf3 Tryd.isAgg3 rfl rfl rfl) ?_
                    refine AOps.call (o_sub _ _ rfl rfl ⟨by (try dsimp only); omega, by (try dsimp only); omega⟩ rfl) ?_
                    refine AOps.call (o_callV (cl := [I ((tnS s fr to day).lo - 1)]) (ccl := [.rd (eS s), .rd [I to], .rd [I day], .rd (eP (drS s fr day)), .rd [I fr]]) _ rfl (hRb) Tryd.call43 rfl rfl rfl) ?_
                    refine AOps.call (o_move _ rfl rfl) ?_
                    refine AOps.call (o_extract _ rfl rfl rfl rfl) ?_
                    refine AOps.call (o_extract _ rfl rfl rfl rfl) ?_
                    refine AOps.call (o_assign _ rfl rfl) ?_
                    refine AOps.call (o_assign _ rfl rfl) ?_
                    refine AOps.nil ?_
                    refine AWP.seq ?_
                    refine AWP.region ?_
                    refine AOps.call (o_move _ rfl rfl) ?_
                    refine AOps.call (o_fieldRef _ rfl fa40_1 rfl rfl) ?_
                    refine AOps.call (o_loadRef _ rfl rfl Tryd.sizeOf3 Tryd.isAgg3 rfl rfl rfl) ?_
                    refine AOps.call (o_add _ _ rfl rfl ⟨by (try dsimp only); omega, by (try dsimp only); omega⟩ rfl) ?_
                    refine AOps.call (o_callV (cl := [I ((tnS s fr to day).hi + 1)]) (ccl := [.rd (eS s), .rd [I to], .rd [I day], .rd (eP (drS s fr day)), .rd [I fr]]) _ rfl (hRa) Tryd.call43 rfl rfl rfl) ?_
                    refine AOps.call (o_move _ rfl rfl) ?_
                    refine AOps.call (o_extract _ rfl rfl rfl rfl) ?_
                    refine AOps.call (o_extract _ rfl rfl rfl rfl) ?_
                    refine AOps.call (o_assign _ rfl rfl) ?_
                    refine AOps.call (o_assign _ rfl rfl) ?_
                    refine AOps.nil ?_
                    refine AWP.seq ?_
                    refine AWP.region ?_
                    refine AOps.call (o_move _ rfl rfl) ?_
                    refine AOps.call (o_move _ rfl rfl) ?_
                    refine AOps.split rfl rfl rfl (fun h167 => ?_) (fun h167 => ?_)
                    · skip
                      refine AOps.go rfl rfl rfl h167 (o_move _ rfl rfl) ?_
                      refine AOps.call (o_pickT _ _ _ rfl h167 rfl rfl) ?_
                      refine AOps.call (o_move _ rfl rfl) ?_
                      refine AOps.split rfl rfl rfl (fun h168 => ?_) (fun h168 => ?_)
                      · skip
                        refine AOps.go rfl rfl rfl h168 (o_move _ rfl rfl) ?_
                        refine AOps.go rfl rfl rfl h168 (o_un _ rfl (fun _ => rfl) rfl) ?_
                        refine AOps.call (o_pickT _ _ _ rfl h168 rfl rfl) ?_
                        refine AOps.call (o_move _ rfl rfl) ?_
                        refine AOps.split rfl rfl rfl (fun h170 => ?_) (fun h170 => ?_)
                        · skip
                          refine AOps.go rfl rfl rfl h170 (o_move _ rfl rfl) ?_
                          refine AOps.go rfl rfl rfl h170 (o_un _ rfl (fun _ => rfl) rfl) ?_
                          refine AOps.call (o_pickT _ _ _ rfl h170 rfl rfl) ?_
                          refine AOps.call (o_move _ rfl rfl) ?_
                          refine AOps.split rfl rfl rfl (fun h172 => ?_) (fun h172 => ?_)
                          · skip
                            refine AOps.go rfl rfl rfl h172 (o_fieldRef _ rfl fa40_0 rfl rfl) ?_
                            refine AOps.go rfl rfl rfl h172 (o_loadRef _ rfl rfl Tryd.sizeOf3 Tryd.isAgg3 rfl rfl rfl) ?_
                            refine AOps.go rfl rfl rfl h172 (o_fieldRef _ rfl fa40_1 rfl rfl) ?_
                            refine AOps.go rfl rfl rfl h172 (o_loadRef _ rfl rfl Tryd.sizeOf3 Tryd.isAgg3 rfl rfl rfl) ?_
                            refine AOps.go rfl rfl rfl h172 (o_bin _ _ rfl rfl (fun _ => rfl) rfl) ?_
                            refine AOps.call (o_pickT _ _ _ rfl h172 rfl rfl) ?_
                            refine AOps.call (o_assign _ rfl rfl) ?_
                            refine AOps.nil ?_
                            refine AWP.ret ?_
                            first
                            | exact postQ.ret1 Tryd.results8 rfl rfl
                            | (exfalso; simp at *; done)
                            | (exfalso; simp_all; done)
                            | (refine postQ.ret1 Tryd.results8 rfl ?_; simp [AV.close, B]; done)
                            | (refine postQ.ret1 Tryd.results8 rfl ?_; rw [hY]; rfl)
                            | (refine postQ.ret1 Tryd.results8 rfl ?_; simp_all [AV.close, B]; done)
                          · skip
                            refine AOps.pass rfl rfl rfl h172 rfl ?_
                            refine AOps.pass rfl rfl rfl h172 rfl ?_
                            refine AOps.pass rfl rfl rfl h172 rfl ?_
                            refine AOps.pass rfl rfl rfl h172 rfl ?_
                            refine AOps.pass rfl rfl rfl h172 rfl ?_
                            refine AOps.call (o_pickF _ _ _ rfl h172 rfl rfl) ?_
                            refine AOps.call (o_assign _ rfl rfl) ?_
                            refine AOps.nil ?_
                            refine AWP.ret ?_
                            first
                            | exact postQ.ret1 Tryd.results8 rfl rfl
                            | (exfalso; simp at *; done)
                            | (exfalso; simp_all; done)
                            | (refine postQ.ret1 Tryd.results8 rfl ?_; simp [AV.close, B]; done)
                            | (refine postQ.ret1 Tryd.results8 rfl ?_; rw [hY]; rfl)
                            | (refine postQ.ret1 Tryd.results8 rfl ?_; simp_all [AV.close, B]; done)
                        · skip
                          refine AOps.pass rfl rfl rfl h170 rfl ?_
                          refine AOps.pass rfl rfl rfl h170 rfl ?_
                          refine AOps.call (o_pickF _ _ _ rfl h170 rfl rfl) ?_
                          refine AOps.call (o_move _ rfl rfl) ?_
                          refine AOps.pass rfl rfl rfl rfl rfl ?_
                          refine AOps.pass rfl rfl rfl rfl rfl ?_
                          refine AOps.pass rfl rfl rfl rfl rfl ?_
                          refine AOps.pass rfl rfl rfl rfl rfl ?_
                          refine AOps.pass rfl rfl rfl rfl rfl ?_
                          refine AOps.call (o_pickF _ _ _ rfl rfl rfl rfl) ?_
                          refine AOps.call (o_assign _ rfl rfl) ?_
                          refine AOps.nil ?_
                          refine AWP.ret ?_
                          first
                          | exact postQ.ret1 Tryd.results8 rfl rfl
                          | (exfalso; simp at *; done)
                          | (exfalso; simp_all; done)
                          | (refine postQ.ret1 Tryd.results8 rfl ?_; simp [AV.close, B]; done)
                          | (refine postQ.ret1 Tryd.results8 rfl ?_; rw [hY]; rfl)
                          | (refine postQ.ret1 Tryd.results8 rfl ?_; simp_all [AV.close, B]; done)
                      · skip
                        refine AOps.pass rfl rfl rfl h168 rfl ?_
                        refine AOps.pass rfl rfl rfl h168 rfl ?_
                        refine AOps.call (o_pickF _ _ _ rfl h168 rfl rfl) ?_
                        refine AOps.call (o_move _ rfl rfl) ?_
                        refine AOps.pass rfl rfl rfl rfl rfl ?_
                        refine AOps.pass rfl rfl rfl rfl rfl ?_
                        refine AOps.call (o_pickF _ _ _ rfl rfl rfl rfl) ?_
                        refine AOps.call (o_move _ rfl rfl) ?_
                        refine AOps.pass rfl rfl rfl rfl rfl ?_
                        refine AOps.pass rfl rfl rfl rfl rfl ?_
                        refine AOps.pass rfl rfl rfl rfl rfl ?_
                        refine AOps.pass rfl rfl rfl rfl rfl ?_
                        refine AOps.pass rfl rfl rfl rfl rfl ?_
                        refine AOps.call (o_pickF _ _ _ rfl rfl rfl rfl) ?_
                        refine AOps.call (o_assign _ rfl rfl) ?_
                        refine AOps.nil ?_
                        refine AWP.ret ?_
                        first
                        | exact postQ.ret1 Tryd.results8 rfl rfl
                        | (exfalso; simp at *; done)
                        | (exfalso; simp_all; done)
                        | (refine postQ.ret1 Tryd.results8 rfl ?_; simp [AV.close, B]; done)
                        | (refine postQ.ret1 Tryd.results8 rfl ?_; rw [hY]; rfl)
                        | (refine postQ.ret1 Tryd.results8 rfl ?_; simp_all [AV.close, B]; done)
                    · skip
                      refine AOps.pass rfl rfl rfl h167 rfl ?_
                      refine AOps.call (o_pickF _ _ _ rfl h167 rfl rfl) ?_
                      refine AOps.call (o_move _ rfl rfl) ?_
                      refine AOps.pass rfl rfl rfl rfl rfl ?_
                      refine AOps.pass rfl rfl rfl rfl rfl ?_
                      refine AOps.call (o_pickF _ _ _ rfl rfl rfl rfl) ?_
                      refine AOps.call (o_move _ rfl rfl) ?_
                      refine AOps.pass rfl rfl rfl rfl rfl ?_
                      refine AOps.pass rfl rfl rfl rfl rfl ?_
                      refine AOps.call (o_pickF _ _ _ rfl rfl rfl rfl) ?_
                      refine AOps.call (o_move _ rfl rfl) ?_
                      refine AOps.pass rfl rfl rfl rfl rfl ?_
                      refine AOps.pass rfl rfl rfl rfl rfl ?_
                      refine AOps.pass rfl rfl rfl rfl rfl ?_
                      refine AOps.pass rfl rfl rfl rfl rfl ?_
                      refine AOps.pass rfl rfl rfl rfl rfl ?_
                      refine AOps.call (o_pickF _ _ _ rfl rfl rfl rfl) ?_
                      refine AOps.call (o_assign _ rfl rfl) ?_
                      refine AOps.nil ?_
                      refine AWP.ret ?_
                      first
                      | exact postQ.ret1 Tryd.results8 rfl rfl
                      | (exfalso; simp at *; done)
                      | (exfalso; simp_all; done)
                      | (refine postQ.ret1 Tryd.results8 rfl ?_; simp [AV.close, B]; done)
                      | (refine postQ.ret1 Tryd.results8 rfl ?_; rw [hY]; rfl)
                      | (refine postQ.ret1 Tryd.results8 rfl ?_; simp_all [AV.close, B]; done)
          · skip
            refine AOps.pass rfl rfl rfl h42 rfl ?_
            refine AOps.pass rfl rfl rfl h42 rfl ?_
            refine AOps.pass rfl rfl rfl h42 rfl ?_
            refine AOps.pass rfl rfl rfl h42 rfl ?_
            refine AOps.pass rfl rfl rfl h42 rfl ?_
            refine AOps.pass rfl rfl rfl h42 rfl ?_
            refine AOps.passU rfl rfl rfl rfl ?_
            refine AOps.passU rfl rfl rfl rfl ?_
            refine AOps.passU rfl rfl rfl rfl ?_
            refine AOps.passU rfl rfl rfl rfl ?_
            refine AOps.pass rfl rfl rfl h42 rfl ?_
            refine AOps.pass rfl rfl rfl h42 rfl ?_
            refine AOps.call (o_pickT _ _ _ rfl h42 rfl rfl) ?_
            refine AOps.nil ?_
            refine AWP.condT rfl ?_
            exfalso
            first
            | (simp at *; done)
            | (simp_all; done)
            | (simp_all; omega)
      · skip
        refine AOps.pass rfl rfl rfl h29 rfl ?_
        refine AOps.pass rfl rfl rfl h29 rfl ?_
        refine AOps.call (o_pickT _ _ _ rfl h29 rfl rfl) ?_
        refine AOps.nil ?_
        refine AWP.condT rfl ?_
        exfalso
        first
        | (simp at *; done)
        | (simp_all; done)

theorem CourseEnds_s (s : Scl) (fr to day grams tn : Int) : FSpecG Tryd.prog TAB 8 [.agg (eS s), I fr, I to, I day, I grams, I tn] (B true) none := by
  by_cases h1 : askE s [fr, day] = 0
  · by_cases h2 : askE s [fr, to, day] = 0
    · obtain ⟨hz, ha⟩ := askE_0 h2
      simp only [List.all_cons, List.all_nil, Bool.and_true, Bool.and_eq_true] at ha
      exact CourseEnds_b s fr to day grams tn hz (dayB_bd ha.1) (dayB_bd ha.2.1) ha.2.2
    · refine CourseEnds_a2 s fr to day grams tn h1 ?_
      have hz := (askE_0 h1).1
      unfold askE at h2 ⊢
      rw [if_pos hz] at h2 ⊢
      split at h2
      · exact absurd rfl h2
      · rename_i hc; rw [if_neg hc]
  · refine CourseEnds_a1 s fr to day grams tn h1 fun h2 => h1 ?_
    obtain ⟨hz, ha⟩ := askE_0 h2
    simp only [List.all_cons, List.all_nil, Bool.and_true, Bool.and_eq_true] at ha
    exact askE_ok2 hz ha.1 ha.2.2

end Go.Proofs.YtphoomnonenalaaDoor
