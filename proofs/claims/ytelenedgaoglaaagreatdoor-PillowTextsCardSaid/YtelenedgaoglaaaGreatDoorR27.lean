/- R27. -/
import Derived.Test.YtelenedgaoglaaaGreatDoorP3
import Derived.Test.YtelenedgaoglaaaGreatDoorK3
set_option linter.unusedSimpArgs false
set_option linter.unusedVariables false
namespace Go.Proofs.YtelenedgaoglaaaGreatDoor
open Go.Ab
open Go.Pil Go.RowKit
set_option maxRecDepth 20000 in
theorem example_s  : FSpec Tryz.prog 55 [] (.tup [.agg (eP exP), .sl (sps exW)]) (none) := by
  refine FSpec.of_body Tryz.func55 rfl (leB rfl) fun w0 M0 => ?_
  refine AWP.seq ?_
  refine AWP.region ?_
  refine AOps.call (o_alloc ze24 rfl rfl) ?_
  refine AOps.call (o_nil (z := 2) (e := 54) rfl) ?_
  refine AOps.nil ?_
  refine AWP.seq ?_
  refine AWP.region ?_
  refine AOps.call (o_build bu27 rfl rfl rfl) ?_
  refine AOps.call (o_build bu27 rfl rfl rfl) ?_
  refine AOps.call (o_build bu27 rfl rfl rfl) ?_
  refine AOps.call (o_lit Tryz.underlying22 Tryz.sizeOf27 Tryz.zeroValue27 rfl rfl rfl rfl rfl rfl rfl) ?_
  refine AOps.call (o_build bu24 rfl rfl rfl) ?_
  refine AOps.call (o_alloc ze24 rfl rfl) ?_
  refine AOps.cons (o_store _ _ rfl rfl Tryz.sizeOf24 rfl rfl rfl rfl rfl) ?_
  refine AOps.nil ?_
  refine AWP.seq ?_
  refine AWP.region ?_
  refine AOps.call (o_loadRef _ rfl rfl Tryz.sizeOf24 Tryz.isAgg24 rfl rfl rfl) ?_
  refine AOps.call (o_build bu54 rfl rfl rfl) ?_
  refine AOps.call (o_build bu54 rfl rfl rfl) ?_
  refine AOps.call (o_lit Tryz.underlying38 Tryz.sizeOf54 Tryz.zeroValue54 rfl rfl rfl rfl rfl rfl rfl) ?_
  refine AOps.cons (o_store _ _ rfl rfl Tryz.sizeOf24 rfl rfl rfl rfl rfl) ?_
  refine AOps.call (o_assign _ rfl rfl) ?_
  refine AOps.nil ?_
  refine AWP.ret ?_
  exact postQ.retC1 Tryz.results55 rfl rfl Tryz.sizeOf24 Tryz.isAgg24 rfl rfl rfl
set_option maxRecDepth 20000 in
theorem sane_s  : FSpecG Tryz.prog TAB 12 [] (B true) (none) := by
  refine FSpecG.of_body tab_stable Tryz.func12 rfl (leB rfl) fun w0 M0 hG => ?_
  have hL := Loads_s exP exW [0, 2, 0] (by decide) (by decide)
  rw [ex_ldE, ex_ldL] at hL
  have hA := Alive_s exP exW [0, 0, 0] (by decide) (by decide)
  rw [decide_eq_false (fun h => ex_al2 h.2), ex_rc2] at hA
  have hR := Refute_s exP exW [0, 0, 0] (by decide) (by decide)
  rw [if_pos ex_rc2, ex_ref, ex_rc2] at hR
  have hC := Cases_s exP exW (by decide)
  rw [ex_CasL, ex_CasE] at hC
  have hS := Sure_ok exP exW 1 (by decide) ex_ok ex_w ex_has
  rw [ex_sureE, ex_sureS] at hS
  have hH := Hull_s exP0 exW 1 (by decide)
  rw [ex_hullE, ex_hullS] at hH
  have hP := Print_s exP0
  rw [ex_prnM] at hP
  have hS1 := spans_s [⟨95, 105⟩, ⟨95, 125⟩, ⟨105, 115⟩] [⟨95, 105⟩, ⟨95, 125⟩, ⟨105, 115⟩] (by decide)
  rw [decide_eq_true rfl] at hS1
  have hS2 := lists_s [[0, 2, 0], [0, 2, 1], [1, 2, 0], [1, 2, 1]] [[0, 2, 0], [0, 2, 1], [1, 2, 0], [1, 2, 1]] (by decide) (by decide)
  rw [decide_eq_true rfl] at hS2
  refine AWP.seq ?_
  refine AWP.region ?_
  refine AOps.call (o_assign _ rfl rfl) ?_
  refine AOps.nil ?_
  refine AWP.seq ?_
  refine AWP.region ?_
  refine AOps.call (o_call (example_s) Tryz.call55 rfl rfl) ?_
  refine AOps.call (o_move _ rfl rfl) ?_
  refine AOps.call (o_extract _ rfl rfl rfl rfl) ?_
  refine AOps.call (o_extract _ rfl rfl rfl rfl) ?_
  refine AOps.call (o_alloc ze24 rfl rfl) ?_
  refine AOps.cons (o_store _ _ rfl rfl Tryz.sizeOf24 rfl rfl rfl rfl rfl) ?_
  refine AOps.call (o_assign _ rfl rfl) ?_
  refine AOps.nil ?_
  refine AWP.seq ?_
  refine AWP.region ?_
  refine AOps.call (o_loadRef _ rfl rfl Tryz.sizeOf24 Tryz.isAgg24 rfl rfl rfl) ?_
  refine AOps.call (o_move _ rfl rfl) ?_
  refine AOps.call (o_lit Tryz.underlying25 Tryz.sizeOf3 Tryz.zeroValue3 rfl rfl rfl rfl rfl rfl rfl) ?_
  refine AOps.call (o_call (hL) Tryz.call27 rfl rfl) ?_
  refine AOps.call (o_move _ rfl rfl) ?_
  refine AOps.call (o_extract _ rfl rfl rfl rfl) ?_
  refine AOps.call (o_extract _ rfl rfl rfl rfl) ?_
  refine AOps.call (o_assign _ rfl rfl) ?_
  refine AOps.call (o_assign _ rfl rfl) ?_
  refine AOps.nil ?_
  refine AWP.seq ?_
  refine AWP.region ?_
  refine AOps.call (o_loadRef _ rfl rfl Tryz.sizeOf24 Tryz.isAgg24 rfl rfl rfl) ?_
  refine AOps.call (o_move _ rfl rfl) ?_
  refine AOps.call (o_lit Tryz.underlying25 Tryz.sizeOf3 Tryz.zeroValue3 rfl rfl rfl rfl rfl rfl rfl) ?_
  refine AOps.call (o_call (hA) Tryz.call25 rfl rfl) ?_
  refine AOps.call (o_move _ rfl rfl) ?_
  refine AOps.call (o_extract _ rfl rfl rfl rfl) ?_
  refine AOps.call (o_extract _ rfl rfl rfl rfl) ?_
  refine AOps.call (o_assign _ rfl rfl) ?_
  refine AOps.call (o_assign _ rfl rfl) ?_
  refine AOps.nil ?_
  refine AWP.seq ?_
  refine AWP.region ?_
  refine AOps.call (o_loadRef _ rfl rfl Tryz.sizeOf24 Tryz.isAgg24 rfl rfl rfl) ?_
  refine AOps.call (o_move _ rfl rfl) ?_
  refine AOps.call (o_lit Tryz.underlying25 Tryz.sizeOf3 Tryz.zeroValue3 rfl rfl rfl rfl rfl rfl rfl) ?_
  refine AOps.call (o_call (hR) Tryz.call35 rfl rfl) ?_
  refine AOps.call (o_move _ rfl rfl) ?_
  refine AOps.call (o_extract _ rfl rfl rfl rfl) ?_
  refine AOps.call (o_extract _ rfl rfl rfl rfl) ?_
  refine AOps.call (o_extract _ rfl rfl rfl rfl) ?_
  refine AOps.call (o_alloc ze56 rfl rfl) ?_
  refine AOps.cons (o_store _ _ rfl rfl Tryz.sizeOf56 rfl rfl rfl rfl rfl) ?_
  refine AOps.call (o_assign _ rfl rfl) ?_
  refine AOps.call (o_assign _ rfl rfl) ?_
  refine AOps.nil ?_
  refine AWP.seq ?_
  refine AWP.region ?_
  refine AOps.call (o_loadRef _ rfl rfl Tryz.sizeOf24 Tryz.isAgg24 rfl rfl rfl) ?_
  refine AOps.call (o_move _ rfl rfl) ?_
  refine AOps.call (o_call (hC) Tryz.call23 rfl rfl) ?_
  refine AOps.call (o_move _ rfl rfl) ?_
  refine AOps.call (o_extract _ rfl rfl rfl rfl) ?_
  refine AOps.call (o_extract _ rfl rfl rfl rfl) ?_
  refine AOps.call (o_assign _ rfl rfl) ?_
  refine AOps.call (o_assign _ rfl rfl) ?_
  refine AOps.nil ?_
  refine AWP.seq ?_
  refine AWP.region ?_
  refine AOps.call (o_loadRef _ rfl rfl Tryz.sizeOf24 Tryz.isAgg24 rfl rfl rfl) ?_
  refine AOps.call (o_move _ rfl rfl) ?_
  refine AOps.call (o_call (hS) Tryz.call43 rfl rfl) ?_
  refine AOps.call (o_move _ rfl rfl) ?_
  refine AOps.call (o_extract _ rfl rfl rfl rfl) ?_
  refine AOps.call (o_extract _ rfl rfl rfl rfl) ?_
  refine AOps.call (o_extract _ rfl rfl rfl rfl) ?_
  refine AOps.call (o_assign _ rfl rfl) ?_
  refine AOps.call (o_assign _ rfl rfl) ?_
  refine AOps.call (o_assign _ rfl rfl) ?_
  refine AOps.nil ?_
  refine AWP.seq ?_
  refine AWP.region ?_
  refine AOps.call (o_fieldRef _ rfl fa24_5 rfl rfl) ?_
  refine AOps.cons (o_store _ _ rfl rfl Tryz.sizeOf3 rfl rfl rfl rfl rfl) ?_
  refine AOps.nil ?_
  refine AWP.seq ?_
  refine AWP.region ?_
  refine AOps.call (o_loadRef _ rfl rfl Tryz.sizeOf24 Tryz.isAgg24 rfl rfl rfl) ?_
  refine AOps.call (o_move _ rfl rfl) ?_
  refine AOps.call (o_call (hH) Tryz.call41 rfl rfl) ?_
  refine AOps.call (o_move _ rfl rfl) ?_
  refine AOps.call (o_extract _ rfl rfl rfl rfl) ?_
  refine AOps.call (o_extract _ rfl rfl rfl rfl) ?_
  refine AOps.call (o_alloc ze54 rfl rfl) ?_
  refine AOps.cons (o_store _ _ rfl rfl Tryz.sizeOf54 rfl rfl rfl rfl rfl) ?_
  refine AOps.call (o_assign _ rfl rfl) ?_
  refine AOps.nil ?_
  refine AWP.seq ?_
  refine AWP.region ?_
  refine AOps.call (o_loadRef _ rfl rfl Tryz.sizeOf24 Tryz.isAgg24 rfl rfl rfl) ?_
  refine AOps.call (o_callG (hP) hG Tryz.call50 rfl rfl) ?_
  refine AOps.call (o_move _ rfl rfl) ?_
  refine AOps.call (o_extract _ rfl rfl rfl rfl) ?_
  refine AOps.call (o_extract _ rfl rfl rfl rfl) ?_
  refine AOps.call (o_assign _ rfl rfl) ?_
  refine AOps.call (o_assign _ rfl rfl) ?_
  refine AOps.nil ?_
  refine AWP.seq ?_
  refine AWP.seq ?_
  refine AWP.region ?_
  refine AOps.call (o_move _ rfl rfl) ?_
  refine AOps.call (o_bin _ _ rfl rfl (fun _ => rfl) rfl) ?_
  refine AOps.call (o_move _ rfl rfl) ?_
  refine AOps.split rfl rfl rfl (fun h42 => ?_) (fun h42 => ?_)
  · skip
    refine AOps.go rfl rfl rfl h42 (o_move _ rfl rfl) ?_
    refine AOps.go rfl rfl rfl h42 (o_bin _ _ rfl rfl (fun _ => rfl) rfl) ?_
    refine AOps.call (o_pickF _ _ _ rfl h42 rfl rfl) ?_
    refine AOps.call (o_move _ rfl rfl) ?_
    refine AOps.split rfl rfl rfl (fun h44 => ?_) (fun h44 => ?_)
    · skip
      refine AOps.go rfl rfl rfl h44 (o_move _ rfl rfl) ?_
      refine AOps.go rfl rfl rfl h44 (o_bin _ _ rfl rfl (fun _ => rfl) rfl) ?_
      refine AOps.call (o_pickF _ _ _ rfl h44 rfl rfl) ?_
      refine AOps.call (o_move _ rfl rfl) ?_
      refine AOps.split rfl rfl rfl (fun h46 => ?_) (fun h46 => ?_)
      · skip
        refine AOps.go rfl rfl rfl h46 (o_move _ rfl rfl) ?_
        refine AOps.go rfl rfl rfl h46 (o_bin _ _ rfl rfl (fun _ => rfl) rfl) ?_
        refine AOps.call (o_pickF _ _ _ rfl h46 rfl rfl) ?_
        refine AOps.call (o_move _ rfl rfl) ?_
        refine AOps.split rfl rfl rfl (fun h48 => ?_) (fun h48 => ?_)
        · skip
          refine AOps.go rfl rfl rfl h48 (o_move _ rfl rfl) ?_
          refine AOps.go rfl rfl rfl h48 (o_bin _ _ rfl rfl (fun _ => rfl) rfl) ?_
          refine AOps.call (o_pickF _ _ _ rfl h48 rfl rfl) ?_
          refine AOps.call (o_move _ rfl rfl) ?_
          refine AOps.split rfl rfl rfl (fun h50 => ?_) (fun h50 => ?_)
          · skip
            refine AOps.go rfl rfl rfl h50 (o_move _ rfl rfl) ?_
            refine AOps.go rfl rfl rfl h50 (o_bin _ _ rfl rfl (fun _ => rfl) rfl) ?_
            refine AOps.call (o_pickF _ _ _ rfl h50 rfl rfl) ?_
            refine AOps.call (o_move _ rfl rfl) ?_
            refine AOps.split rfl rfl rfl (fun h52 => ?_) (fun h52 => ?_)
            · skip
              refine AOps.go rfl rfl rfl h52 (o_move _ rfl rfl) ?_
              refine AOps.go rfl rfl rfl h52 (o_bin _ _ rfl rfl (fun _ => rfl) rfl) ?_
              refine AOps.call (o_pickF _ _ _ rfl h52 rfl rfl) ?_
              refine AOps.call (o_move _ rfl rfl) ?_
              refine AOps.split rfl rfl rfl (fun h54 => ?_) (fun h54 => ?_)
              · skip
                refine AOps.go rfl rfl rfl h54 (o_move _ rfl rfl) ?_
                refine AOps.call (o_pickF _ _ _ rfl h54 rfl rfl) ?_
                refine AOps.call (o_move _ rfl rfl) ?_
                refine AOps.split rfl rfl rfl (fun h55 => ?_) (fun h55 => ?_)
                · skip
                  refine AOps.go rfl rfl rfl h55 (o_move _ rfl rfl) ?_
                  refine AOps.go rfl rfl rfl h55 (o_un _ rfl (fun _ => rfl) rfl) ?_
                  refine AOps.call (o_pickF _ _ _ rfl h55 rfl rfl) ?_
                  refine AOps.call (o_move _ rfl rfl) ?_
                  refine AOps.split rfl rfl rfl (fun h57 => ?_) (fun h57 => ?_)
                  · skip
                    refine AOps.go rfl rfl rfl h57 (o_move _ rfl rfl) ?_
                    refine AOps.go rfl rfl rfl h57 (o_un _ rfl (fun _ => rfl) rfl) ?_
                    refine AOps.call (o_pickF _ _ _ rfl h57 rfl rfl) ?_
                    refine AOps.nil ?_
                    refine AWP.cond _ rfl (fun h59 => ?_) (fun h59 => ?_)
                    · skip
                      exfalso
                      exact absurd h59 (by decide)
                    · skip
                      skip
                      refine AWP.skip ?_
                      refine AWP.seq ?_
                      refine AWP.region ?_
                      refine AOps.call (o_move _ rfl rfl) ?_
                      refine AOps.call (o_build bu54 rfl rfl rfl) ?_
                      refine AOps.call (o_build bu54 rfl rfl rfl) ?_
                      refine AOps.call (o_build bu54 rfl rfl rfl) ?_
                      refine AOps.call (o_lit Tryz.underlying38 Tryz.sizeOf54 Tryz.zeroValue54 rfl rfl rfl rfl rfl rfl rfl) ?_
                      refine AOps.call (o_call (hS1) Tryz.call30 rfl rfl) ?_
                      refine AOps.call (o_move _ rfl rfl) ?_
                      refine AOps.split rfl rfl rfl (fun h65 => ?_) (fun h65 => ?_)
                      · skip
                        refine AOps.go rfl rfl rfl h65 (o_loadRef _ rfl rfl Tryz.sizeOf56 Tryz.isAgg56 rfl rfl rfl) ?_
                        refine AOps.go rfl rfl rfl h65 (o_build bu56 rfl rfl rfl) ?_
                        refine AOps.go rfl rfl rfl h65 (ok_bin _ _ rfl rfl (fun w => el27 _ _ 0 1 0 1 w) (okD rfl)) ?_
                        refine AOps.call (o_pickT _ _ _ rfl h65 rfl rfl) ?_
                        refine AOps.call (o_move _ rfl rfl) ?_
                        refine AOps.split rfl rfl rfl (fun h69 => ?_) (fun h69 => ?_)
                        · skip
                          refine AOps.go rfl rfl rfl h69 (o_move _ rfl rfl) ?_
                          refine AOps.go rfl rfl rfl h69 (o_lit Tryz.underlying25 Tryz.sizeOf3 Tryz.zeroValue3 rfl rfl rfl rfl rfl rfl rfl) ?_
                          refine AOps.go rfl rfl rfl h69 (o_lit Tryz.underlying25 Tryz.sizeOf3 Tryz.zeroValue3 rfl rfl rfl rfl rfl rfl rfl) ?_
                          refine AOps.go rfl rfl rfl h69 (o_lit Tryz.underlying25 Tryz.sizeOf3 Tryz.zeroValue3 rfl rfl rfl rfl rfl rfl rfl) ?_
                          refine AOps.go rfl rfl rfl h69 (o_lit Tryz.underlying25 Tryz.sizeOf3 Tryz.zeroValue3 rfl rfl rfl rfl rfl rfl rfl) ?_
                          refine AOps.go rfl rfl rfl h69 (o_lit Tryz.underlying40 Tryz.sizeOf25 Tryz.zeroValue25 rfl rfl rfl rfl rfl rfl rfl) ?_
                          refine AOps.go rfl rfl rfl h69 (o_call (hS2) Tryz.call29 rfl rfl) ?_
                          refine AOps.call (o_pickT _ _ _ rfl h69 rfl rfl) ?_
                          refine AOps.call (o_move _ rfl rfl) ?_
                          refine AOps.split rfl rfl rfl (fun h76 => ?_) (fun h76 => ?_)
                          · skip
                            refine AOps.go rfl rfl rfl h76 (o_move _ rfl rfl) ?_
                            refine AOps.go rfl rfl rfl h76 (o_bin _ _ rfl rfl (fun _ => rfl) rfl) ?_
                            refine AOps.call (o_pickT _ _ _ rfl h76 rfl rfl) ?_
                            refine AOps.call (o_move _ rfl rfl) ?_
                            refine AOps.split rfl rfl rfl (fun h78 => ?_) (fun h78 => ?_)
                            · skip
                              refine AOps.go rfl rfl rfl h78 (o_move _ rfl rfl) ?_
                              refine AOps.go rfl rfl rfl h78 (o_bin _ _ rfl rfl (fun _ => rfl) rfl) ?_
                              refine AOps.call (o_pickT _ _ _ rfl h78 rfl rfl) ?_
                              refine AOps.call (o_assign _ rfl rfl) ?_
                              refine AOps.nil ?_
                              refine AWP.ret ?_
                              refine postQ.ret1 Tryz.results12 rfl ?_
                              show (AV.sc (Value.bool (exS.toList == exS.toList))).close = some (B true)
                              rw [beq_self_eq_true]
                              rfl
                            · skip
                              exfalso
                              exact absurd h78 (by decide)
                          · skip
                            exfalso
                            exact absurd h76 (by decide)
                        · skip
                          exfalso
                          exact absurd h69 (by decide)
                      · skip
                        exfalso
                        exact absurd h65 (by decide)
                  · skip
                    exfalso
                    exact absurd h57 (by decide)
                · skip
                  exfalso
                  exact absurd h55 (by decide)
              · skip
                exfalso
                exact absurd h54 (by decide)
            · skip
              exfalso
              exact absurd h52 (by decide)
          · skip
            exfalso
            exact absurd h50 (by decide)
        · skip
          exfalso
          exact absurd h48 (by decide)
      · skip
        exfalso
        exact absurd h46 (by decide)
    · skip
      exfalso
      exact absurd h44 (by decide)
  · skip
    exfalso
    exact absurd h42 (by decide)
end Go.Proofs.YtelenedgaoglaaaGreatDoor
