import Derived.Test.YtgagfmjpmdgfdaaDoorP9
set_option linter.unusedSimpArgs false
set_option linter.unusedVariables false
namespace Go.Proofs.YtgagfmjpmdgfdaaDoor
open Go.Ab

set_option maxRecDepth 20000 in
theorem sane_s  : FSpecG Tryd.prog TAB 18 [] (B true) (none) := by
  refine FSpecG.of_body tab_stable Tryd.func18 rfl (leB rfl) fun w0 M0 hG => ?_
  have hW := Water_s EX
  rw [if_pos ex_pack, ex_wat, ex_pack] at hW
  have hR := Ready_s EX
  rw [if_pos ex_pack, ex_rdy, ex_pack] at hR
  have hA := Apply_s EX ⟨3, 21, 0⟩
  rw [ex_melt] at hA
  have hB := Apply_s EX ⟨5, 50, 0⟩
  rw [ex_loss] at hB
  have hK := Weakest_s EX
  rw [ex_wk] at hK
  have hT := Steepest_s [⟨300, 0, 0⟩, ⟨20, 0, 0⟩]
  rw [ex_stp] at hT
  have hJ := Joined_s EX 1
  rw [ex_join] at hJ
  have hP := Print_s EX
  rw [ex_prn] at hP
  have hZ := Weakest_s []
  rw [ex_wk0] at hZ
  have hS1 := Same_s [⟨19, 0, 0⟩, ⟨105, 5, 0⟩] [⟨19, 0, 0⟩, ⟨105, 5, 0⟩] (by decide)
  rw [show sameB [⟨19, 0, 0⟩, ⟨105, 5, 0⟩] [⟨19, 0, 0⟩, ⟨105, 5, 0⟩] = true by decide] at hS1
  have hS2 := Same_s [⟨92, 0, 3⟩] [⟨92, 0, 3⟩] (by decide)
  rw [show sameB [⟨92, 0, 3⟩] [⟨92, 0, 3⟩] = true by decide] at hS2
  have hS3 := Same_s [⟨142, 0, 3⟩] [⟨142, 0, 3⟩] (by decide)
  rw [show sameB [⟨142, 0, 3⟩] [⟨142, 0, 3⟩] = true by decide] at hS3
  refine AWP.seq ?_
  refine AWP.region ?_
  refine AOps.call (o_assign _ rfl rfl) ?_
  refine AOps.nil ?_
  refine AWP.seq ?_
  refine AWP.region ?_
  refine AOps.call (o_call (example_s) Tryd.call57 rfl rfl) ?_
  refine AOps.call (o_alloc ze24 rfl rfl) ?_
  refine AOps.cons (o_store _ _ rfl rfl Tryd.sizeOf24 rfl rfl rfl rfl rfl) ?_
  refine AOps.nil ?_
  refine AWP.seq ?_
  refine AWP.region ?_
  refine AOps.call (o_loadRef _ rfl rfl Tryd.sizeOf24 Tryd.isAgg24 rfl rfl rfl) ?_
  refine AOps.call (o_call (hW) Tryd.call22 rfl rfl) ?_
  refine AOps.call (o_move _ rfl rfl) ?_
  refine AOps.call (o_extract _ rfl rfl rfl rfl) ?_
  refine AOps.call (o_extract _ rfl rfl rfl rfl) ?_
  refine AOps.call (o_assign _ rfl rfl) ?_
  refine AOps.call (o_assign _ rfl rfl) ?_
  refine AOps.nil ?_
  refine AWP.seq ?_
  refine AWP.region ?_
  refine AOps.call (o_loadRef _ rfl rfl Tryd.sizeOf24 Tryd.isAgg24 rfl rfl rfl) ?_
  refine AOps.call (o_call (hR) Tryd.call38 rfl rfl) ?_
  refine AOps.call (o_move _ rfl rfl) ?_
  refine AOps.call (o_extract _ rfl rfl rfl rfl) ?_
  refine AOps.call (o_extract _ rfl rfl rfl rfl) ?_
  refine AOps.call (o_assign _ rfl rfl) ?_
  refine AOps.call (o_assign _ rfl rfl) ?_
  refine AOps.nil ?_
  refine AWP.seq ?_
  refine AWP.region ?_
  refine AOps.call (o_loadRef _ rfl rfl Tryd.sizeOf24 Tryd.isAgg24 rfl rfl rfl) ?_
  refine AOps.call (o_build bu26 rfl rfl rfl) ?_
  refine AOps.call (o_call (hA) Tryd.call31 rfl rfl) ?_
  refine AOps.call (o_move _ rfl rfl) ?_
  refine AOps.call (o_extract _ rfl rfl rfl rfl) ?_
  refine AOps.call (o_extract _ rfl rfl rfl rfl) ?_
  refine AOps.call (o_extract _ rfl rfl rfl rfl) ?_
  refine AOps.call (o_alloc ze24 rfl rfl) ?_
  refine AOps.cons (o_store _ _ rfl rfl Tryd.sizeOf24 rfl rfl rfl rfl rfl) ?_
  refine AOps.call (o_assign _ rfl rfl) ?_
  refine AOps.call (o_assign _ rfl rfl) ?_
  refine AOps.nil ?_
  refine AWP.seq ?_
  refine AWP.region ?_
  refine AOps.call (o_loadRef _ rfl rfl Tryd.sizeOf24 Tryd.isAgg24 rfl rfl rfl) ?_
  refine AOps.call (o_build bu26 rfl rfl rfl) ?_
  refine AOps.call (o_call (hB) Tryd.call31 rfl rfl) ?_
  refine AOps.call (o_move _ rfl rfl) ?_
  refine AOps.call (o_extract _ rfl rfl rfl rfl) ?_
  refine AOps.call (o_extract _ rfl rfl rfl rfl) ?_
  refine AOps.call (o_extract _ rfl rfl rfl rfl) ?_
  refine AOps.call (o_alloc ze24 rfl rfl) ?_
  refine AOps.cons (o_store _ _ rfl rfl Tryd.sizeOf24 rfl rfl rfl rfl rfl) ?_
  refine AOps.call (o_assign _ rfl rfl) ?_
  refine AOps.call (o_assign _ rfl rfl) ?_
  refine AOps.nil ?_
  refine AWP.seq ?_
  refine AWP.region ?_
  refine AOps.call (o_loadRef _ rfl rfl Tryd.sizeOf24 Tryd.isAgg24 rfl rfl rfl) ?_
  refine AOps.call (o_call (hK) Tryd.call44 rfl rfl) ?_
  refine AOps.call (o_move _ rfl rfl) ?_
  refine AOps.call (o_extract _ rfl rfl rfl rfl) ?_
  refine AOps.call (o_extract _ rfl rfl rfl rfl) ?_
  refine AOps.call (o_extract _ rfl rfl rfl rfl) ?_
  refine AOps.call (o_assign _ rfl rfl) ?_
  refine AOps.call (o_assign _ rfl rfl) ?_
  refine AOps.call (o_assign _ rfl rfl) ?_
  refine AOps.nil ?_
  refine AWP.seq ?_
  refine AWP.region ?_
  refine AOps.call (o_build bu28 rfl rfl rfl) ?_
  refine AOps.call (o_build bu28 rfl rfl rfl) ?_
  refine AOps.call (o_lit Tryd.underlying22 Tryd.sizeOf28 Tryd.zeroValue28 rfl rfl rfl rfl rfl rfl rfl) ?_
  refine AOps.call (o_build bu24 rfl rfl rfl) ?_
  refine AOps.call (o_call (hT) Tryd.call48 rfl rfl) ?_
  refine AOps.call (o_move _ rfl rfl) ?_
  refine AOps.call (o_extract _ rfl rfl rfl rfl) ?_
  refine AOps.call (o_extract _ rfl rfl rfl rfl) ?_
  refine AOps.call (o_assign _ rfl rfl) ?_
  refine AOps.call (o_assign _ rfl rfl) ?_
  refine AOps.nil ?_
  refine AWP.seq ?_
  refine AWP.region ?_
  refine AOps.call (o_loadRef _ rfl rfl Tryd.sizeOf24 Tryd.isAgg24 rfl rfl rfl) ?_
  refine AOps.call (o_call (hJ) Tryd.call52 rfl rfl) ?_
  refine AOps.call (o_move _ rfl rfl) ?_
  refine AOps.call (o_extract _ rfl rfl rfl rfl) ?_
  refine AOps.call (o_extract _ rfl rfl rfl rfl) ?_
  refine AOps.call (o_alloc ze24 rfl rfl) ?_
  refine AOps.cons (o_store _ _ rfl rfl Tryd.sizeOf24 rfl rfl rfl rfl rfl) ?_
  refine AOps.call (o_assign _ rfl rfl) ?_
  refine AOps.nil ?_
  refine AWP.seq ?_
  refine AWP.region ?_
  refine AOps.call (o_loadRef _ rfl rfl Tryd.sizeOf24 Tryd.isAgg24 rfl rfl rfl) ?_
  refine AOps.call (o_callG (hP) hG Tryd.call58 rfl rfl) ?_
  refine AOps.call (o_move _ rfl rfl) ?_
  refine AOps.call (o_extract _ rfl rfl rfl rfl) ?_
  refine AOps.call (o_extract _ rfl rfl rfl rfl) ?_
  refine AOps.call (o_assign _ rfl rfl) ?_
  refine AOps.call (o_assign _ rfl rfl) ?_
  refine AOps.nil ?_
  refine AWP.seq ?_
  refine AWP.region ?_
  refine AOps.call (o_noPack rfl) ?_
  refine AOps.call (o_call (hZ) Tryd.call44 rfl rfl) ?_
  refine AOps.call (o_move _ rfl rfl) ?_
  refine AOps.call (o_extract _ rfl rfl rfl rfl) ?_
  refine AOps.call (o_extract _ rfl rfl rfl rfl) ?_
  refine AOps.call (o_extract _ rfl rfl rfl rfl) ?_
  refine AOps.call (o_assign _ rfl rfl) ?_
  refine AOps.call (o_assign _ rfl rfl) ?_
  refine AOps.call (o_assign _ rfl rfl) ?_
  refine AOps.nil ?_
  refine AWP.seq ?_
  refine AWP.seq ?_
  refine AWP.region ?_
  refine AOps.call (o_move _ rfl rfl) ?_
  refine AOps.call (o_bin _ _ rfl rfl (fun _ => rfl) rfl) ?_
  refine AOps.call (o_move _ rfl rfl) ?_
  refine AOps.split rfl rfl rfl (fun h52 => ?_) (fun h52 => ?_)
  · skip
    refine AOps.go rfl rfl rfl h52 (o_move _ rfl rfl) ?_
    refine AOps.go rfl rfl rfl h52 (o_bin _ _ rfl rfl (fun _ => rfl) rfl) ?_
    refine AOps.call (o_pickF _ _ _ rfl h52 rfl rfl) ?_
    refine AOps.call (o_move _ rfl rfl) ?_
    refine AOps.split rfl rfl rfl (fun h54 => ?_) (fun h54 => ?_)
    · skip
      refine AOps.go rfl rfl rfl h54 (o_move _ rfl rfl) ?_
      refine AOps.go rfl rfl rfl h54 (o_bin _ _ rfl rfl (fun _ => rfl) rfl) ?_
      refine AOps.call (o_pickF _ _ _ rfl h54 rfl rfl) ?_
      refine AOps.call (o_move _ rfl rfl) ?_
      refine AOps.split rfl rfl rfl (fun h56 => ?_) (fun h56 => ?_)
      · skip
        refine AOps.go rfl rfl rfl h56 (o_move _ rfl rfl) ?_
        refine AOps.go rfl rfl rfl h56 (o_bin _ _ rfl rfl (fun _ => rfl) rfl) ?_
        refine AOps.call (o_pickF _ _ _ rfl h56 rfl rfl) ?_
        refine AOps.call (o_move _ rfl rfl) ?_
        refine AOps.split rfl rfl rfl (fun h58 => ?_) (fun h58 => ?_)
        · skip
          refine AOps.go rfl rfl rfl h58 (o_move _ rfl rfl) ?_
          refine AOps.go rfl rfl rfl h58 (o_bin _ _ rfl rfl (fun _ => rfl) rfl) ?_
          refine AOps.call (o_pickF _ _ _ rfl h58 rfl rfl) ?_
          refine AOps.call (o_move _ rfl rfl) ?_
          refine AOps.split rfl rfl rfl (fun h60 => ?_) (fun h60 => ?_)
          · skip
            refine AOps.go rfl rfl rfl h60 (o_move _ rfl rfl) ?_
            refine AOps.go rfl rfl rfl h60 (o_bin _ _ rfl rfl (fun _ => rfl) rfl) ?_
            refine AOps.call (o_pickF _ _ _ rfl h60 rfl rfl) ?_
            refine AOps.call (o_move _ rfl rfl) ?_
            refine AOps.split rfl rfl rfl (fun h62 => ?_) (fun h62 => ?_)
            · skip
              refine AOps.go rfl rfl rfl h62 (o_move _ rfl rfl) ?_
              refine AOps.go rfl rfl rfl h62 (o_bin _ _ rfl rfl (fun _ => rfl) rfl) ?_
              refine AOps.call (o_pickF _ _ _ rfl h62 rfl rfl) ?_
              refine AOps.call (o_move _ rfl rfl) ?_
              refine AOps.split rfl rfl rfl (fun h64 => ?_) (fun h64 => ?_)
              · skip
                refine AOps.go rfl rfl rfl h64 (o_move _ rfl rfl) ?_
                refine AOps.go rfl rfl rfl h64 (o_bin _ _ rfl rfl (fun _ => rfl) rfl) ?_
                refine AOps.call (o_pickF _ _ _ rfl h64 rfl rfl) ?_
                refine AOps.call (o_move _ rfl rfl) ?_
                refine AOps.split rfl rfl rfl (fun h66 => ?_) (fun h66 => ?_)
                · skip
                  refine AOps.go rfl rfl rfl h66 (o_move _ rfl rfl) ?_
                  refine AOps.go rfl rfl rfl h66 (o_bin _ _ rfl rfl (fun _ => rfl) rfl) ?_
                  refine AOps.call (o_pickF _ _ _ rfl h66 rfl rfl) ?_
                  refine AOps.nil ?_
                  refine AWP.cond _ rfl (fun h68 => ?_) (fun h68 => ?_)
                  · skip
                    exfalso
                    exact absurd h68 (by decide)
                  · skip
                    refine AWP.skip ?_
                    refine AWP.seq ?_
                    refine AWP.region ?_
                    refine AOps.call (o_move _ rfl rfl) ?_
                    refine AOps.call (o_bin _ _ rfl rfl (fun _ => rfl) rfl) ?_
                    refine AOps.call (o_move _ rfl rfl) ?_
                    refine AOps.split rfl rfl rfl (fun h70 => ?_) (fun h70 => ?_)
                    · skip
                      refine AOps.go rfl rfl rfl h70 (o_move _ rfl rfl) ?_
                      refine AOps.go rfl rfl rfl h70 (o_bin _ _ rfl rfl (fun _ => rfl) rfl) ?_
                      refine AOps.call (o_pickT _ _ _ rfl h70 rfl rfl) ?_
                      refine AOps.call (o_move _ rfl rfl) ?_
                      refine AOps.split rfl rfl rfl (fun h72 => ?_) (fun h72 => ?_)
                      · skip
                        refine AOps.go rfl rfl rfl h72 (o_move _ rfl rfl) ?_
                        refine AOps.go rfl rfl rfl h72 (o_bin _ _ rfl rfl (fun _ => rfl) rfl) ?_
                        refine AOps.call (o_pickT _ _ _ rfl h72 rfl rfl) ?_
                        refine AOps.call (o_move _ rfl rfl) ?_
                        refine AOps.split rfl rfl rfl (fun h74 => ?_) (fun h74 => ?_)
                        · skip
                          refine AOps.go rfl rfl rfl h74 (o_move _ rfl rfl) ?_
                          refine AOps.go rfl rfl rfl h74 (o_bin _ _ rfl rfl (fun _ => rfl) rfl) ?_
                          refine AOps.call (o_pickT _ _ _ rfl h74 rfl rfl) ?_
                          refine AOps.call (o_move _ rfl rfl) ?_
                          refine AOps.split rfl rfl rfl (fun h76 => ?_) (fun h76 => ?_)
                          · skip
                            refine AOps.go rfl rfl rfl h76 (o_move _ rfl rfl) ?_
                            refine AOps.go rfl rfl rfl h76 (o_bin _ _ rfl rfl (fun _ => rfl) rfl) ?_
                            refine AOps.call (o_pickT _ _ _ rfl h76 rfl rfl) ?_
                            refine AOps.call (o_move _ rfl rfl) ?_
                            refine AOps.split rfl rfl rfl (fun h78 => ?_) (fun h78 => ?_)
                            · skip
                              refine AOps.go rfl rfl rfl h78 (o_move _ rfl rfl) ?_
                              refine AOps.go rfl rfl rfl h78 (o_bin _ _ rfl rfl (fun _ => rfl) rfl) ?_
                              refine AOps.call (o_pickT _ _ _ rfl h78 rfl rfl) ?_
                              refine AOps.call (o_move _ rfl rfl) ?_
                              refine AOps.split rfl rfl rfl (fun h80 => ?_) (fun h80 => ?_)
                              · skip
                                refine AOps.go rfl rfl rfl h80 (o_move _ rfl rfl) ?_
                                refine AOps.go rfl rfl rfl h80 (o_bin _ _ rfl rfl (fun _ => rfl) rfl) ?_
                                refine AOps.call (o_pickT _ _ _ rfl h80 rfl rfl) ?_
                                refine AOps.call (o_move _ rfl rfl) ?_
                                refine AOps.split rfl rfl rfl (fun h82 => ?_) (fun h82 => ?_)
                                · skip
                                  refine AOps.go rfl rfl rfl h82 (o_move _ rfl rfl) ?_
                                  refine AOps.go rfl rfl rfl h82 (o_bin _ _ rfl rfl (fun _ => rfl) rfl) ?_
                                  refine AOps.call (o_pickT _ _ _ rfl h82 rfl rfl) ?_
                                  refine AOps.call (o_move _ rfl rfl) ?_
                                  refine AOps.split rfl rfl rfl (fun h84 => ?_) (fun h84 => ?_)
                                  · skip
                                    refine AOps.go rfl rfl rfl h84 (o_loadRef _ rfl rfl Tryd.sizeOf24 Tryd.isAgg24 rfl rfl rfl) ?_
                                    refine AOps.go rfl rfl rfl h84 (o_build bu28 rfl rfl rfl) ?_
                                    refine AOps.go rfl rfl rfl h84 (o_build bu28 rfl rfl rfl) ?_
                                    refine AOps.go rfl rfl rfl h84 (o_lit Tryd.underlying22 Tryd.sizeOf28 Tryd.zeroValue28 rfl rfl rfl rfl rfl rfl rfl) ?_
                                    refine AOps.go rfl rfl rfl h84 (o_build bu24 rfl rfl rfl) ?_
                                    refine AOps.go rfl rfl rfl h84 (o_call (hS1) Tryd.call33 rfl rfl) ?_
                                    refine AOps.call (o_pickT _ _ _ rfl h84 rfl rfl) ?_
                                    refine AOps.call (o_move _ rfl rfl) ?_
                                    refine AOps.split rfl rfl rfl (fun h91 => ?_) (fun h91 => ?_)
                                    · skip
                                      refine AOps.go rfl rfl rfl h91 (o_loadRef _ rfl rfl Tryd.sizeOf24 Tryd.isAgg24 rfl rfl rfl) ?_
                                      refine AOps.go rfl rfl rfl h91 (o_build bu28 rfl rfl rfl) ?_
                                      refine AOps.go rfl rfl rfl h91 (o_lit Tryd.underlying22 Tryd.sizeOf28 Tryd.zeroValue28 rfl rfl rfl rfl rfl rfl rfl) ?_
                                      refine AOps.go rfl rfl rfl h91 (o_build bu24 rfl rfl rfl) ?_
                                      refine AOps.go rfl rfl rfl h91 (o_call (hS2) Tryd.call33 rfl rfl) ?_
                                      refine AOps.call (o_pickT _ _ _ rfl h91 rfl rfl) ?_
                                      refine AOps.call (o_move _ rfl rfl) ?_
                                      refine AOps.split rfl rfl rfl (fun h97 => ?_) (fun h97 => ?_)
                                      · skip
                                        refine AOps.go rfl rfl rfl h97 (o_loadRef _ rfl rfl Tryd.sizeOf24 Tryd.isAgg24 rfl rfl rfl) ?_
                                        refine AOps.go rfl rfl rfl h97 (o_build bu28 rfl rfl rfl) ?_
                                        refine AOps.go rfl rfl rfl h97 (o_lit Tryd.underlying22 Tryd.sizeOf28 Tryd.zeroValue28 rfl rfl rfl rfl rfl rfl rfl) ?_
                                        refine AOps.go rfl rfl rfl h97 (o_build bu24 rfl rfl rfl) ?_
                                        refine AOps.go rfl rfl rfl h97 (o_call (hS3) Tryd.call33 rfl rfl) ?_
                                        refine AOps.call (o_pickT _ _ _ rfl h97 rfl rfl) ?_
                                        refine AOps.call (o_assign _ rfl rfl) ?_
                                        refine AOps.nil ?_
                                        refine AWP.ret ?_
                                        exact postQ.ret1 Tryd.results18 rfl rfl
                                      · skip
                                        exfalso
                                        exact absurd h97 (by decide)
                                    · skip
                                      exfalso
                                      exact absurd h91 (by decide)
                                  · skip
                                    exfalso
                                    simp at h84
                                · skip
                                  exfalso
                                  exact absurd h82 (by decide)
                              · skip
                                exfalso
                                exact absurd h80 (by decide)
                            · skip
                              exfalso
                              exact absurd h78 (by decide)
                          · skip
                            exfalso
                            exact absurd h76 (by decide)
                        · skip
                          exfalso
                          exact absurd h74 (by decide)
                      · skip
                        exfalso
                        exact absurd h72 (by decide)
                    · skip
                      exfalso
                      exact absurd h70 (by decide)
                · skip
                  exfalso
                  exact absurd h66 (by decide)
              · skip
                exfalso
                exact absurd h64 (by decide)
            · skip
              exfalso
              exact absurd h62 (by decide)
          · skip
            exfalso
            exact absurd h60 (by decide)
        · skip
          exfalso
          exact absurd h58 (by decide)
      · skip
        exfalso
        exact absurd h56 (by decide)
    · skip
      exfalso
      exact absurd h54 (by decide)
  · skip
    exfalso
    exact absurd h52 (by decide)

end Go.Proofs.YtgagfmjpmdgfdaaDoor
