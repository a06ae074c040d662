import Derived.Test.YtgagfmjpmdgfdaaDoorQ16
import Derived.Test.YtgagfmjpmdgfdaaDoorX12
set_option linter.unusedSimpArgs false
set_option linter.unusedVariables false
namespace Go.Proofs.YtgagfmjpmdgfdaaDoor
open Go.Ab

set_option maxHeartbeats 4000000 in
set_option maxRecDepth 20000 in
theorem PackSlopes_s (p : List Lay) (steep other : Int) : FSpecG Tryd.prog TAB 13 [.agg (eK p), I steep, I other] (B true) (none) := by
  refine FSpecG.of_body tab_stable Tryd.func13 rfl (leB rfl) fun w0 M0 hG => ?_
  have hpl := lays_len p
  refine AWP.seq ?_
  refine AWP.region ?_
  refine AOps.call (o_box _ rfl rfl rfl) ?_
  refine AOps.call (o_assign _ rfl rfl) ?_
  refine AOps.nil ?_
  refine AWP.seq ?_
  refine AWP.seq ?_
  refine AWP.region ?_
  refine AOps.call (o_callG (sane_s) hG Tryd.call18 rfl rfl) ?_
  refine AOps.call (o_un _ rfl (fun _ => rfl) rfl) ?_
  refine AOps.nil ?_
  refine AWP.cond _ rfl (fun h4 => ?_) (fun h4 => ?_)
  · skip
    exfalso
    simp at h4
  · skip
    refine AWP.skip ?_
    refine AWP.seq ?_
    refine AWP.region ?_
    refine AOps.call (o_loadRef _ rfl rfl Tryd.sizeOf24 Tryd.isAgg24 rfl rfl rfl) ?_
    refine AOps.call (o_move _ rfl rfl) ?_
    refine AOps.call (o_call (Breaks_s p steep) Tryd.call46 rfl rfl) ?_
    refine AOps.call (o_move _ rfl rfl) ?_
    refine AOps.call (o_extract _ rfl rfl rfl rfl) ?_
    refine AOps.call (o_extract _ rfl rfl rfl rfl) ?_
    refine AOps.call (o_assign _ rfl rfl) ?_
    refine AOps.call (o_assign _ rfl rfl) ?_
    refine AOps.nil ?_
    refine AWP.seq ?_
    refine AWP.seq ?_
    refine AWP.region ?_
    refine AOps.call (o_move _ rfl rfl) ?_
    refine AOps.call (o_bin _ _ rfl rfl (fun _ => rfl) rfl) ?_
    refine AOps.nil ?_
    refine AWP.cond _ rfl (fun h11 => ?_) (fun h11 => ?_)
    · skip
      have hn : ¬ (brkM p steep).2 = 0 := by simpa using h11
      have hF := brk_no hn
      refine AWP.seq ?_
      refine AWP.region ?_
      refine AOps.call (o_move _ rfl rfl) ?_
      refine AOps.call (o_un _ rfl (fun _ => rfl) rfl) ?_
      refine AOps.call (o_assign _ rfl rfl) ?_
      refine AOps.nil ?_
      refine AWP.ret ?_
      first
      | exact postQ.ret1 Tryd.results13 rfl rfl
      | (refine postQ.ret1 Tryd.results13 rfl ?_; rw [hF]; simp [AV.close, AV.close.closeL, B, I]; done)
    · skip
      have hok : (brkM p steep).2 = 0 := by simpa using h11
      obtain ⟨a1, a2, a3⟩ := brk_ok hok
      have hbo := burd_ok a1
      have hge := stp_ge hbo
      have hst := brk_stp hbo a2.1 a2.2
      have hM : (brkM p steep).1 = decide (((stpN (burd p 0) 60 0 : Nat) : Int) < steep) := by rw [a3, hst]
      refine AWP.skip ?_
      refine AWP.seq ?_
      refine AWP.region ?_
      refine AOps.call (o_loadRef _ rfl rfl Tryd.sizeOf24 Tryd.isAgg24 rfl rfl rfl) ?_
      refine AOps.call (o_move _ rfl rfl) ?_
      refine AOps.call (o_call (Breaks_s p other) Tryd.call46 rfl rfl) ?_
      refine AOps.call (o_move _ rfl rfl) ?_
      refine AOps.call (o_extract _ rfl rfl rfl rfl) ?_
      refine AOps.call (o_extract _ rfl rfl rfl rfl) ?_
      refine AOps.call (o_assign _ rfl rfl) ?_
      refine AOps.call (o_assign _ rfl rfl) ?_
      refine AOps.nil ?_
      refine AWP.seq ?_
      refine AWP.seq ?_
      refine AWP.region ?_
      refine AOps.call (o_move _ rfl rfl) ?_
      refine AOps.call (o_bin _ _ rfl rfl (fun _ => rfl) rfl) ?_
      refine AOps.call (o_move _ rfl rfl) ?_
      refine AOps.split rfl rfl rfl (fun h19 => ?_) (fun h19 => ?_)
      · skip
        have h2 : (brkM p other).2 = 0 := by simpa using h19
        refine AOps.go rfl rfl rfl h19 (o_move _ rfl rfl) ?_
        refine AOps.go rfl rfl rfl h19 (o_move _ rfl rfl) ?_
        refine AOps.go rfl rfl rfl h19 (o_bin _ _ rfl rfl (fun _ => rfl) rfl) ?_
        refine AOps.go rfl rfl rfl h19 (o_move _ rfl rfl) ?_
        refine AOps.split rfl rfl rfl (fun h23 => ?_) (fun h23 => ?_)
        · skip
          have g40 := h23
          refine AOps.go rfl rfl rfl h23 (o_move _ rfl rfl) ?_
          refine AOps.go rfl rfl rfl h19 (o_pickT _ _ _ rfl h23 rfl rfl) ?_
          refine AOps.go rfl rfl rfl h19 (o_move _ rfl rfl) ?_
          refine AOps.split rfl rfl rfl (fun h24 => ?_) (fun h24 => ?_)
          · skip
            have g43 := h24
            refine AOps.go rfl rfl rfl h24 (o_move _ rfl rfl) ?_
            refine AOps.go rfl rfl rfl h24 (o_un _ rfl (fun _ => rfl) rfl) ?_
            refine AOps.go rfl rfl rfl h19 (o_pickT _ _ _ rfl h24 rfl rfl) ?_
            refine AOps.go rfl rfl rfl h19 (o_move _ rfl rfl) ?_
            refine AOps.split rfl rfl rfl (fun h26 => ?_) (fun h26 => ?_)
            · skip
              refine AOps.go rfl rfl rfl h26 (o_move _ rfl rfl) ?_
              refine AOps.go rfl rfl rfl h26 (o_move _ rfl rfl) ?_
              refine AOps.go rfl rfl rfl h26 (o_bin _ _ rfl rfl (fun _ => rfl) rfl) ?_
              refine AOps.go rfl rfl rfl h26 (o_move _ rfl rfl) ?_
              refine AOps.split rfl rfl rfl (fun h30 => ?_) (fun h30 => ?_)
              · skip
                have g51 := h30
                refine AOps.go rfl rfl rfl h30 (o_move _ rfl rfl) ?_
                refine AOps.go rfl rfl rfl h26 (o_pickT _ _ _ rfl h30 rfl rfl) ?_
                refine AOps.go rfl rfl rfl h26 (o_move _ rfl rfl) ?_
                refine AOps.split rfl rfl rfl (fun h31 => ?_) (fun h31 => ?_)
                · skip
                  have g54 := h31
                  refine AOps.go rfl rfl rfl h31 (o_move _ rfl rfl) ?_
                  refine AOps.go rfl rfl rfl h31 (o_un _ rfl (fun _ => rfl) rfl) ?_
                  refine AOps.go rfl rfl rfl h26 (o_pickT _ _ _ rfl h31 rfl rfl) ?_
                  refine AOps.go rfl rfl rfl h19 (o_pickF _ _ _ rfl h26 rfl rfl) ?_
                  refine AOps.call (o_pickT _ _ _ rfl h19 rfl rfl) ?_
                  refine AOps.nil ?_
                  refine AWP.cond _ rfl (fun h33 => ?_) (fun h33 => ?_)
                  · skip
                    exfalso
                    have u1 : (brkM p steep).1 = true := g54
                    have u2 : (brkM p other).1 = false := by simpa using h33
                    rw [a3] at u1
                    rw [(brk_ok h2).2.2, brkA_up hbo (of_decide_eq_true g51) u1] at u2
                    cases u2
                  · skip
                    refine AWP.skip ?_
                    refine AWP.seq ?_
                    refine AWP.region ?_
                    refine AOps.call (o_loadRef _ rfl rfl Tryd.sizeOf24 Tryd.isAgg24 rfl rfl rfl) ?_
                    refine AOps.call (o_call (steep_ok a1) Tryd.call48 rfl rfl) ?_
                    refine AOps.call (o_move _ rfl rfl) ?_
                    refine AOps.call (o_extract _ rfl rfl rfl rfl) ?_
                    refine AOps.call (o_extract _ rfl rfl rfl rfl) ?_
                    refine AOps.call (o_assign _ rfl rfl) ?_
                    refine AOps.call (o_assign _ rfl rfl) ?_
                    refine AOps.nil ?_
                    refine AWP.seq ?_
                    refine AWP.seq ?_
                    refine AWP.region ?_
                    refine AOps.call (o_move _ rfl rfl) ?_
                    refine AOps.call (o_bin _ _ rfl rfl (fun _ => rfl) rfl) ?_
                    refine AOps.call (o_move _ rfl rfl) ?_
                    refine AOps.split rfl rfl rfl (fun h39 => ?_) (fun h39 => ?_)
                    · skip
                      refine AOps.go rfl rfl rfl h39 (o_move _ rfl rfl) ?_
                      refine AOps.go rfl rfl rfl h39 (o_bin _ _ rfl rfl (fun _ => rfl) rfl) ?_
                      refine AOps.call (o_pickF _ _ _ rfl h39 rfl rfl) ?_
                      refine AOps.call (o_move _ rfl rfl) ?_
                      refine AOps.split rfl rfl rfl (fun h41 => ?_) (fun h41 => ?_)
                      · skip
                        refine AOps.go rfl rfl rfl h41 (o_move _ rfl rfl) ?_
                        refine AOps.go rfl rfl rfl h41 (o_bin _ _ rfl rfl (fun _ => rfl) rfl) ?_
                        refine AOps.call (o_pickF _ _ _ rfl h41 rfl rfl) ?_
                        refine AOps.call (o_move _ rfl rfl) ?_
                        refine AOps.split rfl rfl rfl (fun h43 => ?_) (fun h43 => ?_)
                        · skip
                          refine AOps.go rfl rfl rfl h43 (o_move _ rfl rfl) ?_
                          refine AOps.go rfl rfl rfl h43 (o_move _ rfl rfl) ?_
                          refine AOps.go rfl rfl rfl h43 (o_move _ rfl rfl) ?_
                          refine AOps.go rfl rfl rfl h43 (o_bin _ _ rfl rfl (fun _ => rfl) rfl) ?_
                          refine AOps.go rfl rfl rfl h43 (o_bin _ _ rfl rfl (fun _ => rfl) rfl) ?_
                          refine AOps.call (o_pickF _ _ _ rfl h43 rfl rfl) ?_
                          refine AOps.nil ?_
                          refine AWP.cond _ rfl (fun h47 => ?_) (fun h47 => ?_)
                          · skip
                            exfalso
                            rw [hM] at h47
                            simp at h47
                          · skip
                            refine AWP.skip ?_
                            refine AWP.seq ?_
                            refine AWP.region ?_
                            refine AOps.call (o_loadRef _ rfl rfl Tryd.sizeOf24 Tryd.isAgg24 rfl rfl rfl) ?_
                            refine AOps.call (o_call (Weakest_s p) Tryd.call44 rfl rfl) ?_
                            refine AOps.call (o_move _ rfl rfl) ?_
                            refine AOps.call (o_extract _ rfl rfl rfl rfl) ?_
                            refine AOps.call (o_extract _ rfl rfl rfl rfl) ?_
                            refine AOps.call (o_extract _ rfl rfl rfl rfl) ?_
                            refine AOps.call (o_assign _ rfl rfl) ?_
                            refine AOps.call (o_assign _ rfl rfl) ?_
                            refine AOps.call (o_assign _ rfl rfl) ?_
                            refine AOps.nil ?_
                            refine AWP.seq ?_
                            refine AWP.seq ?_
                            refine AWP.region ?_
                            refine AOps.call (o_move _ rfl rfl) ?_
                            refine AOps.call (o_bin _ _ rfl rfl (fun _ => rfl) rfl) ?_
                            refine AOps.nil ?_
                            refine AWP.cond _ rfl (fun h54 => ?_) (fun h54 => ?_)
                            · skip
                              have hwn : ¬ (wkM p).2.2 = 0 := by simpa using h54
                              have hz := wk_none a1 hwn
                              have hz4 := hz.2
                              have hl0 := lays_nil hz.1
                              have hF : (brkM p steep).1 = false := by rw [a3, hz.1]; rfl
                              refine AWP.seq ?_
                              refine AWP.region ?_
                              refine AOps.call (o_move _ rfl rfl) ?_
                              refine AOps.call (o_bin _ _ rfl rfl (fun _ => rfl) rfl) ?_
                              refine AOps.call (o_move _ rfl rfl) ?_
                              refine AOps.split rfl rfl rfl (fun h56 => ?_) (fun h56 => ?_)
                              · skip
                                refine AOps.go rfl rfl rfl h56 (o_fieldRef _ rfl fa24_0 rfl rfl) ?_
                                refine AOps.go rfl rfl rfl h56 (o_loadRef _ rfl rfl Tryd.sizeOf22 Tryd.isAgg22 rfl rfl rfl) ?_
                                refine AOps.go rfl rfl rfl h56 (o_len _ Tryd.underlying22 rfl rfl) ?_
                                refine AOps.go rfl rfl rfl h56 (o_bin _ _ rfl rfl (fun _ => rfl) rfl) ?_
                                refine AOps.call (o_pickT _ _ _ rfl h56 rfl rfl) ?_
                                refine AOps.call (o_move _ rfl rfl) ?_
                                refine AOps.split rfl rfl rfl (fun h61 => ?_) (fun h61 => ?_)
                                · skip
                                  refine AOps.go rfl rfl rfl h61 (o_move _ rfl rfl) ?_
                                  refine AOps.go rfl rfl rfl h61 (o_un _ rfl (fun _ => rfl) rfl) ?_
                                  refine AOps.call (o_pickT _ _ _ rfl h61 rfl rfl) ?_
                                  refine AOps.call (o_assign _ rfl rfl) ?_
                                  refine AOps.nil ?_
                                  refine AWP.ret ?_
                                  first
                                  | exact postQ.ret1 Tryd.results13 rfl rfl
                                  | (refine postQ.ret1 Tryd.results13 rfl ?_; rw [hF]; simp [AV.close, AV.close.closeL, B, I]; done)
                                · skip
                                  exfalso
                                  simp [hl0] at h61
                              · skip
                                exfalso
                                rw [hz4] at h56
                                exact absurd h56 (by decide)
                            · skip
                              have hws : (wkM p).2.2 = 0 := by simpa using h54
                              obtain ⟨k, hk, e1, e2, e3, e4⟩ := wk_some a1 hws
                              have hel : (lays p)[((wkM p).1).toNat]? = some (eL p[k]) := by rw [e1]; exact lays_at hk
                              have hlk := (packE_0.1 a1).2.1 _ (List.getElem_mem hk)
                              have h5 := mul_in e2.1 e2.2 a2.1 a2.2
                              have h6 : (wkM p).2.1 * (steep - 25) = (wkM p).2.1 * steep - (wkM p).2.1 * 25 := Int.mul_sub _ _ _
                              have hF : (brkM p steep).1 = decide ((wkM p).2.1 * (steep - 25) > 3 * strn p[k]) := by rw [a3]; exact e4 steep
                              refine AWP.skip ?_
                              refine AWP.seq ?_
                              refine AWP.seq ?_
                              refine AWP.region ?_
                              refine AOps.call (o_move _ rfl rfl) ?_
                              refine AOps.call (o_bin _ _ rfl rfl (fun _ => rfl) rfl) ?_
                              refine AOps.call (o_move _ rfl rfl) ?_
                              refine AOps.split rfl rfl rfl (fun h64 => ?_) (fun h64 => ?_)
                              · skip
                                refine AOps.go rfl rfl rfl h64 (o_move _ rfl rfl) ?_
                                refine AOps.go rfl rfl rfl h64 (o_fieldRef _ rfl fa24_0 rfl rfl) ?_
                                refine AOps.go rfl rfl rfl h64 (o_loadRef _ rfl rfl Tryd.sizeOf22 Tryd.isAgg22 rfl rfl rfl) ?_
                                refine AOps.go rfl rfl rfl h64 (o_len _ Tryd.underlying22 rfl rfl) ?_
                                refine AOps.go rfl rfl rfl h64 (o_bin _ _ rfl rfl (fun _ => rfl) rfl) ?_
                                refine AOps.call (o_pickF _ _ _ rfl h64 rfl rfl) ?_
                                refine AOps.nil ?_
                                refine AWP.cond _ rfl (fun h69 => ?_) (fun h69 => ?_)
                                · skip
                                  exfalso
                                  have hq := of_decide_eq_true h69
                                  omega
                                · skip
                                  refine AWP.skip ?_
                                  refine AWP.seq ?_
                                  refine AWP.region ?_
                                  refine AOps.call (o_move _ rfl rfl) ?_
                                  refine AOps.call (o_move _ rfl rfl) ?_
                                  refine AOps.call (o_move _ rfl rfl) ?_
                                  refine AOps.call (o_sub _ _ rfl rfl ⟨by (try dsimp only); omega, by (try dsimp only); omega⟩ rfl) ?_
                                  refine AOps.call (o_mul _ _ rfl rfl ⟨by omega, by omega⟩ rfl) ?_
                                  refine AOps.call (o_fieldRef _ rfl fa24_0 rfl rfl) ?_
                                  refine AOps.call (o_loadRef _ rfl rfl Tryd.sizeOf22 Tryd.isAgg22 rfl rfl rfl) ?_
                                  refine AOps.call (o_move _ rfl rfl) ?_
                                  refine AOps.call (o_index _ _ Tryd.underlying22 Tryd.sizeOf28 rfl rfl (by omega) hel rfl rfl) ?_
                                  refine AOps.call (o_loadRd _ rfl Tryd.sizeOf28 Tryd.isAgg28 rfl rfl rfl) ?_
                                  refine AOps.call (o_call (Strength_s p[k] hlk) Tryd.call56 rfl rfl) ?_
                                  refine AOps.call (o_mul _ _ rfl rfl ⟨by omega, by omega⟩ rfl) ?_
                                  refine AOps.call (o_bin _ _ rfl rfl (fun _ => rfl) rfl) ?_
                                  refine AOps.call (o_bin _ _ rfl rfl (fun _ => rfl) rfl) ?_
                                  refine AOps.call (o_assign _ rfl rfl) ?_
                                  refine AOps.nil ?_
                                  refine AWP.ret ?_
                                  first
                                  | exact postQ.ret1 Tryd.results13 rfl rfl
                                  | (refine postQ.ret1 Tryd.results13 rfl ?_; rw [hF]; simp [AV.close, AV.close.closeL, B, I]; done)
                              · skip
                                exfalso
                                have hq := of_decide_eq_true h64
                                omega
                        · skip
                          exfalso
                          have hq := of_decide_eq_true h43
                          omega
                      · skip
                        exfalso
                        have hq := of_decide_eq_true h41
                        omega
                    · skip
                      exfalso
                      exact absurd h39 (by decide)
                · skip
                  refine AOps.pass rfl rfl rfl h31 rfl ?_
                  refine AOps.pass rfl rfl rfl h31 rfl ?_
                  refine AOps.go rfl rfl rfl h26 (o_pickF _ _ _ rfl h31 rfl rfl) ?_
                  refine AOps.go rfl rfl rfl h19 (o_pickF _ _ _ rfl h26 rfl rfl) ?_
                  refine AOps.call (o_pickT _ _ _ rfl h19 rfl rfl) ?_
                  refine AOps.nil ?_
                  refine AWP.condF rfl ?_
                  refine AWP.skip ?_
                  refine AWP.seq ?_
                  refine AWP.region ?_
                  refine AOps.call (o_loadRef _ rfl rfl Tryd.sizeOf24 Tryd.isAgg24 rfl rfl rfl) ?_
                  refine AOps.call (o_call (steep_ok a1) Tryd.call48 rfl rfl) ?_
                  refine AOps.call (o_move _ rfl rfl) ?_
                  refine AOps.call (o_extract _ rfl rfl rfl rfl) ?_
                  refine AOps.call (o_extract _ rfl rfl rfl rfl) ?_
                  refine AOps.call (o_assign _ rfl rfl) ?_
                  refine AOps.call (o_assign _ rfl rfl) ?_
                  refine AOps.nil ?_
                  refine AWP.seq ?_
                  refine AWP.seq ?_
                  refine AWP.region ?_
                  refine AOps.call (o_move _ rfl rfl) ?_
                  refine AOps.call (o_bin _ _ rfl rfl (fun _ => rfl) rfl) ?_
                  refine AOps.call (o_move _ rfl rfl) ?_
                  refine AOps.split rfl rfl rfl (fun h86 => ?_) (fun h86 => ?_)
                  · skip
                    refine AOps.go rfl rfl rfl h86 (o_move _ rfl rfl) ?_
                    refine AOps.go rfl rfl rfl h86 (o_bin _ _ rfl rfl (fun _ => rfl) rfl) ?_
                    refine AOps.call (o_pickF _ _ _ rfl h86 rfl rfl) ?_
                    refine AOps.call (o_move _ rfl rfl) ?_
                    refine AOps.split rfl rfl rfl (fun h88 => ?_) (fun h88 => ?_)
                    · skip
                      refine AOps.go rfl rfl rfl h88 (o_move _ rfl rfl) ?_
                      refine AOps.go rfl rfl rfl h88 (o_bin _ _ rfl rfl (fun _ => rfl) rfl) ?_
                      refine AOps.call (o_pickF _ _ _ rfl h88 rfl rfl) ?_
                      refine AOps.call (o_move _ rfl rfl) ?_
                      refine AOps.split rfl rfl rfl (fun h90 => ?_) (fun h90 => ?_)
                      · skip
                        refine AOps.go rfl rfl rfl h90 (o_move _ rfl rfl) ?_
                        refine AOps.go rfl rfl rfl h90 (o_move _ rfl rfl) ?_
                        refine AOps.go rfl rfl rfl h90 (o_move _ rfl rfl) ?_
                        refine AOps.go rfl rfl rfl h90 (o_bin _ _ rfl rfl (fun _ => rfl) rfl) ?_
                        refine AOps.go rfl rfl rfl h90 (o_bin _ _ rfl rfl (fun _ => rfl) rfl) ?_
                        refine AOps.call (o_pickF _ _ _ rfl h90 rfl rfl) ?_
                        refine AOps.nil ?_
                        refine AWP.cond _ rfl (fun h94 => ?_) (fun h94 => ?_)
                        · skip
                          exfalso
                          rw [hM] at h94
                          simp at h94
                        · skip
                          refine AWP.skip ?_
                          refine AWP.seq ?_
                          refine AWP.region ?_
                          refine AOps.call (o_loadRef _ rfl rfl Tryd.sizeOf24 Tryd.isAgg24 rfl rfl rfl) ?_
                          refine AOps.call (o_call (Weakest_s p) Tryd.call44 rfl rfl) ?_
                          refine AOps.call (o_move _ rfl rfl) ?_
                          refine AOps.call (o_extract _ rfl rfl rfl rfl) ?_
                          refine AOps.call (o_extract _ rfl rfl rfl rfl) ?_
                          refine AOps.call (o_extract _ rfl rfl rfl rfl) ?_
                          refine AOps.call (o_assign _ rfl rfl) ?_
                          refine AOps.call (o_assign _ rfl rfl) ?_
                          refine AOps.call (o_assign _ rfl rfl) ?_
                          refine AOps.nil ?_
                          refine AWP.seq ?_
                          refine AWP.seq ?_
                          refine AWP.region ?_
                          refine AOps.call (o_move _ rfl rfl) ?_
                          refine AOps.call (o_bin _ _ rfl rfl (fun _ => rfl) rfl) ?_
                          refine AOps.nil ?_
                          refine AWP.cond _ rfl (fun h101 => ?_) (fun h101 => ?_)
                          · skip
                            have hwn : ¬ (wkM p).2.2 = 0 := by simpa using h101
                            have hz := wk_none a1 hwn
                            have hz4 := hz.2
                            have hl0 := lays_nil hz.1
                            have hF : (brkM p steep).1 = false := by rw [a3, hz.1]; rfl
                            refine AWP.seq ?_
                            refine AWP.region ?_
                            refine AOps.call (o_move _ rfl rfl) ?_
                            refine AOps.call (o_bin _ _ rfl rfl (fun _ => rfl) rfl) ?_
                            refine AOps.call (o_move _ rfl rfl) ?_
                            refine AOps.split rfl rfl rfl (fun h103 => ?_) (fun h103 => ?_)
                            · skip
                              refine AOps.go rfl rfl rfl h103 (o_fieldRef _ rfl fa24_0 rfl rfl) ?_
                              refine AOps.go rfl rfl rfl h103 (o_loadRef _ rfl rfl Tryd.sizeOf22 Tryd.isAgg22 rfl rfl rfl) ?_
                              refine AOps.go rfl rfl rfl h103 (o_len _ Tryd.underlying22 rfl rfl) ?_
                              refine AOps.go rfl rfl rfl h103 (o_bin _ _ rfl rfl (fun _ => rfl) rfl) ?_
                              refine AOps.call (o_pickT _ _ _ rfl h103 rfl rfl) ?_
                              refine AOps.call (o_move _ rfl rfl) ?_
                              refine AOps.split rfl rfl rfl (fun h108 => ?_) (fun h108 => ?_)
                              · skip
                                refine AOps.go rfl rfl rfl h108 (o_move _ rfl rfl) ?_
                                refine AOps.go rfl rfl rfl h108 (o_un _ rfl (fun _ => rfl) rfl) ?_
                                refine AOps.call (o_pickT _ _ _ rfl h108 rfl rfl) ?_
                                refine AOps.call (o_assign _ rfl rfl) ?_
                                refine AOps.nil ?_
                                refine AWP.ret ?_
                                first
                                | exact postQ.ret1 Tryd.results13 rfl rfl
                                | (refine postQ.ret1 Tryd.results13 rfl ?_; rw [hF]; simp [AV.close, AV.close.closeL, B, I]; done)
                              · skip
                                exfalso
                                simp [hl0] at h108
                            · skip
                              exfalso
                              rw [hz4] at h103
                              exact absurd h103 (by decide)
                          · skip
                            have hws : (wkM p).2.2 = 0 := by simpa using h101
                            obtain ⟨k, hk, e1, e2, e3, e4⟩ := wk_some a1 hws
                            have hel : (lays p)[((wkM p).1).toNat]? = some (eL p[k]) := by rw [e1]; exact lays_at hk
                            have hlk := (packE_0.1 a1).2.1 _ (List.getElem_mem hk)
                            have h5 := mul_in e2.1 e2.2 a2.1 a2.2
                            have h6 : (wkM p).2.1 * (steep - 25) = (wkM p).2.1 * steep - (wkM p).2.1 * 25 := Int.mul_sub _ _ _
                            have hF : (brkM p steep).1 = decide ((wkM p).2.1 * (steep - 25) > 3 * strn p[k]) := by rw [a3]; exact e4 steep
                            refine AWP.skip ?_
                            refine AWP.seq ?_
                            refine AWP.seq ?_
                            refine AWP.region ?_
                            refine AOps.call (o_move _ rfl rfl) ?_
                            refine AOps.call (o_bin _ _ rfl rfl (fun _ => rfl) rfl) ?_
                            refine AOps.call (o_move _ rfl rfl) ?_
                            refine AOps.split rfl rfl rfl (fun h111 => ?_) (fun h111 => ?_)
                            · skip
                              refine AOps.go rfl rfl rfl h111 (o_move _ rfl rfl) ?_
                              refine AOps.go rfl rfl rfl h111 (o_fieldRef _ rfl fa24_0 rfl rfl) ?_
                              refine AOps.go rfl rfl rfl h111 (o_loadRef _ rfl rfl Tryd.sizeOf22 Tryd.isAgg22 rfl rfl rfl) ?_
                              refine AOps.go rfl rfl rfl h111 (o_len _ Tryd.underlying22 rfl rfl) ?_
                              refine AOps.go rfl rfl rfl h111 (o_bin _ _ rfl rfl (fun _ => rfl) rfl) ?_
                              refine AOps.call (o_pickF _ _ _ rfl h111 rfl rfl) ?_
                              refine AOps.nil ?_
                              refine AWP.cond _ rfl (fun h116 => ?_) (fun h116 => ?_)
                              · skip
                                exfalso
                                have hq := of_decide_eq_true h116
                                omega
                              · skip
                                refine AWP.skip ?_
                                refine AWP.seq ?_
                                refine AWP.region ?_
                                refine AOps.call (o_move _ rfl rfl) ?_
                                refine AOps.call (o_move _ rfl rfl) ?_
                                refine AOps.call (o_move _ rfl rfl) ?_
                                refine AOps.call (o_sub _ _ rfl rfl ⟨by (try dsimp only); omega, by (try dsimp only); omega⟩ rfl) ?_
                                refine AOps.call (o_mul _ _ rfl rfl ⟨by omega, by omega⟩ rfl) ?_
                                refine AOps.call (o_fieldRef _ rfl fa24_0 rfl rfl) ?_
                                refine AOps.call (o_loadRef _ rfl rfl Tryd.sizeOf22 Tryd.isAgg22 rfl rfl rfl) ?_
                                refine AOps.call (o_move _ rfl rfl) ?_
                                refine AOps.call (o_index _ _ Tryd.underlying22 Tryd.sizeOf28 rfl rfl (by omega) hel rfl rfl) ?_
                                refine AOps.call (o_loadRd _ rfl Tryd.sizeOf28 Tryd.isAgg28 rfl rfl rfl) ?_
                                refine AOps.call (o_call (Strength_s p[k] hlk) Tryd.call56 rfl rfl) ?_
                                refine AOps.call (o_mul _ _ rfl rfl ⟨by omega, by omega⟩ rfl) ?_
                                refine AOps.call (o_bin _ _ rfl rfl (fun _ => rfl) rfl) ?_
                                refine AOps.call (o_bin _ _ rfl rfl (fun _ => rfl) rfl) ?_
                                refine AOps.call (o_assign _ rfl rfl) ?_
                                refine AOps.nil ?_
                                refine AWP.ret ?_
                                first
                                | exact postQ.ret1 Tryd.results13 rfl rfl
                                | (refine postQ.ret1 Tryd.results13 rfl ?_; rw [hF]; simp [AV.close, AV.close.closeL, B, I]; done)
                            · skip
                              exfalso
                              have hq := of_decide_eq_true h111
                              omega
                      · skip
                        exfalso
                        have hq := of_decide_eq_true h90
                        omega
                    · skip
                      exfalso
                      have hq := of_decide_eq_true h88
                      omega
                  · skip
                    exfalso
                    exact absurd h86 (by decide)
              · skip
                refine AOps.pass rfl rfl rfl h30 rfl ?_
                refine AOps.go rfl rfl rfl h26 (o_pickF _ _ _ rfl h30 rfl rfl) ?_
                refine AOps.go rfl rfl rfl h26 (o_move _ rfl rfl) ?_
                refine AOps.pass rfl rfl rfl rfl rfl ?_
                refine AOps.pass rfl rfl rfl rfl rfl ?_
                refine AOps.go rfl rfl rfl h26 (o_pickF _ _ _ rfl rfl rfl rfl) ?_
                refine AOps.go rfl rfl rfl h19 (o_pickF _ _ _ rfl h26 rfl rfl) ?_
                refine AOps.call (o_pickT _ _ _ rfl h19 rfl rfl) ?_
                refine AOps.nil ?_
                refine AWP.condF rfl ?_
                refine AWP.skip ?_
                refine AWP.seq ?_
                refine AWP.region ?_
                refine AOps.call (o_loadRef _ rfl rfl Tryd.sizeOf24 Tryd.isAgg24 rfl rfl rfl) ?_
                refine AOps.call (o_call (steep_ok a1) Tryd.call48 rfl rfl) ?_
                refine AOps.call (o_move _ rfl rfl) ?_
                refine AOps.call (o_extract _ rfl rfl rfl rfl) ?_
                refine AOps.call (o_extract _ rfl rfl rfl rfl) ?_
                refine AOps.call (o_assign _ rfl rfl) ?_
                refine AOps.call (o_assign _ rfl rfl) ?_
                refine AOps.nil ?_
                refine AWP.seq ?_
                refine AWP.seq ?_
                refine AWP.region ?_
                refine AOps.call (o_move _ rfl rfl) ?_
                refine AOps.call (o_bin _ _ rfl rfl (fun _ => rfl) rfl) ?_
                refine AOps.call (o_move _ rfl rfl) ?_
                refine AOps.split rfl rfl rfl (fun h133 => ?_) (fun h133 => ?_)
                · skip
                  refine AOps.go rfl rfl rfl h133 (o_move _ rfl rfl) ?_
                  refine AOps.go rfl rfl rfl h133 (o_bin _ _ rfl rfl (fun _ => rfl) rfl) ?_
                  refine AOps.call (o_pickF _ _ _ rfl h133 rfl rfl) ?_
                  refine AOps.call (o_move _ rfl rfl) ?_
                  refine AOps.split rfl rfl rfl (fun h135 => ?_) (fun h135 => ?_)
                  · skip
                    refine AOps.go rfl rfl rfl h135 (o_move _ rfl rfl) ?_
                    refine AOps.go rfl rfl rfl h135 (o_bin _ _ rfl rfl (fun _ => rfl) rfl) ?_
                    refine AOps.call (o_pickF _ _ _ rfl h135 rfl rfl) ?_
                    refine AOps.call (o_move _ rfl rfl) ?_
                    refine AOps.split rfl rfl rfl (fun h137 => ?_) (fun h137 => ?_)
                    · skip
                      refine AOps.go rfl rfl rfl h137 (o_move _ rfl rfl) ?_
                      refine AOps.go rfl rfl rfl h137 (o_move _ rfl rfl) ?_
                      refine AOps.go rfl rfl rfl h137 (o_move _ rfl rfl) ?_
                      refine AOps.go rfl rfl rfl h137 (o_bin _ _ rfl rfl (fun _ => rfl) rfl) ?_
                      refine AOps.go rfl rfl rfl h137 (o_bin _ _ rfl rfl (fun _ => rfl) rfl) ?_
                      refine AOps.call (o_pickF _ _ _ rfl h137 rfl rfl) ?_
                      refine AOps.nil ?_
                      refine AWP.cond _ rfl (fun h141 => ?_) (fun h141 => ?_)
                      · skip
                        exfalso
                        rw [hM] at h141
                        simp at h141
                      · skip
                        refine AWP.skip ?_
                        refine AWP.seq ?_
                        refine AWP.region ?_
                        refine AOps.call (o_loadRef _ rfl rfl Tryd.sizeOf24 Tryd.isAgg24 rfl rfl rfl) ?_
                        refine AOps.call (o_call (Weakest_s p) Tryd.call44 rfl rfl) ?_
                        refine AOps.call (o_move _ rfl rfl) ?_
                        refine AOps.call (o_extract _ rfl rfl rfl rfl) ?_
                        refine AOps.call (o_extract _ rfl rfl rfl rfl) ?_
                        refine AOps.call (o_extract _ rfl rfl rfl rfl) ?_
                        refine AOps.call (o_assign _ rfl rfl) ?_
                        refine AOps.call (o_assign _ rfl rfl) ?_
                        refine AOps.call (o_assign _ rfl rfl) ?_
                        refine AOps.nil ?_
                        refine AWP.seq ?_
                        refine AWP.seq ?_
                        refine AWP.region ?_
                        refine AOps.call (o_move _ rfl rfl) ?_
                        refine AOps.call (o_bin _ _ rfl rfl (fun _ => rfl) rfl) ?_
                        refine AOps.nil ?_
                        refine AWP.cond _ rfl (fun h148 => ?_) (fun h148 => ?_)
                        · skip
                          have hwn : ¬ (wkM p).2.2 = 0 := by simpa using h148
                          have hz := wk_none a1 hwn
                          have hz4 := hz.2
                          have hl0 := lays_nil hz.1
                          have hF : (brkM p steep).1 = false := by rw [a3, hz.1]; rfl
                          refine AWP.seq ?_
                          refine AWP.region ?_
                          refine AOps.call (o_move _ rfl rfl) ?_
                          refine AOps.call (o_bin _ _ rfl rfl (fun _ => rfl) rfl) ?_
                          refine AOps.call (o_move _ rfl rfl) ?_
                          refine AOps.split rfl rfl rfl (fun h150 => ?_) (fun h150 => ?_)
                          · skip
                            refine AOps.go rfl rfl rfl h150 (o_fieldRef _ rfl fa24_0 rfl rfl) ?_
                            refine AOps.go rfl rfl rfl h150 (o_loadRef _ rfl rfl Tryd.sizeOf22 Tryd.isAgg22 rfl rfl rfl) ?_
                            refine AOps.go rfl rfl rfl h150 (o_len _ Tryd.underlying22 rfl rfl) ?_
                            refine AOps.go rfl rfl rfl h150 (o_bin _ _ rfl rfl (fun _ => rfl) rfl) ?_
                            refine AOps.call (o_pickT _ _ _ rfl h150 rfl rfl) ?_
                            refine AOps.call (o_move _ rfl rfl) ?_
                            refine AOps.split rfl rfl rfl (fun h155 => ?_) (fun h155 => ?_)
                            · skip
                              refine AOps.go rfl rfl rfl h155 (o_move _ rfl rfl) ?_
                              refine AOps.go rfl rfl rfl h155 (o_un _ rfl (fun _ => rfl) rfl) ?_
                              refine AOps.call (o_pickT _ _ _ rfl h155 rfl rfl) ?_
                              refine AOps.call (o_assign _ rfl rfl) ?_
                              refine AOps.nil ?_
                              refine AWP.ret ?_
                              first
                              | exact postQ.ret1 Tryd.results13 rfl rfl
                              | (refine postQ.ret1 Tryd.results13 rfl ?_; rw [hF]; simp [AV.close, AV.close.closeL, B, I]; done)
                            · skip
                              exfalso
                              simp [hl0] at h155
                          · skip
                            exfalso
                            rw [hz4] at h150
                            exact absurd h150 (by decide)
                        · skip
                          have hws : (wkM p).2.2 = 0 := by simpa using h148
                          obtain ⟨k, hk, e1, e2, e3, e4⟩ := wk_some a1 hws
                          have hel : (lays p)[((wkM p).1).toNat]? = some (eL p[k]) := by rw [e1]; exact lays_at hk
                          have hlk := (packE_0.1 a1).2.1 _ (List.getElem_mem hk)
                          have h5 := mul_in e2.1 e2.2 a2.1 a2.2
                          have h6 : (wkM p).2.1 * (steep - 25) = (wkM p).2.1 * steep - (wkM p).2.1 * 25 := Int.mul_sub _ _ _
                          have hF : (brkM p steep).1 = decide ((wkM p).2.1 * (steep - 25) > 3 * strn p[k]) := by rw [a3]; exact e4 steep
                          refine AWP.skip ?_
                          refine AWP.seq ?_
                          refine AWP.seq ?_
                          refine AWP.region ?_
                          refine AOps.call (o_move _ rfl rfl) ?_
                          refine AOps.call (o_bin _ _ rfl rfl (fun _ => rfl) rfl) ?_
                          refine AOps.call (o_move _ rfl rfl) ?_
                          refine AOps.split rfl rfl rfl (fun h158 => ?_) (fun h158 => ?_)
                          · skip
                            refine AOps.go rfl rfl rfl h158 (o_move _ rfl rfl) ?_
                            refine AOps.go rfl rfl rfl h158 (o_fieldRef _ rfl fa24_0 rfl rfl) ?_
                            refine AOps.go rfl rfl rfl h158 (o_loadRef _ rfl rfl Tryd.sizeOf22 Tryd.isAgg22 rfl rfl rfl) ?_
                            refine AOps.go rfl rfl rfl h158 (o_len _ Tryd.underlying22 rfl rfl) ?_
                            refine AOps.go rfl rfl rfl h158 (o_bin _ _ rfl rfl (fun _ => rfl) rfl) ?_
                            refine AOps.call (o_pickF _ _ _ rfl h158 rfl rfl) ?_
                            refine AOps.nil ?_
                            refine AWP.cond _ rfl (fun h163 => ?_) (fun h163 => ?_)
                            · skip
                              exfalso
                              have hq := of_decide_eq_true h163
                              omega
                            · skip
                              refine AWP.skip ?_
                              refine AWP.seq ?_
                              refine AWP.region ?_
                              refine AOps.call (o_move _ rfl rfl) ?_
                              refine AOps.call (o_move _ rfl rfl) ?_
                              refine AOps.call (o_move _ rfl rfl) ?_
                              refine AOps.call (o_sub _ _ rfl rfl ⟨by (try dsimp only); omega, by (try dsimp only); omega⟩ rfl) ?_
                              refine AOps.call (o_mul _ _ rfl rfl ⟨by omega, by omega⟩ rfl) ?_
                              refine AOps.call (o_fieldRef _ rfl fa24_0 rfl rfl) ?_
                              refine AOps.call (o_loadRef _ rfl rfl Tryd.sizeOf22 Tryd.isAgg22 rfl rfl rfl) ?_
                              refine AOps.call (o_move _ rfl rfl) ?_
                              refine AOps.call (o_index _ _ Tryd.underlying22 Tryd.sizeOf28 rfl rfl (by omega) hel rfl rfl) ?_
                              refine AOps.call (o_loadRd _ rfl Tryd.sizeOf28 Tryd.isAgg28 rfl rfl rfl) ?_
                              refine AOps.call (o_call (Strength_s p[k] hlk) Tryd.call56 rfl rfl) ?_
                              refine AOps.call (o_mul _ _ rfl rfl ⟨by omega, by omega⟩ rfl) ?_
                              refine AOps.call (o_bin _ _ rfl rfl (fun _ => rfl) rfl) ?_
                              refine AOps.call (o_bin _ _ rfl rfl (fun _ => rfl) rfl) ?_
                              refine AOps.call (o_assign _ rfl rfl) ?_
                              refine AOps.nil ?_
                              refine AWP.ret ?_
                              first
                              | exact postQ.ret1 Tryd.results13 rfl rfl
                              | (refine postQ.ret1 Tryd.results13 rfl ?_; rw [hF]; simp [AV.close, AV.close.closeL, B, I]; done)
                          · skip
                            exfalso
                            have hq := of_decide_eq_true h158
                            omega
                    · skip
                      exfalso
                      have hq := of_decide_eq_true h137
                      omega
                  · skip
                    exfalso
                    have hq := of_decide_eq_true h135
                    omega
                · skip
                  exfalso
                  exact absurd h133 (by decide)
            · skip
              exfalso
              have u1 : (brkM p steep).1 = false := by simpa using h26
              have u2 : (brkM p other).1 = true := g43
              rw [(brk_ok h2).2.2] at u2
              rw [a3, brkA_up hbo (of_decide_eq_true g40) u2] at u1
              cases u1
          · skip
            refine AOps.pass rfl rfl rfl h24 rfl ?_
            refine AOps.pass rfl rfl rfl h24 rfl ?_
            refine AOps.go rfl rfl rfl h19 (o_pickF _ _ _ rfl h24 rfl rfl) ?_
            refine AOps.go rfl rfl rfl h19 (o_move _ rfl rfl) ?_
            refine AOps.go rfl rfl rfl rfl (o_move _ rfl rfl) ?_
            refine AOps.go rfl rfl rfl rfl (o_move _ rfl rfl) ?_
            refine AOps.go rfl rfl rfl rfl (o_bin _ _ rfl rfl (fun _ => rfl) rfl) ?_
            refine AOps.go rfl rfl rfl rfl (o_move _ rfl rfl) ?_
            refine AOps.split rfl rfl rfl (fun h178 => ?_) (fun h178 => ?_)
            · skip
              have g51 := h178
              refine AOps.go rfl rfl rfl h178 (o_move _ rfl rfl) ?_
              refine AOps.go rfl rfl rfl rfl (o_pickT _ _ _ rfl h178 rfl rfl) ?_
              refine AOps.go rfl rfl rfl rfl (o_move _ rfl rfl) ?_
              refine AOps.split rfl rfl rfl (fun h179 => ?_) (fun h179 => ?_)
              · skip
                have g54 := h179
                refine AOps.go rfl rfl rfl h179 (o_move _ rfl rfl) ?_
                refine AOps.go rfl rfl rfl h179 (o_un _ rfl (fun _ => rfl) rfl) ?_
                refine AOps.go rfl rfl rfl rfl (o_pickT _ _ _ rfl h179 rfl rfl) ?_
                refine AOps.go rfl rfl rfl h19 (o_pickF _ _ _ rfl rfl rfl rfl) ?_
                refine AOps.call (o_pickT _ _ _ rfl h19 rfl rfl) ?_
                refine AOps.nil ?_
                refine AWP.cond _ rfl (fun h181 => ?_) (fun h181 => ?_)
                · skip
                  exfalso
                  have u1 : (brkM p steep).1 = true := g54
                  have u2 : (brkM p other).1 = false := by simpa using h181
                  rw [a3] at u1
                  rw [(brk_ok h2).2.2, brkA_up hbo (of_decide_eq_true g51) u1] at u2
                  cases u2
                · skip
                  refine AWP.skip ?_
                  refine AWP.seq ?_
                  refine AWP.region ?_
                  refine AOps.call (o_loadRef _ rfl rfl Tryd.sizeOf24 Tryd.isAgg24 rfl rfl rfl) ?_
                  refine AOps.call (o_call (steep_ok a1) Tryd.call48 rfl rfl) ?_
                  refine AOps.call (o_move _ rfl rfl) ?_
                  refine AOps.call (o_extract _ rfl rfl rfl rfl) ?_
                  refine AOps.call (o_extract _ rfl rfl rfl rfl) ?_
                  refine AOps.call (o_assign _ rfl rfl) ?_
                  refine AOps.call (o_assign _ rfl rfl) ?_
                  refine AOps.nil ?_
                  refine AWP.seq ?_
                  refine AWP.seq ?_
                  refine AWP.region ?_
                  refine AOps.call (o_move _ rfl rfl) ?_
                  refine AOps.call (o_bin _ _ rfl rfl (fun _ => rfl) rfl) ?_
                  refine AOps.call (o_move _ rfl rfl) ?_
                  refine AOps.split rfl rfl rfl (fun h187 => ?_) (fun h187 => ?_)
                  · skip
                    refine AOps.go rfl rfl rfl h187 (o_move _ rfl rfl) ?_
                    refine AOps.go rfl rfl rfl h187 (o_bin _ _ rfl rfl (fun _ => rfl) rfl) ?_
                    refine AOps.call (o_pickF _ _ _ rfl h187 rfl rfl) ?_
                    refine AOps.call (o_move _ rfl rfl) ?_
                    refine AOps.split rfl rfl rfl (fun h189 => ?_) (fun h189 => ?_)
                    · skip
                      refine AOps.go rfl rfl rfl h189 (o_move _ rfl rfl) ?_
                      refine AOps.go rfl rfl rfl h189 (o_bin _ _ rfl rfl (fun _ => rfl) rfl) ?_
                      refine AOps.call (o_pickF _ _ _ rfl h189 rfl rfl) ?_
                      refine AOps.call (o_move _ rfl rfl) ?_
                      refine AOps.split rfl rfl rfl (fun h191 => ?_) (fun h191 => ?_)
                      · skip
                        refine AOps.go rfl rfl rfl h191 (o_move _ rfl rfl) ?_
                        refine AOps.go rfl rfl rfl h191 (o_move _ rfl rfl) ?_
                        refine AOps.go rfl rfl rfl h191 (o_move _ rfl rfl) ?_
                        refine AOps.go rfl rfl rfl h191 (o_bin _ _ rfl rfl (fun _ => rfl) rfl) ?_
                        refine AOps.go rfl rfl rfl h191 (o_bin _ _ rfl rfl (fun _ => rfl) rfl) ?_
                        refine AOps.call (o_pickF _ _ _ rfl h191 rfl rfl) ?_
                        refine AOps.nil ?_
                        refine AWP.cond _ rfl (fun h195 => ?_) (fun h195 => ?_)
                        · skip
                          exfalso
                          rw [hM] at h195
                          simp at h195
                        · skip
                          refine AWP.skip ?_
                          refine AWP.seq ?_
                          refine AWP.region ?_
                          refine AOps.call (o_loadRef _ rfl rfl Tryd.sizeOf24 Tryd.isAgg24 rfl rfl rfl) ?_
                          refine AOps.call (o_call (Weakest_s p) Tryd.call44 rfl rfl) ?_
                          refine AOps.call (o_move _ rfl rfl) ?_
                          refine AOps.call (o_extract _ rfl rfl rfl rfl) ?_
                          refine AOps.call (o_extract _ rfl rfl rfl rfl) ?_
                          refine AOps.call (o_extract _ rfl rfl rfl rfl) ?_
                          refine AOps.call (o_assign _ rfl rfl) ?_
                          refine AOps.call (o_assign _ rfl rfl) ?_
                          refine AOps.call (o_assign _ rfl rfl) ?_
                          refine AOps.nil ?_
                          refine AWP.seq ?_
                          refine AWP.seq ?_
                          refine AWP.region ?_
                          refine AOps.call (o_move _ rfl rfl) ?_
                          refine AOps.call (o_bin _ _ rfl rfl (fun _ => rfl) rfl) ?_
                          refine AOps.nil ?_
                          refine AWP.cond _ rfl (fun h202 => ?_) (fun h202 => ?_)
                          · skip
                            have hwn : ¬ (wkM p).2.2 = 0 := by simpa using h202
                            have hz := wk_none a1 hwn
                            have hz4 := hz.2
                            have hl0 := lays_nil hz.1
                            have hF : (brkM p steep).1 = false := by rw [a3, hz.1]; rfl
                            refine AWP.seq ?_
                            refine AWP.region ?_
                            refine AOps.call (o_move _ rfl rfl) ?_
                            refine AOps.call (o_bin _ _ rfl rfl (fun _ => rfl) rfl) ?_
                            refine AOps.call (o_move _ rfl rfl) ?_
                            refine AOps.split rfl rfl rfl (fun h204 => ?_) (fun h204 => ?_)
                            · skip
                              refine AOps.go rfl rfl rfl h204 (o_fieldRef _ rfl fa24_0 rfl rfl) ?_
                              refine AOps.go rfl rfl rfl h204 (o_loadRef _ rfl rfl Tryd.sizeOf22 Tryd.isAgg22 rfl rfl rfl) ?_
                              refine AOps.go rfl rfl rfl h204 (o_len _ Tryd.underlying22 rfl rfl) ?_
                              refine AOps.go rfl rfl rfl h204 (o_bin _ _ rfl rfl (fun _ => rfl) rfl) ?_
                              refine AOps.call (o_pickT _ _ _ rfl h204 rfl rfl) ?_
                              refine AOps.call (o_move _ rfl rfl) ?_
                              refine AOps.split rfl rfl rfl (fun h209 => ?_) (fun h209 => ?_)
                              · skip
                                refine AOps.go rfl rfl rfl h209 (o_move _ rfl rfl) ?_
                                refine AOps.go rfl rfl rfl h209 (o_un _ rfl (fun _ => rfl) rfl) ?_
                                refine AOps.call (o_pickT _ _ _ rfl h209 rfl rfl) ?_
                                refine AOps.call (o_assign _ rfl rfl) ?_
                                refine AOps.nil ?_
                                refine AWP.ret ?_
                                first
                                | exact postQ.ret1 Tryd.results13 rfl rfl
                                | (refine postQ.ret1 Tryd.results13 rfl ?_; rw [hF]; simp [AV.close, AV.close.closeL, B, I]; done)
                              · skip
                                exfalso
                                simp [hl0] at h209
                            · skip
                              exfalso
                              rw [hz4] at h204
                              exact absurd h204 (by decide)
                          · skip
                            have hws : (wkM p).2.2 = 0 := by simpa using h202
                            obtain ⟨k, hk, e1, e2, e3, e4⟩ := wk_some a1 hws
                            have hel : (lays p)[((wkM p).1).toNat]? = some (eL p[k]) := by rw [e1]; exact lays_at hk
                            have hlk := (packE_0.1 a1).2.1 _ (List.getElem_mem hk)
                            have h5 := mul_in e2.1 e2.2 a2.1 a2.2
                            have h6 : (wkM p).2.1 * (steep - 25) = (wkM p).2.1 * steep - (wkM p).2.1 * 25 := Int.mul_sub _ _ _
                            have hF : (brkM p steep).1 = decide ((wkM p).2.1 * (steep - 25) > 3 * strn p[k]) := by rw [a3]; exact e4 steep
                            refine AWP.skip ?_
                            refine AWP.seq ?_
                            refine AWP.seq ?_
                            refine AWP.region ?_
                            refine AOps.call (o_move _ rfl rfl) ?_
                            refine AOps.call (o_bin _ _ rfl rfl (fun _ => rfl) rfl) ?_
                            refine AOps.call (o_move _ rfl rfl) ?_
                            refine AOps.split rfl rfl rfl (fun h212 => ?_) (fun h212 => ?_)
                            · skip
                              refine AOps.go rfl rfl rfl h212 (o_move _ rfl rfl) ?_
                              refine AOps.go rfl rfl rfl h212 (o_fieldRef _ rfl fa24_0 rfl rfl) ?_
                              refine AOps.go rfl rfl rfl h212 (o_loadRef _ rfl rfl Tryd.sizeOf22 Tryd.isAgg22 rfl rfl rfl) ?_
                              refine AOps.go rfl rfl rfl h212 (o_len _ Tryd.underlying22 rfl rfl) ?_
                              refine AOps.go rfl rfl rfl h212 (o_bin _ _ rfl rfl (fun _ => rfl) rfl) ?_
                              refine AOps.call (o_pickF _ _ _ rfl h212 rfl rfl) ?_
                              refine AOps.nil ?_
                              refine AWP.cond _ rfl (fun h217 => ?_) (fun h217 => ?_)
                              · skip
                                exfalso
                                have hq := of_decide_eq_true h217
                                omega
                              · skip
                                refine AWP.skip ?_
                                refine AWP.seq ?_
                                refine AWP.region ?_
                                refine AOps.call (o_move _ rfl rfl) ?_
                                refine AOps.call (o_move _ rfl rfl) ?_
                                refine AOps.call (o_move _ rfl rfl) ?_
                                refine AOps.call (o_sub _ _ rfl rfl ⟨by (try dsimp only); omega, by (try dsimp only); omega⟩ rfl) ?_
                                refine AOps.call (o_mul _ _ rfl rfl ⟨by omega, by omega⟩ rfl) ?_
                                refine AOps.call (o_fieldRef _ rfl fa24_0 rfl rfl) ?_
                                refine AOps.call (o_loadRef _ rfl rfl Tryd.sizeOf22 Tryd.isAgg22 rfl rfl rfl) ?_
                                refine AOps.call (o_move _ rfl rfl) ?_
                                refine AOps.call (o_index _ _ Tryd.underlying22 Tryd.sizeOf28 rfl rfl (by omega) hel rfl rfl) ?_
                                refine AOps.call (o_loadRd _ rfl Tryd.sizeOf28 Tryd.isAgg28 rfl rfl rfl) ?_
                                refine AOps.call (o_call (Strength_s p[k] hlk) Tryd.call56 rfl rfl) ?_
                                refine AOps.call (o_mul _ _ rfl rfl ⟨by omega, by omega⟩ rfl) ?_
                                refine AOps.call (o_bin _ _ rfl rfl (fun _ => rfl) rfl) ?_
                                refine AOps.call (o_bin _ _ rfl rfl (fun _ => rfl) rfl) ?_
                                refine AOps.call (o_assign _ rfl rfl) ?_
                                refine AOps.nil ?_
                                refine AWP.ret ?_
                                first
                                | exact postQ.ret1 Tryd.results13 rfl rfl
                                | (refine postQ.ret1 Tryd.results13 rfl ?_; rw [hF]; simp [AV.close, AV.close.closeL, B, I]; done)
                            · skip
                              exfalso
                              have hq := of_decide_eq_true h212
                              omega
                      · skip
                        exfalso
                        have hq := of_decide_eq_true h191
                        omega
                    · skip
                      exfalso
                      have hq := of_decide_eq_true h189
                      omega
                  · skip
                    exfalso
                    exact absurd h187 (by decide)
              · skip
                refine AOps.pass rfl rfl rfl h179 rfl ?_
                refine AOps.pass rfl rfl rfl h179 rfl ?_
                refine AOps.go rfl rfl rfl rfl (o_pickF _ _ _ rfl h179 rfl rfl) ?_
                refine AOps.go rfl rfl rfl h19 (o_pickF _ _ _ rfl rfl rfl rfl) ?_
                refine AOps.call (o_pickT _ _ _ rfl h19 rfl rfl) ?_
                refine AOps.nil ?_
                refine AWP.condF rfl ?_
                refine AWP.skip ?_
                refine AWP.seq ?_
                refine AWP.region ?_
                refine AOps.call (o_loadRef _ rfl rfl Tryd.sizeOf24 Tryd.isAgg24 rfl rfl rfl) ?_
                refine AOps.call (o_call (steep_ok a1) Tryd.call48 rfl rfl) ?_
                refine AOps.call (o_move _ rfl rfl) ?_
                refine AOps.call (o_extract _ rfl rfl rfl rfl) ?_
                refine AOps.call (o_extract _ rfl rfl rfl rfl) ?_
                refine AOps.call (o_assign _ rfl rfl) ?_
                refine AOps.call (o_assign _ rfl rfl) ?_
                refine AOps.nil ?_
                refine AWP.seq ?_
                refine AWP.seq ?_
                refine AWP.region ?_
                refine AOps.call (o_move _ rfl rfl) ?_
                refine AOps.call (o_bin _ _ rfl rfl (fun _ => rfl) rfl) ?_
                refine AOps.call (o_move _ rfl rfl) ?_
                refine AOps.split rfl rfl rfl (fun h234 => ?_) (fun h234 => ?_)
                · skip
                  refine AOps.go rfl rfl rfl h234 (o_move _ rfl rfl) ?_
                  refine AOps.go rfl rfl rfl h234 (o_bin _ _ rfl rfl (fun _ => rfl) rfl) ?_
                  refine AOps.call (o_pickF _ _ _ rfl h234 rfl rfl) ?_
                  refine AOps.call (o_move _ rfl rfl) ?_
                  refine AOps.split rfl rfl rfl (fun h236 => ?_) (fun h236 => ?_)
                  · skip
                    refine AOps.go rfl rfl rfl h236 (o_move _ rfl rfl) ?_
                    refine AOps.go rfl rfl rfl h236 (o_bin _ _ rfl rfl (fun _ => rfl) rfl) ?_
                    refine AOps.call (o_pickF _ _ _ rfl h236 rfl rfl) ?_
                    refine AOps.call (o_move _ rfl rfl) ?_
                    refine AOps.split rfl rfl rfl (fun h238 => ?_) (fun h238 => ?_)
                    · skip
                      refine AOps.go rfl rfl rfl h238 (o_move _ rfl rfl) ?_
                      refine AOps.go rfl rfl rfl h238 (o_move _ rfl rfl) ?_
                      refine AOps.go rfl rfl rfl h238 (o_move _ rfl rfl) ?_
                      refine AOps.go rfl rfl rfl h238 (o_bin _ _ rfl rfl (fun _ => rfl) rfl) ?_
                      refine AOps.go rfl rfl rfl h238 (o_bin _ _ rfl rfl (fun _ => rfl) rfl) ?_
                      refine AOps.call (o_pickF _ _ _ rfl h238 rfl rfl) ?_
                      refine AOps.nil ?_
                      refine AWP.cond _ rfl (fun h242 => ?_) (fun h242 => ?_)
                      · skip
                        exfalso
                        rw [hM] at h242
                        simp at h242
                      · skip
                        refine AWP.skip ?_
                        refine AWP.seq ?_
                        refine AWP.region ?_
                        refine AOps.call (o_loadRef _ rfl rfl Tryd.sizeOf24 Tryd.isAgg24 rfl rfl rfl) ?_
                        refine AOps.call (o_call (Weakest_s p) Tryd.call44 rfl rfl) ?_
                        refine AOps.call (o_move _ rfl rfl) ?_
                        refine AOps.call (o_extract _ rfl rfl rfl rfl) ?_
                        refine AOps.call (o_extract _ rfl rfl rfl rfl) ?_
                        refine AOps.call (o_extract _ rfl rfl rfl rfl) ?_
                        refine AOps.call (o_assign _ rfl rfl) ?_
                        refine AOps.call (o_assign _ rfl rfl) ?_
                        refine AOps.call (o_assign _ rfl rfl) ?_
                        refine AOps.nil ?_
                        refine AWP.seq ?_
                        refine AWP.seq ?_
                        refine AWP.region ?_
                        refine AOps.call (o_move _ rfl rfl) ?_
                        refine AOps.call (o_bin _ _ rfl rfl (fun _ => rfl) rfl) ?_
                        refine AOps.nil ?_
                        refine AWP.cond _ rfl (fun h249 => ?_) (fun h249 => ?_)
                        · skip
                          have hwn : ¬ (wkM p).2.2 = 0 := by simpa using h249
                          have hz := wk_none a1 hwn
                          have hz4 := hz.2
                          have hl0 := lays_nil hz.1
                          have hF : (brkM p steep).1 = false := by rw [a3, hz.1]; rfl
                          refine AWP.seq ?_
                          refine AWP.region ?_
                          refine AOps.call (o_move _ rfl rfl) ?_
                          refine AOps.call (o_bin _ _ rfl rfl (fun _ => rfl) rfl) ?_
                          refine AOps.call (o_move _ rfl rfl) ?_
                          refine AOps.split rfl rfl rfl (fun h251 => ?_) (fun h251 => ?_)
                          · skip
                            refine AOps.go rfl rfl rfl h251 (o_fieldRef _ rfl fa24_0 rfl rfl) ?_
                            refine AOps.go rfl rfl rfl h251 (o_loadRef _ rfl rfl Tryd.sizeOf22 Tryd.isAgg22 rfl rfl rfl) ?_
                            refine AOps.go rfl rfl rfl h251 (o_len _ Tryd.underlying22 rfl rfl) ?_
                            refine AOps.go rfl rfl rfl h251 (o_bin _ _ rfl rfl (fun _ => rfl) rfl) ?_
                            refine AOps.call (o_pickT _ _ _ rfl h251 rfl rfl) ?_
                            refine AOps.call (o_move _ rfl rfl) ?_
                            refine AOps.split rfl rfl rfl (fun h256 => ?_) (fun h256 => ?_)
                            · skip
                              refine AOps.go rfl rfl rfl h256 (o_move _ rfl rfl) ?_
                              refine AOps.go rfl rfl rfl h256 (o_un _ rfl (fun _ => rfl) rfl) ?_
                              refine AOps.call (o_pickT _ _ _ rfl h256 rfl rfl) ?_
                              refine AOps.call (o_assign _ rfl rfl) ?_
                              refine AOps.nil ?_
                              refine AWP.ret ?_
                              first
                              | exact postQ.ret1 Tryd.results13 rfl rfl
                              | (refine postQ.ret1 Tryd.results13 rfl ?_; rw [hF]; simp [AV.close, AV.close.closeL, B, I]; done)
                            · skip
                              exfalso
                              simp [hl0] at h256
                          · skip
                            exfalso
                            rw [hz4] at h251
                            exact absurd h251 (by decide)
                        · skip
                          have hws : (wkM p).2.2 = 0 := by simpa using h249
                          obtain ⟨k, hk, e1, e2, e3, e4⟩ := wk_some a1 hws
                          have hel : (lays p)[((wkM p).1).toNat]? = some (eL p[k]) := by rw [e1]; exact lays_at hk
                          have hlk := (packE_0.1 a1).2.1 _ (List.getElem_mem hk)
                          have h5 := mul_in e2.1 e2.2 a2.1 a2.2
                          have h6 : (wkM p).2.1 * (steep - 25) = (wkM p).2.1 * steep - (wkM p).2.1 * 25 := Int.mul_sub _ _ _
                          have hF : (brkM p steep).1 = decide ((wkM p).2.1 * (steep - 25) > 3 * strn p[k]) := by rw [a3]; exact e4 steep
                          refine AWP.skip ?_
                          refine AWP.seq ?_
                          refine AWP.seq ?_
                          refine AWP.region ?_
                          refine AOps.call (o_move _ rfl rfl) ?_
                          refine AOps.call (o_bin _ _ rfl rfl (fun _ => rfl) rfl) ?_
                          refine AOps.call (o_move _ rfl rfl) ?_
                          refine AOps.split rfl rfl rfl (fun h259 => ?_) (fun h259 => ?_)
                          · skip
                            refine AOps.go rfl rfl rfl h259 (o_move _ rfl rfl) ?_
                            refine AOps.go rfl rfl rfl h259 (o_fieldRef _ rfl fa24_0 rfl rfl) ?_
                            refine AOps.go rfl rfl rfl h259 (o_loadRef _ rfl rfl Tryd.sizeOf22 Tryd.isAgg22 rfl rfl rfl) ?_
                            refine AOps.go rfl rfl rfl h259 (o_len _ Tryd.underlying22 rfl rfl) ?_
                            refine AOps.go rfl rfl rfl h259 (o_bin _ _ rfl rfl (fun _ => rfl) rfl) ?_
                            refine AOps.call (o_pickF _ _ _ rfl h259 rfl rfl) ?_
                            refine AOps.nil ?_
                            refine AWP.cond _ rfl (fun h264 => ?_) (fun h264 => ?_)
                            · skip
                              exfalso
                              have hq := of_decide_eq_true h264
                              omega
                            · skip
                              refine AWP.skip ?_
                              refine AWP.seq ?_
                              refine AWP.region ?_
                              refine AOps.call (o_move _ rfl rfl) ?_
                              refine AOps.call (o_move _ rfl rfl) ?_
                              refine AOps.call (o_move _ rfl rfl) ?_
                              refine AOps.call (o_sub _ _ rfl rfl ⟨by (try dsimp only); omega, by (try dsimp only); omega⟩ rfl) ?_
                              refine AOps.call (o_mul _ _ rfl rfl ⟨by omega, by omega⟩ rfl) ?_
                              refine AOps.call (o_fieldRef _ rfl fa24_0 rfl rfl) ?_
                              refine AOps.call (o_loadRef _ rfl rfl Tryd.sizeOf22 Tryd.isAgg22 rfl rfl rfl) ?_
                              refine AOps.call (o_move _ rfl rfl) ?_
                              refine AOps.call (o_index _ _ Tryd.underlying22 Tryd.sizeOf28 rfl rfl (by omega) hel rfl rfl) ?_
                              refine AOps.call (o_loadRd _ rfl Tryd.sizeOf28 Tryd.isAgg28 rfl rfl rfl) ?_
                              refine AOps.call (o_call (Strength_s p[k] hlk) Tryd.call56 rfl rfl) ?_
                              refine AOps.call (o_mul _ _ rfl rfl ⟨by omega, by omega⟩ rfl) ?_
                              refine AOps.call (o_bin _ _ rfl rfl (fun _ => rfl) rfl) ?_
                              refine AOps.call (o_bin _ _ rfl rfl (fun _ => rfl) rfl) ?_
                              refine AOps.call (o_assign _ rfl rfl) ?_
                              refine AOps.nil ?_
                              refine AWP.ret ?_
                              first
                              | exact postQ.ret1 Tryd.results13 rfl rfl
                              | (refine postQ.ret1 Tryd.results13 rfl ?_; rw [hF]; simp [AV.close, AV.close.closeL, B, I]; done)
                          · skip
                            exfalso
                            have hq := of_decide_eq_true h259
                            omega
                    · skip
                      exfalso
                      have hq := of_decide_eq_true h238
                      omega
                  · skip
                    exfalso
                    have hq := of_decide_eq_true h236
                    omega
                · skip
                  exfalso
                  exact absurd h234 (by decide)
            · skip
              refine AOps.pass rfl rfl rfl h178 rfl ?_
              refine AOps.go rfl rfl rfl rfl (o_pickF _ _ _ rfl h178 rfl rfl) ?_
              refine AOps.go rfl rfl rfl rfl (o_move _ rfl rfl) ?_
              refine AOps.pass rfl rfl rfl rfl rfl ?_
              refine AOps.pass rfl rfl rfl rfl rfl ?_
              refine AOps.go rfl rfl rfl rfl (o_pickF _ _ _ rfl rfl rfl rfl) ?_
              refine AOps.go rfl rfl rfl h19 (o_pickF _ _ _ rfl rfl rfl rfl) ?_
              refine AOps.call (o_pickT _ _ _ rfl h19 rfl rfl) ?_
              refine AOps.nil ?_
              refine AWP.condF rfl ?_
              refine AWP.skip ?_
              refine AWP.seq ?_
              refine AWP.region ?_
              refine AOps.call (o_loadRef _ rfl rfl Tryd.sizeOf24 Tryd.isAgg24 rfl rfl rfl) ?_
              refine AOps.call (o_call (steep_ok a1) Tryd.call48 rfl rfl) ?_
              refine AOps.call (o_move _ rfl rfl) ?_
              refine AOps.call (o_extract _ rfl rfl rfl rfl) ?_
              refine AOps.call (o_extract _ rfl rfl rfl rfl) ?_
              refine AOps.call (o_assign _ rfl rfl) ?_
              refine AOps.call (o_assign _ rfl rfl) ?_
              refine AOps.nil ?_
              refine AWP.seq ?_
              refine AWP.seq ?_
              refine AWP.region ?_
              refine AOps.call (o_move _ rfl rfl) ?_
              refine AOps.call (o_bin _ _ rfl rfl (fun _ => rfl) rfl) ?_
              refine AOps.call (o_move _ rfl rfl) ?_
              refine AOps.split rfl rfl rfl (fun h281 => ?_) (fun h281 => ?_)
              · skip
                refine AOps.go rfl rfl rfl h281 (o_move _ rfl rfl) ?_
                refine AOps.go rfl rfl rfl h281 (o_bin _ _ rfl rfl (fun _ => rfl) rfl) ?_
                refine AOps.call (o_pickF _ _ _ rfl h281 rfl rfl) ?_
                refine AOps.call (o_move _ rfl rfl) ?_
                refine AOps.split rfl rfl rfl (fun h283 => ?_) (fun h283 => ?_)
                · skip
                  refine AOps.go rfl rfl rfl h283 (o_move _ rfl rfl) ?_
                  refine AOps.go rfl rfl rfl h283 (o_bin _ _ rfl rfl (fun _ => rfl) rfl) ?_
                  refine AOps.call (o_pickF _ _ _ rfl h283 rfl rfl) ?_
                  refine AOps.call (o_move _ rfl rfl) ?_
                  refine AOps.split rfl rfl rfl (fun h285 => ?_) (fun h285 => ?_)
                  · skip
                    refine AOps.go rfl rfl rfl h285 (o_move _ rfl rfl) ?_
                    refine AOps.go rfl rfl rfl h285 (o_move _ rfl rfl) ?_
                    refine AOps.go rfl rfl rfl h285 (o_move _ rfl rfl) ?_
                    refine AOps.go rfl rfl rfl h285 (o_bin _ _ rfl rfl (fun _ => rfl) rfl) ?_
                    refine AOps.go rfl rfl rfl h285 (o_bin _ _ rfl rfl (fun _ => rfl) rfl) ?_
                    refine AOps.call (o_pickF _ _ _ rfl h285 rfl rfl) ?_
                    refine AOps.nil ?_
                    refine AWP.cond _ rfl (fun h289 => ?_) (fun h289 => ?_)
                    · skip
                      exfalso
                      rw [hM] at h289
                      simp at h289
                    · skip
                      refine AWP.skip ?_
                      refine AWP.seq ?_
                      refine AWP.region ?_
                      refine AOps.call (o_loadRef _ rfl rfl Tryd.sizeOf24 Tryd.isAgg24 rfl rfl rfl) ?_
                      refine AOps.call (o_call (Weakest_s p) Tryd.call44 rfl rfl) ?_
                      refine AOps.call (o_move _ rfl rfl) ?_
                      refine AOps.call (o_extract _ rfl rfl rfl rfl) ?_
                      refine AOps.call (o_extract _ rfl rfl rfl rfl) ?_
                      refine AOps.call (o_extract _ rfl rfl rfl rfl) ?_
                      refine AOps.call (o_assign _ rfl rfl) ?_
                      refine AOps.call (o_assign _ rfl rfl) ?_
                      refine AOps.call (o_assign _ rfl rfl) ?_
                      refine AOps.nil ?_
                      refine AWP.seq ?_
                      refine AWP.seq ?_
                      refine AWP.region ?_
                      refine AOps.call (o_move _ rfl rfl) ?_
                      refine AOps.call (o_bin _ _ rfl rfl (fun _ => rfl) rfl) ?_
                      refine AOps.nil ?_
                      refine AWP.cond _ rfl (fun h296 => ?_) (fun h296 => ?_)
                      · skip
                        have hwn : ¬ (wkM p).2.2 = 0 := by simpa using h296
                        have hz := wk_none a1 hwn
                        have hz4 := hz.2
                        have hl0 := lays_nil hz.1
                        have hF : (brkM p steep).1 = false := by rw [a3, hz.1]; rfl
                        refine AWP.seq ?_
                        refine AWP.region ?_
                        refine AOps.call (o_move _ rfl rfl) ?_
                        refine AOps.call (o_bin _ _ rfl rfl (fun _ => rfl) rfl) ?_
                        refine AOps.call (o_move _ rfl rfl) ?_
                        refine AOps.split rfl rfl rfl (fun h298 => ?_) (fun h298 => ?_)
                        · skip
                          refine AOps.go rfl rfl rfl h298 (o_fieldRef _ rfl fa24_0 rfl rfl) ?_
                          refine AOps.go rfl rfl rfl h298 (o_loadRef _ rfl rfl Tryd.sizeOf22 Tryd.isAgg22 rfl rfl rfl) ?_
                          refine AOps.go rfl rfl rfl h298 (o_len _ Tryd.underlying22 rfl rfl) ?_
                          refine AOps.go rfl rfl rfl h298 (o_bin _ _ rfl rfl (fun _ => rfl) rfl) ?_
                          refine AOps.call (o_pickT _ _ _ rfl h298 rfl rfl) ?_
                          refine AOps.call (o_move _ rfl rfl) ?_
                          refine AOps.split rfl rfl rfl (fun h303 => ?_) (fun h303 => ?_)
                          · skip
                            refine AOps.go rfl rfl rfl h303 (o_move _ rfl rfl) ?_
                            refine AOps.go rfl rfl rfl h303 (o_un _ rfl (fun _ => rfl) rfl) ?_
                            refine AOps.call (o_pickT _ _ _ rfl h303 rfl rfl) ?_
                            refine AOps.call (o_assign _ rfl rfl) ?_
                            refine AOps.nil ?_
                            refine AWP.ret ?_
                            first
                            | exact postQ.ret1 Tryd.results13 rfl rfl
                            | (refine postQ.ret1 Tryd.results13 rfl ?_; rw [hF]; simp [AV.close, AV.close.closeL, B, I]; done)
                          · skip
                            exfalso
                            simp [hl0] at h303
                        · skip
                          exfalso
                          rw [hz4] at h298
                          exact absurd h298 (by decide)
                      · skip
                        have hws : (wkM p).2.2 = 0 := by simpa using h296
                        obtain ⟨k, hk, e1, e2, e3, e4⟩ := wk_some a1 hws
                        have hel : (lays p)[((wkM p).1).toNat]? = some (eL p[k]) := by rw [e1]; exact lays_at hk
                        have hlk := (packE_0.1 a1).2.1 _ (List.getElem_mem hk)
                        have h5 := mul_in e2.1 e2.2 a2.1 a2.2
                        have h6 : (wkM p).2.1 * (steep - 25) = (wkM p).2.1 * steep - (wkM p).2.1 * 25 := Int.mul_sub _ _ _
                        have hF : (brkM p steep).1 = decide ((wkM p).2.1 * (steep - 25) > 3 * strn p[k]) := by rw [a3]; exact e4 steep
                        refine AWP.skip ?_
                        refine AWP.seq ?_
                        refine AWP.seq ?_
                        refine AWP.region ?_
                        refine AOps.call (o_move _ rfl rfl) ?_
                        refine AOps.call (o_bin _ _ rfl rfl (fun _ => rfl) rfl) ?_
                        refine AOps.call (o_move _ rfl rfl) ?_
                        refine AOps.split rfl rfl rfl (fun h306 => ?_) (fun h306 => ?_)
                        · skip
                          refine AOps.go rfl rfl rfl h306 (o_move _ rfl rfl) ?_
                          refine AOps.go rfl rfl rfl h306 (o_fieldRef _ rfl fa24_0 rfl rfl) ?_
                          refine AOps.go rfl rfl rfl h306 (o_loadRef _ rfl rfl Tryd.sizeOf22 Tryd.isAgg22 rfl rfl rfl) ?_
                          refine AOps.go rfl rfl rfl h306 (o_len _ Tryd.underlying22 rfl rfl) ?_
                          refine AOps.go rfl rfl rfl h306 (o_bin _ _ rfl rfl (fun _ => rfl) rfl) ?_
                          refine AOps.call (o_pickF _ _ _ rfl h306 rfl rfl) ?_
                          refine AOps.nil ?_
                          refine AWP.cond _ rfl (fun h311 => ?_) (fun h311 => ?_)
                          · skip
                            exfalso
                            have hq := of_decide_eq_true h311
                            omega
                          · skip
                            refine AWP.skip ?_
                            refine AWP.seq ?_
                            refine AWP.region ?_
                            refine AOps.call (o_move _ rfl rfl) ?_
                            refine AOps.call (o_move _ rfl rfl) ?_
                            refine AOps.call (o_move _ rfl rfl) ?_
                            refine AOps.call (o_sub _ _ rfl rfl ⟨by (try dsimp only); omega, by (try dsimp only); omega⟩ rfl) ?_
                            refine AOps.call (o_mul _ _ rfl rfl ⟨by omega, by omega⟩ rfl) ?_
                            refine AOps.call (o_fieldRef _ rfl fa24_0 rfl rfl) ?_
                            refine AOps.call (o_loadRef _ rfl rfl Tryd.sizeOf22 Tryd.isAgg22 rfl rfl rfl) ?_
                            refine AOps.call (o_move _ rfl rfl) ?_
                            refine AOps.call (o_index _ _ Tryd.underlying22 Tryd.sizeOf28 rfl rfl (by omega) hel rfl rfl) ?_
                            refine AOps.call (o_loadRd _ rfl Tryd.sizeOf28 Tryd.isAgg28 rfl rfl rfl) ?_
                            refine AOps.call (o_call (Strength_s p[k] hlk) Tryd.call56 rfl rfl) ?_
                            refine AOps.call (o_mul _ _ rfl rfl ⟨by omega, by omega⟩ rfl) ?_
                            refine AOps.call (o_bin _ _ rfl rfl (fun _ => rfl) rfl) ?_
                            refine AOps.call (o_bin _ _ rfl rfl (fun _ => rfl) rfl) ?_
                            refine AOps.call (o_assign _ rfl rfl) ?_
                            refine AOps.nil ?_
                            refine AWP.ret ?_
                            first
                            | exact postQ.ret1 Tryd.results13 rfl rfl
                            | (refine postQ.ret1 Tryd.results13 rfl ?_; rw [hF]; simp [AV.close, AV.close.closeL, B, I]; done)
                        · skip
                          exfalso
                          have hq := of_decide_eq_true h306
                          omega
                  · skip
                    exfalso
                    have hq := of_decide_eq_true h285
                    omega
                · skip
                  exfalso
                  have hq := of_decide_eq_true h283
                  omega
              · skip
                exfalso
                exact absurd h281 (by decide)
        · skip
          refine AOps.pass rfl rfl rfl h23 rfl ?_
          refine AOps.go rfl rfl rfl h19 (o_pickF _ _ _ rfl h23 rfl rfl) ?_
          refine AOps.go rfl rfl rfl h19 (o_move _ rfl rfl) ?_
          refine AOps.pass rfl rfl rfl rfl rfl ?_
          refine AOps.pass rfl rfl rfl rfl rfl ?_
          refine AOps.go rfl rfl rfl h19 (o_pickF _ _ _ rfl rfl rfl rfl) ?_
          refine AOps.go rfl rfl rfl h19 (o_move _ rfl rfl) ?_
          refine AOps.go rfl rfl rfl rfl (o_move _ rfl rfl) ?_
          refine AOps.go rfl rfl rfl rfl (o_move _ rfl rfl) ?_
          refine AOps.go rfl rfl rfl rfl (o_bin _ _ rfl rfl (fun _ => rfl) rfl) ?_
          refine AOps.go rfl rfl rfl rfl (o_move _ rfl rfl) ?_
          refine AOps.split rfl rfl rfl (fun h326 => ?_) (fun h326 => ?_)
          · skip
            have g51 := h326
            refine AOps.go rfl rfl rfl h326 (o_move _ rfl rfl) ?_
            refine AOps.go rfl rfl rfl rfl (o_pickT _ _ _ rfl h326 rfl rfl) ?_
            refine AOps.go rfl rfl rfl rfl (o_move _ rfl rfl) ?_
            refine AOps.split rfl rfl rfl (fun h327 => ?_) (fun h327 => ?_)
            · skip
              have g54 := h327
              refine AOps.go rfl rfl rfl h327 (o_move _ rfl rfl) ?_
              refine AOps.go rfl rfl rfl h327 (o_un _ rfl (fun _ => rfl) rfl) ?_
              refine AOps.go rfl rfl rfl rfl (o_pickT _ _ _ rfl h327 rfl rfl) ?_
              refine AOps.go rfl rfl rfl h19 (o_pickF _ _ _ rfl rfl rfl rfl) ?_
              refine AOps.call (o_pickT _ _ _ rfl h19 rfl rfl) ?_
              refine AOps.nil ?_
              refine AWP.cond _ rfl (fun h329 => ?_) (fun h329 => ?_)
              · skip
                exfalso
                have u1 : (brkM p steep).1 = true := g54
                have u2 : (brkM p other).1 = false := by simpa using h329
                rw [a3] at u1
                rw [(brk_ok h2).2.2, brkA_up hbo (of_decide_eq_true g51) u1] at u2
                cases u2
              · skip
                refine AWP.skip ?_
                refine AWP.seq ?_
                refine AWP.region ?_
                refine AOps.call (o_loadRef _ rfl rfl Tryd.sizeOf24 Tryd.isAgg24 rfl rfl rfl) ?_
                refine AOps.call (o_call (steep_ok a1) Tryd.call48 rfl rfl) ?_
                refine AOps.call (o_move _ rfl rfl) ?_
                refine AOps.call (o_extract _ rfl rfl rfl rfl) ?_
                refine AOps.call (o_extract _ rfl rfl rfl rfl) ?_
                refine AOps.call (o_assign _ rfl rfl) ?_
                refine AOps.call (o_assign _ rfl rfl) ?_
                refine AOps.nil ?_
                refine AWP.seq ?_
                refine AWP.seq ?_
                refine AWP.region ?_
                refine AOps.call (o_move _ rfl rfl) ?_
                refine AOps.call (o_bin _ _ rfl rfl (fun _ => rfl) rfl) ?_
                refine AOps.call (o_move _ rfl rfl) ?_
                refine AOps.split rfl rfl rfl (fun h335 => ?_) (fun h335 => ?_)
                · skip
                  refine AOps.go rfl rfl rfl h335 (o_move _ rfl rfl) ?_
                  refine AOps.go rfl rfl rfl h335 (o_bin _ _ rfl rfl (fun _ => rfl) rfl) ?_
                  refine AOps.call (o_pickF _ _ _ rfl h335 rfl rfl) ?_
                  refine AOps.call (o_move _ rfl rfl) ?_
                  refine AOps.split rfl rfl rfl (fun h337 => ?_) (fun h337 => ?_)
                  · skip
                    refine AOps.go rfl rfl rfl h337 (o_move _ rfl rfl) ?_
                    refine AOps.go rfl rfl rfl h337 (o_bin _ _ rfl rfl (fun _ => rfl) rfl) ?_
                    refine AOps.call (o_pickF _ _ _ rfl h337 rfl rfl) ?_
                    refine AOps.call (o_move _ rfl rfl) ?_
                    refine AOps.split rfl rfl rfl (fun h339 => ?_) (fun h339 => ?_)
                    · skip
                      refine AOps.go rfl rfl rfl h339 (o_move _ rfl rfl) ?_
                      refine AOps.go rfl rfl rfl h339 (o_move _ rfl rfl) ?_
                      refine AOps.go rfl rfl rfl h339 (o_move _ rfl rfl) ?_
                      refine AOps.go rfl rfl rfl h339 (o_bin _ _ rfl rfl (fun _ => rfl) rfl) ?_
                      refine AOps.go rfl rfl rfl h339 (o_bin _ _ rfl rfl (fun _ => rfl) rfl) ?_
                      refine AOps.call (o_pickF _ _ _ rfl h339 rfl rfl) ?_
                      refine AOps.nil ?_
                      refine AWP.cond _ rfl (fun h343 => ?_) (fun h343 => ?_)
                      · skip
                        exfalso
                        rw [hM] at h343
                        simp at h343
                      · skip
                        refine AWP.skip ?_
                        refine AWP.seq ?_
                        refine AWP.region ?_
                        refine AOps.call (o_loadRef _ rfl rfl Tryd.sizeOf24 Tryd.isAgg24 rfl rfl rfl) ?_
                        refine AOps.call (o_call (Weakest_s p) Tryd.call44 rfl rfl) ?_
                        refine AOps.call (o_move _ rfl rfl) ?_
                        refine AOps.call (o_extract _ rfl rfl rfl rfl) ?_
                        refine AOps.call (o_extract _ rfl rfl rfl rfl) ?_
                        refine AOps.call (o_extract _ rfl rfl rfl rfl) ?_
                        refine AOps.call (o_assign _ rfl rfl) ?_
                        refine AOps.call (o_assign _ rfl rfl) ?_
                        refine AOps.call (o_assign _ rfl rfl) ?_
                        refine AOps.nil ?_
                        refine AWP.seq ?_
                        refine AWP.seq ?_
                        refine AWP.region ?_
                        refine AOps.call (o_move _ rfl rfl) ?_
                        refine AOps.call (o_bin _ _ rfl rfl (fun _ => rfl) rfl) ?_
                        refine AOps.nil ?_
                        refine AWP.cond _ rfl (fun h350 => ?_) (fun h350 => ?_)
                        · skip
                          have hwn : ¬ (wkM p).2.2 = 0 := by simpa using h350
                          have hz := wk_none a1 hwn
                          have hz4 := hz.2
                          have hl0 := lays_nil hz.1
                          have hF : (brkM p steep).1 = false := by rw [a3, hz.1]; rfl
                          refine AWP.seq ?_
                          refine AWP.region ?_
                          refine AOps.call (o_move _ rfl rfl) ?_
                          refine AOps.call (o_bin _ _ rfl rfl (fun _ => rfl) rfl) ?_
                          refine AOps.call (o_move _ rfl rfl) ?_
                          refine AOps.split rfl rfl rfl (fun h352 => ?_) (fun h352 => ?_)
                          · skip
                            refine AOps.go rfl rfl rfl h352 (o_fieldRef _ rfl fa24_0 rfl rfl) ?_
                            refine AOps.go rfl rfl rfl h352 (o_loadRef _ rfl rfl Tryd.sizeOf22 Tryd.isAgg22 rfl rfl rfl) ?_
                            refine AOps.go rfl rfl rfl h352 (o_len _ Tryd.underlying22 rfl rfl) ?_
                            refine AOps.go rfl rfl rfl h352 (o_bin _ _ rfl rfl (fun _ => rfl) rfl) ?_
                            refine AOps.call (o_pickT _ _ _ rfl h352 rfl rfl) ?_
                            refine AOps.call (o_move _ rfl rfl) ?_
                            refine AOps.split rfl rfl rfl (fun h357 => ?_) (fun h357 => ?_)
                            · skip
                              refine AOps.go rfl rfl rfl h357 (o_move _ rfl rfl) ?_
                              refine AOps.go rfl rfl rfl h357 (o_un _ rfl (fun _ => rfl) rfl) ?_
                              refine AOps.call (o_pickT _ _ _ rfl h357 rfl rfl) ?_
                              refine AOps.call (o_assign _ rfl rfl) ?_
                              refine AOps.nil ?_
                              refine AWP.ret ?_
                              first
                              | exact postQ.ret1 Tryd.results13 rfl rfl
                              | (refine postQ.ret1 Tryd.results13 rfl ?_; rw [hF]; simp [AV.close, AV.close.closeL, B, I]; done)
                            · skip
                              exfalso
                              simp [hl0] at h357
                          · skip
                            exfalso
                            rw [hz4] at h352
                            exact absurd h352 (by decide)
                        · skip
                          have hws : (wkM p).2.2 = 0 := by simpa using h350
                          obtain ⟨k, hk, e1, e2, e3, e4⟩ := wk_some a1 hws
                          have hel : (lays p)[((wkM p).1).toNat]? = some (eL p[k]) := by rw [e1]; exact lays_at hk
                          have hlk := (packE_0.1 a1).2.1 _ (List.getElem_mem hk)
                          have h5 := mul_in e2.1 e2.2 a2.1 a2.2
                          have h6 : (wkM p).2.1 * (steep - 25) = (wkM p).2.1 * steep - (wkM p).2.1 * 25 := Int.mul_sub _ _ _
                          have hF : (brkM p steep).1 = decide ((wkM p).2.1 * (steep - 25) > 3 * strn p[k]) := by rw [a3]; exact e4 steep
                          refine AWP.skip ?_
                          refine AWP.seq ?_
                          refine AWP.seq ?_
                          refine AWP.region ?_
                          refine AOps.call (o_move _ rfl rfl) ?_
                          refine AOps.call (o_bin _ _ rfl rfl (fun _ => rfl) rfl) ?_
                          refine AOps.call (o_move _ rfl rfl) ?_
                          refine AOps.split rfl rfl rfl (fun h360 => ?_) (fun h360 => ?_)
                          · skip
                            refine AOps.go rfl rfl rfl h360 (o_move _ rfl rfl) ?_
                            refine AOps.go rfl rfl rfl h360 (o_fieldRef _ rfl fa24_0 rfl rfl) ?_
                            refine AOps.go rfl rfl rfl h360 (o_loadRef _ rfl rfl Tryd.sizeOf22 Tryd.isAgg22 rfl rfl rfl) ?_
                            refine AOps.go rfl rfl rfl h360 (o_len _ Tryd.underlying22 rfl rfl) ?_
                            refine AOps.go rfl rfl rfl h360 (o_bin _ _ rfl rfl (fun _ => rfl) rfl) ?_
                            refine AOps.call (o_pickF _ _ _ rfl h360 rfl rfl) ?_
                            refine AOps.nil ?_
                            refine AWP.cond _ rfl (fun h365 => ?_) (fun h365 => ?_)
                            · skip
                              exfalso
                              have hq := of_decide_eq_true h365
                              omega
                            · skip
                              refine AWP.skip ?_
                              refine AWP.seq ?_
                              refine AWP.region ?_
                              refine AOps.call (o_move _ rfl rfl) ?_
                              refine AOps.call (o_move _ rfl rfl) ?_
                              refine AOps.call (o_move _ rfl rfl) ?_
                              refine AOps.call (o_sub _ _ rfl rfl ⟨by (try dsimp only); omega, by (try dsimp only); omega⟩ rfl) ?_
                              refine AOps.call (o_mul _ _ rfl rfl ⟨by omega, by omega⟩ rfl) ?_
                              refine AOps.call (o_fieldRef _ rfl fa24_0 rfl rfl) ?_
                              refine AOps.call (o_loadRef _ rfl rfl Tryd.sizeOf22 Tryd.isAgg22 rfl rfl rfl) ?_
                              refine AOps.call (o_move _ rfl rfl) ?_
                              refine AOps.call (o_index _ _ Tryd.underlying22 Tryd.sizeOf28 rfl rfl (by omega) hel rfl rfl) ?_
                              refine AOps.call (o_loadRd _ rfl Tryd.sizeOf28 Tryd.isAgg28 rfl rfl rfl) ?_
                              refine AOps.call (o_call (Strength_s p[k] hlk) Tryd.call56 rfl rfl) ?_
                              refine AOps.call (o_mul _ _ rfl rfl ⟨by omega, by omega⟩ rfl) ?_
                              refine AOps.call (o_bin _ _ rfl rfl (fun _ => rfl) rfl) ?_
                              refine AOps.call (o_bin _ _ rfl rfl (fun _ => rfl) rfl) ?_
                              refine AOps.call (o_assign _ rfl rfl) ?_
                              refine AOps.nil ?_
                              refine AWP.ret ?_
                              first
                              | exact postQ.ret1 Tryd.results13 rfl rfl
                              | (refine postQ.ret1 Tryd.results13 rfl ?_; rw [hF]; simp [AV.close, AV.close.closeL, B, I]; done)
                          · skip
                            exfalso
                            have hq := of_decide_eq_true h360
                            omega
                    · skip
                      exfalso
                      have hq := of_decide_eq_true h339
                      omega
                  · skip
                    exfalso
                    have hq := of_decide_eq_true h337
                    omega
                · skip
                  exfalso
                  exact absurd h335 (by decide)
            · skip
              refine AOps.pass rfl rfl rfl h327 rfl ?_
              refine AOps.pass rfl rfl rfl h327 rfl ?_
              refine AOps.go rfl rfl rfl rfl (o_pickF _ _ _ rfl h327 rfl rfl) ?_
              refine AOps.go rfl rfl rfl h19 (o_pickF _ _ _ rfl rfl rfl rfl) ?_
              refine AOps.call (o_pickT _ _ _ rfl h19 rfl rfl) ?_
              refine AOps.nil ?_
              refine AWP.condF rfl ?_
              refine AWP.skip ?_
              refine AWP.seq ?_
              refine AWP.region ?_
              refine AOps.call (o_loadRef _ rfl rfl Tryd.sizeOf24 Tryd.isAgg24 rfl rfl rfl) ?_
              refine AOps.call (o_call (steep_ok a1) Tryd.call48 rfl rfl) ?_
              refine AOps.call (o_move _ rfl rfl) ?_
              refine AOps.call (o_extract _ rfl rfl rfl rfl) ?_
              refine AOps.call (o_extract _ rfl rfl rfl rfl) ?_
              refine AOps.call (o_assign _ rfl rfl) ?_
              refine AOps.call (o_assign _ rfl rfl) ?_
              refine AOps.nil ?_
              refine AWP.seq ?_
              refine AWP.seq ?_
              refine AWP.region ?_
              refine AOps.call (o_move _ rfl rfl) ?_
              refine AOps.call (o_bin _ _ rfl rfl (fun _ => rfl) rfl) ?_
              refine AOps.call (o_move _ rfl rfl) ?_
              refine AOps.split rfl rfl rfl (fun h382 => ?_) (fun h382 => ?_)
              · skip
                refine AOps.go rfl rfl rfl h382 (o_move _ rfl rfl) ?_
                refine AOps.go rfl rfl rfl h382 (o_bin _ _ rfl rfl (fun _ => rfl) rfl) ?_
                refine AOps.call (o_pickF _ _ _ rfl h382 rfl rfl) ?_
                refine AOps.call (o_move _ rfl rfl) ?_
                refine AOps.split rfl rfl rfl (fun h384 => ?_) (fun h384 => ?_)
                · skip
                  refine AOps.go rfl rfl rfl h384 (o_move _ rfl rfl) ?_
                  refine AOps.go rfl rfl rfl h384 (o_bin _ _ rfl rfl (fun _ => rfl) rfl) ?_
                  refine AOps.call (o_pickF _ _ _ rfl h384 rfl rfl) ?_
                  refine AOps.call (o_move _ rfl rfl) ?_
                  refine AOps.split rfl rfl rfl (fun h386 => ?_) (fun h386 => ?_)
                  · skip
                    refine AOps.go rfl rfl rfl h386 (o_move _ rfl rfl) ?_
                    refine AOps.go rfl rfl rfl h386 (o_move _ rfl rfl) ?_
                    refine AOps.go rfl rfl rfl h386 (o_move _ rfl rfl) ?_
                    refine AOps.go rfl rfl rfl h386 (o_bin _ _ rfl rfl (fun _ => rfl) rfl) ?_
                    refine AOps.go rfl rfl rfl h386 (o_bin _ _ rfl rfl (fun _ => rfl) rfl) ?_
                    refine AOps.call (o_pickF _ _ _ rfl h386 rfl rfl) ?_
                    refine AOps.nil ?_
                    refine AWP.cond _ rfl (fun h390 => ?_) (fun h390 => ?_)
                    · skip
                      exfalso
                      rw [hM] at h390
                      simp at h390
                    · skip
                      refine AWP.skip ?_
                      refine AWP.seq ?_
                      refine AWP.region ?_
                      refine AOps.call (o_loadRef _ rfl rfl Tryd.sizeOf24 Tryd.isAgg24 rfl rfl rfl) ?_
                      refine AOps.call (o_call (Weakest_s p) Tryd.call44 rfl rfl) ?_
                      refine AOps.call (o_move _ rfl rfl) ?_
                      refine AOps.call (o_extract _ rfl rfl rfl rfl) ?_
                      refine AOps.call (o_extract _ rfl rfl rfl rfl) ?_
                      refine AOps.call (o_extract _ rfl rfl rfl rfl) ?_
                      refine AOps.call (o_assign _ rfl rfl) ?_
                      refine AOps.call (o_assign _ rfl rfl) ?_
                      refine AOps.call (o_assign _ rfl rfl) ?_
                      refine AOps.nil ?_
                      refine AWP.seq ?_
                      refine AWP.seq ?_
                      refine AWP.region ?_
                      refine AOps.call (o_move _ rfl rfl) ?_
                      refine AOps.call (o_bin _ _ rfl rfl (fun _ => rfl) rfl) ?_
                      refine AOps.nil ?_
                      refine AWP.cond _ rfl (fun h397 => ?_) (fun h397 => ?_)
                      · skip
                        have hwn : ¬ (wkM p).2.2 = 0 := by simpa using h397
                        have hz := wk_none a1 hwn
                        have hz4 := hz.2
                        have hl0 := lays_nil hz.1
                        have hF : (brkM p steep).1 = false := by rw [a3, hz.1]; rfl
                        refine AWP.seq ?_
                        refine AWP.region ?_
                        refine AOps.call (o_move _ rfl rfl) ?_
                        refine AOps.call (o_bin _ _ rfl rfl (fun _ => rfl) rfl) ?_
                        refine AOps.call (o_move _ rfl rfl) ?_
                        refine AOps.split rfl rfl rfl (fun h399 => ?_) (fun h399 => ?_)
                        · skip
                          refine AOps.go rfl rfl rfl h399 (o_fieldRef _ rfl fa24_0 rfl rfl) ?_
                          refine AOps.go rfl rfl rfl h399 (o_loadRef _ rfl rfl Tryd.sizeOf22 Tryd.isAgg22 rfl rfl rfl) ?_
                          refine AOps.go rfl rfl rfl h399 (o_len _ Tryd.underlying22 rfl rfl) ?_
                          refine AOps.go rfl rfl rfl h399 (o_bin _ _ rfl rfl (fun _ => rfl) rfl) ?_
                          refine AOps.call (o_pickT _ _ _ rfl h399 rfl rfl) ?_
                          refine AOps.call (o_move _ rfl rfl) ?_
                          refine AOps.split rfl rfl rfl (fun h404 => ?_) (fun h404 => ?_)
                          · skip
                            refine AOps.go rfl rfl rfl h404 (o_move _ rfl rfl) ?_
                            refine AOps.go rfl rfl rfl h404 (o_un _ rfl (fun _ => rfl) rfl) ?_
                            refine AOps.call (o_pickT _ _ _ rfl h404 rfl rfl) ?_
                            refine AOps.call (o_assign _ rfl rfl) ?_
                            refine AOps.nil ?_
                            refine AWP.ret ?_
                            first
                            | exact postQ.ret1 Tryd.results13 rfl rfl
                            | (refine postQ.ret1 Tryd.results13 rfl ?_; rw [hF]; simp [AV.close, AV.close.closeL, B, I]; done)
                          · skip
                            exfalso
                            simp [hl0] at h404
                        · skip
                          exfalso
                          rw [hz4] at h399
                          exact absurd h399 (by decide)
                      · skip
                        have hws : (wkM p).2.2 = 0 := by simpa using h397
                        obtain ⟨k, hk, e1, e2, e3, e4⟩ := wk_some a1 hws
                        have hel : (lays p)[((wkM p).1).toNat]? = some (eL p[k]) := by rw [e1]; exact lays_at hk
                        have hlk := (packE_0.1 a1).2.1 _ (List.getElem_mem hk)
                        have h5 := mul_in e2.1 e2.2 a2.1 a2.2
                        have h6 : (wkM p).2.1 * (steep - 25) = (wkM p).2.1 * steep - (wkM p).2.1 * 25 := Int.mul_sub _ _ _
                        have hF : (brkM p steep).1 = decide ((wkM p).2.1 * (steep - 25) > 3 * strn p[k]) := by rw [a3]; exact e4 steep
                        refine AWP.skip ?_
                        refine AWP.seq ?_
                        refine AWP.seq ?_
                        refine AWP.region ?_
                        refine AOps.call (o_move _ rfl rfl) ?_
                        refine AOps.call (o_bin _ _ rfl rfl (fun _ => rfl) rfl) ?_
                        refine AOps.call (o_move _ rfl rfl) ?_
                        refine AOps.split rfl rfl rfl (fun h407 => ?_) (fun h407 => ?_)
                        · skip
                          refine AOps.go rfl rfl rfl h407 (o_move _ rfl rfl) ?_
                          refine AOps.go rfl rfl rfl h407 (o_fieldRef _ rfl fa24_0 rfl rfl) ?_
                          refine AOps.go rfl rfl rfl h407 (o_loadRef _ rfl rfl Tryd.sizeOf22 Tryd.isAgg22 rfl rfl rfl) ?_
                          refine AOps.go rfl rfl rfl h407 (o_len _ Tryd.underlying22 rfl rfl) ?_
                          refine AOps.go rfl rfl rfl h407 (o_bin _ _ rfl rfl (fun _ => rfl) rfl) ?_
                          refine AOps.call (o_pickF _ _ _ rfl h407 rfl rfl) ?_
                          refine AOps.nil ?_
                          refine AWP.cond _ rfl (fun h412 => ?_) (fun h412 => ?_)
                          · skip
                            exfalso
                            have hq := of_decide_eq_true h412
                            omega
                          · skip
                            refine AWP.skip ?_
                            refine AWP.seq ?_
                            refine AWP.region ?_
                            refine AOps.call (o_move _ rfl rfl) ?_
                            refine AOps.call (o_move _ rfl rfl) ?_
                            refine AOps.call (o_move _ rfl rfl) ?_
                            refine AOps.call (o_sub _ _ rfl rfl ⟨by (try dsimp only); omega, by (try dsimp only); omega⟩ rfl) ?_
                            refine AOps.call (o_mul _ _ rfl rfl ⟨by omega, by omega⟩ rfl) ?_
                            refine AOps.call (o_fieldRef _ rfl fa24_0 rfl rfl) ?_
                            refine AOps.call (o_loadRef _ rfl rfl Tryd.sizeOf22 Tryd.isAgg22 rfl rfl rfl) ?_
                            refine AOps.call (o_move _ rfl rfl) ?_
                            refine AOps.call (o_index _ _ Tryd.underlying22 Tryd.sizeOf28 rfl rfl (by omega) hel rfl rfl) ?_
                            refine AOps.call (o_loadRd _ rfl Tryd.sizeOf28 Tryd.isAgg28 rfl rfl rfl) ?_
                            refine AOps.call (o_call (Strength_s p[k] hlk) Tryd.call56 rfl rfl) ?_
                            refine AOps.call (o_mul _ _ rfl rfl ⟨by omega, by omega⟩ rfl) ?_
                            refine AOps.call (o_bin _ _ rfl rfl (fun _ => rfl) rfl) ?_
                            refine AOps.call (o_bin _ _ rfl rfl (fun _ => rfl) rfl) ?_
                            refine AOps.call (o_assign _ rfl rfl) ?_
                            refine AOps.nil ?_
                            refine AWP.ret ?_
                            first
                            | exact postQ.ret1 Tryd.results13 rfl rfl
                            | (refine postQ.ret1 Tryd.results13 rfl ?_; rw [hF]; simp [AV.close, AV.close.closeL, B, I]; done)
                        · skip
                          exfalso
                          have hq := of_decide_eq_true h407
                          omega
                  · skip
                    exfalso
                    have hq := of_decide_eq_true h386
                    omega
                · skip
                  exfalso
                  have hq := of_decide_eq_true h384
                  omega
              · skip
                exfalso
                exact absurd h382 (by decide)
          · skip
            refine AOps.pass rfl rfl rfl h326 rfl ?_
            refine AOps.go rfl rfl rfl rfl (o_pickF _ _ _ rfl h326 rfl rfl) ?_
            refine AOps.go rfl rfl rfl rfl (o_move _ rfl rfl) ?_
            refine AOps.pass rfl rfl rfl rfl rfl ?_
            refine AOps.pass rfl rfl rfl rfl rfl ?_
            refine AOps.go rfl rfl rfl rfl (o_pickF _ _ _ rfl rfl rfl rfl) ?_
            refine AOps.go rfl rfl rfl h19 (o_pickF _ _ _ rfl rfl rfl rfl) ?_
            refine AOps.call (o_pickT _ _ _ rfl h19 rfl rfl) ?_
            refine AOps.nil ?_
            refine AWP.condF rfl ?_
            refine AWP.skip ?_
            refine AWP.seq ?_
            refine AWP.region ?_
            refine AOps.call (o_loadRef _ rfl rfl Tryd.sizeOf24 Tryd.isAgg24 rfl rfl rfl) ?_
            refine AOps.call (o_call (steep_ok a1) Tryd.call48 rfl rfl) ?_
            refine AOps.call (o_move _ rfl rfl) ?_
            refine AOps.call (o_extract _ rfl rfl rfl rfl) ?_
            refine AOps.call (o_extract _ rfl rfl rfl rfl) ?_
            refine AOps.call (o_assign _ rfl rfl) ?_
            refine AOps.call (o_assign _ rfl rfl) ?_
            refine AOps.nil ?_
            refine AWP.seq ?_
            refine AWP.seq ?_
            refine AWP.region ?_
            refine AOps.call (o_move _ rfl rfl) ?_
            refine AOps.call (o_bin _ _ rfl rfl (fun _ => rfl) rfl) ?_
            refine AOps.call (o_move _ rfl rfl) ?_
            refine AOps.split rfl rfl rfl (fun h429 => ?_) (fun h429 => ?_)
            · skip
              refine AOps.go rfl rfl rfl h429 (o_move _ rfl rfl) ?_
              refine AOps.go rfl rfl rfl h429 (o_bin _ _ rfl rfl (fun _ => rfl) rfl) ?_
              refine AOps.call (o_pickF _ _ _ rfl h429 rfl rfl) ?_
              refine AOps.call (o_move _ rfl rfl) ?_
              refine AOps.split rfl rfl rfl (fun h431 => ?_) (fun h431 => ?_)
              · skip
                refine AOps.go rfl rfl rfl h431 (o_move _ rfl rfl) ?_
                refine AOps.go rfl rfl rfl h431 (o_bin _ _ rfl rfl (fun _ => rfl) rfl) ?_
                refine AOps.call (o_pickF _ _ _ rfl h431 rfl rfl) ?_
                refine AOps.call (o_move _ rfl rfl) ?_
                refine AOps.split rfl rfl rfl (fun h433 => ?_) (fun h433 => ?_)
                · skip
                  refine AOps.go rfl rfl rfl h433 (o_move _ rfl rfl) ?_
                  refine AOps.go rfl rfl rfl h433 (o_move _ rfl rfl) ?_
                  refine AOps.go rfl rfl rfl h433 (o_move _ rfl rfl) ?_
                  refine AOps.go rfl rfl rfl h433 (o_bin _ _ rfl rfl (fun _ => rfl) rfl) ?_
                  refine AOps.go rfl rfl rfl h433 (o_bin _ _ rfl rfl (fun _ => rfl) rfl) ?_
                  refine AOps.call (o_pickF _ _ _ rfl h433 rfl rfl) ?_
                  refine AOps.nil ?_
                  refine AWP.cond _ rfl (fun h437 => ?_) (fun h437 => ?_)
                  · skip
                    exfalso
                    rw [hM] at h437
                    simp at h437
                  · skip
                    refine AWP.skip ?_
                    refine AWP.seq ?_
                    refine AWP.region ?_
                    refine AOps.call (o_loadRef _ rfl rfl Tryd.sizeOf24 Tryd.isAgg24 rfl rfl rfl) ?_
                    refine AOps.call (o_call (Weakest_s p) Tryd.call44 rfl rfl) ?_
                    refine AOps.call (o_move _ rfl rfl) ?_
                    refine AOps.call (o_extract _ rfl rfl rfl rfl) ?_
                    refine AOps.call (o_extract _ rfl rfl rfl rfl) ?_
                    refine AOps.call (o_extract _ rfl rfl rfl rfl) ?_
                    refine AOps.call (o_assign _ rfl rfl) ?_
                    refine AOps.call (o_assign _ rfl rfl) ?_
                    refine AOps.call (o_assign _ rfl rfl) ?_
                    refine AOps.nil ?_
                    refine AWP.seq ?_
                    refine AWP.seq ?_
                    refine AWP.region ?_
                    refine AOps.call (o_move _ rfl rfl) ?_
                    refine AOps.call (o_bin _ _ rfl rfl (fun _ => rfl) rfl) ?_
                    refine AOps.nil ?_
                    refine AWP.cond _ rfl (fun h444 => ?_) (fun h444 => ?_)
                    · skip
                      have hwn : ¬ (wkM p).2.2 = 0 := by simpa using h444
                      have hz := wk_none a1 hwn
                      have hz4 := hz.2
                      have hl0 := lays_nil hz.1
                      have hF : (brkM p steep).1 = false := by rw [a3, hz.1]; rfl
                      refine AWP.seq ?_
                      refine AWP.region ?_
                      refine AOps.call (o_move _ rfl rfl) ?_
                      refine AOps.call (o_bin _ _ rfl rfl (fun _ => rfl) rfl) ?_
                      refine AOps.call (o_move _ rfl rfl) ?_
                      refine AOps.split rfl rfl rfl (fun h446 => ?_) (fun h446 => ?_)
                      · skip
                        refine AOps.go rfl rfl rfl h446 (o_fieldRef _ rfl fa24_0 rfl rfl) ?_
                        refine AOps.go rfl rfl rfl h446 (o_loadRef _ rfl rfl Tryd.sizeOf22 Tryd.isAgg22 rfl rfl rfl) ?_
                        refine AOps.go rfl rfl rfl h446 (o_len _ Tryd.underlying22 rfl rfl) ?_
                        refine AOps.go rfl rfl rfl h446 (o_bin _ _ rfl rfl (fun _ => rfl) rfl) ?_
                        refine AOps.call (o_pickT _ _ _ rfl h446 rfl rfl) ?_
                        refine AOps.call (o_move _ rfl rfl) ?_
                        refine AOps.split rfl rfl rfl (fun h451 => ?_) (fun h451 => ?_)
                        · skip
                          refine AOps.go rfl rfl rfl h451 (o_move _ rfl rfl) ?_
                          refine AOps.go rfl rfl rfl h451 (o_un _ rfl (fun _ => rfl) rfl) ?_
                          refine AOps.call (o_pickT _ _ _ rfl h451 rfl rfl) ?_
                          refine AOps.call (o_assign _ rfl rfl) ?_
                          refine AOps.nil ?_
                          refine AWP.ret ?_
                          first
                          | exact postQ.ret1 Tryd.results13 rfl rfl
                          | (refine postQ.ret1 Tryd.results13 rfl ?_; rw [hF]; simp [AV.close, AV.close.closeL, B, I]; done)
                        · skip
                          exfalso
                          simp [hl0] at h451
                      · skip
                        exfalso
                        rw [hz4] at h446
                        exact absurd h446 (by decide)
                    · skip
                      have hws : (wkM p).2.2 = 0 := by simpa using h444
                      obtain ⟨k, hk, e1, e2, e3, e4⟩ := wk_some a1 hws
                      have hel : (lays p)[((wkM p).1).toNat]? = some (eL p[k]) := by rw [e1]; exact lays_at hk
                      have hlk := (packE_0.1 a1).2.1 _ (List.getElem_mem hk)
                      have h5 := mul_in e2.1 e2.2 a2.1 a2.2
                      have h6 : (wkM p).2.1 * (steep - 25) = (wkM p).2.1 * steep - (wkM p).2.1 * 25 := Int.mul_sub _ _ _
                      have hF : (brkM p steep).1 = decide ((wkM p).2.1 * (steep - 25) > 3 * strn p[k]) := by rw [a3]; exact e4 steep
                      refine AWP.skip ?_
                      refine AWP.seq ?_
                      refine AWP.seq ?_
                      refine AWP.region ?_
                      refine AOps.call (o_move _ rfl rfl) ?_
                      refine AOps.call (o_bin _ _ rfl rfl (fun _ => rfl) rfl) ?_
                      refine AOps.call (o_move _ rfl rfl) ?_
                      refine AOps.split rfl rfl rfl (fun h454 => ?_) (fun h454 => ?_)
                      · skip
                        refine AOps.go rfl rfl rfl h454 (o_move _ rfl rfl) ?_
                        refine AOps.go rfl rfl rfl h454 (o_fieldRef _ rfl fa24_0 rfl rfl) ?_
                        refine AOps.go rfl rfl rfl h454 (o_loadRef _ rfl rfl Tryd.sizeOf22 Tryd.isAgg22 rfl rfl rfl) ?_
                        refine AOps.go rfl rfl rfl h454 (o_len _ Tryd.underlying22 rfl rfl) ?_
                        refine AOps.go rfl rfl rfl h454 (o_bin _ _ rfl rfl (fun _ => rfl) rfl) ?_
                        refine AOps.call (o_pickF _ _ _ rfl h454 rfl rfl) ?_
                        refine AOps.nil ?_
                        refine AWP.cond _ rfl (fun h459 => ?_) (fun h459 => ?_)
                        · skip
                          exfalso
                          have hq := of_decide_eq_true h459
                          omega
                        · skip
                          refine AWP.skip ?_
                          refine AWP.seq ?_
                          refine AWP.region ?_
                          refine AOps.call (o_move _ rfl rfl) ?_
                          refine AOps.call (o_move _ rfl rfl) ?_
                          refine AOps.call (o_move _ rfl rfl) ?_
                          refine AOps.call (o_sub _ _ rfl rfl ⟨by (try dsimp only); omega, by (try dsimp only); omega⟩ rfl) ?_
                          refine AOps.call (o_mul _ _ rfl rfl ⟨by omega, by omega⟩ rfl) ?_
                          refine AOps.call (o_fieldRef _ rfl fa24_0 rfl rfl) ?_
                          refine AOps.call (o_loadRef _ rfl rfl Tryd.sizeOf22 Tryd.isAgg22 rfl rfl rfl) ?_
                          refine AOps.call (o_move _ rfl rfl) ?_
                          refine AOps.call (o_index _ _ Tryd.underlying22 Tryd.sizeOf28 rfl rfl (by omega) hel rfl rfl) ?_
                          refine AOps.call (o_loadRd _ rfl Tryd.sizeOf28 Tryd.isAgg28 rfl rfl rfl) ?_
                          refine AOps.call (o_call (Strength_s p[k] hlk) Tryd.call56 rfl rfl) ?_
                          refine AOps.call (o_mul _ _ rfl rfl ⟨by omega, by omega⟩ rfl) ?_
                          refine AOps.call (o_bin _ _ rfl rfl (fun _ => rfl) rfl) ?_
                          refine AOps.call (o_bin _ _ rfl rfl (fun _ => rfl) rfl) ?_
                          refine AOps.call (o_assign _ rfl rfl) ?_
                          refine AOps.nil ?_
                          refine AWP.ret ?_
                          first
                          | exact postQ.ret1 Tryd.results13 rfl rfl
                          | (refine postQ.ret1 Tryd.results13 rfl ?_; rw [hF]; simp [AV.close, AV.close.closeL, B, I]; done)
                      · skip
                        exfalso
                        have hq := of_decide_eq_true h454
                        omega
                · skip
                  exfalso
                  have hq := of_decide_eq_true h433
                  omega
              · skip
                exfalso
                have hq := of_decide_eq_true h431
                omega
            · skip
              exfalso
              exact absurd h429 (by decide)
      · skip
        refine AOps.pass rfl rfl rfl h19 rfl ?_
        refine AOps.pass rfl rfl rfl h19 rfl ?_
        refine AOps.pass rfl rfl rfl h19 rfl ?_
        refine AOps.pass rfl rfl rfl h19 rfl ?_
        refine AOps.passU rfl rfl rfl rfl ?_
        refine AOps.pass rfl rfl rfl h19 rfl ?_
        refine AOps.pass rfl rfl rfl h19 rfl ?_
        refine AOps.passU rfl rfl rfl rfl ?_
        refine AOps.passU rfl rfl rfl rfl ?_
        refine AOps.pass rfl rfl rfl h19 rfl ?_
        refine AOps.pass rfl rfl rfl h19 rfl ?_
        refine AOps.passU rfl rfl rfl rfl ?_
        refine AOps.passU rfl rfl rfl rfl ?_
        refine AOps.passU rfl rfl rfl rfl ?_
        refine AOps.passU rfl rfl rfl rfl ?_
        refine AOps.passU rfl rfl rfl rfl ?_
        refine AOps.passU rfl rfl rfl rfl ?_
        refine AOps.passU rfl rfl rfl rfl ?_
        refine AOps.passU rfl rfl rfl rfl ?_
        refine AOps.passU rfl rfl rfl rfl ?_
        refine AOps.passU rfl rfl rfl rfl ?_
        refine AOps.pass rfl rfl rfl h19 rfl ?_
        refine AOps.call (o_pickF _ _ _ rfl h19 rfl rfl) ?_
        refine AOps.nil ?_
        refine AWP.condF rfl ?_
        refine AWP.skip ?_
        refine AWP.seq ?_
        refine AWP.region ?_
        refine AOps.call (o_loadRef _ rfl rfl Tryd.sizeOf24 Tryd.isAgg24 rfl rfl rfl) ?_
        refine AOps.call (o_call (steep_ok a1) Tryd.call48 rfl rfl) ?_
        refine AOps.call (o_move _ rfl rfl) ?_
        refine AOps.call (o_extract _ rfl rfl rfl rfl) ?_
        refine AOps.call (o_extract _ rfl rfl rfl rfl) ?_
        refine AOps.call (o_assign _ rfl rfl) ?_
        refine AOps.call (o_assign _ rfl rfl) ?_
        refine AOps.nil ?_
        refine AWP.seq ?_
        refine AWP.seq ?_
        refine AWP.region ?_
        refine AOps.call (o_move _ rfl rfl) ?_
        refine AOps.call (o_bin _ _ rfl rfl (fun _ => rfl) rfl) ?_
        refine AOps.call (o_move _ rfl rfl) ?_
        refine AOps.split rfl rfl rfl (fun h476 => ?_) (fun h476 => ?_)
        · skip
          refine AOps.go rfl rfl rfl h476 (o_move _ rfl rfl) ?_
          refine AOps.go rfl rfl rfl h476 (o_bin _ _ rfl rfl (fun _ => rfl) rfl) ?_
          refine AOps.call (o_pickF _ _ _ rfl h476 rfl rfl) ?_
          refine AOps.call (o_move _ rfl rfl) ?_
          refine AOps.split rfl rfl rfl (fun h478 => ?_) (fun h478 => ?_)
          · skip
            refine AOps.go rfl rfl rfl h478 (o_move _ rfl rfl) ?_
            refine AOps.go rfl rfl rfl h478 (o_bin _ _ rfl rfl (fun _ => rfl) rfl) ?_
            refine AOps.call (o_pickF _ _ _ rfl h478 rfl rfl) ?_
            refine AOps.call (o_move _ rfl rfl) ?_
            refine AOps.split rfl rfl rfl (fun h480 => ?_) (fun h480 => ?_)
            · skip
              refine AOps.go rfl rfl rfl h480 (o_move _ rfl rfl) ?_
              refine AOps.go rfl rfl rfl h480 (o_move _ rfl rfl) ?_
              refine AOps.go rfl rfl rfl h480 (o_move _ rfl rfl) ?_
              refine AOps.go rfl rfl rfl h480 (o_bin _ _ rfl rfl (fun _ => rfl) rfl) ?_
              refine AOps.go rfl rfl rfl h480 (o_bin _ _ rfl rfl (fun _ => rfl) rfl) ?_
              refine AOps.call (o_pickF _ _ _ rfl h480 rfl rfl) ?_
              refine AOps.nil ?_
              refine AWP.cond _ rfl (fun h484 => ?_) (fun h484 => ?_)
              · skip
                exfalso
                rw [hM] at h484
                simp at h484
              · skip
                refine AWP.skip ?_
                refine AWP.seq ?_
                refine AWP.region ?_
                refine AOps.call (o_loadRef _ rfl rfl Tryd.sizeOf24 Tryd.isAgg24 rfl rfl rfl) ?_
                refine AOps.call (o_call (Weakest_s p) Tryd.call44 rfl rfl) ?_
                refine AOps.call (o_move _ rfl rfl) ?_
                refine AOps.call (o_extract _ rfl rfl rfl rfl) ?_
                refine AOps.call (o_extract _ rfl rfl rfl rfl) ?_
                refine AOps.call (o_extract _ rfl rfl rfl rfl) ?_
                refine AOps.call (o_assign _ rfl rfl) ?_
                refine AOps.call (o_assign _ rfl rfl) ?_
                refine AOps.call (o_assign _ rfl rfl) ?_
                refine AOps.nil ?_
                refine AWP.seq ?_
                refine AWP.seq ?_
                refine AWP.region ?_
                refine AOps.call (o_move _ rfl rfl) ?_
                refine AOps.call (o_bin _ _ rfl rfl (fun _ => rfl) rfl) ?_
                refine AOps.nil ?_
                refine AWP.cond _ rfl (fun h491 => ?_) (fun h491 => ?_)
                · skip
                  have hwn : ¬ (wkM p).2.2 = 0 := by simpa using h491
                  have hz := wk_none a1 hwn
                  have hz4 := hz.2
                  have hl0 := lays_nil hz.1
                  have hF : (brkM p steep).1 = false := by rw [a3, hz.1]; rfl
                  refine AWP.seq ?_
                  refine AWP.region ?_
                  refine AOps.call (o_move _ rfl rfl) ?_
                  refine AOps.call (o_bin _ _ rfl rfl (fun _ => rfl) rfl) ?_
                  refine AOps.call (o_move _ rfl rfl) ?_
                  refine AOps.split rfl rfl rfl (fun h493 => ?_) (fun h493 => ?_)
                  · skip
                    refine AOps.go rfl rfl rfl h493 (o_fieldRef _ rfl fa24_0 rfl rfl) ?_
                    refine AOps.go rfl rfl rfl h493 (o_loadRef _ rfl rfl Tryd.sizeOf22 Tryd.isAgg22 rfl rfl rfl) ?_
                    refine AOps.go rfl rfl rfl h493 (o_len _ Tryd.underlying22 rfl rfl) ?_
                    refine AOps.go rfl rfl rfl h493 (o_bin _ _ rfl rfl (fun _ => rfl) rfl) ?_
                    refine AOps.call (o_pickT _ _ _ rfl h493 rfl rfl) ?_
                    refine AOps.call (o_move _ rfl rfl) ?_
                    refine AOps.split rfl rfl rfl (fun h498 => ?_) (fun h498 => ?_)
                    · skip
                      refine AOps.go rfl rfl rfl h498 (o_move _ rfl rfl) ?_
                      refine AOps.go rfl rfl rfl h498 (o_un _ rfl (fun _ => rfl) rfl) ?_
                      refine AOps.call (o_pickT _ _ _ rfl h498 rfl rfl) ?_
                      refine AOps.call (o_assign _ rfl rfl) ?_
                      refine AOps.nil ?_
                      refine AWP.ret ?_
                      first
                      | exact postQ.ret1 Tryd.results13 rfl rfl
                      | (refine postQ.ret1 Tryd.results13 rfl ?_; rw [hF]; simp [AV.close, AV.close.closeL, B, I]; done)
                    · skip
                      exfalso
                      simp [hl0] at h498
                  · skip
                    exfalso
                    rw [hz4] at h493
                    exact absurd h493 (by decide)
                · skip
                  have hws : (wkM p).2.2 = 0 := by simpa using h491
                  obtain ⟨k, hk, e1, e2, e3, e4⟩ := wk_some a1 hws
                  have hel : (lays p)[((wkM p).1).toNat]? = some (eL p[k]) := by rw [e1]; exact lays_at hk
                  have hlk := (packE_0.1 a1).2.1 _ (List.getElem_mem hk)
                  have h5 := mul_in e2.1 e2.2 a2.1 a2.2
                  have h6 : (wkM p).2.1 * (steep - 25) = (wkM p).2.1 * steep - (wkM p).2.1 * 25 := Int.mul_sub _ _ _
                  have hF : (brkM p steep).1 = decide ((wkM p).2.1 * (steep - 25) > 3 * strn p[k]) := by rw [a3]; exact e4 steep
                  refine AWP.skip ?_
                  refine AWP.seq ?_
                  refine AWP.seq ?_
                  refine AWP.region ?_
                  refine AOps.call (o_move _ rfl rfl) ?_
                  refine AOps.call (o_bin _ _ rfl rfl (fun _ => rfl) rfl) ?_
                  refine AOps.call (o_move _ rfl rfl) ?_
                  refine AOps.split rfl rfl rfl (fun h501 => ?_) (fun h501 => ?_)
                  · skip
                    refine AOps.go rfl rfl rfl h501 (o_move _ rfl rfl) ?_
                    refine AOps.go rfl rfl rfl h501 (o_fieldRef _ rfl fa24_0 rfl rfl) ?_
                    refine AOps.go rfl rfl rfl h501 (o_loadRef _ rfl rfl Tryd.sizeOf22 Tryd.isAgg22 rfl rfl rfl) ?_
                    refine AOps.go rfl rfl rfl h501 (o_len _ Tryd.underlying22 rfl rfl) ?_
                    refine AOps.go rfl rfl rfl h501 (o_bin _ _ rfl rfl (fun _ => rfl) rfl) ?_
                    refine AOps.call (o_pickF _ _ _ rfl h501 rfl rfl) ?_
                    refine AOps.nil ?_
                    refine AWP.cond _ rfl (fun h506 => ?_) (fun h506 => ?_)
                    · skip
                      exfalso
                      have hq := of_decide_eq_true h506
                      omega
                    · skip
                      refine AWP.skip ?_
                      refine AWP.seq ?_
                      refine AWP.region ?_
                      refine AOps.call (o_move _ rfl rfl) ?_
                      refine AOps.call (o_move _ rfl rfl) ?_
                      refine AOps.call (o_move _ rfl rfl) ?_
                      refine AOps.call (o_sub _ _ rfl rfl ⟨by (try dsimp only); omega, by (try dsimp only); omega⟩ rfl) ?_
                      refine AOps.call (o_mul _ _ rfl rfl ⟨by omega, by omega⟩ rfl) ?_
                      refine AOps.call (o_fieldRef _ rfl fa24_0 rfl rfl) ?_
                      refine AOps.call (o_loadRef _ rfl rfl Tryd.sizeOf22 Tryd.isAgg22 rfl rfl rfl) ?_
                      refine AOps.call (o_move _ rfl rfl) ?_
                      refine AOps.call (o_index _ _ Tryd.underlying22 Tryd.sizeOf28 rfl rfl (by omega) hel rfl rfl) ?_
                      refine AOps.call (o_loadRd _ rfl Tryd.sizeOf28 Tryd.isAgg28 rfl rfl rfl) ?_
                      refine AOps.call (o_call (Strength_s p[k] hlk) Tryd.call56 rfl rfl) ?_
                      refine AOps.call (o_mul _ _ rfl rfl ⟨by omega, by omega⟩ rfl) ?_
                      refine AOps.call (o_bin _ _ rfl rfl (fun _ => rfl) rfl) ?_
                      refine AOps.call (o_bin _ _ rfl rfl (fun _ => rfl) rfl) ?_
                      refine AOps.call (o_assign _ rfl rfl) ?_
                      refine AOps.nil ?_
                      refine AWP.ret ?_
                      first
                      | exact postQ.ret1 Tryd.results13 rfl rfl
                      | (refine postQ.ret1 Tryd.results13 rfl ?_; rw [hF]; simp [AV.close, AV.close.closeL, B, I]; done)
                  · skip
                    exfalso
                    have hq := of_decide_eq_true h501
                    omega
            · skip
              exfalso
              have hq := of_decide_eq_true h480
              omega
          · skip
            exfalso
            have hq := of_decide_eq_true h478
            omega
        · skip
          exfalso
          exact absurd h476 (by decide)

set_option maxHeartbeats 4000000 in
set_option maxRecDepth 20000 in
theorem PackLess_s (p q r : List Lay) (s : Stp) : FSpecG Tryd.prog TAB 14 [.agg (eK p), .agg (eK q), .agg (eK r), .agg (eT s)] (B true) (none) := by
  refine FSpecG.of_body tab_stable Tryd.func14 rfl (leB rfl) fun w0 M0 hG => ?_
  refine AWP.seq ?_
  refine AWP.region ?_
  refine AOps.call (o_box _ rfl rfl rfl) ?_
  refine AOps.call (o_box _ rfl rfl rfl) ?_
  refine AOps.call (o_box _ rfl rfl rfl) ?_
  refine AOps.call (o_box _ rfl rfl rfl) ?_
  refine AOps.call (o_assign _ rfl rfl) ?_
  refine AOps.nil ?_
  refine AWP.seq ?_
  refine AWP.seq ?_
  refine AWP.region ?_
  refine AOps.call (o_callG (sane_s) hG Tryd.call18 rfl rfl) ?_
  refine AOps.call (o_un _ rfl (fun _ => rfl) rfl) ?_
  refine AOps.nil ?_
  refine AWP.cond _ rfl (fun h7 => ?_) (fun h7 => ?_)
  · skip
    exfalso
    simp at h7
  · skip
    refine AWP.skip ?_
    refine AWP.seq ?_
    refine AWP.seq ?_
    refine AWP.region ?_
    refine AOps.call (o_loadRef _ rfl rfl Tryd.sizeOf24 Tryd.isAgg24 rfl rfl rfl) ?_
    refine AOps.call (o_call (Check_s p) Tryd.call26 rfl rfl) ?_
    refine AOps.call (o_bin _ _ rfl rfl (fun _ => rfl) rfl) ?_
    refine AOps.call (o_move _ rfl rfl) ?_
    refine AOps.split rfl rfl rfl (fun h11 => ?_) (fun h11 => ?_)
    · skip
      have a1 : packE p = 0 := by simpa using h11
      have b1 := packE_bd a1
      refine AOps.go rfl rfl rfl h11 (o_loadRef _ rfl rfl Tryd.sizeOf24 Tryd.isAgg24 rfl rfl rfl) ?_
      refine AOps.go rfl rfl rfl h11 (o_call (Check_s q) Tryd.call26 rfl rfl) ?_
      refine AOps.go rfl rfl rfl h11 (o_bin _ _ rfl rfl (fun _ => rfl) rfl) ?_
      refine AOps.call (o_pickF _ _ _ rfl h11 rfl rfl) ?_
      refine AOps.call (o_move _ rfl rfl) ?_
      refine AOps.split rfl rfl rfl (fun h15 => ?_) (fun h15 => ?_)
      · skip
        have a2 : packE q = 0 := by simpa using h15
        refine AOps.go rfl rfl rfl h15 (o_loadRef _ rfl rfl Tryd.sizeOf24 Tryd.isAgg24 rfl rfl rfl) ?_
        refine AOps.go rfl rfl rfl h15 (o_call (Check_s r) Tryd.call26 rfl rfl) ?_
        refine AOps.go rfl rfl rfl h15 (o_bin _ _ rfl rfl (fun _ => rfl) rfl) ?_
        refine AOps.call (o_pickF _ _ _ rfl h15 rfl rfl) ?_
        refine AOps.nil ?_
        refine AWP.cond _ rfl (fun h19 => ?_) (fun h19 => ?_)
        · skip
          refine AWP.seq ?_
          refine AWP.region ?_
          refine AOps.call (o_assign _ rfl rfl) ?_
          refine AOps.nil ?_
          refine AWP.ret ?_
          first
          | exact postQ.ret1 Tryd.results14 rfl rfl
          | (refine postQ.ret1 Tryd.results14 rfl ?_; rw [hF]; simp [AV.close, AV.close.closeL, B, I]; done)
        · skip
          have a3 : packE r = 0 := by simpa using h19
          refine AWP.skip ?_
          refine AWP.seq ?_
          refine AWP.region ?_
          refine AOps.call (o_loadRef _ rfl rfl Tryd.sizeOf24 Tryd.isAgg24 rfl rfl rfl) ?_
          refine AOps.call (o_loadRef _ rfl rfl Tryd.sizeOf24 Tryd.isAgg24 rfl rfl rfl) ?_
          refine AOps.call (o_call (less_ok a1 a1) Tryd.call50 rfl rfl) ?_
          refine AOps.call (o_move _ rfl rfl) ?_
          refine AOps.call (o_extract _ rfl rfl rfl rfl) ?_
          refine AOps.call (o_extract _ rfl rfl rfl rfl) ?_
          refine AOps.call (o_assign _ rfl rfl) ?_
          refine AOps.call (o_assign _ rfl rfl) ?_
          refine AOps.nil ?_
          refine AWP.seq ?_
          refine AWP.region ?_
          refine AOps.call (o_loadRef _ rfl rfl Tryd.sizeOf24 Tryd.isAgg24 rfl rfl rfl) ?_
          refine AOps.call (o_loadRef _ rfl rfl Tryd.sizeOf24 Tryd.isAgg24 rfl rfl rfl) ?_
          refine AOps.call (o_call (less_ok a1 a2) Tryd.call50 rfl rfl) ?_
          refine AOps.call (o_move _ rfl rfl) ?_
          refine AOps.call (o_extract _ rfl rfl rfl rfl) ?_
          refine AOps.call (o_extract _ rfl rfl rfl rfl) ?_
          refine AOps.call (o_assign _ rfl rfl) ?_
          refine AOps.call (o_assign _ rfl rfl) ?_
          refine AOps.nil ?_
          refine AWP.seq ?_
          refine AWP.region ?_
          refine AOps.call (o_loadRef _ rfl rfl Tryd.sizeOf24 Tryd.isAgg24 rfl rfl rfl) ?_
          refine AOps.call (o_loadRef _ rfl rfl Tryd.sizeOf24 Tryd.isAgg24 rfl rfl rfl) ?_
          refine AOps.call (o_call (less_ok a2 a1) Tryd.call50 rfl rfl) ?_
          refine AOps.call (o_move _ rfl rfl) ?_
          refine AOps.call (o_extract _ rfl rfl rfl rfl) ?_
          refine AOps.call (o_extract _ rfl rfl rfl rfl) ?_
          refine AOps.call (o_assign _ rfl rfl) ?_
          refine AOps.call (o_assign _ rfl rfl) ?_
          refine AOps.nil ?_
          refine AWP.seq ?_
          refine AWP.region ?_
          refine AOps.call (o_loadRef _ rfl rfl Tryd.sizeOf24 Tryd.isAgg24 rfl rfl rfl) ?_
          refine AOps.call (o_loadRef _ rfl rfl Tryd.sizeOf24 Tryd.isAgg24 rfl rfl rfl) ?_
          refine AOps.call (o_call (less_ok a2 a3) Tryd.call50 rfl rfl) ?_
          refine AOps.call (o_move _ rfl rfl) ?_
          refine AOps.call (o_extract _ rfl rfl rfl rfl) ?_
          refine AOps.call (o_extract _ rfl rfl rfl rfl) ?_
          refine AOps.call (o_assign _ rfl rfl) ?_
          refine AOps.call (o_assign _ rfl rfl) ?_
          refine AOps.nil ?_
          refine AWP.seq ?_
          refine AWP.region ?_
          refine AOps.call (o_loadRef _ rfl rfl Tryd.sizeOf24 Tryd.isAgg24 rfl rfl rfl) ?_
          refine AOps.call (o_loadRef _ rfl rfl Tryd.sizeOf24 Tryd.isAgg24 rfl rfl rfl) ?_
          refine AOps.call (o_call (less_ok a1 a3) Tryd.call50 rfl rfl) ?_
          refine AOps.call (o_move _ rfl rfl) ?_
          refine AOps.call (o_extract _ rfl rfl rfl rfl) ?_
          refine AOps.call (o_extract _ rfl rfl rfl rfl) ?_
          refine AOps.call (o_assign _ rfl rfl) ?_
          refine AOps.call (o_assign _ rfl rfl) ?_
          refine AOps.nil ?_
          refine AWP.seq ?_
          refine AWP.seq ?_
          refine AWP.region ?_
          refine AOps.call (o_move _ rfl rfl) ?_
          refine AOps.call (o_bin _ _ rfl rfl (fun _ => rfl) rfl) ?_
          refine AOps.call (o_move _ rfl rfl) ?_
          refine AOps.split rfl rfl rfl (fun h46 => ?_) (fun h46 => ?_)
          · skip
            refine AOps.go rfl rfl rfl h46 (o_move _ rfl rfl) ?_
            refine AOps.go rfl rfl rfl h46 (o_bin _ _ rfl rfl (fun _ => rfl) rfl) ?_
            refine AOps.call (o_pickF _ _ _ rfl h46 rfl rfl) ?_
            refine AOps.call (o_move _ rfl rfl) ?_
            refine AOps.split rfl rfl rfl (fun h48 => ?_) (fun h48 => ?_)
            · skip
              refine AOps.go rfl rfl rfl h48 (o_move _ rfl rfl) ?_
              refine AOps.go rfl rfl rfl h48 (o_bin _ _ rfl rfl (fun _ => rfl) rfl) ?_
              refine AOps.call (o_pickF _ _ _ rfl h48 rfl rfl) ?_
              refine AOps.call (o_move _ rfl rfl) ?_
              refine AOps.split rfl rfl rfl (fun h50 => ?_) (fun h50 => ?_)
              · skip
                refine AOps.go rfl rfl rfl h50 (o_move _ rfl rfl) ?_
                refine AOps.go rfl rfl rfl h50 (o_bin _ _ rfl rfl (fun _ => rfl) rfl) ?_
                refine AOps.call (o_pickF _ _ _ rfl h50 rfl rfl) ?_
                refine AOps.call (o_move _ rfl rfl) ?_
                refine AOps.split rfl rfl rfl (fun h52 => ?_) (fun h52 => ?_)
                · skip
                  refine AOps.go rfl rfl rfl h52 (o_move _ rfl rfl) ?_
                  refine AOps.go rfl rfl rfl h52 (o_bin _ _ rfl rfl (fun _ => rfl) rfl) ?_
                  refine AOps.call (o_pickF _ _ _ rfl h52 rfl rfl) ?_
                  refine AOps.call (o_move _ rfl rfl) ?_
                  refine AOps.split rfl rfl rfl (fun h54 => ?_) (fun h54 => ?_)
                  · skip
                    refine AOps.go rfl rfl rfl h54 (o_move _ rfl rfl) ?_
                    refine AOps.go rfl rfl rfl h54 (o_un _ rfl (fun _ => rfl) rfl) ?_
                    refine AOps.call (o_pickF _ _ _ rfl h54 rfl rfl) ?_
                    refine AOps.call (o_move _ rfl rfl) ?_
                    refine AOps.split rfl rfl rfl (fun h56 => ?_) (fun h56 => ?_)
                    · skip
                      refine AOps.go rfl rfl rfl h56 (o_move _ rfl rfl) ?_
                      refine AOps.go rfl rfl rfl h56 (o_move _ rfl rfl) ?_
                      refine AOps.split rfl rfl rfl (fun h57 => ?_) (fun h57 => ?_)
                      · skip
                        have g1 := h57
                        have hsum := less_sum (packE_0.1 a2).2.1 g1
                        refine AOps.go rfl rfl rfl h57 (o_move _ rfl rfl) ?_
                        refine AOps.go rfl rfl rfl h56 (o_pickT _ _ _ rfl h57 rfl rfl) ?_
                        refine AOps.go rfl rfl rfl h56 (o_loadRef _ rfl rfl Tryd.sizeOf24 Tryd.isAgg24 rfl rfl rfl) ?_
                        refine AOps.go rfl rfl rfl h56 (o_loadRef _ rfl rfl Tryd.sizeOf24 Tryd.isAgg24 rfl rfl rfl) ?_
                        refine AOps.go rfl rfl rfl h56 (o_call (Same_s p q (by omega)) Tryd.call33 rfl rfl) ?_
                        refine AOps.go rfl rfl rfl h56 (o_bin _ _ rfl rfl (fun _ => rfl) rfl) ?_
                        refine AOps.call (o_pickF _ _ _ rfl h56 rfl rfl) ?_
                        refine AOps.call (o_move _ rfl rfl) ?_
                        refine AOps.split rfl rfl rfl (fun h62 => ?_) (fun h62 => ?_)
                        · skip
                          refine AOps.go rfl rfl rfl h62 (o_move _ rfl rfl) ?_
                          refine AOps.go rfl rfl rfl h62 (o_move _ rfl rfl) ?_
                          refine AOps.go rfl rfl rfl h57 (o_move _ rfl rfl) ?_
                          refine AOps.go rfl rfl rfl h62 (o_pickT _ _ _ rfl h57 rfl rfl) ?_
                          refine AOps.go rfl rfl rfl h62 (o_move _ rfl rfl) ?_
                          refine AOps.split rfl rfl rfl (fun h63 => ?_) (fun h63 => ?_)
                          · skip
                            have g2 := h63
                            refine AOps.go rfl rfl rfl h63 (o_move _ rfl rfl) ?_
                            refine AOps.go rfl rfl rfl h63 (o_un _ rfl (fun _ => rfl) rfl) ?_
                            refine AOps.go rfl rfl rfl h62 (o_pickT _ _ _ rfl h63 rfl rfl) ?_
                            refine AOps.call (o_pickF _ _ _ rfl h62 rfl rfl) ?_
                            refine AOps.nil ?_
                            refine AWP.cond _ rfl (fun h65 => ?_) (fun h65 => ?_)
                            · skip
                              exfalso
                              rw [less_trans g1 g2] at h65
                              exact absurd h65 (by decide)
                            · skip
                              refine AWP.skip ?_
                              refine AWP.seq ?_
                              refine AWP.region ?_
                              refine AOps.call (o_loadRef _ rfl rfl Tryd.sizeOf24 Tryd.isAgg24 rfl rfl rfl) ?_
                              refine AOps.call (o_call (water_ok a1) Tryd.call22 rfl rfl) ?_
                              refine AOps.call (o_move _ rfl rfl) ?_
                              refine AOps.call (o_extract _ rfl rfl rfl rfl) ?_
                              refine AOps.call (o_extract _ rfl rfl rfl rfl) ?_
                              refine AOps.call (o_assign _ rfl rfl) ?_
                              refine AOps.call (o_assign _ rfl rfl) ?_
                              refine AOps.nil ?_
                              refine AWP.seq ?_
                              refine AWP.region ?_
                              refine AOps.call (o_loadRef _ rfl rfl Tryd.sizeOf24 Tryd.isAgg24 rfl rfl rfl) ?_
                              refine AOps.call (o_call (water_ok a2) Tryd.call22 rfl rfl) ?_
                              refine AOps.call (o_move _ rfl rfl) ?_
                              refine AOps.call (o_extract _ rfl rfl rfl rfl) ?_
                              refine AOps.call (o_extract _ rfl rfl rfl rfl) ?_
                              refine AOps.call (o_assign _ rfl rfl) ?_
                              refine AOps.call (o_assign _ rfl rfl) ?_
                              refine AOps.nil ?_
                              refine AWP.seq ?_
                              refine AWP.region ?_
                              refine AOps.call (o_loadRef _ rfl rfl Tryd.sizeOf24 Tryd.isAgg24 rfl rfl rfl) ?_
                              refine AOps.call (o_call (cold_ok a1) Tryd.call24 rfl rfl) ?_
                              refine AOps.call (o_move _ rfl rfl) ?_
                              refine AOps.call (o_extract _ rfl rfl rfl rfl) ?_
                              refine AOps.call (o_extract _ rfl rfl rfl rfl) ?_
                              refine AOps.call (o_assign _ rfl rfl) ?_
                              refine AOps.call (o_assign _ rfl rfl) ?_
                              refine AOps.nil ?_
                              refine AWP.seq ?_
                              refine AWP.region ?_
                              refine AOps.call (o_loadRef _ rfl rfl Tryd.sizeOf24 Tryd.isAgg24 rfl rfl rfl) ?_
                              refine AOps.call (o_call (cold_ok a2) Tryd.call24 rfl rfl) ?_
                              refine AOps.call (o_move _ rfl rfl) ?_
                              refine AOps.call (o_extract _ rfl rfl rfl rfl) ?_
                              refine AOps.call (o_extract _ rfl rfl rfl rfl) ?_
                              refine AOps.call (o_assign _ rfl rfl) ?_
                              refine AOps.call (o_assign _ rfl rfl) ?_
                              refine AOps.nil ?_
                              refine AWP.seq ?_
                              refine AWP.seq ?_
                              refine AWP.region ?_
                              refine AOps.call (o_move _ rfl rfl) ?_
                              refine AOps.call (o_bin _ _ rfl rfl (fun _ => rfl) rfl) ?_
                              refine AOps.call (o_move _ rfl rfl) ?_
                              refine AOps.split rfl rfl rfl (fun h83 => ?_) (fun h83 => ?_)
                              · skip
                                refine AOps.go rfl rfl rfl h83 (o_move _ rfl rfl) ?_
                                refine AOps.go rfl rfl rfl h83 (o_bin _ _ rfl rfl (fun _ => rfl) rfl) ?_
                                refine AOps.call (o_pickF _ _ _ rfl h83 rfl rfl) ?_
                                refine AOps.call (o_move _ rfl rfl) ?_
                                refine AOps.split rfl rfl rfl (fun h85 => ?_) (fun h85 => ?_)
                                · skip
                                  refine AOps.go rfl rfl rfl h85 (o_move _ rfl rfl) ?_
                                  refine AOps.go rfl rfl rfl h85 (o_bin _ _ rfl rfl (fun _ => rfl) rfl) ?_
                                  refine AOps.call (o_pickF _ _ _ rfl h85 rfl rfl) ?_
                                  refine AOps.call (o_move _ rfl rfl) ?_
                                  refine AOps.split rfl rfl rfl (fun h87 => ?_) (fun h87 => ?_)
                                  · skip
                                    refine AOps.go rfl rfl rfl h87 (o_move _ rfl rfl) ?_
                                    refine AOps.go rfl rfl rfl h87 (o_bin _ _ rfl rfl (fun _ => rfl) rfl) ?_
                                    refine AOps.call (o_pickF _ _ _ rfl h87 rfl rfl) ?_
                                    refine AOps.call (o_move _ rfl rfl) ?_
                                    refine AOps.split rfl rfl rfl (fun h89 => ?_) (fun h89 => ?_)
                                    · skip
                                      refine AOps.go rfl rfl rfl h89 (o_move _ rfl rfl) ?_
                                      refine AOps.go rfl rfl rfl h89 (o_move _ rfl rfl) ?_
                                      refine AOps.go rfl rfl rfl h57 (o_move _ rfl rfl) ?_
                                      refine AOps.go rfl rfl rfl h57 (o_move _ rfl rfl) ?_
                                      refine AOps.go rfl rfl rfl h57 (o_bin _ _ rfl rfl (fun _ => rfl) rfl) ?_
                                      refine AOps.go rfl rfl rfl h57 (o_move _ rfl rfl) ?_
                                      refine AOps.split rfl rfl rfl (fun h91 => ?_) (fun h91 => ?_)
                                      · skip
                                        refine AOps.go rfl rfl rfl h91 (o_move _ rfl rfl) ?_
                                        refine AOps.go rfl rfl rfl h91 (o_move _ rfl rfl) ?_
                                        refine AOps.go rfl rfl rfl h91 (o_bin _ _ rfl rfl (fun _ => rfl) rfl) ?_
                                        refine AOps.go rfl rfl rfl h57 (o_pickF _ _ _ rfl h91 rfl rfl) ?_
                                        refine AOps.go rfl rfl rfl h89 (o_pickT _ _ _ rfl h57 rfl rfl) ?_
                                        refine AOps.call (o_pickF _ _ _ rfl h89 rfl rfl) ?_
                                        refine AOps.nil ?_
                                        refine AWP.cond _ rfl (fun h93 => ?_) (fun h93 => ?_)
                                        · skip
                                          exfalso
                                          have hq := of_decide_eq_true h93
                                          omega
                                        · skip
                                          refine AWP.skip ?_
                                          refine AWP.seq ?_
                                          refine AWP.seq ?_
                                          refine AWP.region ?_
                                          refine AOps.call (o_fieldRef _ rfl fa26_0 rfl rfl) ?_
                                          refine AOps.call (o_loadRef _ rfl rfl Tryd.sizeOf3 Tryd.isAgg3 rfl rfl rfl) ?_
                                          refine AOps.call (o_bin _ _ rfl rfl (fun _ => rfl) rfl) ?_
                                          refine AOps.nil ?_
                                          refine AWP.cond _ rfl (fun h97 => ?_) (fun h97 => ?_)
                                          · skip
                                            refine AWP.seq ?_
                                            refine AWP.region ?_
                                            refine AOps.call (o_assign _ rfl rfl) ?_
                                            refine AOps.nil ?_
                                            refine AWP.ret ?_
                                            first
                                            | exact postQ.ret1 Tryd.results14 rfl rfl
                                            | (refine postQ.ret1 Tryd.results14 rfl ?_; rw [hF]; simp [AV.close, AV.close.closeL, B, I]; done)
                                          · skip
                                            have hk : s.kind = 1 := by simpa using h97
                                            refine AWP.skip ?_
                                            refine AWP.seq ?_
                                            refine AWP.region ?_
                                            refine AOps.call (o_loadRef _ rfl rfl Tryd.sizeOf24 Tryd.isAgg24 rfl rfl rfl) ?_
                                            refine AOps.call (o_loadRef _ rfl rfl Tryd.sizeOf26 Tryd.isAgg26 rfl rfl rfl) ?_
                                            refine AOps.call (o_call (Apply_s p s) Tryd.call31 rfl rfl) ?_
                                            refine AOps.call (o_move _ rfl rfl) ?_
                                            refine AOps.call (o_extract _ rfl rfl rfl rfl) ?_
                                            refine AOps.call (o_extract _ rfl rfl rfl rfl) ?_
                                            refine AOps.call (o_extract _ rfl rfl rfl rfl) ?_
                                            refine AOps.call (o_alloc ze24 rfl rfl) ?_
                                            refine AOps.cons (o_store _ _ rfl rfl Tryd.sizeOf24 rfl rfl rfl rfl rfl) ?_
                                            refine AOps.call (o_assign _ rfl rfl) ?_
                                            refine AOps.call (o_assign _ rfl rfl) ?_
                                            refine AOps.nil ?_
                                            refine AWP.seq ?_
                                            refine AWP.seq ?_
                                            refine AWP.region ?_
                                            refine AOps.call (o_move _ rfl rfl) ?_
                                            refine AOps.call (o_bin _ _ rfl rfl (fun _ => rfl) rfl) ?_
                                            refine AOps.nil ?_
                                            refine AWP.cond _ rfl (fun h106 => ?_) (fun h106 => ?_)
                                            · skip
                                              refine AWP.seq ?_
                                              refine AWP.region ?_
                                              refine AOps.call (o_assign _ rfl rfl) ?_
                                              refine AOps.nil ?_
                                              refine AWP.ret ?_
                                              first
                                              | exact postQ.ret1 Tryd.results14 rfl rfl
                                              | (refine postQ.ret1 Tryd.results14 rfl ?_; rw [hF]; simp [AV.close, AV.close.closeL, B, I]; done)
                                            · skip
                                              have hok : (appM p s).2.2 = 0 := by simpa using h106
                                              have hsn := less_snow hk hok
                                              have hF := hsn.1
                                              refine AWP.skip ?_
                                              refine AWP.seq ?_
                                              refine AWP.region ?_
                                              refine AOps.call (o_loadRef _ rfl rfl Tryd.sizeOf24 Tryd.isAgg24 rfl rfl rfl) ?_
                                              refine AOps.call (o_loadRef _ rfl rfl Tryd.sizeOf24 Tryd.isAgg24 rfl rfl rfl) ?_
                                              refine AOps.call (o_call (less_ok a1 hsn.2) Tryd.call50 rfl rfl) ?_
                                              refine AOps.call (o_move _ rfl rfl) ?_
                                              refine AOps.call (o_extract _ rfl rfl rfl rfl) ?_
                                              refine AOps.call (o_extract _ rfl rfl rfl rfl) ?_
                                              refine AOps.call (o_assign _ rfl rfl) ?_
                                              refine AOps.call (o_assign _ rfl rfl) ?_
                                              refine AOps.nil ?_
                                              refine AWP.seq ?_
                                              refine AWP.region ?_
                                              refine AOps.call (o_move _ rfl rfl) ?_
                                              refine AOps.call (o_bin _ _ rfl rfl (fun _ => rfl) rfl) ?_
                                              refine AOps.call (o_move _ rfl rfl) ?_
                                              refine AOps.split rfl rfl rfl (fun h113 => ?_) (fun h113 => ?_)
                                              · skip
                                                refine AOps.go rfl rfl rfl h113 (o_move _ rfl rfl) ?_
                                                refine AOps.call (o_pickT _ _ _ rfl h113 rfl rfl) ?_
                                                refine AOps.call (o_assign _ rfl rfl) ?_
                                                refine AOps.nil ?_
                                                refine AWP.ret ?_
                                                first
                                                | exact postQ.ret1 Tryd.results14 rfl rfl
                                                | (refine postQ.ret1 Tryd.results14 rfl ?_; rw [hF]; simp [AV.close, AV.close.closeL, B, I]; done)
                                              · skip
                                                exfalso
                                                exact absurd h113 (by decide)
                                      · skip
                                        exfalso
                                        have hq := of_decide_eq_true h91
                                        omega
                                    · skip
                                      exfalso
                                      exact absurd h89 (by decide)
                                  · skip
                                    exfalso
                                    exact absurd h87 (by decide)
                                · skip
                                  exfalso
                                  exact absurd h85 (by decide)
                              · skip
                                exfalso
                                exact absurd h83 (by decide)
                          · skip
                            refine AOps.pass rfl rfl rfl h63 rfl ?_
                            refine AOps.pass rfl rfl rfl h63 rfl ?_
                            refine AOps.go rfl rfl rfl h62 (o_pickF _ _ _ rfl h63 rfl rfl) ?_
                            refine AOps.call (o_pickF _ _ _ rfl h62 rfl rfl) ?_
                            refine AOps.nil ?_
                            refine AWP.condF rfl ?_
                            refine AWP.skip ?_
                            refine AWP.seq ?_
                            refine AWP.region ?_
                            refine AOps.call (o_loadRef _ rfl rfl Tryd.sizeOf24 Tryd.isAgg24 rfl rfl rfl) ?_
                            refine AOps.call (o_call (water_ok a1) Tryd.call22 rfl rfl) ?_
                            refine AOps.call (o_move _ rfl rfl) ?_
                            refine AOps.call (o_extract _ rfl rfl rfl rfl) ?_
                            refine AOps.call (o_extract _ rfl rfl rfl rfl) ?_
                            refine AOps.call (o_assign _ rfl rfl) ?_
                            refine AOps.call (o_assign _ rfl rfl) ?_
                            refine AOps.nil ?_
                            refine AWP.seq ?_
                            refine AWP.region ?_
                            refine AOps.call (o_loadRef _ rfl rfl Tryd.sizeOf24 Tryd.isAgg24 rfl rfl rfl) ?_
                            refine AOps.call (o_call (water_ok a2) Tryd.call22 rfl rfl) ?_
                            refine AOps.call (o_move _ rfl rfl) ?_
                            refine AOps.call (o_extract _ rfl rfl rfl rfl) ?_
                            refine AOps.call (o_extract _ rfl rfl rfl rfl) ?_
                            refine AOps.call (o_assign _ rfl rfl) ?_
                            refine AOps.call (o_assign _ rfl rfl) ?_
                            refine AOps.nil ?_
                            refine AWP.seq ?_
                            refine AWP.region ?_
                            refine AOps.call (o_loadRef _ rfl rfl Tryd.sizeOf24 Tryd.isAgg24 rfl rfl rfl) ?_
                            refine AOps.call (o_call (cold_ok a1) Tryd.call24 rfl rfl) ?_
                            refine AOps.call (o_move _ rfl rfl) ?_
                            refine AOps.call (o_extract _ rfl rfl rfl rfl) ?_
                            refine AOps.call (o_extract _ rfl rfl rfl rfl) ?_
                            refine AOps.call (o_assign _ rfl rfl) ?_
                            refine AOps.call (o_assign _ rfl rfl) ?_
                            refine AOps.nil ?_
                            refine AWP.seq ?_
                            refine AWP.region ?_
                            refine AOps.call (o_loadRef _ rfl rfl Tryd.sizeOf24 Tryd.isAgg24 rfl rfl rfl) ?_
                            refine AOps.call (o_call (cold_ok a2) Tryd.call24 rfl rfl) ?_
                            refine AOps.call (o_move _ rfl rfl) ?_
                            refine AOps.call (o_extract _ rfl rfl rfl rfl) ?_
                            refine AOps.call (o_extract _ rfl rfl rfl rfl) ?_
                            refine AOps.call (o_assign _ rfl rfl) ?_
                            refine AOps.call (o_assign _ rfl rfl) ?_
                            refine AOps.nil ?_
                            refine AWP.seq ?_
                            refine AWP.seq ?_
                            refine AWP.region ?_
                            refine AOps.call (o_move _ rfl rfl) ?_
                            refine AOps.call (o_bin _ _ rfl rfl (fun _ => rfl) rfl) ?_
                            refine AOps.call (o_move _ rfl rfl) ?_
                            refine AOps.split rfl rfl rfl (fun h131 => ?_) (fun h131 => ?_)
                            · skip
                              refine AOps.go rfl rfl rfl h131 (o_move _ rfl rfl) ?_
                              refine AOps.go rfl rfl rfl h131 (o_bin _ _ rfl rfl (fun _ => rfl) rfl) ?_
                              refine AOps.call (o_pickF _ _ _ rfl h131 rfl rfl) ?_
                              refine AOps.call (o_move _ rfl rfl) ?_
                              refine AOps.split rfl rfl rfl (fun h133 => ?_) (fun h133 => ?_)
                              · skip
                                refine AOps.go rfl rfl rfl h133 (o_move _ rfl rfl) ?_
                                refine AOps.go rfl rfl rfl h133 (o_bin _ _ rfl rfl (fun _ => rfl) rfl) ?_
                                refine AOps.call (o_pickF _ _ _ rfl h133 rfl rfl) ?_
                                refine AOps.call (o_move _ rfl rfl) ?_
                                refine AOps.split rfl rfl rfl (fun h135 => ?_) (fun h135 => ?_)
                                · skip
                                  refine AOps.go rfl rfl rfl h135 (o_move _ rfl rfl) ?_
                                  refine AOps.go rfl rfl rfl h135 (o_bin _ _ rfl rfl (fun _ => rfl) rfl) ?_
                                  refine AOps.call (o_pickF _ _ _ rfl h135 rfl rfl) ?_
                                  refine AOps.call (o_move _ rfl rfl) ?_
                                  refine AOps.split rfl rfl rfl (fun h137 => ?_) (fun h137 => ?_)
                                  · skip
                                    refine AOps.go rfl rfl rfl h137 (o_move _ rfl rfl) ?_
                                    refine AOps.go rfl rfl rfl h137 (o_move _ rfl rfl) ?_
                                    refine AOps.go rfl rfl rfl h57 (o_move _ rfl rfl) ?_
                                    refine AOps.go rfl rfl rfl h57 (o_move _ rfl rfl) ?_
                                    refine AOps.go rfl rfl rfl h57 (o_bin _ _ rfl rfl (fun _ => rfl) rfl) ?_
                                    refine AOps.go rfl rfl rfl h57 (o_move _ rfl rfl) ?_
                                    refine AOps.split rfl rfl rfl (fun h139 => ?_) (fun h139 => ?_)
                                    · skip
                                      refine AOps.go rfl rfl rfl h139 (o_move _ rfl rfl) ?_
                                      refine AOps.go rfl rfl rfl h139 (o_move _ rfl rfl) ?_
                                      refine AOps.go rfl rfl rfl h139 (o_bin _ _ rfl rfl (fun _ => rfl) rfl) ?_
                                      refine AOps.go rfl rfl rfl h57 (o_pickF _ _ _ rfl h139 rfl rfl) ?_
                                      refine AOps.go rfl rfl rfl h137 (o_pickT _ _ _ rfl h57 rfl rfl) ?_
                                      refine AOps.call (o_pickF _ _ _ rfl h137 rfl rfl) ?_
                                      refine AOps.nil ?_
                                      refine AWP.cond _ rfl (fun h141 => ?_) (fun h141 => ?_)
                                      · skip
                                        exfalso
                                        have hq := of_decide_eq_true h141
                                        omega
                                      · skip
                                        refine AWP.skip ?_
                                        refine AWP.seq ?_
                                        refine AWP.seq ?_
                                        refine AWP.region ?_
                                        refine AOps.call (o_fieldRef _ rfl fa26_0 rfl rfl) ?_
                                        refine AOps.call (o_loadRef _ rfl rfl Tryd.sizeOf3 Tryd.isAgg3 rfl rfl rfl) ?_
                                        refine AOps.call (o_bin _ _ rfl rfl (fun _ => rfl) rfl) ?_
                                        refine AOps.nil ?_
                                        refine AWP.cond _ rfl (fun h145 => ?_) (fun h145 => ?_)
                                        · skip
                                          refine AWP.seq ?_
                                          refine AWP.region ?_
                                          refine AOps.call (o_assign _ rfl rfl) ?_
                                          refine AOps.nil ?_
                                          refine AWP.ret ?_
                                          first
                                          | exact postQ.ret1 Tryd.results14 rfl rfl
                                          | (refine postQ.ret1 Tryd.results14 rfl ?_; rw [hF]; simp [AV.close, AV.close.closeL, B, I]; done)
                                        · skip
                                          have hk : s.kind = 1 := by simpa using h145
                                          refine AWP.skip ?_
                                          refine AWP.seq ?_
                                          refine AWP.region ?_
                                          refine AOps.call (o_loadRef _ rfl rfl Tryd.sizeOf24 Tryd.isAgg24 rfl rfl rfl) ?_
                                          refine AOps.call (o_loadRef _ rfl rfl Tryd.sizeOf26 Tryd.isAgg26 rfl rfl rfl) ?_
                                          refine AOps.call (o_call (Apply_s p s) Tryd.call31 rfl rfl) ?_
                                          refine AOps.call (o_move _ rfl rfl) ?_
                                          refine AOps.call (o_extract _ rfl rfl rfl rfl) ?_
                                          refine AOps.call (o_extract _ rfl rfl rfl rfl) ?_
                                          refine AOps.call (o_extract _ rfl rfl rfl rfl) ?_
                                          refine AOps.call (o_alloc ze24 rfl rfl) ?_
                                          refine AOps.cons (o_store _ _ rfl rfl Tryd.sizeOf24 rfl rfl rfl rfl rfl) ?_
                                          refine AOps.call (o_assign _ rfl rfl) ?_
                                          refine AOps.call (o_assign _ rfl rfl) ?_
                                          refine AOps.nil ?_
                                          refine AWP.seq ?_
                                          refine AWP.seq ?_
                                          refine AWP.region ?_
                                          refine AOps.call (o_move _ rfl rfl) ?_
                                          refine AOps.call (o_bin _ _ rfl rfl (fun _ => rfl) rfl) ?_
                                          refine AOps.nil ?_
                                          refine AWP.cond _ rfl (fun h154 => ?_) (fun h154 => ?_)
                                          · skip
                                            refine AWP.seq ?_
                                            refine AWP.region ?_
                                            refine AOps.call (o_assign _ rfl rfl) ?_
                                            refine AOps.nil ?_
                                            refine AWP.ret ?_
                                            first
                                            | exact postQ.ret1 Tryd.results14 rfl rfl
                                            | (refine postQ.ret1 Tryd.results14 rfl ?_; rw [hF]; simp [AV.close, AV.close.closeL, B, I]; done)
                                          · skip
                                            have hok : (appM p s).2.2 = 0 := by simpa using h154
                                            have hsn := less_snow hk hok
                                            have hF := hsn.1
                                            refine AWP.skip ?_
                                            refine AWP.seq ?_
                                            refine AWP.region ?_
                                            refine AOps.call (o_loadRef _ rfl rfl Tryd.sizeOf24 Tryd.isAgg24 rfl rfl rfl) ?_
                                            refine AOps.call (o_loadRef _ rfl rfl Tryd.sizeOf24 Tryd.isAgg24 rfl rfl rfl) ?_
                                            refine AOps.call (o_call (less_ok a1 hsn.2) Tryd.call50 rfl rfl) ?_
                                            refine AOps.call (o_move _ rfl rfl) ?_
                                            refine AOps.call (o_extract _ rfl rfl rfl rfl) ?_
                                            refine AOps.call (o_extract _ rfl rfl rfl rfl) ?_
                                            refine AOps.call (o_assign _ rfl rfl) ?_
                                            refine AOps.call (o_assign _ rfl rfl) ?_
                                            refine AOps.nil ?_
                                            refine AWP.seq ?_
                                            refine AWP.region ?_
                                            refine AOps.call (o_move _ rfl rfl) ?_
                                            refine AOps.call (o_bin _ _ rfl rfl (fun _ => rfl) rfl) ?_
                                            refine AOps.call (o_move _ rfl rfl) ?_
                                            refine AOps.split rfl rfl rfl (fun h161 => ?_) (fun h161 => ?_)
                                            · skip
                                              refine AOps.go rfl rfl rfl h161 (o_move _ rfl rfl) ?_
                                              refine AOps.call (o_pickT _ _ _ rfl h161 rfl rfl) ?_
                                              refine AOps.call (o_assign _ rfl rfl) ?_
                                              refine AOps.nil ?_
                                              refine AWP.ret ?_
                                              first
                                              | exact postQ.ret1 Tryd.results14 rfl rfl
                                              | (refine postQ.ret1 Tryd.results14 rfl ?_; rw [hF]; simp [AV.close, AV.close.closeL, B, I]; done)
                                            · skip
                                              exfalso
                                              exact absurd h161 (by decide)
                                    · skip
                                      exfalso
                                      have hq := of_decide_eq_true h139
                                      omega
                                  · skip
                                    exfalso
                                    exact absurd h137 (by decide)
                                · skip
                                  exfalso
                                  exact absurd h135 (by decide)
                              · skip
                                exfalso
                                exact absurd h133 (by decide)
                            · skip
                              exfalso
                              exact absurd h131 (by decide)
                        · skip
                          exfalso
                          have ha := less_anti p q
                          rw [g1] at ha
                          rw [← ha] at h62
                          simp at h62
                      · skip
                        have g1 := h57
                        refine AOps.pass rfl rfl rfl h57 rfl ?_
                        refine AOps.go rfl rfl rfl h56 (o_pickF _ _ _ rfl h57 rfl rfl) ?_
                        refine AOps.go rfl rfl rfl h56 (o_loadRef _ rfl rfl Tryd.sizeOf24 Tryd.isAgg24 rfl rfl rfl) ?_
                        refine AOps.go rfl rfl rfl h56 (o_loadRef _ rfl rfl Tryd.sizeOf24 Tryd.isAgg24 rfl rfl rfl) ?_
                        refine AOps.go rfl rfl rfl h56 (o_call (Same_s p q (by omega)) Tryd.call33 rfl rfl) ?_
                        refine AOps.go rfl rfl rfl h56 (o_bin _ _ rfl rfl (fun _ => rfl) rfl) ?_
                        refine AOps.call (o_pickF _ _ _ rfl h56 rfl rfl) ?_
                        refine AOps.call (o_move _ rfl rfl) ?_
                        refine AOps.split rfl rfl rfl (fun h166 => ?_) (fun h166 => ?_)
                        · skip
                          refine AOps.go rfl rfl rfl h166 (o_move _ rfl rfl) ?_
                          refine AOps.go rfl rfl rfl h166 (o_move _ rfl rfl) ?_
                          refine AOps.pass rfl rfl rfl h57 rfl ?_
                          refine AOps.go rfl rfl rfl h166 (o_pickF _ _ _ rfl h57 rfl rfl) ?_
                          refine AOps.go rfl rfl rfl h166 (o_move _ rfl rfl) ?_
                          refine AOps.pass rfl rfl rfl rfl rfl ?_
                          refine AOps.pass rfl rfl rfl rfl rfl ?_
                          refine AOps.go rfl rfl rfl h166 (o_pickF _ _ _ rfl rfl rfl rfl) ?_
                          refine AOps.call (o_pickF _ _ _ rfl h166 rfl rfl) ?_
                          refine AOps.nil ?_
                          refine AWP.condF rfl ?_
                          refine AWP.skip ?_
                          refine AWP.seq ?_
                          refine AWP.region ?_
                          refine AOps.call (o_loadRef _ rfl rfl Tryd.sizeOf24 Tryd.isAgg24 rfl rfl rfl) ?_
                          refine AOps.call (o_call (water_ok a1) Tryd.call22 rfl rfl) ?_
                          refine AOps.call (o_move _ rfl rfl) ?_
                          refine AOps.call (o_extract _ rfl rfl rfl rfl) ?_
                          refine AOps.call (o_extract _ rfl rfl rfl rfl) ?_
                          refine AOps.call (o_assign _ rfl rfl) ?_
                          refine AOps.call (o_assign _ rfl rfl) ?_
                          refine AOps.nil ?_
                          refine AWP.seq ?_
                          refine AWP.region ?_
                          refine AOps.call (o_loadRef _ rfl rfl Tryd.sizeOf24 Tryd.isAgg24 rfl rfl rfl) ?_
                          refine AOps.call (o_call (water_ok a2) Tryd.call22 rfl rfl) ?_
                          refine AOps.call (o_move _ rfl rfl) ?_
                          refine AOps.call (o_extract _ rfl rfl rfl rfl) ?_
                          refine AOps.call (o_extract _ rfl rfl rfl rfl) ?_
                          refine AOps.call (o_assign _ rfl rfl) ?_
                          refine AOps.call (o_assign _ rfl rfl) ?_
                          refine AOps.nil ?_
                          refine AWP.seq ?_
                          refine AWP.region ?_
                          refine AOps.call (o_loadRef _ rfl rfl Tryd.sizeOf24 Tryd.isAgg24 rfl rfl rfl) ?_
                          refine AOps.call (o_call (cold_ok a1) Tryd.call24 rfl rfl) ?_
                          refine AOps.call (o_move _ rfl rfl) ?_
                          refine AOps.call (o_extract _ rfl rfl rfl rfl) ?_
                          refine AOps.call (o_extract _ rfl rfl rfl rfl) ?_
                          refine AOps.call (o_assign _ rfl rfl) ?_
                          refine AOps.call (o_assign _ rfl rfl) ?_
                          refine AOps.nil ?_
                          refine AWP.seq ?_
                          refine AWP.region ?_
                          refine AOps.call (o_loadRef _ rfl rfl Tryd.sizeOf24 Tryd.isAgg24 rfl rfl rfl) ?_
                          refine AOps.call (o_call (cold_ok a2) Tryd.call24 rfl rfl) ?_
                          refine AOps.call (o_move _ rfl rfl) ?_
                          refine AOps.call (o_extract _ rfl rfl rfl rfl) ?_
                          refine AOps.call (o_extract _ rfl rfl rfl rfl) ?_
                          refine AOps.call (o_assign _ rfl rfl) ?_
                          refine AOps.call (o_assign _ rfl rfl) ?_
                          refine AOps.nil ?_
                          refine AWP.seq ?_
                          refine AWP.seq ?_
                          refine AWP.region ?_
                          refine AOps.call (o_move _ rfl rfl) ?_
                          refine AOps.call (o_bin _ _ rfl rfl (fun _ => rfl) rfl) ?_
                          refine AOps.call (o_move _ rfl rfl) ?_
                          refine AOps.split rfl rfl rfl (fun h184 => ?_) (fun h184 => ?_)
                          · skip
                            refine AOps.go rfl rfl rfl h184 (o_move _ rfl rfl) ?_
                            refine AOps.go rfl rfl rfl h184 (o_bin _ _ rfl rfl (fun _ => rfl) rfl) ?_
                            refine AOps.call (o_pickF _ _ _ rfl h184 rfl rfl) ?_
                            refine AOps.call (o_move _ rfl rfl) ?_
                            refine AOps.split rfl rfl rfl (fun h186 => ?_) (fun h186 => ?_)
                            · skip
                              refine AOps.go rfl rfl rfl h186 (o_move _ rfl rfl) ?_
                              refine AOps.go rfl rfl rfl h186 (o_bin _ _ rfl rfl (fun _ => rfl) rfl) ?_
                              refine AOps.call (o_pickF _ _ _ rfl h186 rfl rfl) ?_
                              refine AOps.call (o_move _ rfl rfl) ?_
                              refine AOps.split rfl rfl rfl (fun h188 => ?_) (fun h188 => ?_)
                              · skip
                                refine AOps.go rfl rfl rfl h188 (o_move _ rfl rfl) ?_
                                refine AOps.go rfl rfl rfl h188 (o_bin _ _ rfl rfl (fun _ => rfl) rfl) ?_
                                refine AOps.call (o_pickF _ _ _ rfl h188 rfl rfl) ?_
                                refine AOps.call (o_move _ rfl rfl) ?_
                                refine AOps.split rfl rfl rfl (fun h190 => ?_) (fun h190 => ?_)
                                · skip
                                  refine AOps.go rfl rfl rfl h190 (o_move _ rfl rfl) ?_
                                  refine AOps.go rfl rfl rfl h190 (o_move _ rfl rfl) ?_
                                  refine AOps.pass rfl rfl rfl h57 rfl ?_
                                  refine AOps.pass rfl rfl rfl h57 rfl ?_
                                  refine AOps.pass rfl rfl rfl h57 rfl ?_
                                  refine AOps.pass rfl rfl rfl h57 rfl ?_
                                  refine AOps.passU rfl rfl rfl rfl ?_
                                  refine AOps.passU rfl rfl rfl rfl ?_
                                  refine AOps.passU rfl rfl rfl rfl ?_
                                  refine AOps.pass rfl rfl rfl h57 rfl ?_
                                  refine AOps.go rfl rfl rfl h190 (o_pickF _ _ _ rfl h57 rfl rfl) ?_
                                  refine AOps.call (o_pickF _ _ _ rfl h190 rfl rfl) ?_
                                  refine AOps.nil ?_
                                  refine AWP.condF rfl ?_
                                  refine AWP.skip ?_
                                  refine AWP.seq ?_
                                  refine AWP.seq ?_
                                  refine AWP.region ?_
                                  refine AOps.call (o_fieldRef _ rfl fa26_0 rfl rfl) ?_
                                  refine AOps.call (o_loadRef _ rfl rfl Tryd.sizeOf3 Tryd.isAgg3 rfl rfl rfl) ?_
                                  refine AOps.call (o_bin _ _ rfl rfl (fun _ => rfl) rfl) ?_
                                  refine AOps.nil ?_
                                  refine AWP.cond _ rfl (fun h194 => ?_) (fun h194 => ?_)
                                  · skip
                                    refine AWP.seq ?_
                                    refine AWP.region ?_
                                    refine AOps.call (o_assign _ rfl rfl) ?_
                                    refine AOps.nil ?_
                                    refine AWP.ret ?_
                                    first
                                    | exact postQ.ret1 Tryd.results14 rfl rfl
                                    | (refine postQ.ret1 Tryd.results14 rfl ?_; rw [hF]; simp [AV.close, AV.close.closeL, B, I]; done)
                                  · skip
                                    have hk : s.kind = 1 := by simpa using h194
                                    refine AWP.skip ?_
                                    refine AWP.seq ?_
                                    refine AWP.region ?_
                                    refine AOps.call (o_loadRef _ rfl rfl Tryd.sizeOf24 Tryd.isAgg24 rfl rfl rfl) ?_
                                    refine AOps.call (o_loadRef _ rfl rfl Tryd.sizeOf26 Tryd.isAgg26 rfl rfl rfl) ?_
                                    refine AOps.call (o_call (Apply_s p s) Tryd.call31 rfl rfl) ?_
                                    refine AOps.call (o_move _ rfl rfl) ?_
                                    refine AOps.call (o_extract _ rfl rfl rfl rfl) ?_
                                    refine AOps.call (o_extract _ rfl rfl rfl rfl) ?_
                                    refine AOps.call (o_extract _ rfl rfl rfl rfl) ?_
                                    refine AOps.call (o_alloc ze24 rfl rfl) ?_
                                    refine AOps.cons (o_store _ _ rfl rfl Tryd.sizeOf24 rfl rfl rfl rfl rfl) ?_
                                    refine AOps.call (o_assign _ rfl rfl) ?_
                                    refine AOps.call (o_assign _ rfl rfl) ?_
                                    refine AOps.nil ?_
                                    refine AWP.seq ?_
                                    refine AWP.seq ?_
                                    refine AWP.region ?_
                                    refine AOps.call (o_move _ rfl rfl) ?_
                                    refine AOps.call (o_bin _ _ rfl rfl (fun _ => rfl) rfl) ?_
                                    refine AOps.nil ?_
                                    refine AWP.cond _ rfl (fun h203 => ?_) (fun h203 => ?_)
                                    · skip
                                      refine AWP.seq ?_
                                      refine AWP.region ?_
                                      refine AOps.call (o_assign _ rfl rfl) ?_
                                      refine AOps.nil ?_
                                      refine AWP.ret ?_
                                      first
                                      | exact postQ.ret1 Tryd.results14 rfl rfl
                                      | (refine postQ.ret1 Tryd.results14 rfl ?_; rw [hF]; simp [AV.close, AV.close.closeL, B, I]; done)
                                    · skip
                                      have hok : (appM p s).2.2 = 0 := by simpa using h203
                                      have hsn := less_snow hk hok
                                      have hF := hsn.1
                                      refine AWP.skip ?_
                                      refine AWP.seq ?_
                                      refine AWP.region ?_
                                      refine AOps.call (o_loadRef _ rfl rfl Tryd.sizeOf24 Tryd.isAgg24 rfl rfl rfl) ?_
                                      refine AOps.call (o_loadRef _ rfl rfl Tryd.sizeOf24 Tryd.isAgg24 rfl rfl rfl) ?_
                                      refine AOps.call (o_call (less_ok a1 hsn.2) Tryd.call50 rfl rfl) ?_
                                      refine AOps.call (o_move _ rfl rfl) ?_
                                      refine AOps.call (o_extract _ rfl rfl rfl rfl) ?_
                                      refine AOps.call (o_extract _ rfl rfl rfl rfl) ?_
                                      refine AOps.call (o_assign _ rfl rfl) ?_
                                      refine AOps.call (o_assign _ rfl rfl) ?_
                                      refine AOps.nil ?_
                                      refine AWP.seq ?_
                                      refine AWP.region ?_
                                      refine AOps.call (o_move _ rfl rfl) ?_
                                      refine AOps.call (o_bin _ _ rfl rfl (fun _ => rfl) rfl) ?_
                                      refine AOps.call (o_move _ rfl rfl) ?_
                                      refine AOps.split rfl rfl rfl (fun h210 => ?_) (fun h210 => ?_)
                                      · skip
                                        refine AOps.go rfl rfl rfl h210 (o_move _ rfl rfl) ?_
                                        refine AOps.call (o_pickT _ _ _ rfl h210 rfl rfl) ?_
                                        refine AOps.call (o_assign _ rfl rfl) ?_
                                        refine AOps.nil ?_
                                        refine AWP.ret ?_
                                        first
                                        | exact postQ.ret1 Tryd.results14 rfl rfl
                                        | (refine postQ.ret1 Tryd.results14 rfl ?_; rw [hF]; simp [AV.close, AV.close.closeL, B, I]; done)
                                      · skip
                                        exfalso
                                        exact absurd h210 (by decide)
                                · skip
                                  exfalso
                                  exact absurd h190 (by decide)
                              · skip
                                exfalso
                                exact absurd h188 (by decide)
                            · skip
                              exfalso
                              exact absurd h186 (by decide)
                          · skip
                            exfalso
                            exact absurd h184 (by decide)
                        · skip
                          exfalso
                          have ha := less_anti p q
                          rw [g1] at ha
                          rw [← ha] at h166
                          simp at h166
                    · skip
                      exfalso
                      rw [less_refl] at h56
                      exact absurd h56 (by decide)
                  · skip
                    exfalso
                    exact absurd h54 (by decide)
                · skip
                  exfalso
                  exact absurd h52 (by decide)
              · skip
                exfalso
                exact absurd h50 (by decide)
            · skip
              exfalso
              exact absurd h48 (by decide)
          · skip
            exfalso
            exact absurd h46 (by decide)
      · skip
        refine AOps.pass rfl rfl rfl h15 rfl ?_
        refine AOps.pass rfl rfl rfl h15 rfl ?_
        refine AOps.pass rfl rfl rfl h15 rfl ?_
        refine AOps.call (o_pickT _ _ _ rfl h15 rfl rfl) ?_
        refine AOps.nil ?_
        refine AWP.condT rfl ?_
        refine AWP.seq ?_
        refine AWP.region ?_
        refine AOps.call (o_assign _ rfl rfl) ?_
        refine AOps.nil ?_
        refine AWP.ret ?_
        first
        | exact postQ.ret1 Tryd.results14 rfl rfl
        | (refine postQ.ret1 Tryd.results14 rfl ?_; rw [hF]; simp [AV.close, AV.close.closeL, B, I]; done)
    · skip
      refine AOps.pass rfl rfl rfl h11 rfl ?_
      refine AOps.pass rfl rfl rfl h11 rfl ?_
      refine AOps.pass rfl rfl rfl h11 rfl ?_
      refine AOps.call (o_pickT _ _ _ rfl h11 rfl rfl) ?_
      refine AOps.call (o_move _ rfl rfl) ?_
      refine AOps.pass rfl rfl rfl rfl rfl ?_
      refine AOps.pass rfl rfl rfl rfl rfl ?_
      refine AOps.pass rfl rfl rfl rfl rfl ?_
      refine AOps.call (o_pickT _ _ _ rfl rfl rfl rfl) ?_
      refine AOps.nil ?_
      refine AWP.condT rfl ?_
      refine AWP.seq ?_
      refine AWP.region ?_
      refine AOps.call (o_assign _ rfl rfl) ?_
      refine AOps.nil ?_
      refine AWP.ret ?_
      first
      | exact postQ.ret1 Tryd.results14 rfl rfl
      | (refine postQ.ret1 Tryd.results14 rfl ?_; rw [hF]; simp [AV.close, AV.close.closeL, B, I]; done)

end Go.Proofs.YtgagfmjpmdgfdaaDoor
