import Derived.Test.YtgagfmjpmdgfdaaDoorQ16
import Derived.Test.YtgagfmjpmdgfdaaDoorX11
set_option linter.unusedSimpArgs false
set_option linter.unusedVariables false
namespace Go.Proofs.YtgagfmjpmdgfdaaDoor
open Go.Ab

set_option maxRecDepth 20000 in
theorem PackConserved_s (p : List Lay) (s : Stp) : FSpecG Tryd.prog TAB 9 [.agg (eK p), .agg (eT s)] (B true) (none) := by
  refine FSpecG.of_body tab_stable Tryd.func9 rfl (leB rfl) fun w0 M0 hG => ?_
  refine AWP.seq ?_
  refine AWP.region ?_
  refine AOps.call (o_box _ rfl rfl rfl) ?_
  refine AOps.call (o_box _ rfl rfl rfl) ?_
  refine AOps.call (o_assign _ rfl rfl) ?_
  refine AOps.nil ?_
  refine AWP.seq ?_
  refine AWP.seq ?_
  refine AWP.region ?_
  refine AOps.call (o_callG (sane_s) hG Tryd.call18 rfl rfl) ?_
  refine AOps.call (o_un _ rfl (fun _ => rfl) rfl) ?_
  refine AOps.nil ?_
  refine AWP.cond _ rfl (fun h5 => ?_) (fun h5 => ?_)
  · skip
    exfalso
    simp at h5
  · skip
    refine AWP.skip ?_
    refine AWP.seq ?_
    refine AWP.region ?_
    refine AOps.call (o_loadRef _ rfl rfl Tryd.sizeOf24 Tryd.isAgg24 rfl rfl rfl) ?_
    refine AOps.call (o_loadRef _ rfl rfl Tryd.sizeOf26 Tryd.isAgg26 rfl rfl rfl) ?_
    refine AOps.call (o_call (Apply_s p s) Tryd.call31 rfl rfl) ?_
    refine AOps.call (o_move _ rfl rfl) ?_
    refine AOps.call (o_extract _ rfl rfl rfl rfl) ?_
    refine AOps.call (o_extract _ rfl rfl rfl rfl) ?_
    refine AOps.call (o_extract _ rfl rfl rfl rfl) ?_
    refine AOps.call (o_alloc ze24 rfl rfl) ?_
    refine AOps.cons (o_store _ _ rfl rfl Tryd.sizeOf24 rfl rfl rfl rfl rfl) ?_
    refine AOps.call (o_assign _ rfl rfl) ?_
    refine AOps.call (o_assign _ rfl rfl) ?_
    refine AOps.nil ?_
    refine AWP.seq ?_
    refine AWP.seq ?_
    refine AWP.region ?_
    refine AOps.call (o_move _ rfl rfl) ?_
    refine AOps.call (o_bin _ _ rfl rfl (fun _ => rfl) rfl) ?_
    refine AOps.nil ?_
    refine AWP.cond _ rfl (fun h14 => ?_) (fun h14 => ?_)
    · skip
      have hn : ¬ (appM p s).2.2 = 0 := by simpa using h14
      have hq := appM_no hn
      have hl0 := lays_nil hq.1
      refine AWP.seq ?_
      refine AWP.region ?_
      refine AOps.call (o_fieldRef _ rfl fa24_0 rfl rfl) ?_
      refine AOps.call (o_loadRef _ rfl rfl Tryd.sizeOf22 Tryd.isAgg22 rfl rfl rfl) ?_
      refine AOps.call (o_len _ Tryd.underlying22 rfl rfl) ?_
      refine AOps.call (o_bin _ _ rfl rfl (fun _ => rfl) rfl) ?_
      refine AOps.call (o_move _ rfl rfl) ?_
      refine AOps.split rfl rfl rfl (fun h19 => ?_) (fun h19 => ?_)
      · skip
        refine AOps.go rfl rfl rfl h19 (o_move _ rfl rfl) ?_
        refine AOps.go rfl rfl rfl h19 (o_bin _ _ rfl rfl (fun _ => rfl) rfl) ?_
        refine AOps.call (o_pickT _ _ _ rfl h19 rfl rfl) ?_
        refine AOps.call (o_assign _ rfl rfl) ?_
        refine AOps.nil ?_
        refine AWP.ret ?_
        first
        | exact postQ.ret1 Tryd.results9 rfl rfl
        | (refine postQ.ret1 Tryd.results9 rfl ?_; simp [AV.close, AV.close.closeL, B, I]; done)
        | (refine postQ.ret1 Tryd.results9 rfl ?_; simp [AV.close, AV.close.closeL, B, I]; omega)
        | (refine postQ.ret1 Tryd.results9 rfl ?_; simp_all [AV.close, AV.close.closeL, B, I]; done)
        | (refine postQ.ret1 Tryd.results9 rfl ?_; simp_all [AV.close, AV.close.closeL, B, I]; omega)
      · skip
        exfalso
        simp [hl0] at h19
    · skip
      have hok : (appM p s).2.2 = 0 := by simpa using h14
      obtain ⟨a1, a2, a3, a4, a5, a6⟩ := appM_ok hok
      have hc := app_cons hok
      have b1 := packE_bd a1
      have b2 := packE_bd a4
      have bA := app_bd p s
      have hs := (stepE_0.1 a2).1
      refine AWP.skip ?_
      refine AWP.seq ?_
      refine AWP.region ?_
      refine AOps.call (o_loadRef _ rfl rfl Tryd.sizeOf24 Tryd.isAgg24 rfl rfl rfl) ?_
      refine AOps.call (o_call (water_ok a1) Tryd.call22 rfl rfl) ?_
      refine AOps.call (o_move _ rfl rfl) ?_
      refine AOps.call (o_extract _ rfl rfl rfl rfl) ?_
      refine AOps.call (o_extract _ rfl rfl rfl rfl) ?_
      refine AOps.call (o_assign _ rfl rfl) ?_
      refine AOps.call (o_assign _ rfl rfl) ?_
      refine AOps.nil ?_
      refine AWP.seq ?_
      refine AWP.region ?_
      refine AOps.call (o_loadRef _ rfl rfl Tryd.sizeOf24 Tryd.isAgg24 rfl rfl rfl) ?_
      refine AOps.call (o_call (water_ok a4) Tryd.call22 rfl rfl) ?_
      refine AOps.call (o_move _ rfl rfl) ?_
      refine AOps.call (o_extract _ rfl rfl rfl rfl) ?_
      refine AOps.call (o_extract _ rfl rfl rfl rfl) ?_
      refine AOps.call (o_assign _ rfl rfl) ?_
      refine AOps.call (o_assign _ rfl rfl) ?_
      refine AOps.nil ?_
      refine AWP.seq ?_
      refine AWP.seq ?_
      refine AWP.region ?_
      refine AOps.call (o_move _ rfl rfl) ?_
      refine AOps.call (o_bin _ _ rfl rfl (fun _ => rfl) rfl) ?_
      refine AOps.call (o_move _ rfl rfl) ?_
      refine AOps.split rfl rfl rfl (fun h30 => ?_) (fun h30 => ?_)
      · skip
        refine AOps.go rfl rfl rfl h30 (o_move _ rfl rfl) ?_
        refine AOps.go rfl rfl rfl h30 (o_bin _ _ rfl rfl (fun _ => rfl) rfl) ?_
        refine AOps.call (o_pickF _ _ _ rfl h30 rfl rfl) ?_
        refine AOps.call (o_move _ rfl rfl) ?_
        refine AOps.split rfl rfl rfl (fun h32 => ?_) (fun h32 => ?_)
        · skip
          refine AOps.go rfl rfl rfl h32 (o_loadRef _ rfl rfl Tryd.sizeOf24 Tryd.isAgg24 rfl rfl rfl) ?_
          refine AOps.go rfl rfl rfl h32 (o_call (check_ok a4) Tryd.call26 rfl rfl) ?_
          refine AOps.go rfl rfl rfl h32 (o_bin _ _ rfl rfl (fun _ => rfl) rfl) ?_
          refine AOps.call (o_pickF _ _ _ rfl h32 rfl rfl) ?_
          refine AOps.call (o_move _ rfl rfl) ?_
          refine AOps.split rfl rfl rfl (fun h36 => ?_) (fun h36 => ?_)
          · skip
            refine AOps.go rfl rfl rfl h36 (o_move _ rfl rfl) ?_
            refine AOps.go rfl rfl rfl h36 (o_bin _ _ rfl rfl (fun _ => rfl) rfl) ?_
            refine AOps.call (o_pickF _ _ _ rfl h36 rfl rfl) ?_
            refine AOps.nil ?_
            refine AWP.cond _ rfl (fun h38 => ?_) (fun h38 => ?_)
            · skip
              exfalso
              have hq := of_decide_eq_true h38
              omega
            · skip
              refine AWP.skip ?_
              refine AWP.seq ?_
              refine AWP.seq ?_
              refine AWP.region ?_
              refine AOps.call (o_fieldRef _ rfl fa26_0 rfl rfl) ?_
              refine AOps.call (o_loadRef _ rfl rfl Tryd.sizeOf3 Tryd.isAgg3 rfl rfl rfl) ?_
              refine AOps.nil ?_
              refine AWP.block ?_
              refine AWP.seq ?_
              refine AWP.region ?_
              refine AOps.call (o_bin _ _ rfl rfl (fun _ => rfl) rfl) ?_
              refine AOps.call (o_assign _ rfl rfl) ?_
              refine AOps.nil ?_
              refine AWP.cond _ rfl (fun h42 => ?_) (fun h42 => ?_)
              · skip
                have k1 : s.kind = 1 := by simpa using h42
                have hx := hc.2.1 k1
                refine AWP.seq ?_
                refine AWP.region ?_
                refine AOps.call (o_move _ rfl rfl) ?_
                refine AOps.call (o_move _ rfl rfl) ?_
                refine AOps.call (o_fieldRef _ rfl fa26_1 rfl rfl) ?_
                refine AOps.call (o_loadRef _ rfl rfl Tryd.sizeOf3 Tryd.isAgg3 rfl rfl rfl) ?_
                refine AOps.call (o_add _ _ rfl rfl ⟨by (try dsimp only); omega, by (try dsimp only); omega⟩ rfl) ?_
                refine AOps.call (o_bin _ _ rfl rfl (fun _ => rfl) rfl) ?_
                refine AOps.call (o_move _ rfl rfl) ?_
                refine AOps.split rfl rfl rfl (fun h47 => ?_) (fun h47 => ?_)
                · skip
                  refine AOps.go rfl rfl rfl h47 (o_move _ rfl rfl) ?_
                  refine AOps.go rfl rfl rfl h47 (o_bin _ _ rfl rfl (fun _ => rfl) rfl) ?_
                  refine AOps.call (o_pickT _ _ _ rfl h47 rfl rfl) ?_
                  refine AOps.call (o_assign _ rfl rfl) ?_
                  refine AOps.nil ?_
                  refine AWP.ret ?_
                  first
                  | exact postQ.ret1 Tryd.results9 rfl rfl
                  | (refine postQ.ret1 Tryd.results9 rfl ?_; simp [AV.close, AV.close.closeL, B, I]; done)
                  | (refine postQ.ret1 Tryd.results9 rfl ?_; simp [AV.close, AV.close.closeL, B, I]; omega)
                  | (refine postQ.ret1 Tryd.results9 rfl ?_; simp_all [AV.close, AV.close.closeL, B, I]; done)
                  | (refine postQ.ret1 Tryd.results9 rfl ?_; simp_all [AV.close, AV.close.closeL, B, I]; omega)
                · skip
                  exfalso
                  have hqq : ¬ watL (appM p s).1 = watL p + s.much := by simpa using h47
                  omega
              · skip
                have k1 : ¬ s.kind = 1 := by simpa using h42
                refine AWP.seq ?_
                refine AWP.region ?_
                refine AOps.call (o_bin _ _ rfl rfl (fun _ => rfl) rfl) ?_
                refine AOps.call (o_assign _ rfl rfl) ?_
                refine AOps.nil ?_
                refine AWP.cond _ rfl (fun h50 => ?_) (fun h50 => ?_)
                · skip
                  have k2 : s.kind = 2 := by simpa using h50
                  have hx := hc.2.2.1 k2
                  refine AWP.seq ?_
                  refine AWP.region ?_
                  refine AOps.call (o_move _ rfl rfl) ?_
                  refine AOps.call (o_move _ rfl rfl) ?_
                  refine AOps.call (o_add _ _ rfl rfl ⟨by (try dsimp only); omega, by (try dsimp only); omega⟩ rfl) ?_
                  refine AOps.call (o_move _ rfl rfl) ?_
                  refine AOps.call (o_fieldRef _ rfl fa26_1 rfl rfl) ?_
                  refine AOps.call (o_loadRef _ rfl rfl Tryd.sizeOf3 Tryd.isAgg3 rfl rfl rfl) ?_
                  refine AOps.call (o_add _ _ rfl rfl ⟨by (try dsimp only); omega, by (try dsimp only); omega⟩ rfl) ?_
                  refine AOps.call (o_bin _ _ rfl rfl (fun _ => rfl) rfl) ?_
                  refine AOps.call (o_assign _ rfl rfl) ?_
                  refine AOps.nil ?_
                  refine AWP.ret ?_
                  first
                  | exact postQ.ret1 Tryd.results9 rfl rfl
                  | (refine postQ.ret1 Tryd.results9 rfl ?_; simp [AV.close, AV.close.closeL, B, I]; done)
                  | (refine postQ.ret1 Tryd.results9 rfl ?_; simp [AV.close, AV.close.closeL, B, I]; omega)
                  | (refine postQ.ret1 Tryd.results9 rfl ?_; simp_all [AV.close, AV.close.closeL, B, I]; done)
                  | (refine postQ.ret1 Tryd.results9 rfl ?_; simp_all [AV.close, AV.close.closeL, B, I]; omega)
                · skip
                  have k2 : ¬ s.kind = 2 := by simpa using h50
                  refine AWP.seq ?_
                  refine AWP.region ?_
                  refine AOps.call (o_bin _ _ rfl rfl (fun _ => rfl) rfl) ?_
                  refine AOps.call (o_assign _ rfl rfl) ?_
                  refine AOps.nil ?_
                  refine AWP.cond _ rfl (fun h57 => ?_) (fun h57 => ?_)
                  · skip
                    have k3 : s.kind = 3 := by simpa using h57
                    have hx := hc.2.2.2.1 k3
                    refine AWP.seq ?_
                    refine AWP.region ?_
                    refine AOps.call (o_move _ rfl rfl) ?_
                    refine AOps.call (o_move _ rfl rfl) ?_
                    refine AOps.call (o_add _ _ rfl rfl ⟨by (try dsimp only); omega, by (try dsimp only); omega⟩ rfl) ?_
                    refine AOps.call (o_move _ rfl rfl) ?_
                    refine AOps.call (o_bin _ _ rfl rfl (fun _ => rfl) rfl) ?_
                    refine AOps.call (o_assign _ rfl rfl) ?_
                    refine AOps.nil ?_
                    refine AWP.ret ?_
                    first
                    | exact postQ.ret1 Tryd.results9 rfl rfl
                    | (refine postQ.ret1 Tryd.results9 rfl ?_; simp [AV.close, AV.close.closeL, B, I]; done)
                    | (refine postQ.ret1 Tryd.results9 rfl ?_; simp [AV.close, AV.close.closeL, B, I]; omega)
                    | (refine postQ.ret1 Tryd.results9 rfl ?_; simp_all [AV.close, AV.close.closeL, B, I]; done)
                    | (refine postQ.ret1 Tryd.results9 rfl ?_; simp_all [AV.close, AV.close.closeL, B, I]; omega)
                  · skip
                    have k3 : ¬ s.kind = 3 := by simpa using h57
                    refine AWP.seq ?_
                    refine AWP.region ?_
                    refine AOps.call (o_bin _ _ rfl rfl (fun _ => rfl) rfl) ?_
                    refine AOps.call (o_assign _ rfl rfl) ?_
                    refine AOps.nil ?_
                    refine AWP.cond _ rfl (fun h61 => ?_) (fun h61 => ?_)
                    · skip
                      have k4 : s.kind = 4 := by simpa using h61
                      have hx := hc.2.2.2.2.1 k4
                      refine AWP.seq ?_
                      refine AWP.region ?_
                      refine AOps.call (o_move _ rfl rfl) ?_
                      refine AOps.call (o_move _ rfl rfl) ?_
                      refine AOps.call (o_bin _ _ rfl rfl (fun _ => rfl) rfl) ?_
                      refine AOps.call (o_move _ rfl rfl) ?_
                      refine AOps.split rfl rfl rfl (fun h63 => ?_) (fun h63 => ?_)
                      · skip
                        refine AOps.go rfl rfl rfl h63 (o_move _ rfl rfl) ?_
                        refine AOps.go rfl rfl rfl h63 (o_bin _ _ rfl rfl (fun _ => rfl) rfl) ?_
                        refine AOps.call (o_pickT _ _ _ rfl h63 rfl rfl) ?_
                        refine AOps.call (o_assign _ rfl rfl) ?_
                        refine AOps.nil ?_
                        refine AWP.ret ?_
                        first
                        | exact postQ.ret1 Tryd.results9 rfl rfl
                        | (refine postQ.ret1 Tryd.results9 rfl ?_; simp [AV.close, AV.close.closeL, B, I]; done)
                        | (refine postQ.ret1 Tryd.results9 rfl ?_; simp [AV.close, AV.close.closeL, B, I]; omega)
                        | (refine postQ.ret1 Tryd.results9 rfl ?_; simp_all [AV.close, AV.close.closeL, B, I]; done)
                        | (refine postQ.ret1 Tryd.results9 rfl ?_; simp_all [AV.close, AV.close.closeL, B, I]; omega)
                      · skip
                        exfalso
                        have hqq : ¬ watL (appM p s).1 = watL p := by simpa using h63
                        omega
                    · skip
                      have k4 : ¬ s.kind = 4 := by simpa using h61
                      have hx := hc.2.2.2.2.2 k1 k2 k3 k4
                      refine AWP.skip ?_
                      refine AWP.seq ?_
                      refine AWP.region ?_
                      refine AOps.call (o_move _ rfl rfl) ?_
                      refine AOps.call (o_move _ rfl rfl) ?_
                      refine AOps.call (o_sub _ _ rfl rfl ⟨by (try dsimp only); omega, by (try dsimp only); omega⟩ rfl) ?_
                      refine AOps.call (o_move _ rfl rfl) ?_
                      refine AOps.call (o_sub _ _ rfl rfl ⟨by (try dsimp only); omega, by (try dsimp only); omega⟩ rfl) ?_
                      refine AOps.call (o_assign _ rfl rfl) ?_
                      refine AOps.nil ?_
                      refine AWP.seq ?_
                      refine AWP.region ?_
                      refine AOps.call (o_move _ rfl rfl) ?_
                      refine AOps.call (o_fieldRef _ rfl fa26_1 rfl rfl) ?_
                      refine AOps.call (o_loadRef _ rfl rfl Tryd.sizeOf3 Tryd.isAgg3 rfl rfl rfl) ?_
                      refine AOps.call (o_bin _ _ rfl rfl (fun _ => rfl) rfl) ?_
                      refine AOps.call (o_move _ rfl rfl) ?_
                      refine AOps.split rfl rfl rfl (fun h70 => ?_) (fun h70 => ?_)
                      · skip
                        have e1 : ¬ watL p - watL (appM p s).1 - (appM p s).2.1 = s.much := by simpa using h70
                        have hx2 := hx.resolve_left e1
                        have hl0 := lays_nil hx2.2.2
                        refine AOps.go rfl rfl rfl h70 (o_move _ rfl rfl) ?_
                        refine AOps.go rfl rfl rfl h70 (o_bin _ _ rfl rfl (fun _ => rfl) rfl) ?_
                        refine AOps.go rfl rfl rfl h70 (o_move _ rfl rfl) ?_
                        refine AOps.split rfl rfl rfl (fun h72 => ?_) (fun h72 => ?_)
                        · skip
                          refine AOps.go rfl rfl rfl h72 (o_move _ rfl rfl) ?_
                          refine AOps.go rfl rfl rfl h72 (o_fieldRef _ rfl fa26_1 rfl rfl) ?_
                          refine AOps.go rfl rfl rfl h72 (o_loadRef _ rfl rfl Tryd.sizeOf3 Tryd.isAgg3 rfl rfl rfl) ?_
                          refine AOps.go rfl rfl rfl h72 (o_bin _ _ rfl rfl (fun _ => rfl) rfl) ?_
                          refine AOps.go rfl rfl rfl h70 (o_pickT _ _ _ rfl h72 rfl rfl) ?_
                          refine AOps.go rfl rfl rfl h70 (o_move _ rfl rfl) ?_
                          refine AOps.split rfl rfl rfl (fun h76 => ?_) (fun h76 => ?_)
                          · skip
                            refine AOps.go rfl rfl rfl h76 (o_fieldRef _ rfl fa24_0 rfl rfl) ?_
                            refine AOps.go rfl rfl rfl h76 (o_loadRef _ rfl rfl Tryd.sizeOf22 Tryd.isAgg22 rfl rfl rfl) ?_
                            refine AOps.go rfl rfl rfl h76 (o_len _ Tryd.underlying22 rfl rfl) ?_
                            refine AOps.go rfl rfl rfl h76 (o_bin _ _ rfl rfl (fun _ => rfl) rfl) ?_
                            refine AOps.go rfl rfl rfl h70 (o_pickT _ _ _ rfl h76 rfl rfl) ?_
                            refine AOps.call (o_pickF _ _ _ rfl h70 rfl rfl) ?_
                            refine AOps.call (o_assign _ rfl rfl) ?_
                            refine AOps.nil ?_
                            refine AWP.ret ?_
                            first
                            | exact postQ.ret1 Tryd.results9 rfl rfl
                            | (refine postQ.ret1 Tryd.results9 rfl ?_; simp [AV.close, AV.close.closeL, B, I]; done)
                            | (refine postQ.ret1 Tryd.results9 rfl ?_; simp [AV.close, AV.close.closeL, B, I]; omega)
                            | (refine postQ.ret1 Tryd.results9 rfl ?_; simp_all [AV.close, AV.close.closeL, B, I]; done)
                            | (refine postQ.ret1 Tryd.results9 rfl ?_; simp_all [AV.close, AV.close.closeL, B, I]; omega)
                          · skip
                            exfalso
                            have hq := of_decide_eq_false h76
                            omega
                        · skip
                          exfalso
                          have hq := of_decide_eq_false h72
                          omega
                      · skip
                        refine AOps.pass rfl rfl rfl h70 rfl ?_
                        refine AOps.pass rfl rfl rfl h70 rfl ?_
                        refine AOps.pass rfl rfl rfl h70 rfl ?_
                        refine AOps.passU rfl rfl rfl rfl ?_
                        refine AOps.passU rfl rfl rfl rfl ?_
                        refine AOps.passU rfl rfl rfl rfl ?_
                        refine AOps.passU rfl rfl rfl rfl ?_
                        refine AOps.pass rfl rfl rfl h70 rfl ?_
                        refine AOps.pass rfl rfl rfl h70 rfl ?_
                        refine AOps.passU rfl rfl rfl rfl ?_
                        refine AOps.passU rfl rfl rfl rfl ?_
                        refine AOps.passU rfl rfl rfl rfl ?_
                        refine AOps.passU rfl rfl rfl rfl ?_
                        refine AOps.pass rfl rfl rfl h70 rfl ?_
                        refine AOps.call (o_pickT _ _ _ rfl h70 rfl rfl) ?_
                        refine AOps.call (o_assign _ rfl rfl) ?_
                        refine AOps.nil ?_
                        refine AWP.ret ?_
                        first
                        | exact postQ.ret1 Tryd.results9 rfl rfl
                        | (refine postQ.ret1 Tryd.results9 rfl ?_; simp [AV.close, AV.close.closeL, B, I]; done)
                        | (refine postQ.ret1 Tryd.results9 rfl ?_; simp [AV.close, AV.close.closeL, B, I]; omega)
                        | (refine postQ.ret1 Tryd.results9 rfl ?_; simp_all [AV.close, AV.close.closeL, B, I]; done)
                        | (refine postQ.ret1 Tryd.results9 rfl ?_; simp_all [AV.close, AV.close.closeL, B, I]; omega)
          · skip
            exfalso
            exact absurd h36 (by decide)
        · skip
          exfalso
          exact absurd h32 (by decide)
      · skip
        exfalso
        exact absurd h30 (by decide)

set_option maxRecDepth 20000 in
theorem PackParts_s (p : List Lay) (kind a b : Int) : FSpecG Tryd.prog TAB 10 [.agg (eK p), I kind, I a, I b] (B true) (none) := by
  refine FSpecG.of_body tab_stable Tryd.func10 rfl (leB rfl) fun w0 M0 hG => ?_
  refine AWP.seq ?_
  refine AWP.region ?_
  refine AOps.call (o_box _ rfl rfl rfl) ?_
  refine AOps.call (o_assign _ rfl rfl) ?_
  refine AOps.nil ?_
  refine AWP.seq ?_
  refine AWP.seq ?_
  refine AWP.region ?_
  refine AOps.call (o_callG (sane_s) hG Tryd.call18 rfl rfl) ?_
  refine AOps.call (o_un _ rfl (fun _ => rfl) rfl) ?_
  refine AOps.nil ?_
  refine AWP.cond _ rfl (fun h4 => ?_) (fun h4 => ?_)
  · skip
    exfalso
    simp at h4
  · skip
    refine AWP.skip ?_
    refine AWP.seq ?_
    refine AWP.seq ?_
    refine AWP.region ?_
    refine AOps.call (o_move _ rfl rfl) ?_
    refine AOps.call (o_bin _ _ rfl rfl (fun _ => rfl) rfl) ?_
    refine AOps.call (o_move _ rfl rfl) ?_
    refine AOps.split rfl rfl rfl (fun h7 => ?_) (fun h7 => ?_)
    · skip
      have g1 := of_decide_eq_false h7
      refine AOps.go rfl rfl rfl h7 (o_move _ rfl rfl) ?_
      refine AOps.go rfl rfl rfl h7 (o_bin _ _ rfl rfl (fun _ => rfl) rfl) ?_
      refine AOps.call (o_pickF _ _ _ rfl h7 rfl rfl) ?_
      refine AOps.call (o_move _ rfl rfl) ?_
      refine AOps.split rfl rfl rfl (fun h10 => ?_) (fun h10 => ?_)
      · skip
        have g2 := of_decide_eq_false h10
        refine AOps.go rfl rfl rfl h10 (o_move _ rfl rfl) ?_
        refine AOps.go rfl rfl rfl h10 (o_bin _ _ rfl rfl (fun _ => rfl) rfl) ?_
        refine AOps.call (o_pickF _ _ _ rfl h10 rfl rfl) ?_
        refine AOps.call (o_move _ rfl rfl) ?_
        refine AOps.split rfl rfl rfl (fun h13 => ?_) (fun h13 => ?_)
        · skip
          have g3 := of_decide_eq_false h13
          refine AOps.go rfl rfl rfl h13 (o_move _ rfl rfl) ?_
          refine AOps.go rfl rfl rfl h13 (o_bin _ _ rfl rfl (fun _ => rfl) rfl) ?_
          refine AOps.call (o_pickF _ _ _ rfl h13 rfl rfl) ?_
          refine AOps.call (o_move _ rfl rfl) ?_
          refine AOps.split rfl rfl rfl (fun h16 => ?_) (fun h16 => ?_)
          · skip
            have g4 := of_decide_eq_false h16
            refine AOps.go rfl rfl rfl h16 (o_move _ rfl rfl) ?_
            refine AOps.go rfl rfl rfl h16 (o_bin _ _ rfl rfl (fun _ => rfl) rfl) ?_
            refine AOps.call (o_pickF _ _ _ rfl h16 rfl rfl) ?_
            refine AOps.call (o_move _ rfl rfl) ?_
            refine AOps.split rfl rfl rfl (fun h19 => ?_) (fun h19 => ?_)
            · skip
              have g5 := of_decide_eq_false h19
              refine AOps.go rfl rfl rfl h19 (o_move _ rfl rfl) ?_
              refine AOps.go rfl rfl rfl h19 (o_bin _ _ rfl rfl (fun _ => rfl) rfl) ?_
              refine AOps.call (o_pickF _ _ _ rfl h19 rfl rfl) ?_
              refine AOps.nil ?_
              refine AWP.cond _ rfl (fun h22 => ?_) (fun h22 => ?_)
              · skip
                refine AWP.seq ?_
                refine AWP.region ?_
                refine AOps.call (o_assign _ rfl rfl) ?_
                refine AOps.nil ?_
                refine AWP.ret ?_
                first
                | exact postQ.ret1 Tryd.results10 rfl rfl
                | (refine postQ.ret1 Tryd.results10 rfl ?_; simp [AV.close, AV.close.closeL, B, I]; done)
                | (refine postQ.ret1 Tryd.results10 rfl ?_; simp [AV.close, AV.close.closeL, B, I]; omega)
                | (refine postQ.ret1 Tryd.results10 rfl ?_; simp_all [AV.close, AV.close.closeL, B, I]; done)
                | (refine postQ.ret1 Tryd.results10 rfl ?_; simp_all [AV.close, AV.close.closeL, B, I]; omega)
              · skip
                have g6 := of_decide_eq_false h22
                refine AWP.skip ?_
                refine AWP.seq ?_
                refine AWP.region ?_
                refine AOps.call (o_loadRef _ rfl rfl Tryd.sizeOf24 Tryd.isAgg24 rfl rfl rfl) ?_
                refine AOps.call (o_move _ rfl rfl) ?_
                refine AOps.call (o_move _ rfl rfl) ?_
                refine AOps.call (o_build bu26 rfl rfl rfl) ?_
                refine AOps.call (o_call (Apply_s p ⟨kind, a, 0⟩) Tryd.call31 rfl rfl) ?_
                refine AOps.call (o_move _ rfl rfl) ?_
                refine AOps.call (o_extract _ rfl rfl rfl rfl) ?_
                refine AOps.call (o_extract _ rfl rfl rfl rfl) ?_
                refine AOps.call (o_extract _ rfl rfl rfl rfl) ?_
                refine AOps.call (o_alloc ze24 rfl rfl) ?_
                refine AOps.cons (o_store _ _ rfl rfl Tryd.sizeOf24 rfl rfl rfl rfl rfl) ?_
                refine AOps.call (o_assign _ rfl rfl) ?_
                refine AOps.call (o_assign _ rfl rfl) ?_
                refine AOps.nil ?_
                refine AWP.seq ?_
                refine AWP.seq ?_
                refine AWP.region ?_
                refine AOps.call (o_move _ rfl rfl) ?_
                refine AOps.call (o_bin _ _ rfl rfl (fun _ => rfl) rfl) ?_
                refine AOps.nil ?_
                refine AWP.cond _ rfl (fun h33 => ?_) (fun h33 => ?_)
                · skip
                  refine AWP.seq ?_
                  refine AWP.region ?_
                  refine AOps.call (o_assign _ rfl rfl) ?_
                  refine AOps.nil ?_
                  refine AWP.ret ?_
                  first
                  | exact postQ.ret1 Tryd.results10 rfl rfl
                  | (refine postQ.ret1 Tryd.results10 rfl ?_; simp [AV.close, AV.close.closeL, B, I]; done)
                  | (refine postQ.ret1 Tryd.results10 rfl ?_; simp [AV.close, AV.close.closeL, B, I]; omega)
                  | (refine postQ.ret1 Tryd.results10 rfl ?_; simp_all [AV.close, AV.close.closeL, B, I]; done)
                  | (refine postQ.ret1 Tryd.results10 rfl ?_; simp_all [AV.close, AV.close.closeL, B, I]; omega)
                · skip
                  have h1 : (appM p ⟨kind, a, 0⟩).2.2 = 0 := by simpa using h33
                  have bA := app_bd p ⟨kind, a, 0⟩
                  have bB := app_bd (appM p ⟨kind, a, 0⟩).1 ⟨kind, b, 0⟩
                  have bC := app_bd p ⟨kind, a + b, 0⟩
                  refine AWP.skip ?_
                  refine AWP.seq ?_
                  refine AWP.region ?_
                  refine AOps.call (o_loadRef _ rfl rfl Tryd.sizeOf24 Tryd.isAgg24 rfl rfl rfl) ?_
                  refine AOps.call (o_move _ rfl rfl) ?_
                  refine AOps.call (o_move _ rfl rfl) ?_
                  refine AOps.call (o_build bu26 rfl rfl rfl) ?_
                  refine AOps.call (o_call (Apply_s (appM p ⟨kind, a, 0⟩).1 ⟨kind, b, 0⟩) Tryd.call31 rfl rfl) ?_
                  refine AOps.call (o_move _ rfl rfl) ?_
                  refine AOps.call (o_extract _ rfl rfl rfl rfl) ?_
                  refine AOps.call (o_extract _ rfl rfl rfl rfl) ?_
                  refine AOps.call (o_extract _ rfl rfl rfl rfl) ?_
                  refine AOps.call (o_alloc ze24 rfl rfl) ?_
                  refine AOps.cons (o_store _ _ rfl rfl Tryd.sizeOf24 rfl rfl rfl rfl rfl) ?_
                  refine AOps.call (o_assign _ rfl rfl) ?_
                  refine AOps.call (o_assign _ rfl rfl) ?_
                  refine AOps.nil ?_
                  refine AWP.seq ?_
                  refine AWP.region ?_
                  refine AOps.call (o_loadRef _ rfl rfl Tryd.sizeOf24 Tryd.isAgg24 rfl rfl rfl) ?_
                  refine AOps.call (o_move _ rfl rfl) ?_
                  refine AOps.call (o_move _ rfl rfl) ?_
                  refine AOps.call (o_move _ rfl rfl) ?_
                  refine AOps.call (o_add _ _ rfl rfl ⟨by (try dsimp only); omega, by (try dsimp only); omega⟩ rfl) ?_
                  refine AOps.call (o_build bu26 rfl rfl rfl) ?_
                  refine AOps.call (o_call (Apply_s p ⟨kind, a + b, 0⟩) Tryd.call31 rfl rfl) ?_
                  refine AOps.call (o_move _ rfl rfl) ?_
                  refine AOps.call (o_extract _ rfl rfl rfl rfl) ?_
                  refine AOps.call (o_extract _ rfl rfl rfl rfl) ?_
                  refine AOps.call (o_extract _ rfl rfl rfl rfl) ?_
                  refine AOps.call (o_alloc ze24 rfl rfl) ?_
                  refine AOps.cons (o_store _ _ rfl rfl Tryd.sizeOf24 rfl rfl rfl rfl rfl) ?_
                  refine AOps.call (o_assign _ rfl rfl) ?_
                  refine AOps.call (o_assign _ rfl rfl) ?_
                  refine AOps.nil ?_
                  refine AWP.seq ?_
                  refine AWP.seq ?_
                  refine AWP.region ?_
                  refine AOps.call (o_move _ rfl rfl) ?_
                  refine AOps.call (o_bin _ _ rfl rfl (fun _ => rfl) rfl) ?_
                  refine AOps.call (o_move _ rfl rfl) ?_
                  refine AOps.split rfl rfl rfl (fun h55 => ?_) (fun h55 => ?_)
                  · skip
                    have h2 : (appM (appM p ⟨kind, a, 0⟩).1 ⟨kind, b, 0⟩).2.2 = 0 := by simpa using h55
                    refine AOps.go rfl rfl rfl h55 (o_move _ rfl rfl) ?_
                    refine AOps.go rfl rfl rfl h55 (o_bin _ _ rfl rfl (fun _ => rfl) rfl) ?_
                    refine AOps.call (o_pickF _ _ _ rfl h55 rfl rfl) ?_
                    refine AOps.nil ?_
                    refine AWP.cond _ rfl (fun h57 => ?_) (fun h57 => ?_)
                    · skip
                      refine AWP.seq ?_
                      refine AWP.region ?_
                      refine AOps.call (o_assign _ rfl rfl) ?_
                      refine AOps.nil ?_
                      refine AWP.ret ?_
                      first
                      | exact postQ.ret1 Tryd.results10 rfl rfl
                      | (refine postQ.ret1 Tryd.results10 rfl ?_; simp [AV.close, AV.close.closeL, B, I]; done)
                      | (refine postQ.ret1 Tryd.results10 rfl ?_; simp [AV.close, AV.close.closeL, B, I]; omega)
                      | (refine postQ.ret1 Tryd.results10 rfl ?_; simp_all [AV.close, AV.close.closeL, B, I]; done)
                      | (refine postQ.ret1 Tryd.results10 rfl ?_; simp_all [AV.close, AV.close.closeL, B, I]; omega)
                    · skip
                      have h3 : (appM p ⟨kind, a + b, 0⟩).2.2 = 0 := by simpa using h57
                      have h4 := app_two (by omega) (by omega) (by omega) h1 h2 h3
                      refine AWP.skip ?_
                      refine AWP.seq ?_
                      refine AWP.region ?_
                      refine AOps.call (o_loadRef _ rfl rfl Tryd.sizeOf24 Tryd.isAgg24 rfl rfl rfl) ?_
                      refine AOps.call (o_loadRef _ rfl rfl Tryd.sizeOf24 Tryd.isAgg24 rfl rfl rfl) ?_
                      refine AOps.call (o_call (Same_s _ _ (by omega)) Tryd.call33 rfl rfl) ?_
                      refine AOps.call (o_move _ rfl rfl) ?_
                      refine AOps.split rfl rfl rfl (fun h61 => ?_) (fun h61 => ?_)
                      · skip
                        refine AOps.go rfl rfl rfl h61 (o_move _ rfl rfl) ?_
                        refine AOps.go rfl rfl rfl h61 (o_move _ rfl rfl) ?_
                        refine AOps.go rfl rfl rfl h61 (o_add _ _ rfl rfl ⟨by (try dsimp only); omega, by (try dsimp only); omega⟩ rfl) ?_
                        refine AOps.go rfl rfl rfl h61 (o_move _ rfl rfl) ?_
                        refine AOps.go rfl rfl rfl h61 (o_bin _ _ rfl rfl (fun _ => rfl) rfl) ?_
                        refine AOps.call (o_pickT _ _ _ rfl h61 rfl rfl) ?_
                        refine AOps.call (o_assign _ rfl rfl) ?_
                        refine AOps.nil ?_
                        refine AWP.ret ?_
                        first
                        | exact postQ.ret1 Tryd.results10 rfl rfl
                        | (refine postQ.ret1 Tryd.results10 rfl ?_; simp [AV.close, AV.close.closeL, B, I]; done)
                        | (refine postQ.ret1 Tryd.results10 rfl ?_; simp [AV.close, AV.close.closeL, B, I]; omega)
                        | (refine postQ.ret1 Tryd.results10 rfl ?_; simp_all [AV.close, AV.close.closeL, B, I]; done)
                        | (refine postQ.ret1 Tryd.results10 rfl ?_; simp_all [AV.close, AV.close.closeL, B, I]; omega)
                      · skip
                        exfalso
                        rw [same_yes h4.1] at h61
                        cases h61
                  · skip
                    refine AOps.pass rfl rfl rfl h55 rfl ?_
                    refine AOps.pass rfl rfl rfl h55 rfl ?_
                    refine AOps.call (o_pickT _ _ _ rfl h55 rfl rfl) ?_
                    refine AOps.nil ?_
                    refine AWP.condT rfl ?_
                    refine AWP.seq ?_
                    refine AWP.region ?_
                    refine AOps.call (o_assign _ rfl rfl) ?_
                    refine AOps.nil ?_
                    refine AWP.ret ?_
                    first
                    | exact postQ.ret1 Tryd.results10 rfl rfl
                    | (refine postQ.ret1 Tryd.results10 rfl ?_; simp [AV.close, AV.close.closeL, B, I]; done)
                    | (refine postQ.ret1 Tryd.results10 rfl ?_; simp [AV.close, AV.close.closeL, B, I]; omega)
                    | (refine postQ.ret1 Tryd.results10 rfl ?_; simp_all [AV.close, AV.close.closeL, B, I]; done)
                    | (refine postQ.ret1 Tryd.results10 rfl ?_; simp_all [AV.close, AV.close.closeL, B, I]; omega)
            · skip
              refine AOps.pass rfl rfl rfl h19 rfl ?_
              refine AOps.pass rfl rfl rfl h19 rfl ?_
              refine AOps.call (o_pickT _ _ _ rfl h19 rfl rfl) ?_
              refine AOps.nil ?_
              refine AWP.condT rfl ?_
              refine AWP.seq ?_
              refine AWP.region ?_
              refine AOps.call (o_assign _ rfl rfl) ?_
              refine AOps.nil ?_
              refine AWP.ret ?_
              first
              | exact postQ.ret1 Tryd.results10 rfl rfl
              | (refine postQ.ret1 Tryd.results10 rfl ?_; simp [AV.close, AV.close.closeL, B, I]; done)
              | (refine postQ.ret1 Tryd.results10 rfl ?_; simp [AV.close, AV.close.closeL, B, I]; omega)
              | (refine postQ.ret1 Tryd.results10 rfl ?_; simp_all [AV.close, AV.close.closeL, B, I]; done)
              | (refine postQ.ret1 Tryd.results10 rfl ?_; simp_all [AV.close, AV.close.closeL, B, I]; omega)
          · skip
            refine AOps.pass rfl rfl rfl h16 rfl ?_
            refine AOps.pass rfl rfl rfl h16 rfl ?_
            refine AOps.call (o_pickT _ _ _ rfl h16 rfl rfl) ?_
            refine AOps.call (o_move _ rfl rfl) ?_
            refine AOps.pass rfl rfl rfl rfl rfl ?_
            refine AOps.pass rfl rfl rfl rfl rfl ?_
            refine AOps.call (o_pickT _ _ _ rfl rfl rfl rfl) ?_
            refine AOps.nil ?_
            refine AWP.condT rfl ?_
            refine AWP.seq ?_
            refine AWP.region ?_
            refine AOps.call (o_assign _ rfl rfl) ?_
            refine AOps.nil ?_
            refine AWP.ret ?_
            first
            | exact postQ.ret1 Tryd.results10 rfl rfl
            | (refine postQ.ret1 Tryd.results10 rfl ?_; simp [AV.close, AV.close.closeL, B, I]; done)
            | (refine postQ.ret1 Tryd.results10 rfl ?_; simp [AV.close, AV.close.closeL, B, I]; omega)
            | (refine postQ.ret1 Tryd.results10 rfl ?_; simp_all [AV.close, AV.close.closeL, B, I]; done)
            | (refine postQ.ret1 Tryd.results10 rfl ?_; simp_all [AV.close, AV.close.closeL, B, I]; omega)
        · skip
          refine AOps.pass rfl rfl rfl h13 rfl ?_
          refine AOps.pass rfl rfl rfl h13 rfl ?_
          refine AOps.call (o_pickT _ _ _ rfl h13 rfl rfl) ?_
          refine AOps.call (o_move _ rfl rfl) ?_
          refine AOps.pass rfl rfl rfl rfl rfl ?_
          refine AOps.pass rfl rfl rfl rfl rfl ?_
          refine AOps.call (o_pickT _ _ _ rfl rfl rfl rfl) ?_
          refine AOps.call (o_move _ rfl rfl) ?_
          refine AOps.pass rfl rfl rfl rfl rfl ?_
          refine AOps.pass rfl rfl rfl rfl rfl ?_
          refine AOps.call (o_pickT _ _ _ rfl rfl rfl rfl) ?_
          refine AOps.nil ?_
          refine AWP.condT rfl ?_
          refine AWP.seq ?_
          refine AWP.region ?_
          refine AOps.call (o_assign _ rfl rfl) ?_
          refine AOps.nil ?_
          refine AWP.ret ?_
          first
          | exact postQ.ret1 Tryd.results10 rfl rfl
          | (refine postQ.ret1 Tryd.results10 rfl ?_; simp [AV.close, AV.close.closeL, B, I]; done)
          | (refine postQ.ret1 Tryd.results10 rfl ?_; simp [AV.close, AV.close.closeL, B, I]; omega)
          | (refine postQ.ret1 Tryd.results10 rfl ?_; simp_all [AV.close, AV.close.closeL, B, I]; done)
          | (refine postQ.ret1 Tryd.results10 rfl ?_; simp_all [AV.close, AV.close.closeL, B, I]; omega)
      · skip
        refine AOps.pass rfl rfl rfl h10 rfl ?_
        refine AOps.pass rfl rfl rfl h10 rfl ?_
        refine AOps.call (o_pickT _ _ _ rfl h10 rfl rfl) ?_
        refine AOps.call (o_move _ rfl rfl) ?_
        refine AOps.pass rfl rfl rfl rfl rfl ?_
        refine AOps.pass rfl rfl rfl rfl rfl ?_
        refine AOps.call (o_pickT _ _ _ rfl rfl rfl rfl) ?_
        refine AOps.call (o_move _ rfl rfl) ?_
        refine AOps.pass rfl rfl rfl rfl rfl ?_
        refine AOps.pass rfl rfl rfl rfl rfl ?_
        refine AOps.call (o_pickT _ _ _ rfl rfl rfl rfl) ?_
        refine AOps.call (o_move _ rfl rfl) ?_
        refine AOps.pass rfl rfl rfl rfl rfl ?_
        refine AOps.pass rfl rfl rfl rfl rfl ?_
        refine AOps.call (o_pickT _ _ _ rfl rfl rfl rfl) ?_
        refine AOps.nil ?_
        refine AWP.condT rfl ?_
        refine AWP.seq ?_
        refine AWP.region ?_
        refine AOps.call (o_assign _ rfl rfl) ?_
        refine AOps.nil ?_
        refine AWP.ret ?_
        first
        | exact postQ.ret1 Tryd.results10 rfl rfl
        | (refine postQ.ret1 Tryd.results10 rfl ?_; simp [AV.close, AV.close.closeL, B, I]; done)
        | (refine postQ.ret1 Tryd.results10 rfl ?_; simp [AV.close, AV.close.closeL, B, I]; omega)
        | (refine postQ.ret1 Tryd.results10 rfl ?_; simp_all [AV.close, AV.close.closeL, B, I]; done)
        | (refine postQ.ret1 Tryd.results10 rfl ?_; simp_all [AV.close, AV.close.closeL, B, I]; omega)
    · skip
      refine AOps.pass rfl rfl rfl h7 rfl ?_
      refine AOps.pass rfl rfl rfl h7 rfl ?_
      refine AOps.call (o_pickT _ _ _ rfl h7 rfl rfl) ?_
      refine AOps.call (o_move _ rfl rfl) ?_
      refine AOps.pass rfl rfl rfl rfl rfl ?_
      refine AOps.pass rfl rfl rfl rfl rfl ?_
      refine AOps.call (o_pickT _ _ _ rfl rfl rfl rfl) ?_
      refine AOps.call (o_move _ rfl rfl) ?_
      refine AOps.pass rfl rfl rfl rfl rfl ?_
      refine AOps.pass rfl rfl rfl rfl rfl ?_
      refine AOps.call (o_pickT _ _ _ rfl rfl rfl rfl) ?_
      refine AOps.call (o_move _ rfl rfl) ?_
      refine AOps.pass rfl rfl rfl rfl rfl ?_
      refine AOps.pass rfl rfl rfl rfl rfl ?_
      refine AOps.call (o_pickT _ _ _ rfl rfl rfl rfl) ?_
      refine AOps.call (o_move _ rfl rfl) ?_
      refine AOps.pass rfl rfl rfl rfl rfl ?_
      refine AOps.pass rfl rfl rfl rfl rfl ?_
      refine AOps.call (o_pickT _ _ _ rfl rfl rfl rfl) ?_
      refine AOps.nil ?_
      refine AWP.condT rfl ?_
      refine AWP.seq ?_
      refine AWP.region ?_
      refine AOps.call (o_assign _ rfl rfl) ?_
      refine AOps.nil ?_
      refine AWP.ret ?_
      first
      | exact postQ.ret1 Tryd.results10 rfl rfl
      | (refine postQ.ret1 Tryd.results10 rfl ?_; simp [AV.close, AV.close.closeL, B, I]; done)
      | (refine postQ.ret1 Tryd.results10 rfl ?_; simp [AV.close, AV.close.closeL, B, I]; omega)
      | (refine postQ.ret1 Tryd.results10 rfl ?_; simp_all [AV.close, AV.close.closeL, B, I]; done)
      | (refine postQ.ret1 Tryd.results10 rfl ?_; simp_all [AV.close, AV.close.closeL, B, I]; omega)

end Go.Proofs.YtgagfmjpmdgfdaaDoor
