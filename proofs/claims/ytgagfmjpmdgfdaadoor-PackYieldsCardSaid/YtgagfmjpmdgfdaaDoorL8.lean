import Derived.Test.YtgagfmjpmdgfdaaDoorQ16
import Derived.Test.YtgagfmjpmdgfdaaDoorX11
import Derived.Test.YtgagfmjpmdgfdaaDoorQ20
set_option linter.unusedSimpArgs false
set_option linter.unusedVariables false
namespace Go.Proofs.YtgagfmjpmdgfdaaDoor
open Go.Ab

set_option maxHeartbeats 4000000 in
set_option maxRecDepth 20000 in
theorem PackYields_s (p : List Lay) (melt more out : Int) : FSpecG Tryd.prog TAB 12 [.agg (eK p), I melt, I more, I out] (B true) (none) := by
  refine FSpecG.of_body tab_stable Tryd.func12 rfl (leB rfl) fun w0 M0 hG => ?_
  refine AWP.seq ?_
  refine AWP.region ?_
  refine AOps.call (o_box _ rfl rfl rfl) ?_
  refine AOps.call (o_assign _ rfl rfl) ?_
  refine AOps.nil ?_
  refine AWP.seq ?_
  refine AWP.seq ?_
  refine AWP.region ?_
  refine AOps.call (o_callG (sane_s) hG Tryd.call18 rfl rfl) ?_
  refine AOps.call (o_un _ rfl (fun _ => rfl) rfl) ?_
  refine AOps.nil ?_
  refine AWP.cond _ rfl (fun h4 => ?_) (fun h4 => ?_)
  · skip
    exfalso
    simp at h4
  · skip
    refine AWP.skip ?_
    refine AWP.seq ?_
    refine AWP.region ?_
    refine AOps.call (o_loadRef _ rfl rfl Tryd.sizeOf24 Tryd.isAgg24 rfl rfl rfl) ?_
    refine AOps.call (o_move _ rfl rfl) ?_
    refine AOps.call (o_call (Yield_s p melt) Tryd.call40 rfl rfl) ?_
    refine AOps.call (o_move _ rfl rfl) ?_
    refine AOps.call (o_extract _ rfl rfl rfl rfl) ?_
    refine AOps.call (o_extract _ rfl rfl rfl rfl) ?_
    refine AOps.call (o_assign _ rfl rfl) ?_
    refine AOps.call (o_assign _ rfl rfl) ?_
    refine AOps.nil ?_
    refine AWP.seq ?_
    refine AWP.seq ?_
    refine AWP.region ?_
    refine AOps.call (o_move _ rfl rfl) ?_
    refine AOps.call (o_bin _ _ rfl rfl (fun _ => rfl) rfl) ?_
    refine AOps.nil ?_
    refine AWP.cond _ rfl (fun h11 => ?_) (fun h11 => ?_)
    · skip
      have hn : ¬ (yldM p melt).2 = 0 := by simpa using h11
      have hF := yld_no hn
      refine AWP.seq ?_
      refine AWP.region ?_
      refine AOps.call (o_move _ rfl rfl) ?_
      refine AOps.call (o_bin _ _ rfl rfl (fun _ => rfl) rfl) ?_
      refine AOps.call (o_assign _ rfl rfl) ?_
      refine AOps.nil ?_
      refine AWP.ret ?_
      first
      | exact postQ.ret1 Tryd.results12 rfl rfl
      | (refine postQ.ret1 Tryd.results12 rfl ?_; simp [AV.close, AV.close.closeL, B, I]; done)
      | (refine postQ.ret1 Tryd.results12 rfl ?_; simp [AV.close, AV.close.closeL, B, I]; omega)
      | (refine postQ.ret1 Tryd.results12 rfl ?_; simp_all [AV.close, AV.close.closeL, B, I]; done)
      | (refine postQ.ret1 Tryd.results12 rfl ?_; simp_all [AV.close, AV.close.closeL, B, I]; omega)
    · skip
      have hok : (yldM p melt).2 = 0 := by simpa using h11
      obtain ⟨a1, a2, a3⟩ := yld_ok hok
      obtain ⟨y1, y2, y3⟩ := yld_app hok
      have e1 : (appM p ⟨3, melt, 0⟩).2.2 = 0 := congrArg (fun x => x.2.2) y1
      have e2 : (appM p ⟨3, melt, 0⟩).2.1 = (yldM p melt).1 := congrArg (fun x => x.2.1) y1
      have hen := en_ok (out := out) a1
      refine AWP.skip ?_
      refine AWP.seq ?_
      refine AWP.region ?_
      refine AOps.call (o_loadRef _ rfl rfl Tryd.sizeOf24 Tryd.isAgg24 rfl rfl rfl) ?_
      refine AOps.call (o_move _ rfl rfl) ?_
      refine AOps.call (o_build bu26 rfl rfl rfl) ?_
      refine AOps.call (o_call (Apply_s p ⟨3, melt, 0⟩) Tryd.call31 rfl rfl) ?_
      refine AOps.call (o_move _ rfl rfl) ?_
      refine AOps.call (o_extract _ rfl rfl rfl rfl) ?_
      refine AOps.call (o_extract _ rfl rfl rfl rfl) ?_
      refine AOps.call (o_extract _ rfl rfl rfl rfl) ?_
      refine AOps.call (o_alloc ze24 rfl rfl) ?_
      refine AOps.cons (o_store _ _ rfl rfl Tryd.sizeOf24 rfl rfl rfl rfl rfl) ?_
      refine AOps.call (o_assign _ rfl rfl) ?_
      refine AOps.call (o_assign _ rfl rfl) ?_
      refine AOps.nil ?_
      refine AWP.seq ?_
      refine AWP.region ?_
      refine AOps.call (o_loadRef _ rfl rfl Tryd.sizeOf24 Tryd.isAgg24 rfl rfl rfl) ?_
      refine AOps.call (o_call (water_ok a1) Tryd.call22 rfl rfl) ?_
      refine AOps.call (o_move _ rfl rfl) ?_
      refine AOps.call (o_extract _ rfl rfl rfl rfl) ?_
      refine AOps.call (o_extract _ rfl rfl rfl rfl) ?_
      refine AOps.call (o_assign _ rfl rfl) ?_
      refine AOps.call (o_assign _ rfl rfl) ?_
      refine AOps.nil ?_
      refine AWP.seq ?_
      refine AWP.seq ?_
      refine AWP.region ?_
      refine AOps.call (o_move _ rfl rfl) ?_
      refine AOps.call (o_bin _ _ rfl rfl (fun _ => rfl) rfl) ?_
      refine AOps.call (o_move _ rfl rfl) ?_
      refine AOps.split rfl rfl rfl (fun h26 => ?_) (fun h26 => ?_)
      · skip
        refine AOps.go rfl rfl rfl h26 (o_move _ rfl rfl) ?_
        refine AOps.go rfl rfl rfl h26 (o_bin _ _ rfl rfl (fun _ => rfl) rfl) ?_
        refine AOps.call (o_pickF _ _ _ rfl h26 rfl rfl) ?_
        refine AOps.call (o_move _ rfl rfl) ?_
        refine AOps.split rfl rfl rfl (fun h28 => ?_) (fun h28 => ?_)
        · skip
          refine AOps.go rfl rfl rfl h28 (o_move _ rfl rfl) ?_
          refine AOps.go rfl rfl rfl h28 (o_move _ rfl rfl) ?_
          refine AOps.go rfl rfl rfl h28 (o_bin _ _ rfl rfl (fun _ => rfl) rfl) ?_
          refine AOps.call (o_pickF _ _ _ rfl h28 rfl rfl) ?_
          refine AOps.call (o_move _ rfl rfl) ?_
          refine AOps.split rfl rfl rfl (fun h30 => ?_) (fun h30 => ?_)
          · skip
            refine AOps.go rfl rfl rfl h30 (o_move _ rfl rfl) ?_
            refine AOps.go rfl rfl rfl h30 (o_move _ rfl rfl) ?_
            refine AOps.go rfl rfl rfl h30 (o_bin _ _ rfl rfl (fun _ => rfl) rfl) ?_
            refine AOps.call (o_pickF _ _ _ rfl h30 rfl rfl) ?_
            refine AOps.call (o_move _ rfl rfl) ?_
            refine AOps.split rfl rfl rfl (fun h32 => ?_) (fun h32 => ?_)
            · skip
              refine AOps.go rfl rfl rfl h32 (o_fieldRef _ rfl fa24_0 rfl rfl) ?_
              refine AOps.go rfl rfl rfl h32 (o_loadRef _ rfl rfl Tryd.sizeOf22 Tryd.isAgg22 rfl rfl rfl) ?_
              refine AOps.go rfl rfl rfl h32 (o_len _ Tryd.underlying22 rfl rfl) ?_
              refine AOps.go rfl rfl rfl h32 (o_bin _ _ rfl rfl (fun _ => rfl) rfl) ?_
              refine AOps.go rfl rfl rfl h32 (o_move _ rfl rfl) ?_
              refine AOps.split rfl rfl rfl (fun h37 => ?_) (fun h37 => ?_)
              · skip
                have hz : (appM p ⟨3, melt, 0⟩).1 = [] := List.eq_nil_of_length_eq_zero (by have hq : (((lays (appM p ⟨3, melt, 0⟩).1).length : Nat) : Int) = 0 := (by simpa using h37); have hl := lays_len (appM p ⟨3, melt, 0⟩).1; omega)
                refine AOps.go rfl rfl rfl h37 (o_move _ rfl rfl) ?_
                refine AOps.go rfl rfl rfl h37 (o_move _ rfl rfl) ?_
                refine AOps.go rfl rfl rfl h37 (o_bin _ _ rfl rfl (fun _ => rfl) rfl) ?_
                refine AOps.go rfl rfl rfl h32 (o_pickT _ _ _ rfl h37 rfl rfl) ?_
                refine AOps.call (o_pickF _ _ _ rfl h32 rfl rfl) ?_
                refine AOps.nil ?_
                refine AWP.cond _ rfl (fun h39 => ?_) (fun h39 => ?_)
                · skip
                  exfalso
                  have hq : ¬ (yldM p melt).1 = watL p := by simpa using h39
                  exact hq (y3 hz)
                · skip
                  refine AWP.skip ?_
                  refine AWP.seq ?_
                  refine AWP.region ?_
                  refine AOps.call (o_loadRef _ rfl rfl Tryd.sizeOf24 Tryd.isAgg24 rfl rfl rfl) ?_
                  refine AOps.call (o_move _ rfl rfl) ?_
                  refine AOps.call (o_call (Yield_s p more) Tryd.call40 rfl rfl) ?_
                  refine AOps.call (o_move _ rfl rfl) ?_
                  refine AOps.call (o_extract _ rfl rfl rfl rfl) ?_
                  refine AOps.call (o_extract _ rfl rfl rfl rfl) ?_
                  refine AOps.call (o_assign _ rfl rfl) ?_
                  refine AOps.call (o_assign _ rfl rfl) ?_
                  refine AOps.nil ?_
                  refine AWP.seq ?_
                  refine AWP.seq ?_
                  refine AWP.region ?_
                  refine AOps.call (o_move _ rfl rfl) ?_
                  refine AOps.call (o_bin _ _ rfl rfl (fun _ => rfl) rfl) ?_
                  refine AOps.call (o_move _ rfl rfl) ?_
                  refine AOps.split rfl rfl rfl (fun h46 => ?_) (fun h46 => ?_)
                  · skip
                    have h2 : (yldM p more).2 = 0 := by simpa using h46
                    refine AOps.go rfl rfl rfl h46 (o_move _ rfl rfl) ?_
                    refine AOps.go rfl rfl rfl h46 (o_move _ rfl rfl) ?_
                    refine AOps.go rfl rfl rfl h46 (o_bin _ _ rfl rfl (fun _ => rfl) rfl) ?_
                    refine AOps.go rfl rfl rfl h46 (o_move _ rfl rfl) ?_
                    refine AOps.split rfl rfl rfl (fun h50 => ?_) (fun h50 => ?_)
                    · skip
                      have g91 := h50
                      refine AOps.go rfl rfl rfl h50 (o_move _ rfl rfl) ?_
                      refine AOps.go rfl rfl rfl h50 (o_move _ rfl rfl) ?_
                      refine AOps.go rfl rfl rfl h50 (o_bin _ _ rfl rfl (fun _ => rfl) rfl) ?_
                      refine AOps.go rfl rfl rfl h46 (o_pickT _ _ _ rfl h50 rfl rfl) ?_
                      refine AOps.go rfl rfl rfl h46 (o_move _ rfl rfl) ?_
                      refine AOps.split rfl rfl rfl (fun h52 => ?_) (fun h52 => ?_)
                      · skip
                        refine AOps.go rfl rfl rfl h52 (o_move _ rfl rfl) ?_
                        refine AOps.go rfl rfl rfl h52 (o_move _ rfl rfl) ?_
                        refine AOps.go rfl rfl rfl h52 (o_bin _ _ rfl rfl (fun _ => rfl) rfl) ?_
                        refine AOps.go rfl rfl rfl h52 (o_move _ rfl rfl) ?_
                        refine AOps.split rfl rfl rfl (fun h56 => ?_) (fun h56 => ?_)
                        · skip
                          have g100 := h56
                          refine AOps.go rfl rfl rfl h56 (o_move _ rfl rfl) ?_
                          refine AOps.go rfl rfl rfl h56 (o_move _ rfl rfl) ?_
                          refine AOps.go rfl rfl rfl h56 (o_bin _ _ rfl rfl (fun _ => rfl) rfl) ?_
                          refine AOps.go rfl rfl rfl h52 (o_pickT _ _ _ rfl h56 rfl rfl) ?_
                          refine AOps.go rfl rfl rfl h46 (o_pickF _ _ _ rfl h52 rfl rfl) ?_
                          refine AOps.call (o_pickT _ _ _ rfl h46 rfl rfl) ?_
                          refine AOps.nil ?_
                          refine AWP.cond _ rfl (fun h58 => ?_) (fun h58 => ?_)
                          · skip
                            exfalso
                            have hq := of_decide_eq_true h58
                            have hm := yld_mono h2 hok (of_decide_eq_true g100)
                            omega
                          · skip
                            refine AWP.skip ?_
                            refine AWP.seq ?_
                            refine AWP.region ?_
                            refine AOps.call (o_loadRef _ rfl rfl Tryd.sizeOf24 Tryd.isAgg24 rfl rfl rfl) ?_
                            refine AOps.call (o_move _ rfl rfl) ?_
                            refine AOps.call (o_call (Enough_s p out) Tryd.call42 rfl rfl) ?_
                            refine AOps.call (o_move _ rfl rfl) ?_
                            refine AOps.call (o_extract _ rfl rfl rfl rfl) ?_
                            refine AOps.call (o_extract _ rfl rfl rfl rfl) ?_
                            refine AOps.call (o_extract _ rfl rfl rfl rfl) ?_
                            refine AOps.call (o_assign _ rfl rfl) ?_
                            refine AOps.call (o_assign _ rfl rfl) ?_
                            refine AOps.call (o_assign _ rfl rfl) ?_
                            refine AOps.nil ?_
                            refine AWP.seq ?_
                            refine AWP.seq ?_
                            refine AWP.region ?_
                            refine AOps.call (o_move _ rfl rfl) ?_
                            refine AOps.call (o_bin _ _ rfl rfl (fun _ => rfl) rfl) ?_
                            refine AOps.nil ?_
                            refine AWP.cond _ rfl (fun h66 => ?_) (fun h66 => ?_)
                            · skip
                              have he : ¬ (enM p out).2.2 = 0 := by simpa using h66
                              obtain ⟨q1, q2⟩ := hen.1 he
                              have q3 : (enM p out).1 = 0 := congrArg Prod.fst q1
                              have q4 : (enM p out).2.1 = false := congrArg (fun x => x.2.1) q1
                              have q5 : (enM p out).2.2 = 1 := congrArg (fun x => x.2.2) q1
                              refine AWP.seq ?_
                              refine AWP.region ?_
                              refine AOps.call (o_move _ rfl rfl) ?_
                              refine AOps.call (o_bin _ _ rfl rfl (fun _ => rfl) rfl) ?_
                              refine AOps.call (o_move _ rfl rfl) ?_
                              refine AOps.split rfl rfl rfl (fun h68 => ?_) (fun h68 => ?_)
                              · skip
                                refine AOps.go rfl rfl rfl h68 (o_move _ rfl rfl) ?_
                                refine AOps.go rfl rfl rfl h68 (o_bin _ _ rfl rfl (fun _ => rfl) rfl) ?_
                                refine AOps.go rfl rfl rfl h68 (o_move _ rfl rfl) ?_
                                refine AOps.split rfl rfl rfl (fun h71 => ?_) (fun h71 => ?_)
                                · skip
                                  have g121 := of_decide_eq_false h71
                                  refine AOps.go rfl rfl rfl h71 (o_move _ rfl rfl) ?_
                                  refine AOps.go rfl rfl rfl h71 (o_bin _ _ rfl rfl (fun _ => rfl) rfl) ?_
                                  refine AOps.go rfl rfl rfl h68 (o_pickF _ _ _ rfl h71 rfl rfl) ?_
                                  refine AOps.call (o_pickT _ _ _ rfl h68 rfl rfl) ?_
                                  refine AOps.call (o_move _ rfl rfl) ?_
                                  refine AOps.split rfl rfl rfl (fun h74 => ?_) (fun h74 => ?_)
                                  · skip
                                    refine AOps.go rfl rfl rfl h74 (o_move _ rfl rfl) ?_
                                    refine AOps.go rfl rfl rfl h74 (o_bin _ _ rfl rfl (fun _ => rfl) rfl) ?_
                                    refine AOps.call (o_pickT _ _ _ rfl h74 rfl rfl) ?_
                                    refine AOps.call (o_move _ rfl rfl) ?_
                                    refine AOps.split rfl rfl rfl (fun h76 => ?_) (fun h76 => ?_)
                                    · skip
                                      refine AOps.go rfl rfl rfl h76 (o_move _ rfl rfl) ?_
                                      refine AOps.go rfl rfl rfl h76 (o_un _ rfl (fun _ => rfl) rfl) ?_
                                      refine AOps.call (o_pickT _ _ _ rfl h76 rfl rfl) ?_
                                      refine AOps.call (o_assign _ rfl rfl) ?_
                                      refine AOps.nil ?_
                                      refine AWP.ret ?_
                                      first
                                      | exact postQ.ret1 Tryd.results12 rfl rfl
                                      | (refine postQ.ret1 Tryd.results12 rfl ?_; simp [AV.close, AV.close.closeL, B, I]; done)
                                      | (refine postQ.ret1 Tryd.results12 rfl ?_; simp [AV.close, AV.close.closeL, B, I]; omega)
                                      | (refine postQ.ret1 Tryd.results12 rfl ?_; simp_all [AV.close, AV.close.closeL, B, I]; done)
                                      | (refine postQ.ret1 Tryd.results12 rfl ?_; simp_all [AV.close, AV.close.closeL, B, I]; omega)
                                    · skip
                                      exfalso
                                      rw [q3] at h76
                                      exact absurd h76 (by decide)
                                  · skip
                                    exfalso
                                    have hq := of_decide_eq_false h74
                                    omega
                                · skip
                                  refine AOps.pass rfl rfl rfl h71 rfl ?_
                                  refine AOps.pass rfl rfl rfl h71 rfl ?_
                                  refine AOps.go rfl rfl rfl h68 (o_pickT _ _ _ rfl h71 rfl rfl) ?_
                                  refine AOps.call (o_pickT _ _ _ rfl h68 rfl rfl) ?_
                                  refine AOps.call (o_move _ rfl rfl) ?_
                                  refine AOps.go rfl rfl rfl rfl (o_move _ rfl rfl) ?_
                                  refine AOps.go rfl rfl rfl rfl (o_bin _ _ rfl rfl (fun _ => rfl) rfl) ?_
                                  refine AOps.call (o_pickT _ _ _ rfl rfl rfl rfl) ?_
                                  refine AOps.call (o_move _ rfl rfl) ?_
                                  refine AOps.split rfl rfl rfl (fun h79 => ?_) (fun h79 => ?_)
                                  · skip
                                    refine AOps.go rfl rfl rfl h79 (o_move _ rfl rfl) ?_
                                    refine AOps.go rfl rfl rfl h79 (o_un _ rfl (fun _ => rfl) rfl) ?_
                                    refine AOps.call (o_pickT _ _ _ rfl h79 rfl rfl) ?_
                                    refine AOps.call (o_assign _ rfl rfl) ?_
                                    refine AOps.nil ?_
                                    refine AWP.ret ?_
                                    first
                                    | exact postQ.ret1 Tryd.results12 rfl rfl
                                    | (refine postQ.ret1 Tryd.results12 rfl ?_; simp [AV.close, AV.close.closeL, B, I]; done)
                                    | (refine postQ.ret1 Tryd.results12 rfl ?_; simp [AV.close, AV.close.closeL, B, I]; omega)
                                    | (refine postQ.ret1 Tryd.results12 rfl ?_; simp_all [AV.close, AV.close.closeL, B, I]; done)
                                    | (refine postQ.ret1 Tryd.results12 rfl ?_; simp_all [AV.close, AV.close.closeL, B, I]; omega)
                                  · skip
                                    exfalso
                                    rw [q3] at h79
                                    exact absurd h79 (by decide)
                              · skip
                                exfalso
                                rw [q5] at h68
                                exact absurd h68 (by decide)
                            · skip
                              have he : (enM p out).2.2 = 0 := by simpa using h66
                              refine AWP.skip ?_
                              refine AWP.seq ?_
                              refine AWP.seq ?_
                              refine AWP.region ?_
                              refine AOps.call (o_move _ rfl rfl) ?_
                              refine AOps.call (o_un _ rfl (fun _ => rfl) rfl) ?_
                              refine AOps.nil ?_
                              refine AWP.cond _ rfl (fun h82 => ?_) (fun h82 => ?_)
                              · skip
                                have hb : (enM p out).2.1 = false := by simpa using h82
                                obtain ⟨q3, q6⟩ := hen.2.1 he hb
                                have q7 : (yldM p 65536).2 = 0 := congrArg Prod.snd (yld_of a1 (by omega))
                                refine AWP.seq ?_
                                refine AWP.region ?_
                                refine AOps.call (o_loadRef _ rfl rfl Tryd.sizeOf24 Tryd.isAgg24 rfl rfl rfl) ?_
                                refine AOps.call (o_call (Yield_s p 65536) Tryd.call40 rfl rfl) ?_
                                refine AOps.call (o_move _ rfl rfl) ?_
                                refine AOps.call (o_extract _ rfl rfl rfl rfl) ?_
                                refine AOps.call (o_extract _ rfl rfl rfl rfl) ?_
                                refine AOps.call (o_assign _ rfl rfl) ?_
                                refine AOps.call (o_assign _ rfl rfl) ?_
                                refine AOps.nil ?_
                                refine AWP.seq ?_
                                refine AWP.region ?_
                                refine AOps.call (o_move _ rfl rfl) ?_
                                refine AOps.call (o_bin _ _ rfl rfl (fun _ => rfl) rfl) ?_
                                refine AOps.call (o_move _ rfl rfl) ?_
                                refine AOps.split rfl rfl rfl (fun h88 => ?_) (fun h88 => ?_)
                                · skip
                                  refine AOps.go rfl rfl rfl h88 (o_move _ rfl rfl) ?_
                                  refine AOps.go rfl rfl rfl h88 (o_move _ rfl rfl) ?_
                                  refine AOps.go rfl rfl rfl h88 (o_bin _ _ rfl rfl (fun _ => rfl) rfl) ?_
                                  refine AOps.call (o_pickT _ _ _ rfl h88 rfl rfl) ?_
                                  refine AOps.call (o_move _ rfl rfl) ?_
                                  refine AOps.split rfl rfl rfl (fun h91 => ?_) (fun h91 => ?_)
                                  · skip
                                    refine AOps.go rfl rfl rfl h91 (o_move _ rfl rfl) ?_
                                    refine AOps.go rfl rfl rfl h91 (o_bin _ _ rfl rfl (fun _ => rfl) rfl) ?_
                                    refine AOps.call (o_pickT _ _ _ rfl h91 rfl rfl) ?_
                                    refine AOps.call (o_assign _ rfl rfl) ?_
                                    refine AOps.nil ?_
                                    refine AWP.ret ?_
                                    first
                                    | exact postQ.ret1 Tryd.results12 rfl rfl
                                    | (refine postQ.ret1 Tryd.results12 rfl ?_; simp [AV.close, AV.close.closeL, B, I]; done)
                                    | (refine postQ.ret1 Tryd.results12 rfl ?_; simp [AV.close, AV.close.closeL, B, I]; omega)
                                    | (refine postQ.ret1 Tryd.results12 rfl ?_; simp_all [AV.close, AV.close.closeL, B, I]; done)
                                    | (refine postQ.ret1 Tryd.results12 rfl ?_; simp_all [AV.close, AV.close.closeL, B, I]; omega)
                                  · skip
                                    exfalso
                                    have hq := of_decide_eq_false h91
                                    omega
                                · skip
                                  exfalso
                                  rw [q7] at h88
                                  exact absurd h88 (by decide)
                              · skip
                                have hb : (enM p out).2.1 = true := by simpa using h82
                                obtain ⟨q3, q4, q5, q6⟩ := hen.2.2 he hb
                                have q7 : (yldM p (enM p out).1).2 = 0 := congrArg Prod.snd (yld_of a1 (by omega))
                                refine AWP.skip ?_
                                refine AWP.seq ?_
                                refine AWP.region ?_
                                refine AOps.call (o_loadRef _ rfl rfl Tryd.sizeOf24 Tryd.isAgg24 rfl rfl rfl) ?_
                                refine AOps.call (o_move _ rfl rfl) ?_
                                refine AOps.call (o_call (Yield_s p (enM p out).1) Tryd.call40 rfl rfl) ?_
                                refine AOps.call (o_move _ rfl rfl) ?_
                                refine AOps.call (o_extract _ rfl rfl rfl rfl) ?_
                                refine AOps.call (o_extract _ rfl rfl rfl rfl) ?_
                                refine AOps.call (o_assign _ rfl rfl) ?_
                                refine AOps.call (o_assign _ rfl rfl) ?_
                                refine AOps.nil ?_
                                refine AWP.seq ?_
                                refine AWP.seq ?_
                                refine AWP.region ?_
                                refine AOps.call (o_move _ rfl rfl) ?_
                                refine AOps.call (o_bin _ _ rfl rfl (fun _ => rfl) rfl) ?_
                                refine AOps.call (o_move _ rfl rfl) ?_
                                refine AOps.split rfl rfl rfl (fun h98 => ?_) (fun h98 => ?_)
                                · skip
                                  refine AOps.go rfl rfl rfl h98 (o_move _ rfl rfl) ?_
                                  refine AOps.go rfl rfl rfl h98 (o_move _ rfl rfl) ?_
                                  refine AOps.go rfl rfl rfl h98 (o_bin _ _ rfl rfl (fun _ => rfl) rfl) ?_
                                  refine AOps.call (o_pickF _ _ _ rfl h98 rfl rfl) ?_
                                  refine AOps.nil ?_
                                  refine AWP.cond _ rfl (fun h101 => ?_) (fun h101 => ?_)
                                  · skip
                                    exfalso
                                    have hq := of_decide_eq_true h101
                                    omega
                                  · skip
                                    refine AWP.skip ?_
                                    refine AWP.seq ?_
                                    refine AWP.seq ?_
                                    refine AWP.region ?_
                                    refine AOps.call (o_move _ rfl rfl) ?_
                                    refine AOps.call (o_bin _ _ rfl rfl (fun _ => rfl) rfl) ?_
                                    refine AOps.nil ?_
                                    refine AWP.cond _ rfl (fun h103 => ?_) (fun h103 => ?_)
                                    · skip
                                      refine AWP.seq ?_
                                      refine AWP.region ?_
                                      refine AOps.call (o_assign _ rfl rfl) ?_
                                      refine AOps.nil ?_
                                      refine AWP.ret ?_
                                      first
                                      | exact postQ.ret1 Tryd.results12 rfl rfl
                                      | (refine postQ.ret1 Tryd.results12 rfl ?_; simp [AV.close, AV.close.closeL, B, I]; done)
                                      | (refine postQ.ret1 Tryd.results12 rfl ?_; simp [AV.close, AV.close.closeL, B, I]; omega)
                                      | (refine postQ.ret1 Tryd.results12 rfl ?_; simp_all [AV.close, AV.close.closeL, B, I]; done)
                                      | (refine postQ.ret1 Tryd.results12 rfl ?_; simp_all [AV.close, AV.close.closeL, B, I]; omega)
                                    · skip
                                      have hne : (enM p out).1 ≠ 0 := by simpa using h103
                                      have q8 := q6 hne
                                      have q9 : (yldM p ((enM p out).1 - 1)).2 = 0 := congrArg Prod.snd (yld_of a1 (by omega))
                                      refine AWP.skip ?_
                                      refine AWP.seq ?_
                                      refine AWP.region ?_
                                      refine AOps.call (o_loadRef _ rfl rfl Tryd.sizeOf24 Tryd.isAgg24 rfl rfl rfl) ?_
                                      refine AOps.call (o_move _ rfl rfl) ?_
                                      refine AOps.call (o_sub _ _ rfl rfl ⟨by (try dsimp only); omega, by (try dsimp only); omega⟩ rfl) ?_
                                      refine AOps.call (o_call (Yield_s p ((enM p out).1 - 1)) Tryd.call40 rfl rfl) ?_
                                      refine AOps.call (o_move _ rfl rfl) ?_
                                      refine AOps.call (o_extract _ rfl rfl rfl rfl) ?_
                                      refine AOps.call (o_extract _ rfl rfl rfl rfl) ?_
                                      refine AOps.call (o_assign _ rfl rfl) ?_
                                      refine AOps.call (o_assign _ rfl rfl) ?_
                                      refine AOps.nil ?_
                                      refine AWP.seq ?_
                                      refine AWP.region ?_
                                      refine AOps.call (o_move _ rfl rfl) ?_
                                      refine AOps.call (o_bin _ _ rfl rfl (fun _ => rfl) rfl) ?_
                                      refine AOps.call (o_move _ rfl rfl) ?_
                                      refine AOps.split rfl rfl rfl (fun h110 => ?_) (fun h110 => ?_)
                                      · skip
                                        refine AOps.go rfl rfl rfl h110 (o_move _ rfl rfl) ?_
                                        refine AOps.go rfl rfl rfl h110 (o_move _ rfl rfl) ?_
                                        refine AOps.go rfl rfl rfl h110 (o_bin _ _ rfl rfl (fun _ => rfl) rfl) ?_
                                        refine AOps.call (o_pickT _ _ _ rfl h110 rfl rfl) ?_
                                        refine AOps.call (o_assign _ rfl rfl) ?_
                                        refine AOps.nil ?_
                                        refine AWP.ret ?_
                                        first
                                        | exact postQ.ret1 Tryd.results12 rfl rfl
                                        | (refine postQ.ret1 Tryd.results12 rfl ?_; simp [AV.close, AV.close.closeL, B, I]; done)
                                        | (refine postQ.ret1 Tryd.results12 rfl ?_; simp [AV.close, AV.close.closeL, B, I]; omega)
                                        | (refine postQ.ret1 Tryd.results12 rfl ?_; simp_all [AV.close, AV.close.closeL, B, I]; done)
                                        | (refine postQ.ret1 Tryd.results12 rfl ?_; simp_all [AV.close, AV.close.closeL, B, I]; omega)
                                      · skip
                                        exfalso
                                        rw [q9] at h110
                                        exact absurd h110 (by decide)
                                · skip
                                  exfalso
                                  rw [q7] at h98
                                  exact absurd h98 (by decide)
                        · skip
                          refine AOps.pass rfl rfl rfl h56 rfl ?_
                          refine AOps.pass rfl rfl rfl h56 rfl ?_
                          refine AOps.pass rfl rfl rfl h56 rfl ?_
                          refine AOps.go rfl rfl rfl h52 (o_pickF _ _ _ rfl h56 rfl rfl) ?_
                          refine AOps.go rfl rfl rfl h46 (o_pickF _ _ _ rfl h52 rfl rfl) ?_
                          refine AOps.call (o_pickT _ _ _ rfl h46 rfl rfl) ?_
                          refine AOps.nil ?_
                          refine AWP.condF rfl ?_
                          refine AWP.skip ?_
                          refine AWP.seq ?_
                          refine AWP.region ?_
                          refine AOps.call (o_loadRef _ rfl rfl Tryd.sizeOf24 Tryd.isAgg24 rfl rfl rfl) ?_
                          refine AOps.call (o_move _ rfl rfl) ?_
                          refine AOps.call (o_call (Enough_s p out) Tryd.call42 rfl rfl) ?_
                          refine AOps.call (o_move _ rfl rfl) ?_
                          refine AOps.call (o_extract _ rfl rfl rfl rfl) ?_
                          refine AOps.call (o_extract _ rfl rfl rfl rfl) ?_
                          refine AOps.call (o_extract _ rfl rfl rfl rfl) ?_
                          refine AOps.call (o_assign _ rfl rfl) ?_
                          refine AOps.call (o_assign _ rfl rfl) ?_
                          refine AOps.call (o_assign _ rfl rfl) ?_
                          refine AOps.nil ?_
                          refine AWP.seq ?_
                          refine AWP.seq ?_
                          refine AWP.region ?_
                          refine AOps.call (o_move _ rfl rfl) ?_
                          refine AOps.call (o_bin _ _ rfl rfl (fun _ => rfl) rfl) ?_
                          refine AOps.nil ?_
                          refine AWP.cond _ rfl (fun h120 => ?_) (fun h120 => ?_)
                          · skip
                            have he : ¬ (enM p out).2.2 = 0 := by simpa using h120
                            obtain ⟨q1, q2⟩ := hen.1 he
                            have q3 : (enM p out).1 = 0 := congrArg Prod.fst q1
                            have q4 : (enM p out).2.1 = false := congrArg (fun x => x.2.1) q1
                            have q5 : (enM p out).2.2 = 1 := congrArg (fun x => x.2.2) q1
                            refine AWP.seq ?_
                            refine AWP.region ?_
                            refine AOps.call (o_move _ rfl rfl) ?_
                            refine AOps.call (o_bin _ _ rfl rfl (fun _ => rfl) rfl) ?_
                            refine AOps.call (o_move _ rfl rfl) ?_
                            refine AOps.split rfl rfl rfl (fun h122 => ?_) (fun h122 => ?_)
                            · skip
                              refine AOps.go rfl rfl rfl h122 (o_move _ rfl rfl) ?_
                              refine AOps.go rfl rfl rfl h122 (o_bin _ _ rfl rfl (fun _ => rfl) rfl) ?_
                              refine AOps.go rfl rfl rfl h122 (o_move _ rfl rfl) ?_
                              refine AOps.split rfl rfl rfl (fun h125 => ?_) (fun h125 => ?_)
                              · skip
                                have g121 := of_decide_eq_false h125
                                refine AOps.go rfl rfl rfl h125 (o_move _ rfl rfl) ?_
                                refine AOps.go rfl rfl rfl h125 (o_bin _ _ rfl rfl (fun _ => rfl) rfl) ?_
                                refine AOps.go rfl rfl rfl h122 (o_pickF _ _ _ rfl h125 rfl rfl) ?_
                                refine AOps.call (o_pickT _ _ _ rfl h122 rfl rfl) ?_
                                refine AOps.call (o_move _ rfl rfl) ?_
                                refine AOps.split rfl rfl rfl (fun h128 => ?_) (fun h128 => ?_)
                                · skip
                                  refine AOps.go rfl rfl rfl h128 (o_move _ rfl rfl) ?_
                                  refine AOps.go rfl rfl rfl h128 (o_bin _ _ rfl rfl (fun _ => rfl) rfl) ?_
                                  refine AOps.call (o_pickT _ _ _ rfl h128 rfl rfl) ?_
                                  refine AOps.call (o_move _ rfl rfl) ?_
                                  refine AOps.split rfl rfl rfl (fun h130 => ?_) (fun h130 => ?_)
                                  · skip
                                    refine AOps.go rfl rfl rfl h130 (o_move _ rfl rfl) ?_
                                    refine AOps.go rfl rfl rfl h130 (o_un _ rfl (fun _ => rfl) rfl) ?_
                                    refine AOps.call (o_pickT _ _ _ rfl h130 rfl rfl) ?_
                                    refine AOps.call (o_assign _ rfl rfl) ?_
                                    refine AOps.nil ?_
                                    refine AWP.ret ?_
                                    first
                                    | exact postQ.ret1 Tryd.results12 rfl rfl
                                    | (refine postQ.ret1 Tryd.results12 rfl ?_; simp [AV.close, AV.close.closeL, B, I]; done)
                                    | (refine postQ.ret1 Tryd.results12 rfl ?_; simp [AV.close, AV.close.closeL, B, I]; omega)
                                    | (refine postQ.ret1 Tryd.results12 rfl ?_; simp_all [AV.close, AV.close.closeL, B, I]; done)
                                    | (refine postQ.ret1 Tryd.results12 rfl ?_; simp_all [AV.close, AV.close.closeL, B, I]; omega)
                                  · skip
                                    exfalso
                                    rw [q3] at h130
                                    exact absurd h130 (by decide)
                                · skip
                                  exfalso
                                  have hq := of_decide_eq_false h128
                                  omega
                              · skip
                                refine AOps.pass rfl rfl rfl h125 rfl ?_
                                refine AOps.pass rfl rfl rfl h125 rfl ?_
                                refine AOps.go rfl rfl rfl h122 (o_pickT _ _ _ rfl h125 rfl rfl) ?_
                                refine AOps.call (o_pickT _ _ _ rfl h122 rfl rfl) ?_
                                refine AOps.call (o_move _ rfl rfl) ?_
                                refine AOps.go rfl rfl rfl rfl (o_move _ rfl rfl) ?_
                                refine AOps.go rfl rfl rfl rfl (o_bin _ _ rfl rfl (fun _ => rfl) rfl) ?_
                                refine AOps.call (o_pickT _ _ _ rfl rfl rfl rfl) ?_
                                refine AOps.call (o_move _ rfl rfl) ?_
                                refine AOps.split rfl rfl rfl (fun h133 => ?_) (fun h133 => ?_)
                                · skip
                                  refine AOps.go rfl rfl rfl h133 (o_move _ rfl rfl) ?_
                                  refine AOps.go rfl rfl rfl h133 (o_un _ rfl (fun _ => rfl) rfl) ?_
                                  refine AOps.call (o_pickT _ _ _ rfl h133 rfl rfl) ?_
                                  refine AOps.call (o_assign _ rfl rfl) ?_
                                  refine AOps.nil ?_
                                  refine AWP.ret ?_
                                  first
                                  | exact postQ.ret1 Tryd.results12 rfl rfl
                                  | (refine postQ.ret1 Tryd.results12 rfl ?_; simp [AV.close, AV.close.closeL, B, I]; done)
                                  | (refine postQ.ret1 Tryd.results12 rfl ?_; simp [AV.close, AV.close.closeL, B, I]; omega)
                                  | (refine postQ.ret1 Tryd.results12 rfl ?_; simp_all [AV.close, AV.close.closeL, B, I]; done)
                                  | (refine postQ.ret1 Tryd.results12 rfl ?_; simp_all [AV.close, AV.close.closeL, B, I]; omega)
                                · skip
                                  exfalso
                                  rw [q3] at h133
                                  exact absurd h133 (by decide)
                            · skip
                              exfalso
                              rw [q5] at h122
                              exact absurd h122 (by decide)
                          · skip
                            have he : (enM p out).2.2 = 0 := by simpa using h120
                            refine AWP.skip ?_
                            refine AWP.seq ?_
                            refine AWP.seq ?_
                            refine AWP.region ?_
                            refine AOps.call (o_move _ rfl rfl) ?_
                            refine AOps.call (o_un _ rfl (fun _ => rfl) rfl) ?_
                            refine AOps.nil ?_
                            refine AWP.cond _ rfl (fun h136 => ?_) (fun h136 => ?_)
                            · skip
                              have hb : (enM p out).2.1 = false := by simpa using h136
                              obtain ⟨q3, q6⟩ := hen.2.1 he hb
                              have q7 : (yldM p 65536).2 = 0 := congrArg Prod.snd (yld_of a1 (by omega))
                              refine AWP.seq ?_
                              refine AWP.region ?_
                              refine AOps.call (o_loadRef _ rfl rfl Tryd.sizeOf24 Tryd.isAgg24 rfl rfl rfl) ?_
                              refine AOps.call (o_call (Yield_s p 65536) Tryd.call40 rfl rfl) ?_
                              refine AOps.call (o_move _ rfl rfl) ?_
                              refine AOps.call (o_extract _ rfl rfl rfl rfl) ?_
                              refine AOps.call (o_extract _ rfl rfl rfl rfl) ?_
                              refine AOps.call (o_assign _ rfl rfl) ?_
                              refine AOps.call (o_assign _ rfl rfl) ?_
                              refine AOps.nil ?_
                              refine AWP.seq ?_
                              refine AWP.region ?_
                              refine AOps.call (o_move _ rfl rfl) ?_
                              refine AOps.call (o_bin _ _ rfl rfl (fun _ => rfl) rfl) ?_
                              refine AOps.call (o_move _ rfl rfl) ?_
                              refine AOps.split rfl rfl rfl (fun h142 => ?_) (fun h142 => ?_)
                              · skip
                                refine AOps.go rfl rfl rfl h142 (o_move _ rfl rfl) ?_
                                refine AOps.go rfl rfl rfl h142 (o_move _ rfl rfl) ?_
                                refine AOps.go rfl rfl rfl h142 (o_bin _ _ rfl rfl (fun _ => rfl) rfl) ?_
                                refine AOps.call (o_pickT _ _ _ rfl h142 rfl rfl) ?_
                                refine AOps.call (o_move _ rfl rfl) ?_
                                refine AOps.split rfl rfl rfl (fun h145 => ?_) (fun h145 => ?_)
                                · skip
                                  refine AOps.go rfl rfl rfl h145 (o_move _ rfl rfl) ?_
                                  refine AOps.go rfl rfl rfl h145 (o_bin _ _ rfl rfl (fun _ => rfl) rfl) ?_
                                  refine AOps.call (o_pickT _ _ _ rfl h145 rfl rfl) ?_
                                  refine AOps.call (o_assign _ rfl rfl) ?_
                                  refine AOps.nil ?_
                                  refine AWP.ret ?_
                                  first
                                  | exact postQ.ret1 Tryd.results12 rfl rfl
                                  | (refine postQ.ret1 Tryd.results12 rfl ?_; simp [AV.close, AV.close.closeL, B, I]; done)
                                  | (refine postQ.ret1 Tryd.results12 rfl ?_; simp [AV.close, AV.close.closeL, B, I]; omega)
                                  | (refine postQ.ret1 Tryd.results12 rfl ?_; simp_all [AV.close, AV.close.closeL, B, I]; done)
                                  | (refine postQ.ret1 Tryd.results12 rfl ?_; simp_all [AV.close, AV.close.closeL, B, I]; omega)
                                · skip
                                  exfalso
                                  have hq := of_decide_eq_false h145
                                  omega
                              · skip
                                exfalso
                                rw [q7] at h142
                                exact absurd h142 (by decide)
                            · skip
                              have hb : (enM p out).2.1 = true := by simpa using h136
                              obtain ⟨q3, q4, q5, q6⟩ := hen.2.2 he hb
                              have q7 : (yldM p (enM p out).1).2 = 0 := congrArg Prod.snd (yld_of a1 (by omega))
                              refine AWP.skip ?_
                              refine AWP.seq ?_
                              refine AWP.region ?_
                              refine AOps.call (o_loadRef _ rfl rfl Tryd.sizeOf24 Tryd.isAgg24 rfl rfl rfl) ?_
                              refine AOps.call (o_move _ rfl rfl) ?_
                              refine AOps.call (o_call (Yield_s p (enM p out).1) Tryd.call40 rfl rfl) ?_
                              refine AOps.call (o_move _ rfl rfl) ?_
                              refine AOps.call (o_extract _ rfl rfl rfl rfl) ?_
                              refine AOps.call (o_extract _ rfl rfl rfl rfl) ?_
                              refine AOps.call (o_assign _ rfl rfl) ?_
                              refine AOps.call (o_assign _ rfl rfl) ?_
                              refine AOps.nil ?_
                              refine AWP.seq ?_
                              refine AWP.seq ?_
                              refine AWP.region ?_
                              refine AOps.call (o_move _ rfl rfl) ?_
                              refine AOps.call (o_bin _ _ rfl rfl (fun _ => rfl) rfl) ?_
                              refine AOps.call (o_move _ rfl rfl) ?_
                              refine AOps.split rfl rfl rfl (fun h152 => ?_) (fun h152 => ?_)
                              · skip
                                refine AOps.go rfl rfl rfl h152 (o_move _ rfl rfl) ?_
                                refine AOps.go rfl rfl rfl h152 (o_move _ rfl rfl) ?_
                                refine AOps.go rfl rfl rfl h152 (o_bin _ _ rfl rfl (fun _ => rfl) rfl) ?_
                                refine AOps.call (o_pickF _ _ _ rfl h152 rfl rfl) ?_
                                refine AOps.nil ?_
                                refine AWP.cond _ rfl (fun h155 => ?_) (fun h155 => ?_)
                                · skip
                                  exfalso
                                  have hq := of_decide_eq_true h155
                                  omega
                                · skip
                                  refine AWP.skip ?_
                                  refine AWP.seq ?_
                                  refine AWP.seq ?_
                                  refine AWP.region ?_
                                  refine AOps.call (o_move _ rfl rfl) ?_
                                  refine AOps.call (o_bin _ _ rfl rfl (fun _ => rfl) rfl) ?_
                                  refine AOps.nil ?_
                                  refine AWP.cond _ rfl (fun h157 => ?_) (fun h157 => ?_)
                                  · skip
                                    refine AWP.seq ?_
                                    refine AWP.region ?_
                                    refine AOps.call (o_assign _ rfl rfl) ?_
                                    refine AOps.nil ?_
                                    refine AWP.ret ?_
                                    first
                                    | exact postQ.ret1 Tryd.results12 rfl rfl
                                    | (refine postQ.ret1 Tryd.results12 rfl ?_; simp [AV.close, AV.close.closeL, B, I]; done)
                                    | (refine postQ.ret1 Tryd.results12 rfl ?_; simp [AV.close, AV.close.closeL, B, I]; omega)
                                    | (refine postQ.ret1 Tryd.results12 rfl ?_; simp_all [AV.close, AV.close.closeL, B, I]; done)
                                    | (refine postQ.ret1 Tryd.results12 rfl ?_; simp_all [AV.close, AV.close.closeL, B, I]; omega)
                                  · skip
                                    have hne : (enM p out).1 ≠ 0 := by simpa using h157
                                    have q8 := q6 hne
                                    have q9 : (yldM p ((enM p out).1 - 1)).2 = 0 := congrArg Prod.snd (yld_of a1 (by omega))
                                    refine AWP.skip ?_
                                    refine AWP.seq ?_
                                    refine AWP.region ?_
                                    refine AOps.call (o_loadRef _ rfl rfl Tryd.sizeOf24 Tryd.isAgg24 rfl rfl rfl) ?_
                                    refine AOps.call (o_move _ rfl rfl) ?_
                                    refine AOps.call (o_sub _ _ rfl rfl ⟨by (try dsimp only); omega, by (try dsimp only); omega⟩ rfl) ?_
                                    refine AOps.call (o_call (Yield_s p ((enM p out).1 - 1)) Tryd.call40 rfl rfl) ?_
                                    refine AOps.call (o_move _ rfl rfl) ?_
                                    refine AOps.call (o_extract _ rfl rfl rfl rfl) ?_
                                    refine AOps.call (o_extract _ rfl rfl rfl rfl) ?_
                                    refine AOps.call (o_assign _ rfl rfl) ?_
                                    refine AOps.call (o_assign _ rfl rfl) ?_
                                    refine AOps.nil ?_
                                    refine AWP.seq ?_
                                    refine AWP.region ?_
                                    refine AOps.call (o_move _ rfl rfl) ?_
                                    refine AOps.call (o_bin _ _ rfl rfl (fun _ => rfl) rfl) ?_
                                    refine AOps.call (o_move _ rfl rfl) ?_
                                    refine AOps.split rfl rfl rfl (fun h164 => ?_) (fun h164 => ?_)
                                    · skip
                                      refine AOps.go rfl rfl rfl h164 (o_move _ rfl rfl) ?_
                                      refine AOps.go rfl rfl rfl h164 (o_move _ rfl rfl) ?_
                                      refine AOps.go rfl rfl rfl h164 (o_bin _ _ rfl rfl (fun _ => rfl) rfl) ?_
                                      refine AOps.call (o_pickT _ _ _ rfl h164 rfl rfl) ?_
                                      refine AOps.call (o_assign _ rfl rfl) ?_
                                      refine AOps.nil ?_
                                      refine AWP.ret ?_
                                      first
                                      | exact postQ.ret1 Tryd.results12 rfl rfl
                                      | (refine postQ.ret1 Tryd.results12 rfl ?_; simp [AV.close, AV.close.closeL, B, I]; done)
                                      | (refine postQ.ret1 Tryd.results12 rfl ?_; simp [AV.close, AV.close.closeL, B, I]; omega)
                                      | (refine postQ.ret1 Tryd.results12 rfl ?_; simp_all [AV.close, AV.close.closeL, B, I]; done)
                                      | (refine postQ.ret1 Tryd.results12 rfl ?_; simp_all [AV.close, AV.close.closeL, B, I]; omega)
                                    · skip
                                      exfalso
                                      rw [q9] at h164
                                      exact absurd h164 (by decide)
                              · skip
                                exfalso
                                rw [q7] at h152
                                exact absurd h152 (by decide)
                      · skip
                        exfalso
                        have hq := of_decide_eq_true h52
                        have hm := yld_mono hok h2 (of_decide_eq_true g91)
                        omega
                    · skip
                      refine AOps.pass rfl rfl rfl h50 rfl ?_
                      refine AOps.pass rfl rfl rfl h50 rfl ?_
                      refine AOps.pass rfl rfl rfl h50 rfl ?_
                      refine AOps.go rfl rfl rfl h46 (o_pickF _ _ _ rfl h50 rfl rfl) ?_
                      refine AOps.go rfl rfl rfl h46 (o_move _ rfl rfl) ?_
                      refine AOps.go rfl rfl rfl rfl (o_move _ rfl rfl) ?_
                      refine AOps.go rfl rfl rfl rfl (o_move _ rfl rfl) ?_
                      refine AOps.go rfl rfl rfl rfl (o_bin _ _ rfl rfl (fun _ => rfl) rfl) ?_
                      refine AOps.go rfl rfl rfl rfl (o_move _ rfl rfl) ?_
                      refine AOps.split rfl rfl rfl (fun h170 => ?_) (fun h170 => ?_)
                      · skip
                        have g100 := h170
                        refine AOps.go rfl rfl rfl h170 (o_move _ rfl rfl) ?_
                        refine AOps.go rfl rfl rfl h170 (o_move _ rfl rfl) ?_
                        refine AOps.go rfl rfl rfl h170 (o_bin _ _ rfl rfl (fun _ => rfl) rfl) ?_
                        refine AOps.go rfl rfl rfl rfl (o_pickT _ _ _ rfl h170 rfl rfl) ?_
                        refine AOps.go rfl rfl rfl h46 (o_pickF _ _ _ rfl rfl rfl rfl) ?_
                        refine AOps.call (o_pickT _ _ _ rfl h46 rfl rfl) ?_
                        refine AOps.nil ?_
                        refine AWP.cond _ rfl (fun h172 => ?_) (fun h172 => ?_)
                        · skip
                          exfalso
                          have hq := of_decide_eq_true h172
                          have hm := yld_mono h2 hok (of_decide_eq_true g100)
                          omega
                        · skip
                          refine AWP.skip ?_
                          refine AWP.seq ?_
                          refine AWP.region ?_
                          refine AOps.call (o_loadRef _ rfl rfl Tryd.sizeOf24 Tryd.isAgg24 rfl rfl rfl) ?_
                          refine AOps.call (o_move _ rfl rfl) ?_
                          refine AOps.call (o_call (Enough_s p out) Tryd.call42 rfl rfl) ?_
                          refine AOps.call (o_move _ rfl rfl) ?_
                          refine AOps.call (o_extract _ rfl rfl rfl rfl) ?_
                          refine AOps.call (o_extract _ rfl rfl rfl rfl) ?_
                          refine AOps.call (o_extract _ rfl rfl rfl rfl) ?_
                          refine AOps.call (o_assign _ rfl rfl) ?_
                          refine AOps.call (o_assign _ rfl rfl) ?_
                          refine AOps.call (o_assign _ rfl rfl) ?_
                          refine AOps.nil ?_
                          refine AWP.seq ?_
                          refine AWP.seq ?_
                          refine AWP.region ?_
                          refine AOps.call (o_move _ rfl rfl) ?_
                          refine AOps.call (o_bin _ _ rfl rfl (fun _ => rfl) rfl) ?_
                          refine AOps.nil ?_
                          refine AWP.cond _ rfl (fun h180 => ?_) (fun h180 => ?_)
                          · skip
                            have he : ¬ (enM p out).2.2 = 0 := by simpa using h180
                            obtain ⟨q1, q2⟩ := hen.1 he
                            have q3 : (enM p out).1 = 0 := congrArg Prod.fst q1
                            have q4 : (enM p out).2.1 = false := congrArg (fun x => x.2.1) q1
                            have q5 : (enM p out).2.2 = 1 := congrArg (fun x => x.2.2) q1
                            refine AWP.seq ?_
                            refine AWP.region ?_
                            refine AOps.call (o_move _ rfl rfl) ?_
                            refine AOps.call (o_bin _ _ rfl rfl (fun _ => rfl) rfl) ?_
                            refine AOps.call (o_move _ rfl rfl) ?_
                            refine AOps.split rfl rfl rfl (fun h182 => ?_) (fun h182 => ?_)
                            · skip
                              refine AOps.go rfl rfl rfl h182 (o_move _ rfl rfl) ?_
                              refine AOps.go rfl rfl rfl h182 (o_bin _ _ rfl rfl (fun _ => rfl) rfl) ?_
                              refine AOps.go rfl rfl rfl h182 (o_move _ rfl rfl) ?_
                              refine AOps.split rfl rfl rfl (fun h185 => ?_) (fun h185 => ?_)
                              · skip
                                have g121 := of_decide_eq_false h185
                                refine AOps.go rfl rfl rfl h185 (o_move _ rfl rfl) ?_
                                refine AOps.go rfl rfl rfl h185 (o_bin _ _ rfl rfl (fun _ => rfl) rfl) ?_
                                refine AOps.go rfl rfl rfl h182 (o_pickF _ _ _ rfl h185 rfl rfl) ?_
                                refine AOps.call (o_pickT _ _ _ rfl h182 rfl rfl) ?_
                                refine AOps.call (o_move _ rfl rfl) ?_
                                refine AOps.split rfl rfl rfl (fun h188 => ?_) (fun h188 => ?_)
                                · skip
                                  refine AOps.go rfl rfl rfl h188 (o_move _ rfl rfl) ?_
                                  refine AOps.go rfl rfl rfl h188 (o_bin _ _ rfl rfl (fun _ => rfl) rfl) ?_
                                  refine AOps.call (o_pickT _ _ _ rfl h188 rfl rfl) ?_
                                  refine AOps.call (o_move _ rfl rfl) ?_
                                  refine AOps.split rfl rfl rfl (fun h190 => ?_) (fun h190 => ?_)
                                  · skip
                                    refine AOps.go rfl rfl rfl h190 (o_move _ rfl rfl) ?_
                                    refine AOps.go rfl rfl rfl h190 (o_un _ rfl (fun _ => rfl) rfl) ?_
                                    refine AOps.call (o_pickT _ _ _ rfl h190 rfl rfl) ?_
                                    refine AOps.call (o_assign _ rfl rfl) ?_
                                    refine AOps.nil ?_
                                    refine AWP.ret ?_
                                    first
                                    | exact postQ.ret1 Tryd.results12 rfl rfl
                                    | (refine postQ.ret1 Tryd.results12 rfl ?_; simp [AV.close, AV.close.closeL, B, I]; done)
                                    | (refine postQ.ret1 Tryd.results12 rfl ?_; simp [AV.close, AV.close.closeL, B, I]; omega)
                                    | (refine postQ.ret1 Tryd.results12 rfl ?_; simp_all [AV.close, AV.close.closeL, B, I]; done)
                                    | (refine postQ.ret1 Tryd.results12 rfl ?_; simp_all [AV.close, AV.close.closeL, B, I]; omega)
                                  · skip
                                    exfalso
                                    rw [q3] at h190
                                    exact absurd h190 (by decide)
                                · skip
                                  exfalso
                                  have hq := of_decide_eq_false h188
                                  omega
                              · skip
                                refine AOps.pass rfl rfl rfl h185 rfl ?_
                                refine AOps.pass rfl rfl rfl h185 rfl ?_
                                refine AOps.go rfl rfl rfl h182 (o_pickT _ _ _ rfl h185 rfl rfl) ?_
                                refine AOps.call (o_pickT _ _ _ rfl h182 rfl rfl) ?_
                                refine AOps.call (o_move _ rfl rfl) ?_
                                refine AOps.go rfl rfl rfl rfl (o_move _ rfl rfl) ?_
                                refine AOps.go rfl rfl rfl rfl (o_bin _ _ rfl rfl (fun _ => rfl) rfl) ?_
                                refine AOps.call (o_pickT _ _ _ rfl rfl rfl rfl) ?_
                                refine AOps.call (o_move _ rfl rfl) ?_
                                refine AOps.split rfl rfl rfl (fun h193 => ?_) (fun h193 => ?_)
                                · skip
                                  refine AOps.go rfl rfl rfl h193 (o_move _ rfl rfl) ?_
                                  refine AOps.go rfl rfl rfl h193 (o_un _ rfl (fun _ => rfl) rfl) ?_
                                  refine AOps.call (o_pickT _ _ _ rfl h193 rfl rfl) ?_
                                  refine AOps.call (o_assign _ rfl rfl) ?_
                                  refine AOps.nil ?_
                                  refine AWP.ret ?_
                                  first
                                  | exact postQ.ret1 Tryd.results12 rfl rfl
                                  | (refine postQ.ret1 Tryd.results12 rfl ?_; simp [AV.close, AV.close.closeL, B, I]; done)
                                  | (refine postQ.ret1 Tryd.results12 rfl ?_; simp [AV.close, AV.close.closeL, B, I]; omega)
                                  | (refine postQ.ret1 Tryd.results12 rfl ?_; simp_all [AV.close, AV.close.closeL, B, I]; done)
                                  | (refine postQ.ret1 Tryd.results12 rfl ?_; simp_all [AV.close, AV.close.closeL, B, I]; omega)
                                · skip
                                  exfalso
                                  rw [q3] at h193
                                  exact absurd h193 (by decide)
                            · skip
                              exfalso
                              rw [q5] at h182
                              exact absurd h182 (by decide)
                          · skip
                            have he : (enM p out).2.2 = 0 := by simpa using h180
                            refine AWP.skip ?_
                            refine AWP.seq ?_
                            refine AWP.seq ?_
                            refine AWP.region ?_
                            refine AOps.call (o_move _ rfl rfl) ?_
                            refine AOps.call (o_un _ rfl (fun _ => rfl) rfl) ?_
                            refine AOps.nil ?_
                            refine AWP.cond _ rfl (fun h196 => ?_) (fun h196 => ?_)
                            · skip
                              have hb : (enM p out).2.1 = false := by simpa using h196
                              obtain ⟨q3, q6⟩ := hen.2.1 he hb
                              have q7 : (yldM p 65536).2 = 0 := congrArg Prod.snd (yld_of a1 (by omega))
                              refine AWP.seq ?_
                              refine AWP.region ?_
                              refine AOps.call (o_loadRef _ rfl rfl Tryd.sizeOf24 Tryd.isAgg24 rfl rfl rfl) ?_
                              refine AOps.call (o_call (Yield_s p 65536) Tryd.call40 rfl rfl) ?_
                              refine AOps.call (o_move _ rfl rfl) ?_
                              refine AOps.call (o_extract _ rfl rfl rfl rfl) ?_
                              refine AOps.call (o_extract _ rfl rfl rfl rfl) ?_
                              refine AOps.call (o_assign _ rfl rfl) ?_
                              refine AOps.call (o_assign _ rfl rfl) ?_
                              refine AOps.nil ?_
                              refine AWP.seq ?_
                              refine AWP.region ?_
                              refine AOps.call (o_move _ rfl rfl) ?_
                              refine AOps.call (o_bin _ _ rfl rfl (fun _ => rfl) rfl) ?_
                              refine AOps.call (o_move _ rfl rfl) ?_
                              refine AOps.split rfl rfl rfl (fun h202 => ?_) (fun h202 => ?_)
                              · skip
                                refine AOps.go rfl rfl rfl h202 (o_move _ rfl rfl) ?_
                                refine AOps.go rfl rfl rfl h202 (o_move _ rfl rfl) ?_
                                refine AOps.go rfl rfl rfl h202 (o_bin _ _ rfl rfl (fun _ => rfl) rfl) ?_
                                refine AOps.call (o_pickT _ _ _ rfl h202 rfl rfl) ?_
                                refine AOps.call (o_move _ rfl rfl) ?_
                                refine AOps.split rfl rfl rfl (fun h205 => ?_) (fun h205 => ?_)
                                · skip
                                  refine AOps.go rfl rfl rfl h205 (o_move _ rfl rfl) ?_
                                  refine AOps.go rfl rfl rfl h205 (o_bin _ _ rfl rfl (fun _ => rfl) rfl) ?_
                                  refine AOps.call (o_pickT _ _ _ rfl h205 rfl rfl) ?_
                                  refine AOps.call (o_assign _ rfl rfl) ?_
                                  refine AOps.nil ?_
                                  refine AWP.ret ?_
                                  first
                                  | exact postQ.ret1 Tryd.results12 rfl rfl
                                  | (refine postQ.ret1 Tryd.results12 rfl ?_; simp [AV.close, AV.close.closeL, B, I]; done)
                                  | (refine postQ.ret1 Tryd.results12 rfl ?_; simp [AV.close, AV.close.closeL, B, I]; omega)
                                  | (refine postQ.ret1 Tryd.results12 rfl ?_; simp_all [AV.close, AV.close.closeL, B, I]; done)
                                  | (refine postQ.ret1 Tryd.results12 rfl ?_; simp_all [AV.close, AV.close.closeL, B, I]; omega)
                                · skip
                                  exfalso
                                  have hq := of_decide_eq_false h205
                                  omega
                              · skip
                                exfalso
                                rw [q7] at h202
                                exact absurd h202 (by decide)
                            · skip
                              have hb : (enM p out).2.1 = true := by simpa using h196
                              obtain ⟨q3, q4, q5, q6⟩ := hen.2.2 he hb
                              have q7 : (yldM p (enM p out).1).2 = 0 := congrArg Prod.snd (yld_of a1 (by omega))
                              refine AWP.skip ?_
                              refine AWP.seq ?_
                              refine AWP.region ?_
                              refine AOps.call (o_loadRef _ rfl rfl Tryd.sizeOf24 Tryd.isAgg24 rfl rfl rfl) ?_
                              refine AOps.call (o_move _ rfl rfl) ?_
                              refine AOps.call (o_call (Yield_s p (enM p out).1) Tryd.call40 rfl rfl) ?_
                              refine AOps.call (o_move _ rfl rfl) ?_
                              refine AOps.call (o_extract _ rfl rfl rfl rfl) ?_
                              refine AOps.call (o_extract _ rfl rfl rfl rfl) ?_
                              refine AOps.call (o_assign _ rfl rfl) ?_
                              refine AOps.call (o_assign _ rfl rfl) ?_
                              refine AOps.nil ?_
                              refine AWP.seq ?_
                              refine AWP.seq ?_
                              refine AWP.region ?_
                              refine AOps.call (o_move _ rfl rfl) ?_
                              refine AOps.call (o_bin _ _ rfl rfl (fun _ => rfl) rfl) ?_
                              refine AOps.call (o_move _ rfl rfl) ?_
                              refine AOps.split rfl rfl rfl (fun h212 => ?_) (fun h212 => ?_)
                              · skip
                                refine AOps.go rfl rfl rfl h212 (o_move _ rfl rfl) ?_
                                refine AOps.go rfl rfl rfl h212 (o_move _ rfl rfl) ?_
                                refine AOps.go rfl rfl rfl h212 (o_bin _ _ rfl rfl (fun _ => rfl) rfl) ?_
                                refine AOps.call (o_pickF _ _ _ rfl h212 rfl rfl) ?_
                                refine AOps.nil ?_
                                refine AWP.cond _ rfl (fun h215 => ?_) (fun h215 => ?_)
                                · skip
                                  exfalso
                                  have hq := of_decide_eq_true h215
                                  omega
                                · skip
                                  refine AWP.skip ?_
                                  refine AWP.seq ?_
                                  refine AWP.seq ?_
                                  refine AWP.region ?_
                                  refine AOps.call (o_move _ rfl rfl) ?_
                                  refine AOps.call (o_bin _ _ rfl rfl (fun _ => rfl) rfl) ?_
                                  refine AOps.nil ?_
                                  refine AWP.cond _ rfl (fun h217 => ?_) (fun h217 => ?_)
                                  · skip
                                    refine AWP.seq ?_
                                    refine AWP.region ?_
                                    refine AOps.call (o_assign _ rfl rfl) ?_
                                    refine AOps.nil ?_
                                    refine AWP.ret ?_
                                    first
                                    | exact postQ.ret1 Tryd.results12 rfl rfl
                                    | (refine postQ.ret1 Tryd.results12 rfl ?_; simp [AV.close, AV.close.closeL, B, I]; done)
                                    | (refine postQ.ret1 Tryd.results12 rfl ?_; simp [AV.close, AV.close.closeL, B, I]; omega)
                                    | (refine postQ.ret1 Tryd.results12 rfl ?_; simp_all [AV.close, AV.close.closeL, B, I]; done)
                                    | (refine postQ.ret1 Tryd.results12 rfl ?_; simp_all [AV.close, AV.close.closeL, B, I]; omega)
                                  · skip
                                    have hne : (enM p out).1 ≠ 0 := by simpa using h217
                                    have q8 := q6 hne
                                    have q9 : (yldM p ((enM p out).1 - 1)).2 = 0 := congrArg Prod.snd (yld_of a1 (by omega))
                                    refine AWP.skip ?_
                                    refine AWP.seq ?_
                                    refine AWP.region ?_
                                    refine AOps.call (o_loadRef _ rfl rfl Tryd.sizeOf24 Tryd.isAgg24 rfl rfl rfl) ?_
                                    refine AOps.call (o_move _ rfl rfl) ?_
                                    refine AOps.call (o_sub _ _ rfl rfl ⟨by (try dsimp only); omega, by (try dsimp only); omega⟩ rfl) ?_
                                    refine AOps.call (o_call (Yield_s p ((enM p out).1 - 1)) Tryd.call40 rfl rfl) ?_
                                    refine AOps.call (o_move _ rfl rfl) ?_
                                    refine AOps.call (o_extract _ rfl rfl rfl rfl) ?_
                                    refine AOps.call (o_extract _ rfl rfl rfl rfl) ?_
                                    refine AOps.call (o_assign _ rfl rfl) ?_
                                    refine AOps.call (o_assign _ rfl rfl) ?_
                                    refine AOps.nil ?_
                                    refine AWP.seq ?_
                                    refine AWP.region ?_
                                    refine AOps.call (o_move _ rfl rfl) ?_
                                    refine AOps.call (o_bin _ _ rfl rfl (fun _ => rfl) rfl) ?_
                                    refine AOps.call (o_move _ rfl rfl) ?_
                                    refine AOps.split rfl rfl rfl (fun h224 => ?_) (fun h224 => ?_)
                                    · skip
                                      refine AOps.go rfl rfl rfl h224 (o_move _ rfl rfl) ?_
                                      refine AOps.go rfl rfl rfl h224 (o_move _ rfl rfl) ?_
                                      refine AOps.go rfl rfl rfl h224 (o_bin _ _ rfl rfl (fun _ => rfl) rfl) ?_
                                      refine AOps.call (o_pickT _ _ _ rfl h224 rfl rfl) ?_
                                      refine AOps.call (o_assign _ rfl rfl) ?_
                                      refine AOps.nil ?_
                                      refine AWP.ret ?_
                                      first
                                      | exact postQ.ret1 Tryd.results12 rfl rfl
                                      | (refine postQ.ret1 Tryd.results12 rfl ?_; simp [AV.close, AV.close.closeL, B, I]; done)
                                      | (refine postQ.ret1 Tryd.results12 rfl ?_; simp [AV.close, AV.close.closeL, B, I]; omega)
                                      | (refine postQ.ret1 Tryd.results12 rfl ?_; simp_all [AV.close, AV.close.closeL, B, I]; done)
                                      | (refine postQ.ret1 Tryd.results12 rfl ?_; simp_all [AV.close, AV.close.closeL, B, I]; omega)
                                    · skip
                                      exfalso
                                      rw [q9] at h224
                                      exact absurd h224 (by decide)
                              · skip
                                exfalso
                                rw [q7] at h212
                                exact absurd h212 (by decide)
                      · skip
                        refine AOps.pass rfl rfl rfl h170 rfl ?_
                        refine AOps.pass rfl rfl rfl h170 rfl ?_
                        refine AOps.pass rfl rfl rfl h170 rfl ?_
                        refine AOps.go rfl rfl rfl rfl (o_pickF _ _ _ rfl h170 rfl rfl) ?_
                        refine AOps.go rfl rfl rfl h46 (o_pickF _ _ _ rfl rfl rfl rfl) ?_
                        refine AOps.call (o_pickT _ _ _ rfl h46 rfl rfl) ?_
                        refine AOps.nil ?_
                        refine AWP.condF rfl ?_
                        refine AWP.skip ?_
                        refine AWP.seq ?_
                        refine AWP.region ?_
                        refine AOps.call (o_loadRef _ rfl rfl Tryd.sizeOf24 Tryd.isAgg24 rfl rfl rfl) ?_
                        refine AOps.call (o_move _ rfl rfl) ?_
                        refine AOps.call (o_call (Enough_s p out) Tryd.call42 rfl rfl) ?_
                        refine AOps.call (o_move _ rfl rfl) ?_
                        refine AOps.call (o_extract _ rfl rfl rfl rfl) ?_
                        refine AOps.call (o_extract _ rfl rfl rfl rfl) ?_
                        refine AOps.call (o_extract _ rfl rfl rfl rfl) ?_
                        refine AOps.call (o_assign _ rfl rfl) ?_
                        refine AOps.call (o_assign _ rfl rfl) ?_
                        refine AOps.call (o_assign _ rfl rfl) ?_
                        refine AOps.nil ?_
                        refine AWP.seq ?_
                        refine AWP.seq ?_
                        refine AWP.region ?_
                        refine AOps.call (o_move _ rfl rfl) ?_
                        refine AOps.call (o_bin _ _ rfl rfl (fun _ => rfl) rfl) ?_
                        refine AOps.nil ?_
                        refine AWP.cond _ rfl (fun h234 => ?_) (fun h234 => ?_)
                        · skip
                          have he : ¬ (enM p out).2.2 = 0 := by simpa using h234
                          obtain ⟨q1, q2⟩ := hen.1 he
                          have q3 : (enM p out).1 = 0 := congrArg Prod.fst q1
                          have q4 : (enM p out).2.1 = false := congrArg (fun x => x.2.1) q1
                          have q5 : (enM p out).2.2 = 1 := congrArg (fun x => x.2.2) q1
                          refine AWP.seq ?_
                          refine AWP.region ?_
                          refine AOps.call (o_move _ rfl rfl) ?_
                          refine AOps.call (o_bin _ _ rfl rfl (fun _ => rfl) rfl) ?_
                          refine AOps.call (o_move _ rfl rfl) ?_
                          refine AOps.split rfl rfl rfl (fun h236 => ?_) (fun h236 => ?_)
                          · skip
                            refine AOps.go rfl rfl rfl h236 (o_move _ rfl rfl) ?_
                            refine AOps.go rfl rfl rfl h236 (o_bin _ _ rfl rfl (fun _ => rfl) rfl) ?_
                            refine AOps.go rfl rfl rfl h236 (o_move _ rfl rfl) ?_
                            refine AOps.split rfl rfl rfl (fun h239 => ?_) (fun h239 => ?_)
                            · skip
                              have g121 := of_decide_eq_false h239
                              refine AOps.go rfl rfl rfl h239 (o_move _ rfl rfl) ?_
                              refine AOps.go rfl rfl rfl h239 (o_bin _ _ rfl rfl (fun _ => rfl) rfl) ?_
                              refine AOps.go rfl rfl rfl h236 (o_pickF _ _ _ rfl h239 rfl rfl) ?_
                              refine AOps.call (o_pickT _ _ _ rfl h236 rfl rfl) ?_
                              refine AOps.call (o_move _ rfl rfl) ?_
                              refine AOps.split rfl rfl rfl (fun h242 => ?_) (fun h242 => ?_)
                              · skip
                                refine AOps.go rfl rfl rfl h242 (o_move _ rfl rfl) ?_
                                refine AOps.go rfl rfl rfl h242 (o_bin _ _ rfl rfl (fun _ => rfl) rfl) ?_
                                refine AOps.call (o_pickT _ _ _ rfl h242 rfl rfl) ?_
                                refine AOps.call (o_move _ rfl rfl) ?_
                                refine AOps.split rfl rfl rfl (fun h244 => ?_) (fun h244 => ?_)
                                · skip
                                  refine AOps.go rfl rfl rfl h244 (o_move _ rfl rfl) ?_
                                  refine AOps.go rfl rfl rfl h244 (o_un _ rfl (fun _ => rfl) rfl) ?_
                                  refine AOps.call (o_pickT _ _ _ rfl h244 rfl rfl) ?_
                                  refine AOps.call (o_assign _ rfl rfl) ?_
                                  refine AOps.nil ?_
                                  refine AWP.ret ?_
                                  first
                                  | exact postQ.ret1 Tryd.results12 rfl rfl
                                  | (refine postQ.ret1 Tryd.results12 rfl ?_; simp [AV.close, AV.close.closeL, B, I]; done)
                                  | (refine postQ.ret1 Tryd.results12 rfl ?_; simp [AV.close, AV.close.closeL, B, I]; omega)
                                  | (refine postQ.ret1 Tryd.results12 rfl ?_; simp_all [AV.close, AV.close.closeL, B, I]; done)
                                  | (refine postQ.ret1 Tryd.results12 rfl ?_; simp_all [AV.close, AV.close.closeL, B, I]; omega)
                                · skip
                                  exfalso
                                  rw [q3] at h244
                                  exact absurd h244 (by decide)
                              · skip
                                exfalso
                                have hq := of_decide_eq_false h242
                                omega
                            · skip
                              refine AOps.pass rfl rfl rfl h239 rfl ?_
                              refine AOps.pass rfl rfl rfl h239 rfl ?_
                              refine AOps.go rfl rfl rfl h236 (o_pickT _ _ _ rfl h239 rfl rfl) ?_
                              refine AOps.call (o_pickT _ _ _ rfl h236 rfl rfl) ?_
                              refine AOps.call (o_move _ rfl rfl) ?_
                              refine AOps.go rfl rfl rfl rfl (o_move _ rfl rfl) ?_
                              refine AOps.go rfl rfl rfl rfl (o_bin _ _ rfl rfl (fun _ => rfl) rfl) ?_
                              refine AOps.call (o_pickT _ _ _ rfl rfl rfl rfl) ?_
                              refine AOps.call (o_move _ rfl rfl) ?_
                              refine AOps.split rfl rfl rfl (fun h247 => ?_) (fun h247 => ?_)
                              · skip
                                refine AOps.go rfl rfl rfl h247 (o_move _ rfl rfl) ?_
                                refine AOps.go rfl rfl rfl h247 (o_un _ rfl (fun _ => rfl) rfl) ?_
                                refine AOps.call (o_pickT _ _ _ rfl h247 rfl rfl) ?_
                                refine AOps.call (o_assign _ rfl rfl) ?_
                                refine AOps.nil ?_
                                refine AWP.ret ?_
                                first
                                | exact postQ.ret1 Tryd.results12 rfl rfl
                                | (refine postQ.ret1 Tryd.results12 rfl ?_; simp [AV.close, AV.close.closeL, B, I]; done)
                                | (refine postQ.ret1 Tryd.results12 rfl ?_; simp [AV.close, AV.close.closeL, B, I]; omega)
                                | (refine postQ.ret1 Tryd.results12 rfl ?_; simp_all [AV.close, AV.close.closeL, B, I]; done)
                                | (refine postQ.ret1 Tryd.results12 rfl ?_; simp_all [AV.close, AV.close.closeL, B, I]; omega)
                              · skip
                                exfalso
                                rw [q3] at h247
                                exact absurd h247 (by decide)
                          · skip
                            exfalso
                            rw [q5] at h236
                            exact absurd h236 (by decide)
                        · skip
                          have he : (enM p out).2.2 = 0 := by simpa using h234
                          refine AWP.skip ?_
                          refine AWP.seq ?_
                          refine AWP.seq ?_
                          refine AWP.region ?_
                          refine AOps.call (o_move _ rfl rfl) ?_
                          refine AOps.call (o_un _ rfl (fun _ => rfl) rfl) ?_
                          refine AOps.nil ?_
                          refine AWP.cond _ rfl (fun h250 => ?_) (fun h250 => ?_)
                          · skip
                            have hb : (enM p out).2.1 = false := by simpa using h250
                            obtain ⟨q3, q6⟩ := hen.2.1 he hb
                            have q7 : (yldM p 65536).2 = 0 := congrArg Prod.snd (yld_of a1 (by omega))
                            refine AWP.seq ?_
                            refine AWP.region ?_
                            refine AOps.call (o_loadRef _ rfl rfl Tryd.sizeOf24 Tryd.isAgg24 rfl rfl rfl) ?_
                            refine AOps.call (o_call (Yield_s p 65536) Tryd.call40 rfl rfl) ?_
                            refine AOps.call (o_move _ rfl rfl) ?_
                            refine AOps.call (o_extract _ rfl rfl rfl rfl) ?_
                            refine AOps.call (o_extract _ rfl rfl rfl rfl) ?_
                            refine AOps.call (o_assign _ rfl rfl) ?_
                            refine AOps.call (o_assign _ rfl rfl) ?_
                            refine AOps.nil ?_
                            refine AWP.seq ?_
                            refine AWP.region ?_
                            refine AOps.call (o_move _ rfl rfl) ?_
                            refine AOps.call (o_bin _ _ rfl rfl (fun _ => rfl) rfl) ?_
                            refine AOps.call (o_move _ rfl rfl) ?_
                            refine AOps.split rfl rfl rfl (fun h256 => ?_) (fun h256 => ?_)
                            · skip
                              refine AOps.go rfl rfl rfl h256 (o_move _ rfl rfl) ?_
                              refine AOps.go rfl rfl rfl h256 (o_move _ rfl rfl) ?_
                              refine AOps.go rfl rfl rfl h256 (o_bin _ _ rfl rfl (fun _ => rfl) rfl) ?_
                              refine AOps.call (o_pickT _ _ _ rfl h256 rfl rfl) ?_
                              refine AOps.call (o_move _ rfl rfl) ?_
                              refine AOps.split rfl rfl rfl (fun h259 => ?_) (fun h259 => ?_)
                              · skip
                                refine AOps.go rfl rfl rfl h259 (o_move _ rfl rfl) ?_
                                refine AOps.go rfl rfl rfl h259 (o_bin _ _ rfl rfl (fun _ => rfl) rfl) ?_
                                refine AOps.call (o_pickT _ _ _ rfl h259 rfl rfl) ?_
                                refine AOps.call (o_assign _ rfl rfl) ?_
                                refine AOps.nil ?_
                                refine AWP.ret ?_
                                first
                                | exact postQ.ret1 Tryd.results12 rfl rfl
                                | (refine postQ.ret1 Tryd.results12 rfl ?_; simp [AV.close, AV.close.closeL, B, I]; done)
                                | (refine postQ.ret1 Tryd.results12 rfl ?_; simp [AV.close, AV.close.closeL, B, I]; omega)
                                | (refine postQ.ret1 Tryd.results12 rfl ?_; simp_all [AV.close, AV.close.closeL, B, I]; done)
                                | (refine postQ.ret1 Tryd.results12 rfl ?_; simp_all [AV.close, AV.close.closeL, B, I]; omega)
                              · skip
                                exfalso
                                have hq := of_decide_eq_false h259
                                omega
                            · skip
                              exfalso
                              rw [q7] at h256
                              exact absurd h256 (by decide)
                          · skip
                            have hb : (enM p out).2.1 = true := by simpa using h250
                            obtain ⟨q3, q4, q5, q6⟩ := hen.2.2 he hb
                            have q7 : (yldM p (enM p out).1).2 = 0 := congrArg Prod.snd (yld_of a1 (by omega))
                            refine AWP.skip ?_
                            refine AWP.seq ?_
                            refine AWP.region ?_
                            refine AOps.call (o_loadRef _ rfl rfl Tryd.sizeOf24 Tryd.isAgg24 rfl rfl rfl) ?_
                            refine AOps.call (o_move _ rfl rfl) ?_
                            refine AOps.call (o_call (Yield_s p (enM p out).1) Tryd.call40 rfl rfl) ?_
                            refine AOps.call (o_move _ rfl rfl) ?_
                            refine AOps.call (o_extract _ rfl rfl rfl rfl) ?_
                            refine AOps.call (o_extract _ rfl rfl rfl rfl) ?_
                            refine AOps.call (o_assign _ rfl rfl) ?_
                            refine AOps.call (o_assign _ rfl rfl) ?_
                            refine AOps.nil ?_
                            refine AWP.seq ?_
                            refine AWP.seq ?_
                            refine AWP.region ?_
                            refine AOps.call (o_move _ rfl rfl) ?_
                            refine AOps.call (o_bin _ _ rfl rfl (fun _ => rfl) rfl) ?_
                            refine AOps.call (o_move _ rfl rfl) ?_
                            refine AOps.split rfl rfl rfl (fun h266 => ?_) (fun h266 => ?_)
                            · skip
                              refine AOps.go rfl rfl rfl h266 (o_move _ rfl rfl) ?_
                              refine AOps.go rfl rfl rfl h266 (o_move _ rfl rfl) ?_
                              refine AOps.go rfl rfl rfl h266 (o_bin _ _ rfl rfl (fun _ => rfl) rfl) ?_
                              refine AOps.call (o_pickF _ _ _ rfl h266 rfl rfl) ?_
                              refine AOps.nil ?_
                              refine AWP.cond _ rfl (fun h269 => ?_) (fun h269 => ?_)
                              · skip
                                exfalso
                                have hq := of_decide_eq_true h269
                                omega
                              · skip
                                refine AWP.skip ?_
                                refine AWP.seq ?_
                                refine AWP.seq ?_
                                refine AWP.region ?_
                                refine AOps.call (o_move _ rfl rfl) ?_
                                refine AOps.call (o_bin _ _ rfl rfl (fun _ => rfl) rfl) ?_
                                refine AOps.nil ?_
                                refine AWP.cond _ rfl (fun h271 => ?_) (fun h271 => ?_)
                                · skip
                                  refine AWP.seq ?_
                                  refine AWP.region ?_
                                  refine AOps.call (o_assign _ rfl rfl) ?_
                                  refine AOps.nil ?_
                                  refine AWP.ret ?_
                                  first
                                  | exact postQ.ret1 Tryd.results12 rfl rfl
                                  | (refine postQ.ret1 Tryd.results12 rfl ?_; simp [AV.close, AV.close.closeL, B, I]; done)
                                  | (refine postQ.ret1 Tryd.results12 rfl ?_; simp [AV.close, AV.close.closeL, B, I]; omega)
                                  | (refine postQ.ret1 Tryd.results12 rfl ?_; simp_all [AV.close, AV.close.closeL, B, I]; done)
                                  | (refine postQ.ret1 Tryd.results12 rfl ?_; simp_all [AV.close, AV.close.closeL, B, I]; omega)
                                · skip
                                  have hne : (enM p out).1 ≠ 0 := by simpa using h271
                                  have q8 := q6 hne
                                  have q9 : (yldM p ((enM p out).1 - 1)).2 = 0 := congrArg Prod.snd (yld_of a1 (by omega))
                                  refine AWP.skip ?_
                                  refine AWP.seq ?_
                                  refine AWP.region ?_
                                  refine AOps.call (o_loadRef _ rfl rfl Tryd.sizeOf24 Tryd.isAgg24 rfl rfl rfl) ?_
                                  refine AOps.call (o_move _ rfl rfl) ?_
                                  refine AOps.call (o_sub _ _ rfl rfl ⟨by (try dsimp only); omega, by (try dsimp only); omega⟩ rfl) ?_
                                  refine AOps.call (o_call (Yield_s p ((enM p out).1 - 1)) Tryd.call40 rfl rfl) ?_
                                  refine AOps.call (o_move _ rfl rfl) ?_
                                  refine AOps.call (o_extract _ rfl rfl rfl rfl) ?_
                                  refine AOps.call (o_extract _ rfl rfl rfl rfl) ?_
                                  refine AOps.call (o_assign _ rfl rfl) ?_
                                  refine AOps.call (o_assign _ rfl rfl) ?_
                                  refine AOps.nil ?_
                                  refine AWP.seq ?_
                                  refine AWP.region ?_
                                  refine AOps.call (o_move _ rfl rfl) ?_
                                  refine AOps.call (o_bin _ _ rfl rfl (fun _ => rfl) rfl) ?_
                                  refine AOps.call (o_move _ rfl rfl) ?_
                                  refine AOps.split rfl rfl rfl (fun h278 => ?_) (fun h278 => ?_)
                                  · skip
                                    refine AOps.go rfl rfl rfl h278 (o_move _ rfl rfl) ?_
                                    refine AOps.go rfl rfl rfl h278 (o_move _ rfl rfl) ?_
                                    refine AOps.go rfl rfl rfl h278 (o_bin _ _ rfl rfl (fun _ => rfl) rfl) ?_
                                    refine AOps.call (o_pickT _ _ _ rfl h278 rfl rfl) ?_
                                    refine AOps.call (o_assign _ rfl rfl) ?_
                                    refine AOps.nil ?_
                                    refine AWP.ret ?_
                                    first
                                    | exact postQ.ret1 Tryd.results12 rfl rfl
                                    | (refine postQ.ret1 Tryd.results12 rfl ?_; simp [AV.close, AV.close.closeL, B, I]; done)
                                    | (refine postQ.ret1 Tryd.results12 rfl ?_; simp [AV.close, AV.close.closeL, B, I]; omega)
                                    | (refine postQ.ret1 Tryd.results12 rfl ?_; simp_all [AV.close, AV.close.closeL, B, I]; done)
                                    | (refine postQ.ret1 Tryd.results12 rfl ?_; simp_all [AV.close, AV.close.closeL, B, I]; omega)
                                  · skip
                                    exfalso
                                    rw [q9] at h278
                                    exact absurd h278 (by decide)
                            · skip
                              exfalso
                              rw [q7] at h266
                              exact absurd h266 (by decide)
                  · skip
                    refine AOps.pass rfl rfl rfl h46 rfl ?_
                    refine AOps.pass rfl rfl rfl h46 rfl ?_
                    refine AOps.pass rfl rfl rfl h46 rfl ?_
                    refine AOps.pass rfl rfl rfl h46 rfl ?_
                    refine AOps.passU rfl rfl rfl rfl ?_
                    refine AOps.passU rfl rfl rfl rfl ?_
                    refine AOps.passU rfl rfl rfl rfl ?_
                    refine AOps.pass rfl rfl rfl h46 rfl ?_
                    refine AOps.pass rfl rfl rfl h46 rfl ?_
                    refine AOps.passU rfl rfl rfl rfl ?_
                    refine AOps.passU rfl rfl rfl rfl ?_
                    refine AOps.passU rfl rfl rfl rfl ?_
                    refine AOps.passU rfl rfl rfl rfl ?_
                    refine AOps.passU rfl rfl rfl rfl ?_
                    refine AOps.passU rfl rfl rfl rfl ?_
                    refine AOps.passU rfl rfl rfl rfl ?_
                    refine AOps.passU rfl rfl rfl rfl ?_
                    refine AOps.pass rfl rfl rfl h46 rfl ?_
                    refine AOps.call (o_pickF _ _ _ rfl h46 rfl rfl) ?_
                    refine AOps.nil ?_
                    refine AWP.condF rfl ?_
                    refine AWP.skip ?_
                    refine AWP.seq ?_
                    refine AWP.region ?_
                    refine AOps.call (o_loadRef _ rfl rfl Tryd.sizeOf24 Tryd.isAgg24 rfl rfl rfl) ?_
                    refine AOps.call (o_move _ rfl rfl) ?_
                    refine AOps.call (o_call (Enough_s p out) Tryd.call42 rfl rfl) ?_
                    refine AOps.call (o_move _ rfl rfl) ?_
                    refine AOps.call (o_extract _ rfl rfl rfl rfl) ?_
                    refine AOps.call (o_extract _ rfl rfl rfl rfl) ?_
                    refine AOps.call (o_extract _ rfl rfl rfl rfl) ?_
                    refine AOps.call (o_assign _ rfl rfl) ?_
                    refine AOps.call (o_assign _ rfl rfl) ?_
                    refine AOps.call (o_assign _ rfl rfl) ?_
                    refine AOps.nil ?_
                    refine AWP.seq ?_
                    refine AWP.seq ?_
                    refine AWP.region ?_
                    refine AOps.call (o_move _ rfl rfl) ?_
                    refine AOps.call (o_bin _ _ rfl rfl (fun _ => rfl) rfl) ?_
                    refine AOps.nil ?_
                    refine AWP.cond _ rfl (fun h288 => ?_) (fun h288 => ?_)
                    · skip
                      have he : ¬ (enM p out).2.2 = 0 := by simpa using h288
                      obtain ⟨q1, q2⟩ := hen.1 he
                      have q3 : (enM p out).1 = 0 := congrArg Prod.fst q1
                      have q4 : (enM p out).2.1 = false := congrArg (fun x => x.2.1) q1
                      have q5 : (enM p out).2.2 = 1 := congrArg (fun x => x.2.2) q1
                      refine AWP.seq ?_
                      refine AWP.region ?_
                      refine AOps.call (o_move _ rfl rfl) ?_
                      refine AOps.call (o_bin _ _ rfl rfl (fun _ => rfl) rfl) ?_
                      refine AOps.call (o_move _ rfl rfl) ?_
                      refine AOps.split rfl rfl rfl (fun h290 => ?_) (fun h290 => ?_)
                      · skip
                        refine AOps.go rfl rfl rfl h290 (o_move _ rfl rfl) ?_
                        refine AOps.go rfl rfl rfl h290 (o_bin _ _ rfl rfl (fun _ => rfl) rfl) ?_
                        refine AOps.go rfl rfl rfl h290 (o_move _ rfl rfl) ?_
                        refine AOps.split rfl rfl rfl (fun h293 => ?_) (fun h293 => ?_)
                        · skip
                          have g121 := of_decide_eq_false h293
                          refine AOps.go rfl rfl rfl h293 (o_move _ rfl rfl) ?_
                          refine AOps.go rfl rfl rfl h293 (o_bin _ _ rfl rfl (fun _ => rfl) rfl) ?_
                          refine AOps.go rfl rfl rfl h290 (o_pickF _ _ _ rfl h293 rfl rfl) ?_
                          refine AOps.call (o_pickT _ _ _ rfl h290 rfl rfl) ?_
                          refine AOps.call (o_move _ rfl rfl) ?_
                          refine AOps.split rfl rfl rfl (fun h296 => ?_) (fun h296 => ?_)
                          · skip
                            refine AOps.go rfl rfl rfl h296 (o_move _ rfl rfl) ?_
                            refine AOps.go rfl rfl rfl h296 (o_bin _ _ rfl rfl (fun _ => rfl) rfl) ?_
                            refine AOps.call (o_pickT _ _ _ rfl h296 rfl rfl) ?_
                            refine AOps.call (o_move _ rfl rfl) ?_
                            refine AOps.split rfl rfl rfl (fun h298 => ?_) (fun h298 => ?_)
                            · skip
                              refine AOps.go rfl rfl rfl h298 (o_move _ rfl rfl) ?_
                              refine AOps.go rfl rfl rfl h298 (o_un _ rfl (fun _ => rfl) rfl) ?_
                              refine AOps.call (o_pickT _ _ _ rfl h298 rfl rfl) ?_
                              refine AOps.call (o_assign _ rfl rfl) ?_
                              refine AOps.nil ?_
                              refine AWP.ret ?_
                              first
                              | exact postQ.ret1 Tryd.results12 rfl rfl
                              | (refine postQ.ret1 Tryd.results12 rfl ?_; simp [AV.close, AV.close.closeL, B, I]; done)
                              | (refine postQ.ret1 Tryd.results12 rfl ?_; simp [AV.close, AV.close.closeL, B, I]; omega)
                              | (refine postQ.ret1 Tryd.results12 rfl ?_; simp_all [AV.close, AV.close.closeL, B, I]; done)
                              | (refine postQ.ret1 Tryd.results12 rfl ?_; simp_all [AV.close, AV.close.closeL, B, I]; omega)
                            · skip
                              exfalso
                              rw [q3] at h298
                              exact absurd h298 (by decide)
                          · skip
                            exfalso
                            have hq := of_decide_eq_false h296
                            omega
                        · skip
                          refine AOps.pass rfl rfl rfl h293 rfl ?_
                          refine AOps.pass rfl rfl rfl h293 rfl ?_
                          refine AOps.go rfl rfl rfl h290 (o_pickT _ _ _ rfl h293 rfl rfl) ?_
                          refine AOps.call (o_pickT _ _ _ rfl h290 rfl rfl) ?_
                          refine AOps.call (o_move _ rfl rfl) ?_
                          refine AOps.go rfl rfl rfl rfl (o_move _ rfl rfl) ?_
                          refine AOps.go rfl rfl rfl rfl (o_bin _ _ rfl rfl (fun _ => rfl) rfl) ?_
                          refine AOps.call (o_pickT _ _ _ rfl rfl rfl rfl) ?_
                          refine AOps.call (o_move _ rfl rfl) ?_
                          refine AOps.split rfl rfl rfl (fun h301 => ?_) (fun h301 => ?_)
                          · skip
                            refine AOps.go rfl rfl rfl h301 (o_move _ rfl rfl) ?_
                            refine AOps.go rfl rfl rfl h301 (o_un _ rfl (fun _ => rfl) rfl) ?_
                            refine AOps.call (o_pickT _ _ _ rfl h301 rfl rfl) ?_
                            refine AOps.call (o_assign _ rfl rfl) ?_
                            refine AOps.nil ?_
                            refine AWP.ret ?_
                            first
                            | exact postQ.ret1 Tryd.results12 rfl rfl
                            | (refine postQ.ret1 Tryd.results12 rfl ?_; simp [AV.close, AV.close.closeL, B, I]; done)
                            | (refine postQ.ret1 Tryd.results12 rfl ?_; simp [AV.close, AV.close.closeL, B, I]; omega)
                            | (refine postQ.ret1 Tryd.results12 rfl ?_; simp_all [AV.close, AV.close.closeL, B, I]; done)
                            | (refine postQ.ret1 Tryd.results12 rfl ?_; simp_all [AV.close, AV.close.closeL, B, I]; omega)
                          · skip
                            exfalso
                            rw [q3] at h301
                            exact absurd h301 (by decide)
                      · skip
                        exfalso
                        rw [q5] at h290
                        exact absurd h290 (by decide)
                    · skip
                      have he : (enM p out).2.2 = 0 := by simpa using h288
                      refine AWP.skip ?_
                      refine AWP.seq ?_
                      refine AWP.seq ?_
                      refine AWP.region ?_
                      refine AOps.call (o_move _ rfl rfl) ?_
                      refine AOps.call (o_un _ rfl (fun _ => rfl) rfl) ?_
                      refine AOps.nil ?_
                      refine AWP.cond _ rfl (fun h304 => ?_) (fun h304 => ?_)
                      · skip
                        have hb : (enM p out).2.1 = false := by simpa using h304
                        obtain ⟨q3, q6⟩ := hen.2.1 he hb
                        have q7 : (yldM p 65536).2 = 0 := congrArg Prod.snd (yld_of a1 (by omega))
                        refine AWP.seq ?_
                        refine AWP.region ?_
                        refine AOps.call (o_loadRef _ rfl rfl Tryd.sizeOf24 Tryd.isAgg24 rfl rfl rfl) ?_
                        refine AOps.call (o_call (Yield_s p 65536) Tryd.call40 rfl rfl) ?_
                        refine AOps.call (o_move _ rfl rfl) ?_
                        refine AOps.call (o_extract _ rfl rfl rfl rfl) ?_
                        refine AOps.call (o_extract _ rfl rfl rfl rfl) ?_
                        refine AOps.call (o_assign _ rfl rfl) ?_
                        refine AOps.call (o_assign _ rfl rfl) ?_
                        refine AOps.nil ?_
                        refine AWP.seq ?_
                        refine AWP.region ?_
                        refine AOps.call (o_move _ rfl rfl) ?_
                        refine AOps.call (o_bin _ _ rfl rfl (fun _ => rfl) rfl) ?_
                        refine AOps.call (o_move _ rfl rfl) ?_
                        refine AOps.split rfl rfl rfl (fun h310 => ?_) (fun h310 => ?_)
                        · skip
                          refine AOps.go rfl rfl rfl h310 (o_move _ rfl rfl) ?_
                          refine AOps.go rfl rfl rfl h310 (o_move _ rfl rfl) ?_
                          refine AOps.go rfl rfl rfl h310 (o_bin _ _ rfl rfl (fun _ => rfl) rfl) ?_
                          refine AOps.call (o_pickT _ _ _ rfl h310 rfl rfl) ?_
                          refine AOps.call (o_move _ rfl rfl) ?_
                          refine AOps.split rfl rfl rfl (fun h313 => ?_) (fun h313 => ?_)
                          · skip
                            refine AOps.go rfl rfl rfl h313 (o_move _ rfl rfl) ?_
                            refine AOps.go rfl rfl rfl h313 (o_bin _ _ rfl rfl (fun _ => rfl) rfl) ?_
                            refine AOps.call (o_pickT _ _ _ rfl h313 rfl rfl) ?_
                            refine AOps.call (o_assign _ rfl rfl) ?_
                            refine AOps.nil ?_
                            refine AWP.ret ?_
                            first
                            | exact postQ.ret1 Tryd.results12 rfl rfl
                            | (refine postQ.ret1 Tryd.results12 rfl ?_; simp [AV.close, AV.close.closeL, B, I]; done)
                            | (refine postQ.ret1 Tryd.results12 rfl ?_; simp [AV.close, AV.close.closeL, B, I]; omega)
                            | (refine postQ.ret1 Tryd.results12 rfl ?_; simp_all [AV.close, AV.close.closeL, B, I]; done)
                            | (refine postQ.ret1 Tryd.results12 rfl ?_; simp_all [AV.close, AV.close.closeL, B, I]; omega)
                          · skip
                            exfalso
                            have hq := of_decide_eq_false h313
                            omega
                        · skip
                          exfalso
                          rw [q7] at h310
                          exact absurd h310 (by decide)
                      · skip
                        have hb : (enM p out).2.1 = true := by simpa using h304
                        obtain ⟨q3, q4, q5, q6⟩ := hen.2.2 he hb
                        have q7 : (yldM p (enM p out).1).2 = 0 := congrArg Prod.snd (yld_of a1 (by omega))
                        refine AWP.skip ?_
                        refine AWP.seq ?_
                        refine AWP.region ?_
                        refine AOps.call (o_loadRef _ rfl rfl Tryd.sizeOf24 Tryd.isAgg24 rfl rfl rfl) ?_
                        refine AOps.call (o_move _ rfl rfl) ?_
                        refine AOps.call (o_call (Yield_s p (enM p out).1) Tryd.call40 rfl rfl) ?_
                        refine AOps.call (o_move _ rfl rfl) ?_
                        refine AOps.call (o_extract _ rfl rfl rfl rfl) ?_
                        refine AOps.call (o_extract _ rfl rfl rfl rfl) ?_
                        refine AOps.call (o_assign _ rfl rfl) ?_
                        refine AOps.call (o_assign _ rfl rfl) ?_
                        refine AOps.nil ?_
                        refine AWP.seq ?_
                        refine AWP.seq ?_
                        refine AWP.region ?_
                        refine AOps.call (o_move _ rfl rfl) ?_
                        refine AOps.call (o_bin _ _ rfl rfl (fun _ => rfl) rfl) ?_
                        refine AOps.call (o_move _ rfl rfl) ?_
                        refine AOps.split rfl rfl rfl (fun h320 => ?_) (fun h320 => ?_)
                        · skip
                          refine AOps.go rfl rfl rfl h320 (o_move _ rfl rfl) ?_
                          refine AOps.go rfl rfl rfl h320 (o_move _ rfl rfl) ?_
                          refine AOps.go rfl rfl rfl h320 (o_bin _ _ rfl rfl (fun _ => rfl) rfl) ?_
                          refine AOps.call (o_pickF _ _ _ rfl h320 rfl rfl) ?_
                          refine AOps.nil ?_
                          refine AWP.cond _ rfl (fun h323 => ?_) (fun h323 => ?_)
                          · skip
                            exfalso
                            have hq := of_decide_eq_true h323
                            omega
                          · skip
                            refine AWP.skip ?_
                            refine AWP.seq ?_
                            refine AWP.seq ?_
                            refine AWP.region ?_
                            refine AOps.call (o_move _ rfl rfl) ?_
                            refine AOps.call (o_bin _ _ rfl rfl (fun _ => rfl) rfl) ?_
                            refine AOps.nil ?_
                            refine AWP.cond _ rfl (fun h325 => ?_) (fun h325 => ?_)
                            · skip
                              refine AWP.seq ?_
                              refine AWP.region ?_
                              refine AOps.call (o_assign _ rfl rfl) ?_
                              refine AOps.nil ?_
                              refine AWP.ret ?_
                              first
                              | exact postQ.ret1 Tryd.results12 rfl rfl
                              | (refine postQ.ret1 Tryd.results12 rfl ?_; simp [AV.close, AV.close.closeL, B, I]; done)
                              | (refine postQ.ret1 Tryd.results12 rfl ?_; simp [AV.close, AV.close.closeL, B, I]; omega)
                              | (refine postQ.ret1 Tryd.results12 rfl ?_; simp_all [AV.close, AV.close.closeL, B, I]; done)
                              | (refine postQ.ret1 Tryd.results12 rfl ?_; simp_all [AV.close, AV.close.closeL, B, I]; omega)
                            · skip
                              have hne : (enM p out).1 ≠ 0 := by simpa using h325
                              have q8 := q6 hne
                              have q9 : (yldM p ((enM p out).1 - 1)).2 = 0 := congrArg Prod.snd (yld_of a1 (by omega))
                              refine AWP.skip ?_
                              refine AWP.seq ?_
                              refine AWP.region ?_
                              refine AOps.call (o_loadRef _ rfl rfl Tryd.sizeOf24 Tryd.isAgg24 rfl rfl rfl) ?_
                              refine AOps.call (o_move _ rfl rfl) ?_
                              refine AOps.call (o_sub _ _ rfl rfl ⟨by (try dsimp only); omega, by (try dsimp only); omega⟩ rfl) ?_
                              refine AOps.call (o_call (Yield_s p ((enM p out).1 - 1)) Tryd.call40 rfl rfl) ?_
                              refine AOps.call (o_move _ rfl rfl) ?_
                              refine AOps.call (o_extract _ rfl rfl rfl rfl) ?_
                              refine AOps.call (o_extract _ rfl rfl rfl rfl) ?_
                              refine AOps.call (o_assign _ rfl rfl) ?_
                              refine AOps.call (o_assign _ rfl rfl) ?_
                              refine AOps.nil ?_
                              refine AWP.seq ?_
                              refine AWP.region ?_
                              refine AOps.call (o_move _ rfl rfl) ?_
                              refine AOps.call (o_bin _ _ rfl rfl (fun _ => rfl) rfl) ?_
                              refine AOps.call (o_move _ rfl rfl) ?_
                              refine AOps.split rfl rfl rfl (fun h332 => ?_) (fun h332 => ?_)
                              · skip
                                refine AOps.go rfl rfl rfl h332 (o_move _ rfl rfl) ?_
                                refine AOps.go rfl rfl rfl h332 (o_move _ rfl rfl) ?_
                                refine AOps.go rfl rfl rfl h332 (o_bin _ _ rfl rfl (fun _ => rfl) rfl) ?_
                                refine AOps.call (o_pickT _ _ _ rfl h332 rfl rfl) ?_
                                refine AOps.call (o_assign _ rfl rfl) ?_
                                refine AOps.nil ?_
                                refine AWP.ret ?_
                                first
                                | exact postQ.ret1 Tryd.results12 rfl rfl
                                | (refine postQ.ret1 Tryd.results12 rfl ?_; simp [AV.close, AV.close.closeL, B, I]; done)
                                | (refine postQ.ret1 Tryd.results12 rfl ?_; simp [AV.close, AV.close.closeL, B, I]; omega)
                                | (refine postQ.ret1 Tryd.results12 rfl ?_; simp_all [AV.close, AV.close.closeL, B, I]; done)
                                | (refine postQ.ret1 Tryd.results12 rfl ?_; simp_all [AV.close, AV.close.closeL, B, I]; omega)
                              · skip
                                exfalso
                                rw [q9] at h332
                                exact absurd h332 (by decide)
                        · skip
                          exfalso
                          rw [q7] at h320
                          exact absurd h320 (by decide)
              · skip
                refine AOps.pass rfl rfl rfl h37 rfl ?_
                refine AOps.pass rfl rfl rfl h37 rfl ?_
                refine AOps.pass rfl rfl rfl h37 rfl ?_
                refine AOps.go rfl rfl rfl h32 (o_pickF _ _ _ rfl h37 rfl rfl) ?_
                refine AOps.call (o_pickF _ _ _ rfl h32 rfl rfl) ?_
                refine AOps.nil ?_
                refine AWP.condF rfl ?_
                refine AWP.skip ?_
                refine AWP.seq ?_
                refine AWP.region ?_
                refine AOps.call (o_loadRef _ rfl rfl Tryd.sizeOf24 Tryd.isAgg24 rfl rfl rfl) ?_
                refine AOps.call (o_move _ rfl rfl) ?_
                refine AOps.call (o_call (Yield_s p more) Tryd.call40 rfl rfl) ?_
                refine AOps.call (o_move _ rfl rfl) ?_
                refine AOps.call (o_extract _ rfl rfl rfl rfl) ?_
                refine AOps.call (o_extract _ rfl rfl rfl rfl) ?_
                refine AOps.call (o_assign _ rfl rfl) ?_
                refine AOps.call (o_assign _ rfl rfl) ?_
                refine AOps.nil ?_
                refine AWP.seq ?_
                refine AWP.seq ?_
                refine AWP.region ?_
                refine AOps.call (o_move _ rfl rfl) ?_
                refine AOps.call (o_bin _ _ rfl rfl (fun _ => rfl) rfl) ?_
                refine AOps.call (o_move _ rfl rfl) ?_
                refine AOps.split rfl rfl rfl (fun h341 => ?_) (fun h341 => ?_)
                · skip
                  have h2 : (yldM p more).2 = 0 := by simpa using h341
                  refine AOps.go rfl rfl rfl h341 (o_move _ rfl rfl) ?_
                  refine AOps.go rfl rfl rfl h341 (o_move _ rfl rfl) ?_
                  refine AOps.go rfl rfl rfl h341 (o_bin _ _ rfl rfl (fun _ => rfl) rfl) ?_
                  refine AOps.go rfl rfl rfl h341 (o_move _ rfl rfl) ?_
                  refine AOps.split rfl rfl rfl (fun h345 => ?_) (fun h345 => ?_)
                  · skip
                    have g91 := h345
                    refine AOps.go rfl rfl rfl h345 (o_move _ rfl rfl) ?_
                    refine AOps.go rfl rfl rfl h345 (o_move _ rfl rfl) ?_
                    refine AOps.go rfl rfl rfl h345 (o_bin _ _ rfl rfl (fun _ => rfl) rfl) ?_
                    refine AOps.go rfl rfl rfl h341 (o_pickT _ _ _ rfl h345 rfl rfl) ?_
                    refine AOps.go rfl rfl rfl h341 (o_move _ rfl rfl) ?_
                    refine AOps.split rfl rfl rfl (fun h347 => ?_) (fun h347 => ?_)
                    · skip
                      refine AOps.go rfl rfl rfl h347 (o_move _ rfl rfl) ?_
                      refine AOps.go rfl rfl rfl h347 (o_move _ rfl rfl) ?_
                      refine AOps.go rfl rfl rfl h347 (o_bin _ _ rfl rfl (fun _ => rfl) rfl) ?_
                      refine AOps.go rfl rfl rfl h347 (o_move _ rfl rfl) ?_
                      refine AOps.split rfl rfl rfl (fun h351 => ?_) (fun h351 => ?_)
                      · skip
                        have g100 := h351
                        refine AOps.go rfl rfl rfl h351 (o_move _ rfl rfl) ?_
                        refine AOps.go rfl rfl rfl h351 (o_move _ rfl rfl) ?_
                        refine AOps.go rfl rfl rfl h351 (o_bin _ _ rfl rfl (fun _ => rfl) rfl) ?_
                        refine AOps.go rfl rfl rfl h347 (o_pickT _ _ _ rfl h351 rfl rfl) ?_
                        refine AOps.go rfl rfl rfl h341 (o_pickF _ _ _ rfl h347 rfl rfl) ?_
                        refine AOps.call (o_pickT _ _ _ rfl h341 rfl rfl) ?_
                        refine AOps.nil ?_
                        refine AWP.cond _ rfl (fun h353 => ?_) (fun h353 => ?_)
                        · skip
                          exfalso
                          have hq := of_decide_eq_true h353
                          have hm := yld_mono h2 hok (of_decide_eq_true g100)
                          omega
                        · skip
                          refine AWP.skip ?_
                          refine AWP.seq ?_
                          refine AWP.region ?_
                          refine AOps.call (o_loadRef _ rfl rfl Tryd.sizeOf24 Tryd.isAgg24 rfl rfl rfl) ?_
                          refine AOps.call (o_move _ rfl rfl) ?_
                          refine AOps.call (o_call (Enough_s p out) Tryd.call42 rfl rfl) ?_
                          refine AOps.call (o_move _ rfl rfl) ?_
                          refine AOps.call (o_extract _ rfl rfl rfl rfl) ?_
                          refine AOps.call (o_extract _ rfl rfl rfl rfl) ?_
                          refine AOps.call (o_extract _ rfl rfl rfl rfl) ?_
                          refine AOps.call (o_assign _ rfl rfl) ?_
                          refine AOps.call (o_assign _ rfl rfl) ?_
                          refine AOps.call (o_assign _ rfl rfl) ?_
                          refine AOps.nil ?_
                          refine AWP.seq ?_
                          refine AWP.seq ?_
                          refine AWP.region ?_
                          refine AOps.call (o_move _ rfl rfl) ?_
                          refine AOps.call (o_bin _ _ rfl rfl (fun _ => rfl) rfl) ?_
                          refine AOps.nil ?_
                          refine AWP.cond _ rfl (fun h361 => ?_) (fun h361 => ?_)
                          · skip
                            have he : ¬ (enM p out).2.2 = 0 := by simpa using h361
                            obtain ⟨q1, q2⟩ := hen.1 he
                            have q3 : (enM p out).1 = 0 := congrArg Prod.fst q1
                            have q4 : (enM p out).2.1 = false := congrArg (fun x => x.2.1) q1
                            have q5 : (enM p out).2.2 = 1 := congrArg (fun x => x.2.2) q1
                            refine AWP.seq ?_
                            refine AWP.region ?_
                            refine AOps.call (o_move _ rfl rfl) ?_
                            refine AOps.call (o_bin _ _ rfl rfl (fun _ => rfl) rfl) ?_
                            refine AOps.call (o_move _ rfl rfl) ?_
                            refine AOps.split rfl rfl rfl (fun h363 => ?_) (fun h363 => ?_)
                            · skip
                              refine AOps.go rfl rfl rfl h363 (o_move _ rfl rfl) ?_
                              refine AOps.go rfl rfl rfl h363 (o_bin _ _ rfl rfl (fun _ => rfl) rfl) ?_
                              refine AOps.go rfl rfl rfl h363 (o_move _ rfl rfl) ?_
                              refine AOps.split rfl rfl rfl (fun h366 => ?_) (fun h366 => ?_)
                              · skip
                                have g121 := of_decide_eq_false h366
                                refine AOps.go rfl rfl rfl h366 (o_move _ rfl rfl) ?_
                                refine AOps.go rfl rfl rfl h366 (o_bin _ _ rfl rfl (fun _ => rfl) rfl) ?_
                                refine AOps.go rfl rfl rfl h363 (o_pickF _ _ _ rfl h366 rfl rfl) ?_
                                refine AOps.call (o_pickT _ _ _ rfl h363 rfl rfl) ?_
                                refine AOps.call (o_move _ rfl rfl) ?_
                                refine AOps.split rfl rfl rfl (fun h369 => ?_) (fun h369 => ?_)
                                · skip
                                  refine AOps.go rfl rfl rfl h369 (o_move _ rfl rfl) ?_
                                  refine AOps.go rfl rfl rfl h369 (o_bin _ _ rfl rfl (fun _ => rfl) rfl) ?_
                                  refine AOps.call (o_pickT _ _ _ rfl h369 rfl rfl) ?_
                                  refine AOps.call (o_move _ rfl rfl) ?_
                                  refine AOps.split rfl rfl rfl (fun h371 => ?_) (fun h371 => ?_)
                                  · skip
                                    refine AOps.go rfl rfl rfl h371 (o_move _ rfl rfl) ?_
                                    refine AOps.go rfl rfl rfl h371 (o_un _ rfl (fun _ => rfl) rfl) ?_
                                    refine AOps.call (o_pickT _ _ _ rfl h371 rfl rfl) ?_
                                    refine AOps.call (o_assign _ rfl rfl) ?_
                                    refine AOps.nil ?_
                                    refine AWP.ret ?_
                                    first
                                    | exact postQ.ret1 Tryd.results12 rfl rfl
                                    | (refine postQ.ret1 Tryd.results12 rfl ?_; simp [AV.close, AV.close.closeL, B, I]; done)
                                    | (refine postQ.ret1 Tryd.results12 rfl ?_; simp [AV.close, AV.close.closeL, B, I]; omega)
                                    | (refine postQ.ret1 Tryd.results12 rfl ?_; simp_all [AV.close, AV.close.closeL, B, I]; done)
                                    | (refine postQ.ret1 Tryd.results12 rfl ?_; simp_all [AV.close, AV.close.closeL, B, I]; omega)
                                  · skip
                                    exfalso
                                    rw [q3] at h371
                                    exact absurd h371 (by decide)
                                · skip
                                  exfalso
                                  have hq := of_decide_eq_false h369
                                  omega
                              · skip
                                refine AOps.pass rfl rfl rfl h366 rfl ?_
                                refine AOps.pass rfl rfl rfl h366 rfl ?_
                                refine AOps.go rfl rfl rfl h363 (o_pickT _ _ _ rfl h366 rfl rfl) ?_
                                refine AOps.call (o_pickT _ _ _ rfl h363 rfl rfl) ?_
                                refine AOps.call (o_move _ rfl rfl) ?_
                                refine AOps.go rfl rfl rfl rfl (o_move _ rfl rfl) ?_
                                refine AOps.go rfl rfl rfl rfl (o_bin _ _ rfl rfl (fun _ => rfl) rfl) ?_
                                refine AOps.call (o_pickT _ _ _ rfl rfl rfl rfl) ?_
                                refine AOps.call (o_move _ rfl rfl) ?_
                                refine AOps.split rfl rfl rfl (fun h374 => ?_) (fun h374 => ?_)
                                · skip
                                  refine AOps.go rfl rfl rfl h374 (o_move _ rfl rfl) ?_
                                  refine AOps.go rfl rfl rfl h374 (o_un _ rfl (fun _ => rfl) rfl) ?_
                                  refine AOps.call (o_pickT _ _ _ rfl h374 rfl rfl) ?_
                                  refine AOps.call (o_assign _ rfl rfl) ?_
                                  refine AOps.nil ?_
                                  refine AWP.ret ?_
                                  first
                                  | exact postQ.ret1 Tryd.results12 rfl rfl
                                  | (refine postQ.ret1 Tryd.results12 rfl ?_; simp [AV.close, AV.close.closeL, B, I]; done)
                                  | (refine postQ.ret1 Tryd.results12 rfl ?_; simp [AV.close, AV.close.closeL, B, I]; omega)
                                  | (refine postQ.ret1 Tryd.results12 rfl ?_; simp_all [AV.close, AV.close.closeL, B, I]; done)
                                  | (refine postQ.ret1 Tryd.results12 rfl ?_; simp_all [AV.close, AV.close.closeL, B, I]; omega)
                                · skip
                                  exfalso
                                  rw [q3] at h374
                                  exact absurd h374 (by decide)
                            · skip
                              exfalso
                              rw [q5] at h363
                              exact absurd h363 (by decide)
                          · skip
                            have he : (enM p out).2.2 = 0 := by simpa using h361
                            refine AWP.skip ?_
                            refine AWP.seq ?_
                            refine AWP.seq ?_
                            refine AWP.region ?_
                            refine AOps.call (o_move _ rfl rfl) ?_
                            refine AOps.call (o_un _ rfl (fun _ => rfl) rfl) ?_
                            refine AOps.nil ?_
                            refine AWP.cond _ rfl (fun h377 => ?_) (fun h377 => ?_)
                            · skip
                              have hb : (enM p out).2.1 = false := by simpa using h377
                              obtain ⟨q3, q6⟩ := hen.2.1 he hb
                              have q7 : (yldM p 65536).2 = 0 := congrArg Prod.snd (yld_of a1 (by omega))
                              refine AWP.seq ?_
                              refine AWP.region ?_
                              refine AOps.call (o_loadRef _ rfl rfl Tryd.sizeOf24 Tryd.isAgg24 rfl rfl rfl) ?_
                              refine AOps.call (o_call (Yield_s p 65536) Tryd.call40 rfl rfl) ?_
                              refine AOps.call (o_move _ rfl rfl) ?_
                              refine AOps.call (o_extract _ rfl rfl rfl rfl) ?_
                              refine AOps.call (o_extract _ rfl rfl rfl rfl) ?_
                              refine AOps.call (o_assign _ rfl rfl) ?_
                              refine AOps.call (o_assign _ rfl rfl) ?_
                              refine AOps.nil ?_
                              refine AWP.seq ?_
                              refine AWP.region ?_
                              refine AOps.call (o_move _ rfl rfl) ?_
                              refine AOps.call (o_bin _ _ rfl rfl (fun _ => rfl) rfl) ?_
                              refine AOps.call (o_move _ rfl rfl) ?_
                              refine AOps.split rfl rfl rfl (fun h383 => ?_) (fun h383 => ?_)
                              · skip
                                refine AOps.go rfl rfl rfl h383 (o_move _ rfl rfl) ?_
                                refine AOps.go rfl rfl rfl h383 (o_move _ rfl rfl) ?_
                                refine AOps.go rfl rfl rfl h383 (o_bin _ _ rfl rfl (fun _ => rfl) rfl) ?_
                                refine AOps.call (o_pickT _ _ _ rfl h383 rfl rfl) ?_
                                refine AOps.call (o_move _ rfl rfl) ?_
                                refine AOps.split rfl rfl rfl (fun h386 => ?_) (fun h386 => ?_)
                                · skip
                                  refine AOps.go rfl rfl rfl h386 (o_move _ rfl rfl) ?_
                                  refine AOps.go rfl rfl rfl h386 (o_bin _ _ rfl rfl (fun _ => rfl) rfl) ?_
                                  refine AOps.call (o_pickT _ _ _ rfl h386 rfl rfl) ?_
                                  refine AOps.call (o_assign _ rfl rfl) ?_
                                  refine AOps.nil ?_
                                  refine AWP.ret ?_
                                  first
                                  | exact postQ.ret1 Tryd.results12 rfl rfl
                                  | (refine postQ.ret1 Tryd.results12 rfl ?_; simp [AV.close, AV.close.closeL, B, I]; done)
                                  | (refine postQ.ret1 Tryd.results12 rfl ?_; simp [AV.close, AV.close.closeL, B, I]; omega)
                                  | (refine postQ.ret1 Tryd.results12 rfl ?_; simp_all [AV.close, AV.close.closeL, B, I]; done)
                                  | (refine postQ.ret1 Tryd.results12 rfl ?_; simp_all [AV.close, AV.close.closeL, B, I]; omega)
                                · skip
                                  exfalso
                                  have hq := of_decide_eq_false h386
                                  omega
                              · skip
                                exfalso
                                rw [q7] at h383
                                exact absurd h383 (by decide)
                            · skip
                              have hb : (enM p out).2.1 = true := by simpa using h377
                              obtain ⟨q3, q4, q5, q6⟩ := hen.2.2 he hb
                              have q7 : (yldM p (enM p out).1).2 = 0 := congrArg Prod.snd (yld_of a1 (by omega))
                              refine AWP.skip ?_
                              refine AWP.seq ?_
                              refine AWP.region ?_
                              refine AOps.call (o_loadRef _ rfl rfl Tryd.sizeOf24 Tryd.isAgg24 rfl rfl rfl) ?_
                              refine AOps.call (o_move _ rfl rfl) ?_
                              refine AOps.call (o_call (Yield_s p (enM p out).1) Tryd.call40 rfl rfl) ?_
                              refine AOps.call (o_move _ rfl rfl) ?_
                              refine AOps.call (o_extract _ rfl rfl rfl rfl) ?_
                              refine AOps.call (o_extract _ rfl rfl rfl rfl) ?_
                              refine AOps.call (o_assign _ rfl rfl) ?_
                              refine AOps.call (o_assign _ rfl rfl) ?_
                              refine AOps.nil ?_
                              refine AWP.seq ?_
                              refine AWP.seq ?_
                              refine AWP.region ?_
                              refine AOps.call (o_move _ rfl rfl) ?_
                              refine AOps.call (o_bin _ _ rfl rfl (fun _ => rfl) rfl) ?_
                              refine AOps.call (o_move _ rfl rfl) ?_
                              refine AOps.split rfl rfl rfl (fun h393 => ?_) (fun h393 => ?_)
                              · skip
                                refine AOps.go rfl rfl rfl h393 (o_move _ rfl rfl) ?_
                                refine AOps.go rfl rfl rfl h393 (o_move _ rfl rfl) ?_
                                refine AOps.go rfl rfl rfl h393 (o_bin _ _ rfl rfl (fun _ => rfl) rfl) ?_
                                refine AOps.call (o_pickF _ _ _ rfl h393 rfl rfl) ?_
                                refine AOps.nil ?_
                                refine AWP.cond _ rfl (fun h396 => ?_) (fun h396 => ?_)
                                · skip
                                  exfalso
                                  have hq := of_decide_eq_true h396
                                  omega
                                · skip
                                  refine AWP.skip ?_
                                  refine AWP.seq ?_
                                  refine AWP.seq ?_
                                  refine AWP.region ?_
                                  refine AOps.call (o_move _ rfl rfl) ?_
                                  refine AOps.call (o_bin _ _ rfl rfl (fun _ => rfl) rfl) ?_
                                  refine AOps.nil ?_
                                  refine AWP.cond _ rfl (fun h398 => ?_) (fun h398 => ?_)
                                  · skip
                                    refine AWP.seq ?_
                                    refine AWP.region ?_
                                    refine AOps.call (o_assign _ rfl rfl) ?_
                                    refine AOps.nil ?_
                                    refine AWP.ret ?_
                                    first
                                    | exact postQ.ret1 Tryd.results12 rfl rfl
                                    | (refine postQ.ret1 Tryd.results12 rfl ?_; simp [AV.close, AV.close.closeL, B, I]; done)
                                    | (refine postQ.ret1 Tryd.results12 rfl ?_; simp [AV.close, AV.close.closeL, B, I]; omega)
                                    | (refine postQ.ret1 Tryd.results12 rfl ?_; simp_all [AV.close, AV.close.closeL, B, I]; done)
                                    | (refine postQ.ret1 Tryd.results12 rfl ?_; simp_all [AV.close, AV.close.closeL, B, I]; omega)
                                  · skip
                                    have hne : (enM p out).1 ≠ 0 := by simpa using h398
                                    have q8 := q6 hne
                                    have q9 : (yldM p ((enM p out).1 - 1)).2 = 0 := congrArg Prod.snd (yld_of a1 (by omega))
                                    refine AWP.skip ?_
                                    refine AWP.seq ?_
                                    refine AWP.region ?_
                                    refine AOps.call (o_loadRef _ rfl rfl Tryd.sizeOf24 Tryd.isAgg24 rfl rfl rfl) ?_
                                    refine AOps.call (o_move _ rfl rfl) ?_
                                    refine AOps.call (o_sub _ _ rfl rfl ⟨by (try dsimp only); omega, by (try dsimp only); omega⟩ rfl) ?_
                                    refine AOps.call (o_call (Yield_s p ((enM p out).1 - 1)) Tryd.call40 rfl rfl) ?_
                                    refine AOps.call (o_move _ rfl rfl) ?_
                                    refine AOps.call (o_extract _ rfl rfl rfl rfl) ?_
                                    refine AOps.call (o_extract _ rfl rfl rfl rfl) ?_
                                    refine AOps.call (o_assign _ rfl rfl) ?_
                                    refine AOps.call (o_assign _ rfl rfl) ?_
                                    refine AOps.nil ?_
                                    refine AWP.seq ?_
                                    refine AWP.region ?_
                                    refine AOps.call (o_move _ rfl rfl) ?_
                                    refine AOps.call (o_bin _ _ rfl rfl (fun _ => rfl) rfl) ?_
                                    refine AOps.call (o_move _ rfl rfl) ?_
                                    refine AOps.split rfl rfl rfl (fun h405 => ?_) (fun h405 => ?_)
                                    · skip
                                      refine AOps.go rfl rfl rfl h405 (o_move _ rfl rfl) ?_
                                      refine AOps.go rfl rfl rfl h405 (o_move _ rfl rfl) ?_
                                      refine AOps.go rfl rfl rfl h405 (o_bin _ _ rfl rfl (fun _ => rfl) rfl) ?_
                                      refine AOps.call (o_pickT _ _ _ rfl h405 rfl rfl) ?_
                                      refine AOps.call (o_assign _ rfl rfl) ?_
                                      refine AOps.nil ?_
                                      refine AWP.ret ?_
                                      first
                                      | exact postQ.ret1 Tryd.results12 rfl rfl
                                      | (refine postQ.ret1 Tryd.results12 rfl ?_; simp [AV.close, AV.close.closeL, B, I]; done)
                                      | (refine postQ.ret1 Tryd.results12 rfl ?_; simp [AV.close, AV.close.closeL, B, I]; omega)
                                      | (refine postQ.ret1 Tryd.results12 rfl ?_; simp_all [AV.close, AV.close.closeL, B, I]; done)
                                      | (refine postQ.ret1 Tryd.results12 rfl ?_; simp_all [AV.close, AV.close.closeL, B, I]; omega)
                                    · skip
                                      exfalso
                                      rw [q9] at h405
                                      exact absurd h405 (by decide)
                              · skip
                                exfalso
                                rw [q7] at h393
                                exact absurd h393 (by decide)
                      · skip
                        refine AOps.pass rfl rfl rfl h351 rfl ?_
                        refine AOps.pass rfl rfl rfl h351 rfl ?_
                        refine AOps.pass rfl rfl rfl h351 rfl ?_
                        refine AOps.go rfl rfl rfl h347 (o_pickF _ _ _ rfl h351 rfl rfl) ?_
                        refine AOps.go rfl rfl rfl h341 (o_pickF _ _ _ rfl h347 rfl rfl) ?_
                        refine AOps.call (o_pickT _ _ _ rfl h341 rfl rfl) ?_
                        refine AOps.nil ?_
                        refine AWP.condF rfl ?_
                        refine AWP.skip ?_
                        refine AWP.seq ?_
                        refine AWP.region ?_
                        refine AOps.call (o_loadRef _ rfl rfl Tryd.sizeOf24 Tryd.isAgg24 rfl rfl rfl) ?_
                        refine AOps.call (o_move _ rfl rfl) ?_
                        refine AOps.call (o_call (Enough_s p out) Tryd.call42 rfl rfl) ?_
                        refine AOps.call (o_move _ rfl rfl) ?_
                        refine AOps.call (o_extract _ rfl rfl rfl rfl) ?_
                        refine AOps.call (o_extract _ rfl rfl rfl rfl) ?_
                        refine AOps.call (o_extract _ rfl rfl rfl rfl) ?_
                        refine AOps.call (o_assign _ rfl rfl) ?_
                        refine AOps.call (o_assign _ rfl rfl) ?_
                        refine AOps.call (o_assign _ rfl rfl) ?_
                        refine AOps.nil ?_
                        refine AWP.seq ?_
                        refine AWP.seq ?_
                        refine AWP.region ?_
                        refine AOps.call (o_move _ rfl rfl) ?_
                        refine AOps.call (o_bin _ _ rfl rfl (fun _ => rfl) rfl) ?_
                        refine AOps.nil ?_
                        refine AWP.cond _ rfl (fun h415 => ?_) (fun h415 => ?_)
                        · skip
                          have he : ¬ (enM p out).2.2 = 0 := by simpa using h415
                          obtain ⟨q1, q2⟩ := hen.1 he
                          have q3 : (enM p out).1 = 0 := congrArg Prod.fst q1
                          have q4 : (enM p out).2.1 = false := congrArg (fun x => x.2.1) q1
                          have q5 : (enM p out).2.2 = 1 := congrArg (fun x => x.2.2) q1
                          refine AWP.seq ?_
                          refine AWP.region ?_
                          refine AOps.call (o_move _ rfl rfl) ?_
                          refine AOps.call (o_bin _ _ rfl rfl (fun _ => rfl) rfl) ?_
                          refine AOps.call (o_move _ rfl rfl) ?_
                          refine AOps.split rfl rfl rfl (fun h417 => ?_) (fun h417 => ?_)
                          · skip
                            refine AOps.go rfl rfl rfl h417 (o_move _ rfl rfl) ?_
                            refine AOps.go rfl rfl rfl h417 (o_bin _ _ rfl rfl (fun _ => rfl) rfl) ?_
                            refine AOps.go rfl rfl rfl h417 (o_move _ rfl rfl) ?_
                            refine AOps.split rfl rfl rfl (fun h420 => ?_) (fun h420 => ?_)
                            · skip
                              have g121 := of_decide_eq_false h420
                              refine AOps.go rfl rfl rfl h420 (o_move _ rfl rfl) ?_
                              refine AOps.go rfl rfl rfl h420 (o_bin _ _ rfl rfl (fun _ => rfl) rfl) ?_
                              refine AOps.go rfl rfl rfl h417 (o_pickF _ _ _ rfl h420 rfl rfl) ?_
                              refine AOps.call (o_pickT _ _ _ rfl h417 rfl rfl) ?_
                              refine AOps.call (o_move _ rfl rfl) ?_
                              refine AOps.split rfl rfl rfl (fun h423 => ?_) (fun h423 => ?_)
                              · skip
                                refine AOps.go rfl rfl rfl h423 (o_move _ rfl rfl) ?_
                                refine AOps.go rfl rfl rfl h423 (o_bin _ _ rfl rfl (fun _ => rfl) rfl) ?_
                                refine AOps.call (o_pickT _ _ _ rfl h423 rfl rfl) ?_
                                refine AOps.call (o_move _ rfl rfl) ?_
                                refine AOps.split rfl rfl rfl (fun h425 => ?_) (fun h425 => ?_)
                                · skip
                                  refine AOps.go rfl rfl rfl h425 (o_move _ rfl rfl) ?_
                                  refine AOps.go rfl rfl rfl h425 (o_un _ rfl (fun _ => rfl) rfl) ?_
                                  refine AOps.call (o_pickT _ _ _ rfl h425 rfl rfl) ?_
                                  refine AOps.call (o_assign _ rfl rfl) ?_
                                  refine AOps.nil ?_
                                  refine AWP.ret ?_
                                  first
                                  | exact postQ.ret1 Tryd.results12 rfl rfl
                                  | (refine postQ.ret1 Tryd.results12 rfl ?_; simp [AV.close, AV.close.closeL, B, I]; done)
                                  | (refine postQ.ret1 Tryd.results12 rfl ?_; simp [AV.close, AV.close.closeL, B, I]; omega)
                                  | (refine postQ.ret1 Tryd.results12 rfl ?_; simp_all [AV.close, AV.close.closeL, B, I]; done)
                                  | (refine postQ.ret1 Tryd.results12 rfl ?_; simp_all [AV.close, AV.close.closeL, B, I]; omega)
                                · skip
                                  exfalso
                                  rw [q3] at h425
                                  exact absurd h425 (by decide)
                              · skip
                                exfalso
                                have hq := of_decide_eq_false h423
                                omega
                            · skip
                              refine AOps.pass rfl rfl rfl h420 rfl ?_
                              refine AOps.pass rfl rfl rfl h420 rfl ?_
                              refine AOps.go rfl rfl rfl h417 (o_pickT _ _ _ rfl h420 rfl rfl) ?_
                              refine AOps.call (o_pickT _ _ _ rfl h417 rfl rfl) ?_
                              refine AOps.call (o_move _ rfl rfl) ?_
                              refine AOps.go rfl rfl rfl rfl (o_move _ rfl rfl) ?_
                              refine AOps.go rfl rfl rfl rfl (o_bin _ _ rfl rfl (fun _ => rfl) rfl) ?_
                              refine AOps.call (o_pickT _ _ _ rfl rfl rfl rfl) ?_
                              refine AOps.call (o_move _ rfl rfl) ?_
                              refine AOps.split rfl rfl rfl (fun h428 => ?_) (fun h428 => ?_)
                              · skip
                                refine AOps.go rfl rfl rfl h428 (o_move _ rfl rfl) ?_
                                refine AOps.go rfl rfl rfl h428 (o_un _ rfl (fun _ => rfl) rfl) ?_
                                refine AOps.call (o_pickT _ _ _ rfl h428 rfl rfl) ?_
                                refine AOps.call (o_assign _ rfl rfl) ?_
                                refine AOps.nil ?_
                                refine AWP.ret ?_
                                first
                                | exact postQ.ret1 Tryd.results12 rfl rfl
                                | (refine postQ.ret1 Tryd.results12 rfl ?_; simp [AV.close, AV.close.closeL, B, I]; done)
                                | (refine postQ.ret1 Tryd.results12 rfl ?_; simp [AV.close, AV.close.closeL, B, I]; omega)
                                | (refine postQ.ret1 Tryd.results12 rfl ?_; simp_all [AV.close, AV.close.closeL, B, I]; done)
                                | (refine postQ.ret1 Tryd.results12 rfl ?_; simp_all [AV.close, AV.close.closeL, B, I]; omega)
                              · skip
                                exfalso
                                rw [q3] at h428
                                exact absurd h428 (by decide)
                          · skip
                            exfalso
                            rw [q5] at h417
                            exact absurd h417 (by decide)
                        · skip
                          have he : (enM p out).2.2 = 0 := by simpa using h415
                          refine AWP.skip ?_
                          refine AWP.seq ?_
                          refine AWP.seq ?_
                          refine AWP.region ?_
                          refine AOps.call (o_move _ rfl rfl) ?_
                          refine AOps.call (o_un _ rfl (fun _ => rfl) rfl) ?_
                          refine AOps.nil ?_
                          refine AWP.cond _ rfl (fun h431 => ?_) (fun h431 => ?_)
                          · skip
                            have hb : (enM p out).2.1 = false := by simpa using h431
                            obtain ⟨q3, q6⟩ := hen.2.1 he hb
                            have q7 : (yldM p 65536).2 = 0 := congrArg Prod.snd (yld_of a1 (by omega))
                            refine AWP.seq ?_
                            refine AWP.region ?_
                            refine AOps.call (o_loadRef _ rfl rfl Tryd.sizeOf24 Tryd.isAgg24 rfl rfl rfl) ?_
                            refine AOps.call (o_call (Yield_s p 65536) Tryd.call40 rfl rfl) ?_
                            refine AOps.call (o_move _ rfl rfl) ?_
                            refine AOps.call (o_extract _ rfl rfl rfl rfl) ?_
                            refine AOps.call (o_extract _ rfl rfl rfl rfl) ?_
                            refine AOps.call (o_assign _ rfl rfl) ?_
                            refine AOps.call (o_assign _ rfl rfl) ?_
                            refine AOps.nil ?_
                            refine AWP.seq ?_
                            refine AWP.region ?_
                            refine AOps.call (o_move _ rfl rfl) ?_
                            refine AOps.call (o_bin _ _ rfl rfl (fun _ => rfl) rfl) ?_
                            refine AOps.call (o_move _ rfl rfl) ?_
                            refine AOps.split rfl rfl rfl (fun h437 => ?_) (fun h437 => ?_)
                            · skip
                              refine AOps.go rfl rfl rfl h437 (o_move _ rfl rfl) ?_
                              refine AOps.go rfl rfl rfl h437 (o_move _ rfl rfl) ?_
                              refine AOps.go rfl rfl rfl h437 (o_bin _ _ rfl rfl (fun _ => rfl) rfl) ?_
                              refine AOps.call (o_pickT _ _ _ rfl h437 rfl rfl) ?_
                              refine AOps.call (o_move _ rfl rfl) ?_
                              refine AOps.split rfl rfl rfl (fun h440 => ?_) (fun h440 => ?_)
                              · skip
                                refine AOps.go rfl rfl rfl h440 (o_move _ rfl rfl) ?_
                                refine AOps.go rfl rfl rfl h440 (o_bin _ _ rfl rfl (fun _ => rfl) rfl) ?_
                                refine AOps.call (o_pickT _ _ _ rfl h440 rfl rfl) ?_
                                refine AOps.call (o_assign _ rfl rfl) ?_
                                refine AOps.nil ?_
                                refine AWP.ret ?_
                                first
                                | exact postQ.ret1 Tryd.results12 rfl rfl
                                | (refine postQ.ret1 Tryd.results12 rfl ?_; simp [AV.close, AV.close.closeL, B, I]; done)
                                | (refine postQ.ret1 Tryd.results12 rfl ?_; simp [AV.close, AV.close.closeL, B, I]; omega)
                                | (refine postQ.ret1 Tryd.results12 rfl ?_; simp_all [AV.close, AV.close.closeL, B, I]; done)
                                | (refine postQ.ret1 Tryd.results12 rfl ?_; simp_all [AV.close, AV.close.closeL, B, I]; omega)
                              · skip
                                exfalso
                                have hq := of_decide_eq_false h440
                                omega
                            · skip
                              exfalso
                              rw [q7] at h437
                              exact absurd h437 (by decide)
                          · skip
                            have hb : (enM p out).2.1 = true := by simpa using h431
                            obtain ⟨q3, q4, q5, q6⟩ := hen.2.2 he hb
                            have q7 : (yldM p (enM p out).1).2 = 0 := congrArg Prod.snd (yld_of a1 (by omega))
                            refine AWP.skip ?_
                            refine AWP.seq ?_
                            refine AWP.region ?_
                            refine AOps.call (o_loadRef _ rfl rfl Tryd.sizeOf24 Tryd.isAgg24 rfl rfl rfl) ?_
                            refine AOps.call (o_move _ rfl rfl) ?_
                            refine AOps.call (o_call (Yield_s p (enM p out).1) Tryd.call40 rfl rfl) ?_
                            refine AOps.call (o_move _ rfl rfl) ?_
                            refine AOps.call (o_extract _ rfl rfl rfl rfl) ?_
                            refine AOps.call (o_extract _ rfl rfl rfl rfl) ?_
                            refine AOps.call (o_assign _ rfl rfl) ?_
                            refine AOps.call (o_assign _ rfl rfl) ?_
                            refine AOps.nil ?_
                            refine AWP.seq ?_
                            refine AWP.seq ?_
                            refine AWP.region ?_
                            refine AOps.call (o_move _ rfl rfl) ?_
                            refine AOps.call (o_bin _ _ rfl rfl (fun _ => rfl) rfl) ?_
                            refine AOps.call (o_move _ rfl rfl) ?_
                            refine AOps.split rfl rfl rfl (fun h447 => ?_) (fun h447 => ?_)
                            · skip
                              refine AOps.go rfl rfl rfl h447 (o_move _ rfl rfl) ?_
                              refine AOps.go rfl rfl rfl h447 (o_move _ rfl rfl) ?_
                              refine AOps.go rfl rfl rfl h447 (o_bin _ _ rfl rfl (fun _ => rfl) rfl) ?_
                              refine AOps.call (o_pickF _ _ _ rfl h447 rfl rfl) ?_
                              refine AOps.nil ?_
                              refine AWP.cond _ rfl (fun h450 => ?_) (fun h450 => ?_)
                              · skip
                                exfalso
                                have hq := of_decide_eq_true h450
                                omega
                              · skip
                                refine AWP.skip ?_
                                refine AWP.seq ?_
                                refine AWP.seq ?_
                                refine AWP.region ?_
                                refine AOps.call (o_move _ rfl rfl) ?_
                                refine AOps.call (o_bin _ _ rfl rfl (fun _ => rfl) rfl) ?_
                                refine AOps.nil ?_
                                refine AWP.cond _ rfl (fun h452 => ?_) (fun h452 => ?_)
                                · skip
                                  refine AWP.seq ?_
                                  refine AWP.region ?_
                                  refine AOps.call (o_assign _ rfl rfl) ?_
                                  refine AOps.nil ?_
                                  refine AWP.ret ?_
                                  first
                                  | exact postQ.ret1 Tryd.results12 rfl rfl
                                  | (refine postQ.ret1 Tryd.results12 rfl ?_; simp [AV.close, AV.close.closeL, B, I]; done)
                                  | (refine postQ.ret1 Tryd.results12 rfl ?_; simp [AV.close, AV.close.closeL, B, I]; omega)
                                  | (refine postQ.ret1 Tryd.results12 rfl ?_; simp_all [AV.close, AV.close.closeL, B, I]; done)
                                  | (refine postQ.ret1 Tryd.results12 rfl ?_; simp_all [AV.close, AV.close.closeL, B, I]; omega)
                                · skip
                                  have hne : (enM p out).1 ≠ 0 := by simpa using h452
                                  have q8 := q6 hne
                                  have q9 : (yldM p ((enM p out).1 - 1)).2 = 0 := congrArg Prod.snd (yld_of a1 (by omega))
                                  refine AWP.skip ?_
                                  refine AWP.seq ?_
                                  refine AWP.region ?_
                                  refine AOps.call (o_loadRef _ rfl rfl Tryd.sizeOf24 Tryd.isAgg24 rfl rfl rfl) ?_
                                  refine AOps.call (o_move _ rfl rfl) ?_
                                  refine AOps.call (o_sub _ _ rfl rfl ⟨by (try dsimp only); omega, by (try dsimp only); omega⟩ rfl) ?_
                                  refine AOps.call (o_call (Yield_s p ((enM p out).1 - 1)) Tryd.call40 rfl rfl) ?_
                                  refine AOps.call (o_move _ rfl rfl) ?_
                                  refine AOps.call (o_extract _ rfl rfl rfl rfl) ?_
                                  refine AOps.call (o_extract _ rfl rfl rfl rfl) ?_
                                  refine AOps.call (o_assign _ rfl rfl) ?_
                                  refine AOps.call (o_assign _ rfl rfl) ?_
                                  refine AOps.nil ?_
                                  refine AWP.seq ?_
                                  refine AWP.region ?_
                                  refine AOps.call (o_move _ rfl rfl) ?_
                                  refine AOps.call (o_bin _ _ rfl rfl (fun _ => rfl) rfl) ?_
                                  refine AOps.call (o_move _ rfl rfl) ?_
                                  refine AOps.split rfl rfl rfl (fun h459 => ?_) (fun h459 => ?_)
                                  · skip
                                    refine AOps.go rfl rfl rfl h459 (o_move _ rfl rfl) ?_
                                    refine AOps.go rfl rfl rfl h459 (o_move _ rfl rfl) ?_
                                    refine AOps.go rfl rfl rfl h459 (o_bin _ _ rfl rfl (fun _ => rfl) rfl) ?_
                                    refine AOps.call (o_pickT _ _ _ rfl h459 rfl rfl) ?_
                                    refine AOps.call (o_assign _ rfl rfl) ?_
                                    refine AOps.nil ?_
                                    refine AWP.ret ?_
                                    first
                                    | exact postQ.ret1 Tryd.results12 rfl rfl
                                    | (refine postQ.ret1 Tryd.results12 rfl ?_; simp [AV.close, AV.close.closeL, B, I]; done)
                                    | (refine postQ.ret1 Tryd.results12 rfl ?_; simp [AV.close, AV.close.closeL, B, I]; omega)
                                    | (refine postQ.ret1 Tryd.results12 rfl ?_; simp_all [AV.close, AV.close.closeL, B, I]; done)
                                    | (refine postQ.ret1 Tryd.results12 rfl ?_; simp_all [AV.close, AV.close.closeL, B, I]; omega)
                                  · skip
                                    exfalso
                                    rw [q9] at h459
                                    exact absurd h459 (by decide)
                            · skip
                              exfalso
                              rw [q7] at h447
                              exact absurd h447 (by decide)
                    · skip
                      exfalso
                      have hq := of_decide_eq_true h347
                      have hm := yld_mono hok h2 (of_decide_eq_true g91)
                      omega
                  · skip
                    refine AOps.pass rfl rfl rfl h345 rfl ?_
                    refine AOps.pass rfl rfl rfl h345 rfl ?_
                    refine AOps.pass rfl rfl rfl h345 rfl ?_
                    refine AOps.go rfl rfl rfl h341 (o_pickF _ _ _ rfl h345 rfl rfl) ?_
                    refine AOps.go rfl rfl rfl h341 (o_move _ rfl rfl) ?_
                    refine AOps.go rfl rfl rfl rfl (o_move _ rfl rfl) ?_
                    refine AOps.go rfl rfl rfl rfl (o_move _ rfl rfl) ?_
                    refine AOps.go rfl rfl rfl rfl (o_bin _ _ rfl rfl (fun _ => rfl) rfl) ?_
                    refine AOps.go rfl rfl rfl rfl (o_move _ rfl rfl) ?_
                    refine AOps.split rfl rfl rfl (fun h465 => ?_) (fun h465 => ?_)
                    · skip
                      have g100 := h465
                      refine AOps.go rfl rfl rfl h465 (o_move _ rfl rfl) ?_
                      refine AOps.go rfl rfl rfl h465 (o_move _ rfl rfl) ?_
                      refine AOps.go rfl rfl rfl h465 (o_bin _ _ rfl rfl (fun _ => rfl) rfl) ?_
                      refine AOps.go rfl rfl rfl rfl (o_pickT _ _ _ rfl h465 rfl rfl) ?_
                      refine AOps.go rfl rfl rfl h341 (o_pickF _ _ _ rfl rfl rfl rfl) ?_
                      refine AOps.call (o_pickT _ _ _ rfl h341 rfl rfl) ?_
                      refine AOps.nil ?_
                      refine AWP.cond _ rfl (fun h467 => ?_) (fun h467 => ?_)
                      · skip
                        exfalso
                        have hq := of_decide_eq_true h467
                        have hm := yld_mono h2 hok (of_decide_eq_true g100)
                        omega
                      · skip
                        refine AWP.skip ?_
                        refine AWP.seq ?_
                        refine AWP.region ?_
                        refine AOps.call (o_loadRef _ rfl rfl Tryd.sizeOf24 Tryd.isAgg24 rfl rfl rfl) ?_
                        refine AOps.call (o_move _ rfl rfl) ?_
                        refine AOps.call (o_call (Enough_s p out) Tryd.call42 rfl rfl) ?_
                        refine AOps.call (o_move _ rfl rfl) ?_
                        refine AOps.call (o_extract _ rfl rfl rfl rfl) ?_
                        refine AOps.call (o_extract _ rfl rfl rfl rfl) ?_
                        refine AOps.call (o_extract _ rfl rfl rfl rfl) ?_
                        refine AOps.call (o_assign _ rfl rfl) ?_
                        refine AOps.call (o_assign _ rfl rfl) ?_
                        refine AOps.call (o_assign _ rfl rfl) ?_
                        refine AOps.nil ?_
                        refine AWP.seq ?_
                        refine AWP.seq ?_
                        refine AWP.region ?_
                        refine AOps.call (o_move _ rfl rfl) ?_
                        refine AOps.call (o_bin _ _ rfl rfl (fun _ => rfl) rfl) ?_
                        refine AOps.nil ?_
                        refine AWP.cond _ rfl (fun h475 => ?_) (fun h475 => ?_)
                        · skip
                          have he : ¬ (enM p out).2.2 = 0 := by simpa using h475
                          obtain ⟨q1, q2⟩ := hen.1 he
                          have q3 : (enM p out).1 = 0 := congrArg Prod.fst q1
                          have q4 : (enM p out).2.1 = false := congrArg (fun x => x.2.1) q1
                          have q5 : (enM p out).2.2 = 1 := congrArg (fun x => x.2.2) q1
                          refine AWP.seq ?_
                          refine AWP.region ?_
                          refine AOps.call (o_move _ rfl rfl) ?_
                          refine AOps.call (o_bin _ _ rfl rfl (fun _ => rfl) rfl) ?_
                          refine AOps.call (o_move _ rfl rfl) ?_
                          refine AOps.split rfl rfl rfl (fun h477 => ?_) (fun h477 => ?_)
                          · skip
                            refine AOps.go rfl rfl rfl h477 (o_move _ rfl rfl) ?_
                            refine AOps.go rfl rfl rfl h477 (o_bin _ _ rfl rfl (fun _ => rfl) rfl) ?_
                            refine AOps.go rfl rfl rfl h477 (o_move _ rfl rfl) ?_
                            refine AOps.split rfl rfl rfl (fun h480 => ?_) (fun h480 => ?_)
                            · skip
                              have g121 := of_decide_eq_false h480
                              refine AOps.go rfl rfl rfl h480 (o_move _ rfl rfl) ?_
                              refine AOps.go rfl rfl rfl h480 (o_bin _ _ rfl rfl (fun _ => rfl) rfl) ?_
                              refine AOps.go rfl rfl rfl h477 (o_pickF _ _ _ rfl h480 rfl rfl) ?_
                              refine AOps.call (o_pickT _ _ _ rfl h477 rfl rfl) ?_
                              refine AOps.call (o_move _ rfl rfl) ?_
                              refine AOps.split rfl rfl rfl (fun h483 => ?_) (fun h483 => ?_)
                              · skip
                                refine AOps.go rfl rfl rfl h483 (o_move _ rfl rfl) ?_
                                refine AOps.go rfl rfl rfl h483 (o_bin _ _ rfl rfl (fun _ => rfl) rfl) ?_
                                refine AOps.call (o_pickT _ _ _ rfl h483 rfl rfl) ?_
                                refine AOps.call (o_move _ rfl rfl) ?_
                                refine AOps.split rfl rfl rfl (fun h485 => ?_) (fun h485 => ?_)
                                · skip
                                  refine AOps.go rfl rfl rfl h485 (o_move _ rfl rfl) ?_
                                  refine AOps.go rfl rfl rfl h485 (o_un _ rfl (fun _ => rfl) rfl) ?_
                                  refine AOps.call (o_pickT _ _ _ rfl h485 rfl rfl) ?_
                                  refine AOps.call (o_assign _ rfl rfl) ?_
                                  refine AOps.nil ?_
                                  refine AWP.ret ?_
                                  first
                                  | exact postQ.ret1 Tryd.results12 rfl rfl
                                  | (refine postQ.ret1 Tryd.results12 rfl ?_; simp [AV.close, AV.close.closeL, B, I]; done)
                                  | (refine postQ.ret1 Tryd.results12 rfl ?_; simp [AV.close, AV.close.closeL, B, I]; omega)
                                  | (refine postQ.ret1 Tryd.results12 rfl ?_; simp_all [AV.close, AV.close.closeL, B, I]; done)
                                  | (refine postQ.ret1 Tryd.results12 rfl ?_; simp_all [AV.close, AV.close.closeL, B, I]; omega)
                                · skip
                                  exfalso
                                  rw [q3] at h485
                                  exact absurd h485 (by decide)
                              · skip
                                exfalso
                                have hq := of_decide_eq_false h483
                                omega
                            · skip
                              refine AOps.pass rfl rfl rfl h480 rfl ?_
                              refine AOps.pass rfl rfl rfl h480 rfl ?_
                              refine AOps.go rfl rfl rfl h477 (o_pickT _ _ _ rfl h480 rfl rfl) ?_
                              refine AOps.call (o_pickT _ _ _ rfl h477 rfl rfl) ?_
                              refine AOps.call (o_move _ rfl rfl) ?_
                              refine AOps.go rfl rfl rfl rfl (o_move _ rfl rfl) ?_
                              refine AOps.go rfl rfl rfl rfl (o_bin _ _ rfl rfl (fun _ => rfl) rfl) ?_
                              refine AOps.call (o_pickT _ _ _ rfl rfl rfl rfl) ?_
                              refine AOps.call (o_move _ rfl rfl) ?_
                              refine AOps.split rfl rfl rfl (fun h488 => ?_) (fun h488 => ?_)
                              · skip
                                refine AOps.go rfl rfl rfl h488 (o_move _ rfl rfl) ?_
                                refine AOps.go rfl rfl rfl h488 (o_un _ rfl (fun _ => rfl) rfl) ?_
                                refine AOps.call (o_pickT _ _ _ rfl h488 rfl rfl) ?_
                                refine AOps.call (o_assign _ rfl rfl) ?_
                                refine AOps.nil ?_
                                refine AWP.ret ?_
                                first
                                | exact postQ.ret1 Tryd.results12 rfl rfl
                                | (refine postQ.ret1 Tryd.results12 rfl ?_; simp [AV.close, AV.close.closeL, B, I]; done)
                                | (refine postQ.ret1 Tryd.results12 rfl ?_; simp [AV.close, AV.close.closeL, B, I]; omega)
                                | (refine postQ.ret1 Tryd.results12 rfl ?_; simp_all [AV.close, AV.close.closeL, B, I]; done)
                                | (refine postQ.ret1 Tryd.results12 rfl ?_; simp_all [AV.close, AV.close.closeL, B, I]; omega)
                              · skip
                                exfalso
                                rw [q3] at h488
                                exact absurd h488 (by decide)
                          · skip
                            exfalso
                            rw [q5] at h477
                            exact absurd h477 (by decide)
                        · skip
                          have he : (enM p out).2.2 = 0 := by simpa using h475
                          refine AWP.skip ?_
                          refine AWP.seq ?_
                          refine AWP.seq ?_
                          refine AWP.region ?_
                          refine AOps.call (o_move _ rfl rfl) ?_
                          refine AOps.call (o_un _ rfl (fun _ => rfl) rfl) ?_
                          refine AOps.nil ?_
                          refine AWP.cond _ rfl (fun h491 => ?_) (fun h491 => ?_)
                          · skip
                            have hb : (enM p out).2.1 = false := by simpa using h491
                            obtain ⟨q3, q6⟩ := hen.2.1 he hb
                            have q7 : (yldM p 65536).2 = 0 := congrArg Prod.snd (yld_of a1 (by omega))
                            refine AWP.seq ?_
                            refine AWP.region ?_
                            refine AOps.call (o_loadRef _ rfl rfl Tryd.sizeOf24 Tryd.isAgg24 rfl rfl rfl) ?_
                            refine AOps.call (o_call (Yield_s p 65536) Tryd.call40 rfl rfl) ?_
                            refine AOps.call (o_move _ rfl rfl) ?_
                            refine AOps.call (o_extract _ rfl rfl rfl rfl) ?_
                            refine AOps.call (o_extract _ rfl rfl rfl rfl) ?_
                            refine AOps.call (o_assign _ rfl rfl) ?_
                            refine AOps.call (o_assign _ rfl rfl) ?_
                            refine AOps.nil ?_
                            refine AWP.seq ?_
                            refine AWP.region ?_
                            refine AOps.call (o_move _ rfl rfl) ?_
                            refine AOps.call (o_bin _ _ rfl rfl (fun _ => rfl) rfl) ?_
                            refine AOps.call (o_move _ rfl rfl) ?_
                            refine AOps.split rfl rfl rfl (fun h497 => ?_) (fun h497 => ?_)
                            · skip
                              refine AOps.go rfl rfl rfl h497 (o_move _ rfl rfl) ?_
                              refine AOps.go rfl rfl rfl h497 (o_move _ rfl rfl) ?_
                              refine AOps.go rfl rfl rfl h497 (o_bin _ _ rfl rfl (fun _ => rfl) rfl) ?_
                              refine AOps.call (o_pickT _ _ _ rfl h497 rfl rfl) ?_
                              refine AOps.call (o_move _ rfl rfl) ?_
                              refine AOps.split rfl rfl rfl (fun h500 => ?_) (fun h500 => ?_)
                              · skip
                                refine AOps.go rfl rfl rfl h500 (o_move _ rfl rfl) ?_
                                refine AOps.go rfl rfl rfl h500 (o_bin _ _ rfl rfl (fun _ => rfl) rfl) ?_
                                refine AOps.call (o_pickT _ _ _ rfl h500 rfl rfl) ?_
                                refine AOps.call (o_assign _ rfl rfl) ?_
                                refine AOps.nil ?_
                                refine AWP.ret ?_
                                first
                                | exact postQ.ret1 Tryd.results12 rfl rfl
                                | (refine postQ.ret1 Tryd.results12 rfl ?_; simp [AV.close, AV.close.closeL, B, I]; done)
                                | (refine postQ.ret1 Tryd.results12 rfl ?_; simp [AV.close, AV.close.closeL, B, I]; omega)
                                | (refine postQ.ret1 Tryd.results12 rfl ?_; simp_all [AV.close, AV.close.closeL, B, I]; done)
                                | (refine postQ.ret1 Tryd.results12 rfl ?_; simp_all [AV.close, AV.close.closeL, B, I]; omega)
                              · skip
                                exfalso
                                have hq := of_decide_eq_false h500
                                omega
                            · skip
                              exfalso
                              rw [q7] at h497
                              exact absurd h497 (by decide)
                          · skip
                            have hb : (enM p out).2.1 = true := by simpa using h491
                            obtain ⟨q3, q4, q5, q6⟩ := hen.2.2 he hb
                            have q7 : (yldM p (enM p out).1).2 = 0 := congrArg Prod.snd (yld_of a1 (by omega))
                            refine AWP.skip ?_
                            refine AWP.seq ?_
                            refine AWP.region ?_
                            refine AOps.call (o_loadRef _ rfl rfl Tryd.sizeOf24 Tryd.isAgg24 rfl rfl rfl) ?_
                            refine AOps.call (o_move _ rfl rfl) ?_
                            refine AOps.call (o_call (Yield_s p (enM p out).1) Tryd.call40 rfl rfl) ?_
                            refine AOps.call (o_move _ rfl rfl) ?_
                            refine AOps.call (o_extract _ rfl rfl rfl rfl) ?_
                            refine AOps.call (o_extract _ rfl rfl rfl rfl) ?_
                            refine AOps.call (o_assign _ rfl rfl) ?_
                            refine AOps.call (o_assign _ rfl rfl) ?_
                            refine AOps.nil ?_
                            refine AWP.seq ?_
                            refine AWP.seq ?_
                            refine AWP.region ?_
                            refine AOps.call (o_move _ rfl rfl) ?_
                            refine AOps.call (o_bin _ _ rfl rfl (fun _ => rfl) rfl) ?_
                            refine AOps.call (o_move _ rfl rfl) ?_
                            refine AOps.split rfl rfl rfl (fun h507 => ?_) (fun h507 => ?_)
                            · skip
                              refine AOps.go rfl rfl rfl h507 (o_move _ rfl rfl) ?_
                              refine AOps.go rfl rfl rfl h507 (o_move _ rfl rfl) ?_
                              refine AOps.go rfl rfl rfl h507 (o_bin _ _ rfl rfl (fun _ => rfl) rfl) ?_
                              refine AOps.call (o_pickF _ _ _ rfl h507 rfl rfl) ?_
                              refine AOps.nil ?_
                              refine AWP.cond _ rfl (fun h510 => ?_) (fun h510 => ?_)
                              · skip
                                exfalso
                                have hq := of_decide_eq_true h510
                                omega
                              · skip
                                refine AWP.skip ?_
                                refine AWP.seq ?_
                                refine AWP.seq ?_
                                refine AWP.region ?_
                                refine AOps.call (o_move _ rfl rfl) ?_
                                refine AOps.call (o_bin _ _ rfl rfl (fun _ => rfl) rfl) ?_
                                refine AOps.nil ?_
                                refine AWP.cond _ rfl (fun h512 => ?_) (fun h512 => ?_)
                                · skip
                                  refine AWP.seq ?_
                                  refine AWP.region ?_
                                  refine AOps.call (o_assign _ rfl rfl) ?_
                                  refine AOps.nil ?_
                                  refine AWP.ret ?_
                                  first
                                  | exact postQ.ret1 Tryd.results12 rfl rfl
                                  | (refine postQ.ret1 Tryd.results12 rfl ?_; simp [AV.close, AV.close.closeL, B, I]; done)
                                  | (refine postQ.ret1 Tryd.results12 rfl ?_; simp [AV.close, AV.close.closeL, B, I]; omega)
                                  | (refine postQ.ret1 Tryd.results12 rfl ?_; simp_all [AV.close, AV.close.closeL, B, I]; done)
                                  | (refine postQ.ret1 Tryd.results12 rfl ?_; simp_all [AV.close, AV.close.closeL, B, I]; omega)
                                · skip
                                  have hne : (enM p out).1 ≠ 0 := by simpa using h512
                                  have q8 := q6 hne
                                  have q9 : (yldM p ((enM p out).1 - 1)).2 = 0 := congrArg Prod.snd (yld_of a1 (by omega))
                                  refine AWP.skip ?_
                                  refine AWP.seq ?_
                                  refine AWP.region ?_
                                  refine AOps.call (o_loadRef _ rfl rfl Tryd.sizeOf24 Tryd.isAgg24 rfl rfl rfl) ?_
                                  refine AOps.call (o_move _ rfl rfl) ?_
                                  refine AOps.call (o_sub _ _ rfl rfl ⟨by (try dsimp only); omega, by (try dsimp only); omega⟩ rfl) ?_
                                  refine AOps.call (o_call (Yield_s p ((enM p out).1 - 1)) Tryd.call40 rfl rfl) ?_
                                  refine AOps.call (o_move _ rfl rfl) ?_
                                  refine AOps.call (o_extract _ rfl rfl rfl rfl) ?_
                                  refine AOps.call (o_extract _ rfl rfl rfl rfl) ?_
                                  refine AOps.call (o_assign _ rfl rfl) ?_
                                  refine AOps.call (o_assign _ rfl rfl) ?_
                                  refine AOps.nil ?_
                                  refine AWP.seq ?_
                                  refine AWP.region ?_
                                  refine AOps.call (o_move _ rfl rfl) ?_
                                  refine AOps.call (o_bin _ _ rfl rfl (fun _ => rfl) rfl) ?_
                                  refine AOps.call (o_move _ rfl rfl) ?_
                                  refine AOps.split rfl rfl rfl (fun h519 => ?_) (fun h519 => ?_)
                                  · skip
                                    refine AOps.go rfl rfl rfl h519 (o_move _ rfl rfl) ?_
                                    refine AOps.go rfl rfl rfl h519 (o_move _ rfl rfl) ?_
                                    refine AOps.go rfl rfl rfl h519 (o_bin _ _ rfl rfl (fun _ => rfl) rfl) ?_
                                    refine AOps.call (o_pickT _ _ _ rfl h519 rfl rfl) ?_
                                    refine AOps.call (o_assign _ rfl rfl) ?_
                                    refine AOps.nil ?_
                                    refine AWP.ret ?_
                                    first
                                    | exact postQ.ret1 Tryd.results12 rfl rfl
                                    | (refine postQ.ret1 Tryd.results12 rfl ?_; simp [AV.close, AV.close.closeL, B, I]; done)
                                    | (refine postQ.ret1 Tryd.results12 rfl ?_; simp [AV.close, AV.close.closeL, B, I]; omega)
                                    | (refine postQ.ret1 Tryd.results12 rfl ?_; simp_all [AV.close, AV.close.closeL, B, I]; done)
                                    | (refine postQ.ret1 Tryd.results12 rfl ?_; simp_all [AV.close, AV.close.closeL, B, I]; omega)
                                  · skip
                                    exfalso
                                    rw [q9] at h519
                                    exact absurd h519 (by decide)
                            · skip
                              exfalso
                              rw [q7] at h507
                              exact absurd h507 (by decide)
                    · skip
                      refine AOps.pass rfl rfl rfl h465 rfl ?_
                      refine AOps.pass rfl rfl rfl h465 rfl ?_
                      refine AOps.pass rfl rfl rfl h465 rfl ?_
                      refine AOps.go rfl rfl rfl rfl (o_pickF _ _ _ rfl h465 rfl rfl) ?_
                      refine AOps.go rfl rfl rfl h341 (o_pickF _ _ _ rfl rfl rfl rfl) ?_
                      refine AOps.call (o_pickT _ _ _ rfl h341 rfl rfl) ?_
                      refine AOps.nil ?_
                      refine AWP.condF rfl ?_
                      refine AWP.skip ?_
                      refine AWP.seq ?_
                      refine AWP.region ?_
                      refine AOps.call (o_loadRef _ rfl rfl Tryd.sizeOf24 Tryd.isAgg24 rfl rfl rfl) ?_
                      refine AOps.call (o_move _ rfl rfl) ?_
                      refine AOps.call (o_call (Enough_s p out) Tryd.call42 rfl rfl) ?_
                      refine AOps.call (o_move _ rfl rfl) ?_
                      refine AOps.call (o_extract _ rfl rfl rfl rfl) ?_
                      refine AOps.call (o_extract _ rfl rfl rfl rfl) ?_
                      refine AOps.call (o_extract _ rfl rfl rfl rfl) ?_
                      refine AOps.call (o_assign _ rfl rfl) ?_
                      refine AOps.call (o_assign _ rfl rfl) ?_
                      refine AOps.call (o_assign _ rfl rfl) ?_
                      refine AOps.nil ?_
                      refine AWP.seq ?_
                      refine AWP.seq ?_
                      refine AWP.region ?_
                      refine AOps.call (o_move _ rfl rfl) ?_
                      refine AOps.call (o_bin _ _ rfl rfl (fun _ => rfl) rfl) ?_
                      refine AOps.nil ?_
                      refine AWP.cond _ rfl (fun h529 => ?_) (fun h529 => ?_)
                      · skip
                        have he : ¬ (enM p out).2.2 = 0 := by simpa using h529
                        obtain ⟨q1, q2⟩ := hen.1 he
                        have q3 : (enM p out).1 = 0 := congrArg Prod.fst q1
                        have q4 : (enM p out).2.1 = false := congrArg (fun x => x.2.1) q1
                        have q5 : (enM p out).2.2 = 1 := congrArg (fun x => x.2.2) q1
                        refine AWP.seq ?_
                        refine AWP.region ?_
                        refine AOps.call (o_move _ rfl rfl) ?_
                        refine AOps.call (o_bin _ _ rfl rfl (fun _ => rfl) rfl) ?_
                        refine AOps.call (o_move _ rfl rfl) ?_
                        refine AOps.split rfl rfl rfl (fun h531 => ?_) (fun h531 => ?_)
                        · skip
                          refine AOps.go rfl rfl rfl h531 (o_move _ rfl rfl) ?_
                          refine AOps.go rfl rfl rfl h531 (o_bin _ _ rfl rfl (fun _ => rfl) rfl) ?_
                          refine AOps.go rfl rfl rfl h531 (o_move _ rfl rfl) ?_
                          refine AOps.split rfl rfl rfl (fun h534 => ?_) (fun h534 => ?_)
                          · skip
                            have g121 := of_decide_eq_false h534
                            refine AOps.go rfl rfl rfl h534 (o_move _ rfl rfl) ?_
                            refine AOps.go rfl rfl rfl h534 (o_bin _ _ rfl rfl (fun _ => rfl) rfl) ?_
                            refine AOps.go rfl rfl rfl h531 (o_pickF _ _ _ rfl h534 rfl rfl) ?_
                            refine AOps.call (o_pickT _ _ _ rfl h531 rfl rfl) ?_
                            refine AOps.call (o_move _ rfl rfl) ?_
                            refine AOps.split rfl rfl rfl (fun h537 => ?_) (fun h537 => ?_)
                            · skip
                              refine AOps.go rfl rfl rfl h537 (o_move _ rfl rfl) ?_
                              refine AOps.go rfl rfl rfl h537 (o_bin _ _ rfl rfl (fun _ => rfl) rfl) ?_
                              refine AOps.call (o_pickT _ _ _ rfl h537 rfl rfl) ?_
                              refine AOps.call (o_move _ rfl rfl) ?_
                              refine AOps.split rfl rfl rfl (fun h539 => ?_) (fun h539 => ?_)
                              · skip
                                refine AOps.go rfl rfl rfl h539 (o_move _ rfl rfl) ?_
                                refine AOps.go rfl rfl rfl h539 (o_un _ rfl (fun _ => rfl) rfl) ?_
                                refine AOps.call (o_pickT _ _ _ rfl h539 rfl rfl) ?_
                                refine AOps.call (o_assign _ rfl rfl) ?_
                                refine AOps.nil ?_
                                refine AWP.ret ?_
                                first
                                | exact postQ.ret1 Tryd.results12 rfl rfl
                                | (refine postQ.ret1 Tryd.results12 rfl ?_; simp [AV.close, AV.close.closeL, B, I]; done)
                                | (refine postQ.ret1 Tryd.results12 rfl ?_; simp [AV.close, AV.close.closeL, B, I]; omega)
                                | (refine postQ.ret1 Tryd.results12 rfl ?_; simp_all [AV.close, AV.close.closeL, B, I]; done)
                                | (refine postQ.ret1 Tryd.results12 rfl ?_; simp_all [AV.close, AV.close.closeL, B, I]; omega)
                              · skip
                                exfalso
                                rw [q3] at h539
                                exact absurd h539 (by decide)
                            · skip
                              exfalso
                              have hq := of_decide_eq_false h537
                              omega
                          · skip
                            refine AOps.pass rfl rfl rfl h534 rfl ?_
                            refine AOps.pass rfl rfl rfl h534 rfl ?_
                            refine AOps.go rfl rfl rfl h531 (o_pickT _ _ _ rfl h534 rfl rfl) ?_
                            refine AOps.call (o_pickT _ _ _ rfl h531 rfl rfl) ?_
                            refine AOps.call (o_move _ rfl rfl) ?_
                            refine AOps.go rfl rfl rfl rfl (o_move _ rfl rfl) ?_
                            refine AOps.go rfl rfl rfl rfl (o_bin _ _ rfl rfl (fun _ => rfl) rfl) ?_
                            refine AOps.call (o_pickT _ _ _ rfl rfl rfl rfl) ?_
                            refine AOps.call (o_move _ rfl rfl) ?_
                            refine AOps.split rfl rfl rfl (fun h542 => ?_) (fun h542 => ?_)
                            · skip
                              refine AOps.go rfl rfl rfl h542 (o_move _ rfl rfl) ?_
                              refine AOps.go rfl rfl rfl h542 (o_un _ rfl (fun _ => rfl) rfl) ?_
                              refine AOps.call (o_pickT _ _ _ rfl h542 rfl rfl) ?_
                              refine AOps.call (o_assign _ rfl rfl) ?_
                              refine AOps.nil ?_
                              refine AWP.ret ?_
                              first
                              | exact postQ.ret1 Tryd.results12 rfl rfl
                              | (refine postQ.ret1 Tryd.results12 rfl ?_; simp [AV.close, AV.close.closeL, B, I]; done)
                              | (refine postQ.ret1 Tryd.results12 rfl ?_; simp [AV.close, AV.close.closeL, B, I]; omega)
                              | (refine postQ.ret1 Tryd.results12 rfl ?_; simp_all [AV.close, AV.close.closeL, B, I]; done)
                              | (refine postQ.ret1 Tryd.results12 rfl ?_; simp_all [AV.close, AV.close.closeL, B, I]; omega)
                            · skip
                              exfalso
                              rw [q3] at h542
                              exact absurd h542 (by decide)
                        · skip
                          exfalso
                          rw [q5] at h531
                          exact absurd h531 (by decide)
                      · skip
                        have he : (enM p out).2.2 = 0 := by simpa using h529
                        refine AWP.skip ?_
                        refine AWP.seq ?_
                        refine AWP.seq ?_
                        refine AWP.region ?_
                        refine AOps.call (o_move _ rfl rfl) ?_
                        refine AOps.call (o_un _ rfl (fun _ => rfl) rfl) ?_
                        refine AOps.nil ?_
                        refine AWP.cond _ rfl (fun h545 => ?_) (fun h545 => ?_)
                        · skip
                          have hb : (enM p out).2.1 = false := by simpa using h545
                          obtain ⟨q3, q6⟩ := hen.2.1 he hb
                          have q7 : (yldM p 65536).2 = 0 := congrArg Prod.snd (yld_of a1 (by omega))
                          refine AWP.seq ?_
                          refine AWP.region ?_
                          refine AOps.call (o_loadRef _ rfl rfl Tryd.sizeOf24 Tryd.isAgg24 rfl rfl rfl) ?_
                          refine AOps.call (o_call (Yield_s p 65536) Tryd.call40 rfl rfl) ?_
                          refine AOps.call (o_move _ rfl rfl) ?_
                          refine AOps.call (o_extract _ rfl rfl rfl rfl) ?_
                          refine AOps.call (o_extract _ rfl rfl rfl rfl) ?_
                          refine AOps.call (o_assign _ rfl rfl) ?_
                          refine AOps.call (o_assign _ rfl rfl) ?_
                          refine AOps.nil ?_
                          refine AWP.seq ?_
                          refine AWP.region ?_
                          refine AOps.call (o_move _ rfl rfl) ?_
                          refine AOps.call (o_bin _ _ rfl rfl (fun _ => rfl) rfl) ?_
                          refine AOps.call (o_move _ rfl rfl) ?_
                          refine AOps.split rfl rfl rfl (fun h551 => ?_) (fun h551 => ?_)
                          · skip
                            refine AOps.go rfl rfl rfl h551 (o_move _ rfl rfl) ?_
                            refine AOps.go rfl rfl rfl h551 (o_move _ rfl rfl) ?_
                            refine AOps.go rfl rfl rfl h551 (o_bin _ _ rfl rfl (fun _ => rfl) rfl) ?_
                            refine AOps.call (o_pickT _ _ _ rfl h551 rfl rfl) ?_
                            refine AOps.call (o_move _ rfl rfl) ?_
                            refine AOps.split rfl rfl rfl (fun h554 => ?_) (fun h554 => ?_)
                            · skip
                              refine AOps.go rfl rfl rfl h554 (o_move _ rfl rfl) ?_
                              refine AOps.go rfl rfl rfl h554 (o_bin _ _ rfl rfl (fun _ => rfl) rfl) ?_
                              refine AOps.call (o_pickT _ _ _ rfl h554 rfl rfl) ?_
                              refine AOps.call (o_assign _ rfl rfl) ?_
                              refine AOps.nil ?_
                              refine AWP.ret ?_
                              first
                              | exact postQ.ret1 Tryd.results12 rfl rfl
                              | (refine postQ.ret1 Tryd.results12 rfl ?_; simp [AV.close, AV.close.closeL, B, I]; done)
                              | (refine postQ.ret1 Tryd.results12 rfl ?_; simp [AV.close, AV.close.closeL, B, I]; omega)
                              | (refine postQ.ret1 Tryd.results12 rfl ?_; simp_all [AV.close, AV.close.closeL, B, I]; done)
                              | (refine postQ.ret1 Tryd.results12 rfl ?_; simp_all [AV.close, AV.close.closeL, B, I]; omega)
                            · skip
                              exfalso
                              have hq := of_decide_eq_false h554
                              omega
                          · skip
                            exfalso
                            rw [q7] at h551
                            exact absurd h551 (by decide)
                        · skip
                          have hb : (enM p out).2.1 = true := by simpa using h545
                          obtain ⟨q3, q4, q5, q6⟩ := hen.2.2 he hb
                          have q7 : (yldM p (enM p out).1).2 = 0 := congrArg Prod.snd (yld_of a1 (by omega))
                          refine AWP.skip ?_
                          refine AWP.seq ?_
                          refine AWP.region ?_
                          refine AOps.call (o_loadRef _ rfl rfl Tryd.sizeOf24 Tryd.isAgg24 rfl rfl rfl) ?_
                          refine AOps.call (o_move _ rfl rfl) ?_
                          refine AOps.call (o_call (Yield_s p (enM p out).1) Tryd.call40 rfl rfl) ?_
                          refine AOps.call (o_move _ rfl rfl) ?_
                          refine AOps.call (o_extract _ rfl rfl rfl rfl) ?_
                          refine AOps.call (o_extract _ rfl rfl rfl rfl) ?_
                          refine AOps.call (o_assign _ rfl rfl) ?_
                          refine AOps.call (o_assign _ rfl rfl) ?_
                          refine AOps.nil ?_
                          refine AWP.seq ?_
                          refine AWP.seq ?_
                          refine AWP.region ?_
                          refine AOps.call (o_move _ rfl rfl) ?_
                          refine AOps.call (o_bin _ _ rfl rfl (fun _ => rfl) rfl) ?_
                          refine AOps.call (o_move _ rfl rfl) ?_
                          refine AOps.split rfl rfl rfl (fun h561 => ?_) (fun h561 => ?_)
                          · skip
                            refine AOps.go rfl rfl rfl h561 (o_move _ rfl rfl) ?_
                            refine AOps.go rfl rfl rfl h561 (o_move _ rfl rfl) ?_
                            refine AOps.go rfl rfl rfl h561 (o_bin _ _ rfl rfl (fun _ => rfl) rfl) ?_
                            refine AOps.call (o_pickF _ _ _ rfl h561 rfl rfl) ?_
                            refine AOps.nil ?_
                            refine AWP.cond _ rfl (fun h564 => ?_) (fun h564 => ?_)
                            · skip
                              exfalso
                              have hq := of_decide_eq_true h564
                              omega
                            · skip
                              refine AWP.skip ?_
                              refine AWP.seq ?_
                              refine AWP.seq ?_
                              refine AWP.region ?_
                              refine AOps.call (o_move _ rfl rfl) ?_
                              refine AOps.call (o_bin _ _ rfl rfl (fun _ => rfl) rfl) ?_
                              refine AOps.nil ?_
                              refine AWP.cond _ rfl (fun h566 => ?_) (fun h566 => ?_)
                              · skip
                                refine AWP.seq ?_
                                refine AWP.region ?_
                                refine AOps.call (o_assign _ rfl rfl) ?_
                                refine AOps.nil ?_
                                refine AWP.ret ?_
                                first
                                | exact postQ.ret1 Tryd.results12 rfl rfl
                                | (refine postQ.ret1 Tryd.results12 rfl ?_; simp [AV.close, AV.close.closeL, B, I]; done)
                                | (refine postQ.ret1 Tryd.results12 rfl ?_; simp [AV.close, AV.close.closeL, B, I]; omega)
                                | (refine postQ.ret1 Tryd.results12 rfl ?_; simp_all [AV.close, AV.close.closeL, B, I]; done)
                                | (refine postQ.ret1 Tryd.results12 rfl ?_; simp_all [AV.close, AV.close.closeL, B, I]; omega)
                              · skip
                                have hne : (enM p out).1 ≠ 0 := by simpa using h566
                                have q8 := q6 hne
                                have q9 : (yldM p ((enM p out).1 - 1)).2 = 0 := congrArg Prod.snd (yld_of a1 (by omega))
                                refine AWP.skip ?_
                                refine AWP.seq ?_
                                refine AWP.region ?_
                                refine AOps.call (o_loadRef _ rfl rfl Tryd.sizeOf24 Tryd.isAgg24 rfl rfl rfl) ?_
                                refine AOps.call (o_move _ rfl rfl) ?_
                                refine AOps.call (o_sub _ _ rfl rfl ⟨by (try dsimp only); omega, by (try dsimp only); omega⟩ rfl) ?_
                                refine AOps.call (o_call (Yield_s p ((enM p out).1 - 1)) Tryd.call40 rfl rfl) ?_
                                refine AOps.call (o_move _ rfl rfl) ?_
                                refine AOps.call (o_extract _ rfl rfl rfl rfl) ?_
                                refine AOps.call (o_extract _ rfl rfl rfl rfl) ?_
                                refine AOps.call (o_assign _ rfl rfl) ?_
                                refine AOps.call (o_assign _ rfl rfl) ?_
                                refine AOps.nil ?_
                                refine AWP.seq ?_
                                refine AWP.region ?_
                                refine AOps.call (o_move _ rfl rfl) ?_
                                refine AOps.call (o_bin _ _ rfl rfl (fun _ => rfl) rfl) ?_
                                refine AOps.call (o_move _ rfl rfl) ?_
                                refine AOps.split rfl rfl rfl (fun h573 => ?_) (fun h573 => ?_)
                                · skip
                                  refine AOps.go rfl rfl rfl h573 (o_move _ rfl rfl) ?_
                                  refine AOps.go rfl rfl rfl h573 (o_move _ rfl rfl) ?_
                                  refine AOps.go rfl rfl rfl h573 (o_bin _ _ rfl rfl (fun _ => rfl) rfl) ?_
                                  refine AOps.call (o_pickT _ _ _ rfl h573 rfl rfl) ?_
                                  refine AOps.call (o_assign _ rfl rfl) ?_
                                  refine AOps.nil ?_
                                  refine AWP.ret ?_
                                  first
                                  | exact postQ.ret1 Tryd.results12 rfl rfl
                                  | (refine postQ.ret1 Tryd.results12 rfl ?_; simp [AV.close, AV.close.closeL, B, I]; done)
                                  | (refine postQ.ret1 Tryd.results12 rfl ?_; simp [AV.close, AV.close.closeL, B, I]; omega)
                                  | (refine postQ.ret1 Tryd.results12 rfl ?_; simp_all [AV.close, AV.close.closeL, B, I]; done)
                                  | (refine postQ.ret1 Tryd.results12 rfl ?_; simp_all [AV.close, AV.close.closeL, B, I]; omega)
                                · skip
                                  exfalso
                                  rw [q9] at h573
                                  exact absurd h573 (by decide)
                          · skip
                            exfalso
                            rw [q7] at h561
                            exact absurd h561 (by decide)
                · skip
                  refine AOps.pass rfl rfl rfl h341 rfl ?_
                  refine AOps.pass rfl rfl rfl h341 rfl ?_
                  refine AOps.pass rfl rfl rfl h341 rfl ?_
                  refine AOps.pass rfl rfl rfl h341 rfl ?_
                  refine AOps.passU rfl rfl rfl rfl ?_
                  refine AOps.passU rfl rfl rfl rfl ?_
                  refine AOps.passU rfl rfl rfl rfl ?_
                  refine AOps.pass rfl rfl rfl h341 rfl ?_
                  refine AOps.pass rfl rfl rfl h341 rfl ?_
                  refine AOps.passU rfl rfl rfl rfl ?_
                  refine AOps.passU rfl rfl rfl rfl ?_
                  refine AOps.passU rfl rfl rfl rfl ?_
                  refine AOps.passU rfl rfl rfl rfl ?_
                  refine AOps.passU rfl rfl rfl rfl ?_
                  refine AOps.passU rfl rfl rfl rfl ?_
                  refine AOps.passU rfl rfl rfl rfl ?_
                  refine AOps.passU rfl rfl rfl rfl ?_
                  refine AOps.pass rfl rfl rfl h341 rfl ?_
                  refine AOps.call (o_pickF _ _ _ rfl h341 rfl rfl) ?_
                  refine AOps.nil ?_
                  refine AWP.condF rfl ?_
                  refine AWP.skip ?_
                  refine AWP.seq ?_
                  refine AWP.region ?_
                  refine AOps.call (o_loadRef _ rfl rfl Tryd.sizeOf24 Tryd.isAgg24 rfl rfl rfl) ?_
                  refine AOps.call (o_move _ rfl rfl) ?_
                  refine AOps.call (o_call (Enough_s p out) Tryd.call42 rfl rfl) ?_
                  refine AOps.call (o_move _ rfl rfl) ?_
                  refine AOps.call (o_extract _ rfl rfl rfl rfl) ?_
                  refine AOps.call (o_extract _ rfl rfl rfl rfl) ?_
                  refine AOps.call (o_extract _ rfl rfl rfl rfl) ?_
                  refine AOps.call (o_assign _ rfl rfl) ?_
                  refine AOps.call (o_assign _ rfl rfl) ?_
                  refine AOps.call (o_assign _ rfl rfl) ?_
                  refine AOps.nil ?_
                  refine AWP.seq ?_
                  refine AWP.seq ?_
                  refine AWP.region ?_
                  refine AOps.call (o_move _ rfl rfl) ?_
                  refine AOps.call (o_bin _ _ rfl rfl (fun _ => rfl) rfl) ?_
                  refine AOps.nil ?_
                  refine AWP.cond _ rfl (fun h583 => ?_) (fun h583 => ?_)
                  · skip
                    have he : ¬ (enM p out).2.2 = 0 := by simpa using h583
                    obtain ⟨q1, q2⟩ := hen.1 he
                    have q3 : (enM p out).1 = 0 := congrArg Prod.fst q1
                    have q4 : (enM p out).2.1 = false := congrArg (fun x => x.2.1) q1
                    have q5 : (enM p out).2.2 = 1 := congrArg (fun x => x.2.2) q1
                    refine AWP.seq ?_
                    refine AWP.region ?_
                    refine AOps.call (o_move _ rfl rfl) ?_
                    refine AOps.call (o_bin _ _ rfl rfl (fun _ => rfl) rfl) ?_
                    refine AOps.call (o_move _ rfl rfl) ?_
                    refine AOps.split rfl rfl rfl (fun h585 => ?_) (fun h585 => ?_)
                    · skip
                      refine AOps.go rfl rfl rfl h585 (o_move _ rfl rfl) ?_
                      refine AOps.go rfl rfl rfl h585 (o_bin _ _ rfl rfl (fun _ => rfl) rfl) ?_
                      refine AOps.go rfl rfl rfl h585 (o_move _ rfl rfl) ?_
                      refine AOps.split rfl rfl rfl (fun h588 => ?_) (fun h588 => ?_)
                      · skip
                        have g121 := of_decide_eq_false h588
                        refine AOps.go rfl rfl rfl h588 (o_move _ rfl rfl) ?_
                        refine AOps.go rfl rfl rfl h588 (o_bin _ _ rfl rfl (fun _ => rfl) rfl) ?_
                        refine AOps.go rfl rfl rfl h585 (o_pickF _ _ _ rfl h588 rfl rfl) ?_
                        refine AOps.call (o_pickT _ _ _ rfl h585 rfl rfl) ?_
                        refine AOps.call (o_move _ rfl rfl) ?_
                        refine AOps.split rfl rfl rfl (fun h591 => ?_) (fun h591 => ?_)
                        · skip
                          refine AOps.go rfl rfl rfl h591 (o_move _ rfl rfl) ?_
                          refine AOps.go rfl rfl rfl h591 (o_bin _ _ rfl rfl (fun _ => rfl) rfl) ?_
                          refine AOps.call (o_pickT _ _ _ rfl h591 rfl rfl) ?_
                          refine AOps.call (o_move _ rfl rfl) ?_
                          refine AOps.split rfl rfl rfl (fun h593 => ?_) (fun h593 => ?_)
                          · skip
                            refine AOps.go rfl rfl rfl h593 (o_move _ rfl rfl) ?_
                            refine AOps.go rfl rfl rfl h593 (o_un _ rfl (fun _ => rfl) rfl) ?_
                            refine AOps.call (o_pickT _ _ _ rfl h593 rfl rfl) ?_
                            refine AOps.call (o_assign _ rfl rfl) ?_
                            refine AOps.nil ?_
                            refine AWP.ret ?_
                            first
                            | exact postQ.ret1 Tryd.results12 rfl rfl
                            | (refine postQ.ret1 Tryd.results12 rfl ?_; simp [AV.close, AV.close.closeL, B, I]; done)
                            | (refine postQ.ret1 Tryd.results12 rfl ?_; simp [AV.close, AV.close.closeL, B, I]; omega)
                            | (refine postQ.ret1 Tryd.results12 rfl ?_; simp_all [AV.close, AV.close.closeL, B, I]; done)
                            | (refine postQ.ret1 Tryd.results12 rfl ?_; simp_all [AV.close, AV.close.closeL, B, I]; omega)
                          · skip
                            exfalso
                            rw [q3] at h593
                            exact absurd h593 (by decide)
                        · skip
                          exfalso
                          have hq := of_decide_eq_false h591
                          omega
                      · skip
                        refine AOps.pass rfl rfl rfl h588 rfl ?_
                        refine AOps.pass rfl rfl rfl h588 rfl ?_
                        refine AOps.go rfl rfl rfl h585 (o_pickT _ _ _ rfl h588 rfl rfl) ?_
                        refine AOps.call (o_pickT _ _ _ rfl h585 rfl rfl) ?_
                        refine AOps.call (o_move _ rfl rfl) ?_
                        refine AOps.go rfl rfl rfl rfl (o_move _ rfl rfl) ?_
                        refine AOps.go rfl rfl rfl rfl (o_bin _ _ rfl rfl (fun _ => rfl) rfl) ?_
                        refine AOps.call (o_pickT _ _ _ rfl rfl rfl rfl) ?_
                        refine AOps.call (o_move _ rfl rfl) ?_
                        refine AOps.split rfl rfl rfl (fun h596 => ?_) (fun h596 => ?_)
                        · skip
                          refine AOps.go rfl rfl rfl h596 (o_move _ rfl rfl) ?_
                          refine AOps.go rfl rfl rfl h596 (o_un _ rfl (fun _ => rfl) rfl) ?_
                          refine AOps.call (o_pickT _ _ _ rfl h596 rfl rfl) ?_
                          refine AOps.call (o_assign _ rfl rfl) ?_
                          refine AOps.nil ?_
                          refine AWP.ret ?_
                          first
                          | exact postQ.ret1 Tryd.results12 rfl rfl
                          | (refine postQ.ret1 Tryd.results12 rfl ?_; simp [AV.close, AV.close.closeL, B, I]; done)
                          | (refine postQ.ret1 Tryd.results12 rfl ?_; simp [AV.close, AV.close.closeL, B, I]; omega)
                          | (refine postQ.ret1 Tryd.results12 rfl ?_; simp_all [AV.close, AV.close.closeL, B, I]; done)
                          | (refine postQ.ret1 Tryd.results12 rfl ?_; simp_all [AV.close, AV.close.closeL, B, I]; omega)
                        · skip
                          exfalso
                          rw [q3] at h596
                          exact absurd h596 (by decide)
                    · skip
                      exfalso
                      rw [q5] at h585
                      exact absurd h585 (by decide)
                  · skip
                    have he : (enM p out).2.2 = 0 := by simpa using h583
                    refine AWP.skip ?_
                    refine AWP.seq ?_
                    refine AWP.seq ?_
                    refine AWP.region ?_
                    refine AOps.call (o_move _ rfl rfl) ?_
                    refine AOps.call (o_un _ rfl (fun _ => rfl) rfl) ?_
                    refine AOps.nil ?_
                    refine AWP.cond _ rfl (fun h599 => ?_) (fun h599 => ?_)
                    · skip
                      have hb : (enM p out).2.1 = false := by simpa using h599
                      obtain ⟨q3, q6⟩ := hen.2.1 he hb
                      have q7 : (yldM p 65536).2 = 0 := congrArg Prod.snd (yld_of a1 (by omega))
                      refine AWP.seq ?_
                      refine AWP.region ?_
                      refine AOps.call (o_loadRef _ rfl rfl Tryd.sizeOf24 Tryd.isAgg24 rfl rfl rfl) ?_
                      refine AOps.call (o_call (Yield_s p 65536) Tryd.call40 rfl rfl) ?_
                      refine AOps.call (o_move _ rfl rfl) ?_
                      refine AOps.call (o_extract _ rfl rfl rfl rfl) ?_
                      refine AOps.call (o_extract _ rfl rfl rfl rfl) ?_
                      refine AOps.call (o_assign _ rfl rfl) ?_
                      refine AOps.call (o_assign _ rfl rfl) ?_
                      refine AOps.nil ?_
                      refine AWP.seq ?_
                      refine AWP.region ?_
                      refine AOps.call (o_move _ rfl rfl) ?_
                      refine AOps.call (o_bin _ _ rfl rfl (fun _ => rfl) rfl) ?_
                      refine AOps.call (o_move _ rfl rfl) ?_
                      refine AOps.split rfl rfl rfl (fun h605 => ?_) (fun h605 => ?_)
                      · skip
                        refine AOps.go rfl rfl rfl h605 (o_move _ rfl rfl) ?_
                        refine AOps.go rfl rfl rfl h605 (o_move _ rfl rfl) ?_
                        refine AOps.go rfl rfl rfl h605 (o_bin _ _ rfl rfl (fun _ => rfl) rfl) ?_
                        refine AOps.call (o_pickT _ _ _ rfl h605 rfl rfl) ?_
                        refine AOps.call (o_move _ rfl rfl) ?_
                        refine AOps.split rfl rfl rfl (fun h608 => ?_) (fun h608 => ?_)
                        · skip
                          refine AOps.go rfl rfl rfl h608 (o_move _ rfl rfl) ?_
                          refine AOps.go rfl rfl rfl h608 (o_bin _ _ rfl rfl (fun _ => rfl) rfl) ?_
                          refine AOps.call (o_pickT _ _ _ rfl h608 rfl rfl) ?_
                          refine AOps.call (o_assign _ rfl rfl) ?_
                          refine AOps.nil ?_
                          refine AWP.ret ?_
                          first
                          | exact postQ.ret1 Tryd.results12 rfl rfl
                          | (refine postQ.ret1 Tryd.results12 rfl ?_; simp [AV.close, AV.close.closeL, B, I]; done)
                          | (refine postQ.ret1 Tryd.results12 rfl ?_; simp [AV.close, AV.close.closeL, B, I]; omega)
                          | (refine postQ.ret1 Tryd.results12 rfl ?_; simp_all [AV.close, AV.close.closeL, B, I]; done)
                          | (refine postQ.ret1 Tryd.results12 rfl ?_; simp_all [AV.close, AV.close.closeL, B, I]; omega)
                        · skip
                          exfalso
                          have hq := of_decide_eq_false h608
                          omega
                      · skip
                        exfalso
                        rw [q7] at h605
                        exact absurd h605 (by decide)
                    · skip
                      have hb : (enM p out).2.1 = true := by simpa using h599
                      obtain ⟨q3, q4, q5, q6⟩ := hen.2.2 he hb
                      have q7 : (yldM p (enM p out).1).2 = 0 := congrArg Prod.snd (yld_of a1 (by omega))
                      refine AWP.skip ?_
                      refine AWP.seq ?_
                      refine AWP.region ?_
                      refine AOps.call (o_loadRef _ rfl rfl Tryd.sizeOf24 Tryd.isAgg24 rfl rfl rfl) ?_
                      refine AOps.call (o_move _ rfl rfl) ?_
                      refine AOps.call (o_call (Yield_s p (enM p out).1) Tryd.call40 rfl rfl) ?_
                      refine AOps.call (o_move _ rfl rfl) ?_
                      refine AOps.call (o_extract _ rfl rfl rfl rfl) ?_
                      refine AOps.call (o_extract _ rfl rfl rfl rfl) ?_
                      refine AOps.call (o_assign _ rfl rfl) ?_
                      refine AOps.call (o_assign _ rfl rfl) ?_
                      refine AOps.nil ?_
                      refine AWP.seq ?_
                      refine AWP.seq ?_
                      refine AWP.region ?_
                      refine AOps.call (o_move _ rfl rfl) ?_
                      refine AOps.call (o_bin _ _ rfl rfl (fun _ => rfl) rfl) ?_
                      refine AOps.call (o_move _ rfl rfl) ?_
                      refine AOps.split rfl rfl rfl (fun h615 => ?_) (fun h615 => ?_)
                      · skip
                        refine AOps.go rfl rfl rfl h615 (o_move _ rfl rfl) ?_
                        refine AOps.go rfl rfl rfl h615 (o_move _ rfl rfl) ?_
                        refine AOps.go rfl rfl rfl h615 (o_bin _ _ rfl rfl (fun _ => rfl) rfl) ?_
                        refine AOps.call (o_pickF _ _ _ rfl h615 rfl rfl) ?_
                        refine AOps.nil ?_
                        refine AWP.cond _ rfl (fun h618 => ?_) (fun h618 => ?_)
                        · skip
                          exfalso
                          have hq := of_decide_eq_true h618
                          omega
                        · skip
                          refine AWP.skip ?_
                          refine AWP.seq ?_
                          refine AWP.seq ?_
                          refine AWP.region ?_
                          refine AOps.call (o_move _ rfl rfl) ?_
                          refine AOps.call (o_bin _ _ rfl rfl (fun _ => rfl) rfl) ?_
                          refine AOps.nil ?_
                          refine AWP.cond _ rfl (fun h620 => ?_) (fun h620 => ?_)
                          · skip
                            refine AWP.seq ?_
                            refine AWP.region ?_
                            refine AOps.call (o_assign _ rfl rfl) ?_
                            refine AOps.nil ?_
                            refine AWP.ret ?_
                            first
                            | exact postQ.ret1 Tryd.results12 rfl rfl
                            | (refine postQ.ret1 Tryd.results12 rfl ?_; simp [AV.close, AV.close.closeL, B, I]; done)
                            | (refine postQ.ret1 Tryd.results12 rfl ?_; simp [AV.close, AV.close.closeL, B, I]; omega)
                            | (refine postQ.ret1 Tryd.results12 rfl ?_; simp_all [AV.close, AV.close.closeL, B, I]; done)
                            | (refine postQ.ret1 Tryd.results12 rfl ?_; simp_all [AV.close, AV.close.closeL, B, I]; omega)
                          · skip
                            have hne : (enM p out).1 ≠ 0 := by simpa using h620
                            have q8 := q6 hne
                            have q9 : (yldM p ((enM p out).1 - 1)).2 = 0 := congrArg Prod.snd (yld_of a1 (by omega))
                            refine AWP.skip ?_
                            refine AWP.seq ?_
                            refine AWP.region ?_
                            refine AOps.call (o_loadRef _ rfl rfl Tryd.sizeOf24 Tryd.isAgg24 rfl rfl rfl) ?_
                            refine AOps.call (o_move _ rfl rfl) ?_
                            refine AOps.call (o_sub _ _ rfl rfl ⟨by (try dsimp only); omega, by (try dsimp only); omega⟩ rfl) ?_
                            refine AOps.call (o_call (Yield_s p ((enM p out).1 - 1)) Tryd.call40 rfl rfl) ?_
                            refine AOps.call (o_move _ rfl rfl) ?_
                            refine AOps.call (o_extract _ rfl rfl rfl rfl) ?_
                            refine AOps.call (o_extract _ rfl rfl rfl rfl) ?_
                            refine AOps.call (o_assign _ rfl rfl) ?_
                            refine AOps.call (o_assign _ rfl rfl) ?_
                            refine AOps.nil ?_
                            refine AWP.seq ?_
                            refine AWP.region ?_
                            refine AOps.call (o_move _ rfl rfl) ?_
                            refine AOps.call (o_bin _ _ rfl rfl (fun _ => rfl) rfl) ?_
                            refine AOps.call (o_move _ rfl rfl) ?_
                            refine AOps.split rfl rfl rfl (fun h627 => ?_) (fun h627 => ?_)
                            · skip
                              refine AOps.go rfl rfl rfl h627 (o_move _ rfl rfl) ?_
                              refine AOps.go rfl rfl rfl h627 (o_move _ rfl rfl) ?_
                              refine AOps.go rfl rfl rfl h627 (o_bin _ _ rfl rfl (fun _ => rfl) rfl) ?_
                              refine AOps.call (o_pickT _ _ _ rfl h627 rfl rfl) ?_
                              refine AOps.call (o_assign _ rfl rfl) ?_
                              refine AOps.nil ?_
                              refine AWP.ret ?_
                              first
                              | exact postQ.ret1 Tryd.results12 rfl rfl
                              | (refine postQ.ret1 Tryd.results12 rfl ?_; simp [AV.close, AV.close.closeL, B, I]; done)
                              | (refine postQ.ret1 Tryd.results12 rfl ?_; simp [AV.close, AV.close.closeL, B, I]; omega)
                              | (refine postQ.ret1 Tryd.results12 rfl ?_; simp_all [AV.close, AV.close.closeL, B, I]; done)
                              | (refine postQ.ret1 Tryd.results12 rfl ?_; simp_all [AV.close, AV.close.closeL, B, I]; omega)
                            · skip
                              exfalso
                              rw [q9] at h627
                              exact absurd h627 (by decide)
                      · skip
                        exfalso
                        rw [q7] at h615
                        exact absurd h615 (by decide)
            · skip
              exfalso
              have hq := of_decide_eq_true h32
              omega
          · skip
            exfalso
            rw [e2] at h30
            simp at h30
        · skip
          exfalso
          exact absurd h28 (by decide)
      · skip
        exfalso
        rw [e1] at h26
        exact absurd h26 (by decide)

end Go.Proofs.YtgagfmjpmdgfdaaDoor
