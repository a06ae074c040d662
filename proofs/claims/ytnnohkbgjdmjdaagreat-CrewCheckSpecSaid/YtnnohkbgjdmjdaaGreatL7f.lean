import Derived.Test.YtnnohkbgjdmjdaaGreatL7e
import Derived.Test.YtnnohkbgjdmjdaaGreatAbC
set_option linter.unusedSimpArgs false
set_option linter.unusedVariables false
namespace Go.Proofs.YtnnohkbgjdmjdaaGreat
open Go.Ab

set_option maxHeartbeats 4000000 in
set_option maxRecDepth 20000 in
theorem CheckRangeR_s (r : Rng) : FSpec Tryz.prog 14 [.agg (eRg r)] (I (if okR r then 0 else 70)) (none) := by
  refine FSpec.of_body Tryz.func14 rfl (leB rfl) fun w0 M0 => ?_
  have hll := sts_len r.s
  have hlt0 := trs_len r.t
  refine AWP.seq ?_
  refine AWP.region ?_
  refine AOps.call (o_box _ rfl rfl rfl) ?_
  refine AOps.call (o_assign _ rfl rfl) ?_
  refine AOps.nil ?_
  refine AWP.seq ?_
  refine AWP.seq ?_
  refine AWP.region ?_
  refine AOps.call (o_fieldRef _ rfl fa25_0 rfl rfl) ?_
  refine AOps.call (o_loadRef _ rfl rfl Tryz.sizeOf22 Tryz.isAgg22 rfl rfl rfl) ?_
  refine AOps.call (o_len _ Tryz.underlying22 rfl rfl) ?_
  refine AOps.call (o_bin _ _ rfl rfl (fun _ => rfl) rfl) ?_
  refine AOps.call (o_move _ rfl rfl) ?_
  refine AOps.split rfl rfl rfl (fun h7 => ?_) (fun h7 => ?_)
  · skip
    refine AOps.go rfl rfl rfl h7 (o_fieldRef _ rfl fa25_1 rfl rfl) ?_
    refine AOps.go rfl rfl rfl h7 (o_loadRef _ rfl rfl Tryz.sizeOf23 Tryz.isAgg23 rfl rfl rfl) ?_
    refine AOps.go rfl rfl rfl h7 (o_len _ Tryz.underlying23 rfl rfl) ?_
    refine AOps.go rfl rfl rfl h7 (o_bin _ _ rfl rfl (fun _ => rfl) rfl) ?_
    refine AOps.call (o_pickF _ _ _ rfl h7 rfl rfl) ?_
    refine AOps.nil ?_
    refine AWP.cond _ rfl (fun h12 => ?_) (fun h12 => ?_)
    · skip
      have hE : okR r = false := by
        cases hc : okR r with
        | false => rfl
        | true =>
          simp only [okR, Bool.and_eq_true, decide_eq_true_eq] at hc
          simp_all [AV.close, B, I]
          try omega
      refine AWP.seq ?_
      refine AWP.region ?_
      refine AOps.call (o_assign _ rfl rfl) ?_
      refine AOps.nil ?_
      refine AWP.ret ?_
      refine postQ.ret1 Tryz.results14 rfl ?_
      rw [hE]
      rfl
    · skip
      have h16 : r.s.length ≤ 16 ∧ r.t.length ≤ 48 := by simp_all [AV.close, B, I]; try omega
      refine AWP.skip ?_
      refine AWP.seq ?_
      refine AWP.seq ?_
      refine AWP.region ?_
      refine AOps.call (o_assign _ rfl rfl) ?_
      refine AOps.nil ?_
      refine AWP.block ?_
      refine AWP.loop (ι := Nat) (fun i => AS.mk' 120 [(1, .ref (1, 0) 0), (3, I i)] [((1, 0), eRg r)] [] [(1, 1)]) (fun i => i ≤ r.s.length ∧ okSs (-1) r.s = okSs (prS r.s i) (r.s.drop i)) (fun i => r.s.length - i) (0) (Weak.mk' rfl ⟨⟨.refl rfl, rfl⟩, ⟨⟨.refl rfl, rfl⟩, trivial⟩⟩ ⟨⟨rfl, rfl, rfl⟩, trivial⟩ trivial) (⟨Nat.zero_le _, rfl⟩) ?_
      rintro k ⟨hk, hv⟩
      try dsimp only at *
      refine AWP.seq ?_
      refine AWP.seq ?_
      refine AWP.region ?_
      refine AOps.call (o_move _ rfl rfl) ?_
      refine AOps.call (o_fieldRef _ rfl fa25_0 rfl rfl) ?_
      refine AOps.call (o_loadRef _ rfl rfl Tryz.sizeOf22 Tryz.isAgg22 rfl rfl rfl) ?_
      refine AOps.call (o_len _ Tryz.underlying22 rfl rfl) ?_
      refine AOps.call (o_bin _ _ rfl rfl (fun _ => rfl) rfl) ?_
      refine AOps.nil ?_
      refine AWP.cond _ rfl (fun h19 => ?_) (fun h19 => ?_)
      · skip
        have hlt : k < r.s.length := by have hq := of_decide_eq_true h19; omega
        have hel := sts_at hlt
        have hpv : (k : Int) > 0 → ∃ j : Nat, ∃ hj : j < r.s.length, ((k : Int) - 1).toNat = j ∧ (sts r.s)[((k : Int) - 1).toNat]? = some (eSi r.s[j]) ∧ prS r.s k = r.s[j].no := fun h => by
          obtain ⟨j, rfl⟩ : ∃ j, k = j + 1 := ⟨k - 1, by omega⟩
          have e : (((j + 1 : Nat) : Int) - 1).toNat = j := by omega
          exact ⟨j, by omega, e, by rw [e]; exact sts_at (by omega), prS_s (by omega)⟩
        have hp0 : ¬ (k : Int) > 0 → prS r.s k = -1 := fun h => by
          obtain rfl : k = 0 := by omega
          rfl
        refine AWP.skip ?_
        refine AWP.seq ?_
        refine AWP.block ?_
        refine AWP.seq ?_
        refine AWP.region ?_
        refine AOps.call (o_fieldRef _ rfl fa25_0 rfl rfl) ?_
        refine AOps.call (o_loadRef _ rfl rfl Tryz.sizeOf22 Tryz.isAgg22 rfl rfl rfl) ?_
        refine AOps.call (o_move _ rfl rfl) ?_
        refine AOps.call (o_index _ _ Tryz.underlying22 Tryz.sizeOf68 rfl rfl (by omega) (by assumption) rfl rfl) ?_
        refine AOps.call (o_loadRd _ rfl Tryz.sizeOf68 Tryz.isAgg68 rfl rfl rfl) ?_
        refine AOps.call (o_alloc ze68 rfl rfl) ?_
        refine AOps.cons (o_store _ _ rfl rfl Tryz.sizeOf68 rfl rfl rfl rfl rfl) ?_
        refine AOps.nil ?_
        refine AWP.seq ?_
        refine AWP.drawn 46 mixed (by kernel_rfl) ?_
        refine AHead.call (o_fieldRef _ rfl fa68_0 rfl rfl) rfl ?_
        refine AHead.call (o_loadRef _ rfl rfl Tryz.sizeOf3 Tryz.isAgg3 rfl rfl rfl) rfl ?_
        refine AHead.call (o_call (within_s _ _) Tryz.call30 rfl rfl) rfl ?_
        refine AHead.call (o_un _ rfl (fun _ => rfl) rfl) rfl ?_
        refine AHead.call (o_move _ rfl rfl) rfl ?_
        refine AHead.split rfl rfl rfl (fun h29 => ?_) (fun h29 => ?_)
        · skip
          refine AHead.go rfl rfl rfl h29 (o_fieldRef _ rfl fa68_1 rfl rfl) rfl ?_
          refine AHead.go rfl rfl rfl h29 (o_loadRef _ rfl rfl Tryz.sizeOf3 Tryz.isAgg3 rfl rfl rfl) rfl ?_
          refine AHead.go rfl rfl rfl h29 (o_bin _ _ rfl rfl (fun _ => rfl) rfl) rfl ?_
          refine AHead.call (o_pickF _ _ _ rfl h29 rfl rfl) rfl ?_
          refine AHead.call (o_move _ rfl rfl) rfl ?_
          refine AHead.split rfl rfl rfl (fun h33 => ?_) (fun h33 => ?_)
          · skip
            refine AHead.go rfl rfl rfl h33 (o_fieldRef _ rfl fa68_1 rfl rfl) rfl ?_
            refine AHead.go rfl rfl rfl h33 (o_loadRef _ rfl rfl Tryz.sizeOf3 Tryz.isAgg3 rfl rfl rfl) rfl ?_
            refine AHead.go rfl rfl rfl h33 (o_bin _ _ rfl rfl (fun _ => rfl) rfl) rfl ?_
            refine AHead.call (o_pickF _ _ _ rfl h33 rfl rfl) rfl ?_
            refine AHead.call (o_move _ rfl rfl) rfl ?_
            refine AHead.split rfl rfl rfl (fun h37 => ?_) (fun h37 => ?_)
            · skip
              refine AHead.go rfl rfl rfl h37 (o_fieldRef _ rfl fa68_2 rfl rfl) rfl ?_
              refine AHead.go rfl rfl rfl h37 (o_loadRef _ rfl rfl Tryz.sizeOf3 Tryz.isAgg3 rfl rfl rfl) rfl ?_
              refine AHead.go rfl rfl rfl h37 (o_call (within_s _ _) Tryz.call30 rfl rfl) rfl ?_
              refine AHead.go rfl rfl rfl h37 (o_un _ rfl (fun _ => rfl) rfl) rfl ?_
              refine AHead.call (o_pickF _ _ _ rfl h37 rfl rfl) rfl ?_
              refine AHead.call (o_move _ rfl rfl) rfl ?_
              refine AHead.split rfl rfl rfl (fun h42 => ?_) (fun h42 => ?_)
              · skip
                refine AHead.go rfl rfl rfl h42 (o_fieldRef _ rfl fa68_1 rfl rfl) rfl ?_
                refine AHead.go rfl rfl rfl h42 (o_loadRef _ rfl rfl Tryz.sizeOf3 Tryz.isAgg3 rfl rfl rfl) rfl ?_
                refine AHead.go rfl rfl rfl h42 (o_bin _ _ rfl rfl (fun _ => rfl) rfl) rfl ?_
                refine AHead.go rfl rfl rfl h42 (o_move _ rfl rfl) rfl ?_
                refine AHead.split rfl rfl rfl (fun h46 => ?_) (fun h46 => ?_)
                · skip
                  refine AHead.go rfl rfl rfl h46 (o_fieldRef _ rfl fa68_2 rfl rfl) rfl ?_
                  refine AHead.go rfl rfl rfl h46 (o_loadRef _ rfl rfl Tryz.sizeOf3 Tryz.isAgg3 rfl rfl rfl) rfl ?_
                  refine AHead.go rfl rfl rfl h46 (o_bin _ _ rfl rfl (fun _ => rfl) rfl) rfl ?_
                  refine AHead.go rfl rfl rfl h42 (o_pickT _ _ _ rfl h46 rfl rfl) rfl ?_
                  refine AHead.call (o_pickF _ _ _ rfl h42 rfl rfl) rfl ?_
                  refine AHead.call (o_move _ rfl rfl) rfl ?_
                  refine AHead.split rfl rfl rfl (fun h50 => ?_) (fun h50 => ?_)
                  · skip
                    refine AHead.go rfl rfl rfl h50 (o_move _ rfl rfl) rfl ?_
                    refine AHead.go rfl rfl rfl h50 (o_bin _ _ rfl rfl (fun _ => rfl) rfl) rfl ?_
                    refine AHead.go rfl rfl rfl h50 (o_move _ rfl rfl) rfl ?_
                    refine AHead.split rfl rfl rfl (fun h52 => ?_) (fun h52 => ?_)
                    · skip
                      have hk0 := of_decide_eq_true h52
                      obtain ⟨j, hj, hj1, hj2, hj3⟩ := hpv hk0
                      refine AHead.go rfl rfl rfl h52 (o_fieldRef _ rfl fa25_0 rfl rfl) rfl ?_
                      refine AHead.go rfl rfl rfl h52 (o_loadRef _ rfl rfl Tryz.sizeOf22 Tryz.isAgg22 rfl rfl rfl) rfl ?_
                      refine AHead.go rfl rfl rfl h52 (o_move _ rfl rfl) rfl ?_
                      refine AHead.go rfl rfl rfl h52 (o_sub _ _ rfl rfl ⟨by (try dsimp only); omega, by (try dsimp only); omega⟩ rfl) rfl ?_
                      refine AHead.go rfl rfl rfl h52 (o_index _ _ Tryz.underlying22 Tryz.sizeOf68 rfl rfl (by omega) hj2 rfl rfl) rfl ?_
                      refine AHead.go rfl rfl rfl h52 (o_fieldRd _ rfl fa68_0 rfl) rfl ?_
                      refine AHead.go rfl rfl rfl h52 (o_loadRd _ rfl Tryz.sizeOf3 Tryz.isAgg3 rfl rfl rfl) rfl ?_
                      refine AHead.go rfl rfl rfl h52 (o_fieldRef _ rfl fa68_0 rfl rfl) rfl ?_
                      refine AHead.go rfl rfl rfl h52 (o_loadRef _ rfl rfl Tryz.sizeOf3 Tryz.isAgg3 rfl rfl rfl) rfl ?_
                      refine AHead.go rfl rfl rfl h52 (o_bin _ _ rfl rfl (fun _ => rfl) rfl) rfl ?_
                      refine AHead.go rfl rfl rfl h50 (o_pickT _ _ _ rfl h52 rfl rfl) rfl ?_
                      refine AHead.call (o_pickF _ _ _ rfl h50 rfl rfl) rfl ?_
                      refine AHead.nil ?_
                      refine AOps.nil ?_
                      refine AWP.cond _ rfl (fun h62 => ?_) (fun h62 => ?_)
                      · skip
                        have hbk : (sitB r.s[k] && decide (prS r.s k < r.s[k].no)) = false := by
                          cases hc : (sitB r.s[k] && decide (prS r.s k < r.s[k].no)) with
                          | false => rfl
                          | true =>
                            simp only [Bool.and_eq_true, decide_eq_true_eq, Bool.or_eq_true, sitB, inB] at hc
                            simp_all [AV.close, B, I, inB]
                            try omega
                        have hS := okSs_bad hlt hv hbk
                        have hE : okR r = false := by unfold okR; rw [hS]; simp
                        refine AWP.seq ?_
                        refine AWP.region ?_
                        refine AOps.call (o_assign _ rfl rfl) ?_
                        refine AOps.nil ?_
                        refine AWP.ret ?_
                        refine postQ.ret1 Tryz.results14 rfl ?_
                        rw [hE]
                        rfl
                      · skip
                        have hbk : (sitB r.s[k] && decide (prS r.s k < r.s[k].no)) = true := by
                          simp only [Bool.and_eq_true, decide_eq_true_eq, Bool.or_eq_true, sitB, inB]
                          simp_all [AV.close, B, I, inB]
                          try omega
                        refine AWP.skip ?_
                        refine AWP.region ?_
                        refine AOps.call (o_move _ rfl rfl) ?_
                        refine AOps.call (o_add _ _ rfl rfl ⟨by (try dsimp only); omega, by (try dsimp only); omega⟩ rfl) ?_
                        refine AOps.call (o_assign _ rfl rfl) ?_
                        refine AOps.nil ?_
                        refine ⟨k + 1, ?_, (Weak.mk' rfl ⟨⟨.refl rfl, rfl⟩, ⟨⟨.refl rfl, rfl⟩, trivial⟩⟩ ⟨⟨rfl, rfl, rfl⟩, trivial⟩ trivial)⟩
                        exact ⟨⟨by omega, okSs_go hlt hv hbk⟩, by omega⟩
                    · skip
                      have hk0 := hp0 (of_decide_eq_false h52)
                      refine AHead.pass rfl rfl rfl h52 rfl ?_
                      refine AHead.pass rfl rfl rfl h52 rfl ?_
                      refine AHead.pass rfl rfl rfl h52 rfl ?_
                      refine AHead.pass rfl rfl rfl h52 rfl ?_
                      refine AHead.pass rfl rfl rfl h52 rfl ?_
                      refine AHead.pass rfl rfl rfl h52 rfl ?_
                      refine AHead.pass rfl rfl rfl h52 rfl ?_
                      refine AHead.pass rfl rfl rfl h52 rfl ?_
                      refine AHead.pass rfl rfl rfl h52 rfl ?_
                      refine AHead.pass rfl rfl rfl h52 rfl ?_
                      refine AHead.go rfl rfl rfl h50 (o_pickF _ _ _ rfl h52 rfl rfl) rfl ?_
                      refine AHead.call (o_pickF _ _ _ rfl h50 rfl rfl) rfl ?_
                      refine AHead.nil ?_
                      refine AOps.nil ?_
                      refine AWP.condF rfl ?_
                      have hbk : (sitB r.s[k] && decide (prS r.s k < r.s[k].no)) = true := by
                        simp only [Bool.and_eq_true, decide_eq_true_eq, Bool.or_eq_true, sitB, inB]
                        simp_all [AV.close, B, I, inB]
                        try omega
                      refine AWP.skip ?_
                      refine AWP.region ?_
                      refine AOps.call (o_move _ rfl rfl) ?_
                      refine AOps.call (o_add _ _ rfl rfl ⟨by (try dsimp only); omega, by (try dsimp only); omega⟩ rfl) ?_
                      refine AOps.call (o_assign _ rfl rfl) ?_
                      refine AOps.nil ?_
                      refine ⟨k + 1, ?_, (Weak.mk' rfl ⟨⟨.refl rfl, rfl⟩, ⟨⟨.refl rfl, rfl⟩, trivial⟩⟩ ⟨⟨rfl, rfl, rfl⟩, trivial⟩ trivial)⟩
                      exact ⟨⟨by omega, okSs_go hlt hv hbk⟩, by omega⟩
                  · skip
                    refine AHead.pass rfl rfl rfl h50 rfl ?_
                    refine AHead.pass rfl rfl rfl h50 rfl ?_
                    refine AHead.pass rfl rfl rfl h50 rfl ?_
                    refine AHead.passU rfl rfl rfl rfl ?_
                    refine AHead.passU rfl rfl rfl rfl ?_
                    refine AHead.passU rfl rfl rfl rfl ?_
                    refine AHead.passU rfl rfl rfl rfl ?_
                    refine AHead.passU rfl rfl rfl rfl ?_
                    refine AHead.passU rfl rfl rfl rfl ?_
                    refine AHead.passU rfl rfl rfl rfl ?_
                    refine AHead.passU rfl rfl rfl rfl ?_
                    refine AHead.passU rfl rfl rfl rfl ?_
                    refine AHead.passU rfl rfl rfl rfl ?_
                    refine AHead.pass rfl rfl rfl h50 rfl ?_
                    refine AHead.call (o_pickT _ _ _ rfl h50 rfl rfl) rfl ?_
                    refine AHead.nil ?_
                    refine AOps.nil ?_
                    refine AWP.condT rfl ?_
                    have hbk : (sitB r.s[k] && decide (prS r.s k < r.s[k].no)) = false := by
                      cases hc : (sitB r.s[k] && decide (prS r.s k < r.s[k].no)) with
                      | false => rfl
                      | true =>
                        simp only [Bool.and_eq_true, decide_eq_true_eq, Bool.or_eq_true, sitB, inB] at hc
                        simp_all [AV.close, B, I, inB]
                        try omega
                    have hS := okSs_bad hlt hv hbk
                    have hE : okR r = false := by unfold okR; rw [hS]; simp
                    refine AWP.seq ?_
                    refine AWP.region ?_
                    refine AOps.call (o_assign _ rfl rfl) ?_
                    refine AOps.nil ?_
                    refine AWP.ret ?_
                    refine postQ.ret1 Tryz.results14 rfl ?_
                    rw [hE]
                    rfl
                · skip
                  refine AHead.pass rfl rfl rfl h46 rfl ?_
                  refine AHead.pass rfl rfl rfl h46 rfl ?_
                  refine AHead.pass rfl rfl rfl h46 rfl ?_
                  refine AHead.go rfl rfl rfl h42 (o_pickF _ _ _ rfl h46 rfl rfl) rfl ?_
                  refine AHead.call (o_pickF _ _ _ rfl h42 rfl rfl) rfl ?_
                  refine AHead.call (o_move _ rfl rfl) rfl ?_
                  refine AHead.go rfl rfl rfl rfl (o_move _ rfl rfl) rfl ?_
                  refine AHead.go rfl rfl rfl rfl (o_bin _ _ rfl rfl (fun _ => rfl) rfl) rfl ?_
                  refine AHead.go rfl rfl rfl rfl (o_move _ rfl rfl) rfl ?_
                  refine AHead.split rfl rfl rfl (fun h68 => ?_) (fun h68 => ?_)
                  · skip
                    have hk0 := of_decide_eq_true h68
                    obtain ⟨j, hj, hj1, hj2, hj3⟩ := hpv hk0
                    refine AHead.go rfl rfl rfl h68 (o_fieldRef _ rfl fa25_0 rfl rfl) rfl ?_
                    refine AHead.go rfl rfl rfl h68 (o_loadRef _ rfl rfl Tryz.sizeOf22 Tryz.isAgg22 rfl rfl rfl) rfl ?_
                    refine AHead.go rfl rfl rfl h68 (o_move _ rfl rfl) rfl ?_
                    refine AHead.go rfl rfl rfl h68 (o_sub _ _ rfl rfl ⟨by (try dsimp only); omega, by (try dsimp only); omega⟩ rfl) rfl ?_
                    refine AHead.go rfl rfl rfl h68 (o_index _ _ Tryz.underlying22 Tryz.sizeOf68 rfl rfl (by omega) hj2 rfl rfl) rfl ?_
                    refine AHead.go rfl rfl rfl h68 (o_fieldRd _ rfl fa68_0 rfl) rfl ?_
                    refine AHead.go rfl rfl rfl h68 (o_loadRd _ rfl Tryz.sizeOf3 Tryz.isAgg3 rfl rfl rfl) rfl ?_
                    refine AHead.go rfl rfl rfl h68 (o_fieldRef _ rfl fa68_0 rfl rfl) rfl ?_
                    refine AHead.go rfl rfl rfl h68 (o_loadRef _ rfl rfl Tryz.sizeOf3 Tryz.isAgg3 rfl rfl rfl) rfl ?_
                    refine AHead.go rfl rfl rfl h68 (o_bin _ _ rfl rfl (fun _ => rfl) rfl) rfl ?_
                    refine AHead.go rfl rfl rfl rfl (o_pickT _ _ _ rfl h68 rfl rfl) rfl ?_
                    refine AHead.call (o_pickF _ _ _ rfl rfl rfl rfl) rfl ?_
                    refine AHead.nil ?_
                    refine AOps.nil ?_
                    refine AWP.cond _ rfl (fun h78 => ?_) (fun h78 => ?_)
                    · skip
                      have hbk : (sitB r.s[k] && decide (prS r.s k < r.s[k].no)) = false := by
                        cases hc : (sitB r.s[k] && decide (prS r.s k < r.s[k].no)) with
                        | false => rfl
                        | true =>
                          simp only [Bool.and_eq_true, decide_eq_true_eq, Bool.or_eq_true, sitB, inB] at hc
                          simp_all [AV.close, B, I, inB]
                          try omega
                      have hS := okSs_bad hlt hv hbk
                      have hE : okR r = false := by unfold okR; rw [hS]; simp
                      refine AWP.seq ?_
                      refine AWP.region ?_
                      refine AOps.call (o_assign _ rfl rfl) ?_
                      refine AOps.nil ?_
                      refine AWP.ret ?_
                      refine postQ.ret1 Tryz.results14 rfl ?_
                      rw [hE]
                      rfl
                    · skip
                      have hbk : (sitB r.s[k] && decide (prS r.s k < r.s[k].no)) = true := by
                        simp only [Bool.and_eq_true, decide_eq_true_eq, Bool.or_eq_true, sitB, inB]
                        simp_all [AV.close, B, I, inB]
                        try omega
                      refine AWP.skip ?_
                      refine AWP.region ?_
                      refine AOps.call (o_move _ rfl rfl) ?_
                      refine AOps.call (o_add _ _ rfl rfl ⟨by (try dsimp only); omega, by (try dsimp only); omega⟩ rfl) ?_
                      refine AOps.call (o_assign _ rfl rfl) ?_
                      refine AOps.nil ?_
                      refine ⟨k + 1, ?_, (Weak.mk' rfl ⟨⟨.refl rfl, rfl⟩, ⟨⟨.refl rfl, rfl⟩, trivial⟩⟩ ⟨⟨rfl, rfl, rfl⟩, trivial⟩ trivial)⟩
                      exact ⟨⟨by omega, okSs_go hlt hv hbk⟩, by omega⟩
                  · skip
                    have hk0 := hp0 (of_decide_eq_false h68)
                    refine AHead.pass rfl rfl rfl h68 rfl ?_
                    refine AHead.pass rfl rfl rfl h68 rfl ?_
                    refine AHead.pass rfl rfl rfl h68 rfl ?_
                    refine AHead.pass rfl rfl rfl h68 rfl ?_
                    refine AHead.pass rfl rfl rfl h68 rfl ?_
                    refine AHead.pass rfl rfl rfl h68 rfl ?_
                    refine AHead.pass rfl rfl rfl h68 rfl ?_
                    refine AHead.pass rfl rfl rfl h68 rfl ?_
                    refine AHead.pass rfl rfl rfl h68 rfl ?_
                    refine AHead.pass rfl rfl rfl h68 rfl ?_
                    refine AHead.go rfl rfl rfl rfl (o_pickF _ _ _ rfl h68 rfl rfl) rfl ?_
                    refine AHead.call (o_pickF _ _ _ rfl rfl rfl rfl) rfl ?_
                    refine AHead.nil ?_
                    refine AOps.nil ?_
                    refine AWP.condF rfl ?_
                    have hbk : (sitB r.s[k] && decide (prS r.s k < r.s[k].no)) = true := by
                      simp only [Bool.and_eq_true, decide_eq_true_eq, Bool.or_eq_true, sitB, inB]
                      simp_all [AV.close, B, I, inB]
                      try omega
                    refine AWP.skip ?_
                    refine AWP.region ?_
                    refine AOps.call (o_move _ rfl rfl) ?_
                    refine AOps.call (o_add _ _ rfl rfl ⟨by (try dsimp only); omega, by (try dsimp only); omega⟩ rfl) ?_
                    refine AOps.call (o_assign _ rfl rfl) ?_
                    refine AOps.nil ?_
                    refine ⟨k + 1, ?_, (Weak.mk' rfl ⟨⟨.refl rfl, rfl⟩, ⟨⟨.refl rfl, rfl⟩, trivial⟩⟩ ⟨⟨rfl, rfl, rfl⟩, trivial⟩ trivial)⟩
                    exact ⟨⟨by omega, okSs_go hlt hv hbk⟩, by omega⟩
              · skip
                refine AHead.pass rfl rfl rfl h42 rfl ?_
                refine AHead.pass rfl rfl rfl h42 rfl ?_
                refine AHead.pass rfl rfl rfl h42 rfl ?_
                refine AHead.pass rfl rfl rfl h42 rfl ?_
                refine AHead.passU rfl rfl rfl rfl ?_
                refine AHead.passU rfl rfl rfl rfl ?_
                refine AHead.passU rfl rfl rfl rfl ?_
                refine AHead.pass rfl rfl rfl h42 rfl ?_
                refine AHead.call (o_pickT _ _ _ rfl h42 rfl rfl) rfl ?_
                refine AHead.call (o_move _ rfl rfl) rfl ?_
                refine AHead.pass rfl rfl rfl rfl rfl ?_
                refine AHead.pass rfl rfl rfl rfl rfl ?_
                refine AHead.pass rfl rfl rfl rfl rfl ?_
                refine AHead.passU rfl rfl rfl rfl ?_
                refine AHead.passU rfl rfl rfl rfl ?_
                refine AHead.passU rfl rfl rfl rfl ?_
                refine AHead.passU rfl rfl rfl rfl ?_
                refine AHead.passU rfl rfl rfl rfl ?_
                refine AHead.passU rfl rfl rfl rfl ?_
                refine AHead.passU rfl rfl rfl rfl ?_
                refine AHead.passU rfl rfl rfl rfl ?_
                refine AHead.passU rfl rfl rfl rfl ?_
                refine AHead.passU rfl rfl rfl rfl ?_
                refine AHead.pass rfl rfl rfl rfl rfl ?_
                refine AHead.call (o_pickT _ _ _ rfl rfl rfl rfl) rfl ?_
                refine AHead.nil ?_
                refine AOps.nil ?_
                refine AWP.condT rfl ?_
                have hbk : (sitB r.s[k] && decide (prS r.s k < r.s[k].no)) = false := by
                  cases hc : (sitB r.s[k] && decide (prS r.s k < r.s[k].no)) with
                  | false => rfl
                  | true =>
                    simp only [Bool.and_eq_true, decide_eq_true_eq, Bool.or_eq_true, sitB, inB] at hc
                    simp_all [AV.close, B, I, inB]
                    try omega
                have hS := okSs_bad hlt hv hbk
                have hE : okR r = false := by unfold okR; rw [hS]; simp
                refine AWP.seq ?_
                refine AWP.region ?_
                refine AOps.call (o_assign _ rfl rfl) ?_
                refine AOps.nil ?_
                refine AWP.ret ?_
                refine postQ.ret1 Tryz.results14 rfl ?_
                rw [hE]
                rfl
            · skip
              refine AHead.pass rfl rfl rfl h37 rfl ?_
              refine AHead.pass rfl rfl rfl h37 rfl ?_
              refine AHead.pass rfl rfl rfl h37 rfl ?_
              refine AHead.pass rfl rfl rfl h37 rfl ?_
              refine AHead.call (o_pickT _ _ _ rfl h37 rfl rfl) rfl ?_
              refine AHead.call (o_move _ rfl rfl) rfl ?_
              refine AHead.pass rfl rfl rfl rfl rfl ?_
              refine AHead.pass rfl rfl rfl rfl rfl ?_
              refine AHead.pass rfl rfl rfl rfl rfl ?_
              refine AHead.pass rfl rfl rfl rfl rfl ?_
              refine AHead.passU rfl rfl rfl rfl ?_
              refine AHead.passU rfl rfl rfl rfl ?_
              refine AHead.passU rfl rfl rfl rfl ?_
              refine AHead.pass rfl rfl rfl rfl rfl ?_
              refine AHead.call (o_pickT _ _ _ rfl rfl rfl rfl) rfl ?_
              refine AHead.call (o_move _ rfl rfl) rfl ?_
              refine AHead.pass rfl rfl rfl rfl rfl ?_
              refine AHead.pass rfl rfl rfl rfl rfl ?_
              refine AHead.pass rfl rfl rfl rfl rfl ?_
              refine AHead.passU rfl rfl rfl rfl ?_
              refine AHead.passU rfl rfl rfl rfl ?_
              refine AHead.passU rfl rfl rfl rfl ?_
              refine AHead.passU rfl rfl rfl rfl ?_
              refine AHead.passU rfl rfl rfl rfl ?_
              refine AHead.passU rfl rfl rfl rfl ?_
              refine AHead.passU rfl rfl rfl rfl ?_
              refine AHead.passU rfl rfl rfl rfl ?_
              refine AHead.passU rfl rfl rfl rfl ?_
              refine AHead.passU rfl rfl rfl rfl ?_
              refine AHead.pass rfl rfl rfl rfl rfl ?_
              refine AHead.call (o_pickT _ _ _ rfl rfl rfl rfl) rfl ?_
              refine AHead.nil ?_
              refine AOps.nil ?_
              refine AWP.condT rfl ?_
              have hbk : (sitB r.s[k] && decide (prS r.s k < r.s[k].no)) = false := by
                cases hc : (sitB r.s[k] && decide (prS r.s k < r.s[k].no)) with
                | false => rfl
                | true =>
                  simp only [Bool.and_eq_true, decide_eq_true_eq, Bool.or_eq_true, sitB, inB] at hc
                  simp_all [AV.close, B, I, inB]
                  try omega
              have hS := okSs_bad hlt hv hbk
              have hE : okR r = false := by unfold okR; rw [hS]; simp
              refine AWP.seq ?_
              refine AWP.region ?_
              refine AOps.call (o_assign _ rfl rfl) ?_
              refine AOps.nil ?_
              refine AWP.ret ?_
              refine postQ.ret1 Tryz.results14 rfl ?_
              rw [hE]
              rfl
          · skip
            refine AHead.pass rfl rfl rfl h33 rfl ?_
            refine AHead.pass rfl rfl rfl h33 rfl ?_
            refine AHead.pass rfl rfl rfl h33 rfl ?_
            refine AHead.call (o_pickT _ _ _ rfl h33 rfl rfl) rfl ?_
            refine AHead.call (o_move _ rfl rfl) rfl ?_
            refine AHead.pass rfl rfl rfl rfl rfl ?_
            refine AHead.pass rfl rfl rfl rfl rfl ?_
            refine AHead.pass rfl rfl rfl rfl rfl ?_
            refine AHead.pass rfl rfl rfl rfl rfl ?_
            refine AHead.call (o_pickT _ _ _ rfl rfl rfl rfl) rfl ?_
            refine AHead.call (o_move _ rfl rfl) rfl ?_
            refine AHead.pass rfl rfl rfl rfl rfl ?_
            refine AHead.pass rfl rfl rfl rfl rfl ?_
            refine AHead.pass rfl rfl rfl rfl rfl ?_
            refine AHead.pass rfl rfl rfl rfl rfl ?_
            refine AHead.passU rfl rfl rfl rfl ?_
            refine AHead.passU rfl rfl rfl rfl ?_
            refine AHead.passU rfl rfl rfl rfl ?_
            refine AHead.pass rfl rfl rfl rfl rfl ?_
            refine AHead.call (o_pickT _ _ _ rfl rfl rfl rfl) rfl ?_
            refine AHead.call (o_move _ rfl rfl) rfl ?_
            refine AHead.pass rfl rfl rfl rfl rfl ?_
            refine AHead.pass rfl rfl rfl rfl rfl ?_
            refine AHead.pass rfl rfl rfl rfl rfl ?_
            refine AHead.passU rfl rfl rfl rfl ?_
            refine AHead.passU rfl rfl rfl rfl ?_
            refine AHead.passU rfl rfl rfl rfl ?_
            refine AHead.passU rfl rfl rfl rfl ?_
            refine AHead.passU rfl rfl rfl rfl ?_
            refine AHead.passU rfl rfl rfl rfl ?_
            refine AHead.passU rfl rfl rfl rfl ?_
            refine AHead.passU rfl rfl rfl rfl ?_
            refine AHead.passU rfl rfl rfl rfl ?_
            refine AHead.passU rfl rfl rfl rfl ?_
            refine AHead.pass rfl rfl rfl rfl rfl ?_
            refine AHead.call (o_pickT _ _ _ rfl rfl rfl rfl) rfl ?_
            refine AHead.nil ?_
            refine AOps.nil ?_
            refine AWP.condT rfl ?_
            have hbk : (sitB r.s[k] && decide (prS r.s k < r.s[k].no)) = false := by
              cases hc : (sitB r.s[k] && decide (prS r.s k < r.s[k].no)) with
              | false => rfl
              | true =>
                simp only [Bool.and_eq_true, decide_eq_true_eq, Bool.or_eq_true, sitB, inB] at hc
                simp_all [AV.close, B, I, inB]
                try omega
            have hS := okSs_bad hlt hv hbk
            have hE : okR r = false := by unfold okR; rw [hS]; simp
            refine AWP.seq ?_
            refine AWP.region ?_
            refine AOps.call (o_assign _ rfl rfl) ?_
            refine AOps.nil ?_
            refine AWP.ret ?_
            refine postQ.ret1 Tryz.results14 rfl ?_
            rw [hE]
            rfl
        · skip
          refine AHead.pass rfl rfl rfl h29 rfl ?_
          refine AHead.pass rfl rfl rfl h29 rfl ?_
          refine AHead.pass rfl rfl rfl h29 rfl ?_
          refine AHead.call (o_pickT _ _ _ rfl h29 rfl rfl) rfl ?_
          refine AHead.call (o_move _ rfl rfl) rfl ?_
          refine AHead.pass rfl rfl rfl rfl rfl ?_
          refine AHead.pass rfl rfl rfl rfl rfl ?_
          refine AHead.pass rfl rfl rfl rfl rfl ?_
          refine AHead.call (o_pickT _ _ _ rfl rfl rfl rfl) rfl ?_
          refine AHead.call (o_move _ rfl rfl) rfl ?_
          refine AHead.pass rfl rfl rfl rfl rfl ?_
          refine AHead.pass rfl rfl rfl rfl rfl ?_
          refine AHead.pass rfl rfl rfl rfl rfl ?_
          refine AHead.pass rfl rfl rfl rfl rfl ?_
          refine AHead.call (o_pickT _ _ _ rfl rfl rfl rfl) rfl ?_
          refine AHead.call (o_move _ rfl rfl) rfl ?_
          refine AHead.pass rfl rfl rfl rfl rfl ?_
          refine AHead.pass rfl rfl rfl rfl rfl ?_
          refine AHead.pass rfl rfl rfl rfl rfl ?_
          refine AHead.pass rfl rfl rfl rfl rfl ?_
          refine AHead.passU rfl rfl rfl rfl ?_
          refine AHead.passU rfl rfl rfl rfl ?_
          refine AHead.passU rfl rfl rfl rfl ?_
          refine AHead.pass rfl rfl rfl rfl rfl ?_
          refine AHead.call (o_pickT _ _ _ rfl rfl rfl rfl) rfl ?_
          refine AHead.call (o_move _ rfl rfl) rfl ?_
          refine AHead.pass rfl rfl rfl rfl rfl ?_
          refine AHead.pass rfl rfl rfl rfl rfl ?_
          refine AHead.pass rfl rfl rfl rfl rfl ?_
          refine AHead.passU rfl rfl rfl rfl ?_
          refine AHead.passU rfl rfl rfl rfl ?_
          refine AHead.passU rfl rfl rfl rfl ?_
          refine AHead.passU rfl rfl rfl rfl ?_
          refine AHead.passU rfl rfl rfl rfl ?_
          refine AHead.passU rfl rfl rfl rfl ?_
          refine AHead.passU rfl rfl rfl rfl ?_
          refine AHead.passU rfl rfl rfl rfl ?_
          refine AHead.passU rfl rfl rfl rfl ?_
          refine AHead.passU rfl rfl rfl rfl ?_
          refine AHead.pass rfl rfl rfl rfl rfl ?_
          refine AHead.call (o_pickT _ _ _ rfl rfl rfl rfl) rfl ?_
          refine AHead.nil ?_
          refine AOps.nil ?_
          refine AWP.condT rfl ?_
          have hbk : (sitB r.s[k] && decide (prS r.s k < r.s[k].no)) = false := by
            cases hc : (sitB r.s[k] && decide (prS r.s k < r.s[k].no)) with
            | false => rfl
            | true =>
              simp only [Bool.and_eq_true, decide_eq_true_eq, Bool.or_eq_true, sitB, inB] at hc
              simp_all [AV.close, B, I, inB]
              try omega
          have hS := okSs_bad hlt hv hbk
          have hE : okR r = false := by unfold okR; rw [hS]; simp
          refine AWP.seq ?_
          refine AWP.region ?_
          refine AOps.call (o_assign _ rfl rfl) ?_
          refine AOps.nil ?_
          refine AWP.ret ?_
          refine postQ.ret1 Tryz.results14 rfl ?_
          rw [hE]
          rfl
      · skip
        have hkl : r.s.length ≤ k := by have hq := of_decide_eq_false h19; omega
        have hS : okSs (-1) r.s = true := by rw [hv, List.drop_eq_nil_of_le hkl]; rfl
        refine AWP.exit ?_
        refine AWP.seq ?_
        refine AWP.seq ?_
        refine AWP.region ?_
        refine AOps.call (o_assign _ rfl rfl) ?_
        refine AOps.nil ?_
        refine AWP.block ?_
        refine AWP.loop (ι := Nat) (fun i => AS.mk' 120 [(1, .ref (1, 0) 0), (5, I i)] [((1, 0), eRg r)] [] [(1, 1)]) (fun i => i ≤ r.t.length ∧ okTs r.s (-1) r.t = okTs r.s (prT r.t i) (r.t.drop i)) (fun i => r.t.length - i) (0) (Weak.mk' rfl ⟨⟨.refl rfl, rfl⟩, ⟨⟨.refl rfl, rfl⟩, trivial⟩⟩ ⟨⟨rfl, rfl, rfl⟩, trivial⟩ trivial) (⟨Nat.zero_le _, rfl⟩) ?_
        rintro k ⟨hk, hv⟩
        try dsimp only at *
        refine AWP.seq ?_
        refine AWP.seq ?_
        refine AWP.region ?_
        refine AOps.call (o_move _ rfl rfl) ?_
        refine AOps.call (o_fieldRef _ rfl fa25_1 rfl rfl) ?_
        refine AOps.call (o_loadRef _ rfl rfl Tryz.sizeOf23 Tryz.isAgg23 rfl rfl rfl) ?_
        refine AOps.call (o_len _ Tryz.underlying23 rfl rfl) ?_
        refine AOps.call (o_bin _ _ rfl rfl (fun _ => rfl) rfl) ?_
        refine AOps.nil ?_
        refine AWP.cond _ rfl (fun h91 => ?_) (fun h91 => ?_)
        · skip
          have hlt : k < r.t.length := by have hq := of_decide_eq_true h91; omega
          have hel := trs_at hlt
          have hpv : (k : Int) > 0 → ∃ j : Nat, ∃ hj : j < r.t.length, ((k : Int) - 1).toNat = j ∧ (trs r.t)[((k : Int) - 1).toNat]? = some (eTr r.t[j]) ∧ prT r.t k = r.t[j].no := fun h => by
            obtain ⟨j, rfl⟩ : ∃ j, k = j + 1 := ⟨k - 1, by omega⟩
            have e : (((j + 1 : Nat) : Int) - 1).toNat = j := by omega
            exact ⟨j, by omega, e, by rw [e]; exact trs_at (by omega), prT_s (by omega)⟩
          have hp0 : ¬ (k : Int) > 0 → prT r.t k = -1 := fun h => by
            obtain rfl : k = 0 := by omega
            rfl
          refine AWP.skip ?_
          refine AWP.seq ?_
          refine AWP.block ?_
          refine AWP.seq ?_
          refine AWP.region ?_
          refine AOps.call (o_fieldRef _ rfl fa25_1 rfl rfl) ?_
          refine AOps.call (o_loadRef _ rfl rfl Tryz.sizeOf23 Tryz.isAgg23 rfl rfl rfl) ?_
          refine AOps.call (o_move _ rfl rfl) ?_
          refine AOps.call (o_index _ _ Tryz.underlying23 Tryz.sizeOf74 rfl rfl (by omega) (by assumption) rfl rfl) ?_
          refine AOps.call (o_loadRd _ rfl Tryz.sizeOf74 Tryz.isAgg74 rfl rfl rfl) ?_
          refine AOps.call (o_alloc ze74 rfl rfl) ?_
          refine AOps.cons (o_store _ _ rfl rfl Tryz.sizeOf74 rfl rfl rfl rfl rfl) ?_
          refine AOps.nil ?_
          refine AWP.seq ?_
          refine AWP.drawn 33 mixed (by kernel_rfl) ?_
          refine AHead.call (o_loadRef _ rfl rfl Tryz.sizeOf74 Tryz.isAgg74 rfl rfl rfl) rfl ?_
          refine AHead.call (o_call (validTrack_s _) Tryz.call36 rfl rfl) rfl ?_
          refine AHead.call (o_un _ rfl (fun _ => rfl) rfl) rfl ?_
          refine AHead.call (o_move _ rfl rfl) rfl ?_
          refine AHead.split rfl rfl rfl (fun h100 => ?_) (fun h100 => ?_)
          · skip
            refine AHead.go rfl rfl rfl h100 (o_loadRef _ rfl rfl Tryz.sizeOf25 Tryz.isAgg25 rfl rfl rfl) rfl ?_
            refine AHead.go rfl rfl rfl h100 (o_fieldRef _ rfl fa74_1 rfl rfl) rfl ?_
            refine AHead.go rfl rfl rfl h100 (o_loadRef _ rfl rfl Tryz.sizeOf3 Tryz.isAgg3 rfl rfl rfl) rfl ?_
            refine AHead.go rfl rfl rfl h100 (o_call (PlaceC_s r _ (by omega)) Tryz.call37 rfl rfl) rfl ?_
            refine AHead.go rfl rfl rfl h100 (o_bin _ _ rfl rfl (fun _ => rfl) rfl) rfl ?_
            refine AHead.call (o_pickF _ _ _ rfl h100 rfl rfl) rfl ?_
            refine AHead.call (o_move _ rfl rfl) rfl ?_
            refine AHead.split rfl rfl rfl (fun h106 => ?_) (fun h106 => ?_)
            · skip
              refine AHead.go rfl rfl rfl h106 (o_loadRef _ rfl rfl Tryz.sizeOf25 Tryz.isAgg25 rfl rfl rfl) rfl ?_
              refine AHead.go rfl rfl rfl h106 (o_fieldRef _ rfl fa74_2 rfl rfl) rfl ?_
              refine AHead.go rfl rfl rfl h106 (o_loadRef _ rfl rfl Tryz.sizeOf3 Tryz.isAgg3 rfl rfl rfl) rfl ?_
              refine AHead.go rfl rfl rfl h106 (o_call (PlaceC_s r _ (by omega)) Tryz.call37 rfl rfl) rfl ?_
              refine AHead.go rfl rfl rfl h106 (o_bin _ _ rfl rfl (fun _ => rfl) rfl) rfl ?_
              refine AHead.call (o_pickF _ _ _ rfl h106 rfl rfl) rfl ?_
              refine AHead.call (o_move _ rfl rfl) rfl ?_
              refine AHead.split rfl rfl rfl (fun h112 => ?_) (fun h112 => ?_)
              · skip
                refine AHead.go rfl rfl rfl h112 (o_move _ rfl rfl) rfl ?_
                refine AHead.go rfl rfl rfl h112 (o_bin _ _ rfl rfl (fun _ => rfl) rfl) rfl ?_
                refine AHead.go rfl rfl rfl h112 (o_move _ rfl rfl) rfl ?_
                refine AHead.split rfl rfl rfl (fun h114 => ?_) (fun h114 => ?_)
                · skip
                  have hk0 := of_decide_eq_true h114
                  obtain ⟨j, hj, hj1, hj2, hj3⟩ := hpv hk0
                  refine AHead.go rfl rfl rfl h114 (o_fieldRef _ rfl fa25_1 rfl rfl) rfl ?_
                  refine AHead.go rfl rfl rfl h114 (o_loadRef _ rfl rfl Tryz.sizeOf23 Tryz.isAgg23 rfl rfl rfl) rfl ?_
                  refine AHead.go rfl rfl rfl h114 (o_move _ rfl rfl) rfl ?_
                  refine AHead.go rfl rfl rfl h114 (o_sub _ _ rfl rfl ⟨by (try dsimp only); omega, by (try dsimp only); omega⟩ rfl) rfl ?_
                  refine AHead.go rfl rfl rfl h114 (o_index _ _ Tryz.underlying23 Tryz.sizeOf74 rfl rfl (by omega) hj2 rfl rfl) rfl ?_
                  refine AHead.go rfl rfl rfl h114 (o_fieldRd _ rfl fa74_0 rfl) rfl ?_
                  refine AHead.go rfl rfl rfl h114 (o_loadRd _ rfl Tryz.sizeOf3 Tryz.isAgg3 rfl rfl rfl) rfl ?_
                  refine AHead.go rfl rfl rfl h114 (o_fieldRef _ rfl fa74_0 rfl rfl) rfl ?_
                  refine AHead.go rfl rfl rfl h114 (o_loadRef _ rfl rfl Tryz.sizeOf3 Tryz.isAgg3 rfl rfl rfl) rfl ?_
                  refine AHead.go rfl rfl rfl h114 (o_bin _ _ rfl rfl (fun _ => rfl) rfl) rfl ?_
                  refine AHead.go rfl rfl rfl h112 (o_pickT _ _ _ rfl h114 rfl rfl) rfl ?_
                  refine AHead.call (o_pickF _ _ _ rfl h112 rfl rfl) rfl ?_
                  refine AHead.nil ?_
                  refine AOps.nil ?_
                  refine AWP.cond _ rfl (fun h124 => ?_) (fun h124 => ?_)
                  · skip
                    have hbk : (trkS r.s r.t[k] && decide (prT r.t k < r.t[k].no)) = false := by
                      cases hc : (trkS r.s r.t[k] && decide (prT r.t k < r.t[k].no)) with
                      | false => rfl
                      | true =>
                        simp only [Bool.and_eq_true, decide_eq_true_eq, trkS] at hc
                        simp_all [AV.close, B, I, plc_no, plc_yes]
                        try omega
                    have hT := okTs_bad hlt hv hbk
                    have hE : okR r = false := by unfold okR; rw [hT]; simp
                    refine AWP.seq ?_
                    refine AWP.region ?_
                    refine AOps.call (o_assign _ rfl rfl) ?_
                    refine AOps.nil ?_
                    refine AWP.ret ?_
                    refine postQ.ret1 Tryz.results14 rfl ?_
                    rw [hE]
                    rfl
                  · skip
                    have hbk : (trkS r.s r.t[k] && decide (prT r.t k < r.t[k].no)) = true := by
                      simp only [Bool.and_eq_true, decide_eq_true_eq, trkS]
                      simp_all [AV.close, B, I, plc_no, plc_yes]
                      try (first | omega | exact trk_lo (by assumption))
                    refine AWP.skip ?_
                    refine AWP.region ?_
                    refine AOps.call (o_move _ rfl rfl) ?_
                    refine AOps.call (o_add _ _ rfl rfl ⟨by (try dsimp only); omega, by (try dsimp only); omega⟩ rfl) ?_
                    refine AOps.call (o_assign _ rfl rfl) ?_
                    refine AOps.nil ?_
                    refine ⟨k + 1, ?_, (Weak.mk' rfl ⟨⟨.refl rfl, rfl⟩, ⟨⟨.refl rfl, rfl⟩, trivial⟩⟩ ⟨⟨rfl, rfl, rfl⟩, trivial⟩ trivial)⟩
                    exact ⟨⟨by omega, okTs_go hlt hv hbk⟩, by omega⟩
                · skip
                  have hk0 := hp0 (of_decide_eq_false h114)
                  refine AHead.pass rfl rfl rfl h114 rfl ?_
                  refine AHead.pass rfl rfl rfl h114 rfl ?_
                  refine AHead.pass rfl rfl rfl h114 rfl ?_
                  refine AHead.pass rfl rfl rfl h114 rfl ?_
                  refine AHead.pass rfl rfl rfl h114 rfl ?_
                  refine AHead.pass rfl rfl rfl h114 rfl ?_
                  refine AHead.pass rfl rfl rfl h114 rfl ?_
                  refine AHead.pass rfl rfl rfl h114 rfl ?_
                  refine AHead.pass rfl rfl rfl h114 rfl ?_
                  refine AHead.pass rfl rfl rfl h114 rfl ?_
                  refine AHead.go rfl rfl rfl h112 (o_pickF _ _ _ rfl h114 rfl rfl) rfl ?_
                  refine AHead.call (o_pickF _ _ _ rfl h112 rfl rfl) rfl ?_
                  refine AHead.nil ?_
                  refine AOps.nil ?_
                  refine AWP.condF rfl ?_
                  have hbk : (trkS r.s r.t[k] && decide (prT r.t k < r.t[k].no)) = true := by
                    simp only [Bool.and_eq_true, decide_eq_true_eq, trkS]
                    simp_all [AV.close, B, I, plc_no, plc_yes]
                    try (first | omega | exact trk_lo (by assumption))
                  refine AWP.skip ?_
                  refine AWP.region ?_
                  refine AOps.call (o_move _ rfl rfl) ?_
                  refine AOps.call (o_add _ _ rfl rfl ⟨by (try dsimp only); omega, by (try dsimp only); omega⟩ rfl) ?_
                  refine AOps.call (o_assign _ rfl rfl) ?_
                  refine AOps.nil ?_
                  refine ⟨k + 1, ?_, (Weak.mk' rfl ⟨⟨.refl rfl, rfl⟩, ⟨⟨.refl rfl, rfl⟩, trivial⟩⟩ ⟨⟨rfl, rfl, rfl⟩, trivial⟩ trivial)⟩
                  exact ⟨⟨by omega, okTs_go hlt hv hbk⟩, by omega⟩
              · skip
                refine AHead.pass rfl rfl rfl h112 rfl ?_
                refine AHead.pass rfl rfl rfl h112 rfl ?_
                refine AHead.pass rfl rfl rfl h112 rfl ?_
                refine AHead.passU rfl rfl rfl rfl ?_
                refine AHead.passU rfl rfl rfl rfl ?_
                refine AHead.passU rfl rfl rfl rfl ?_
                refine AHead.passU rfl rfl rfl rfl ?_
                refine AHead.passU rfl rfl rfl rfl ?_
                refine AHead.passU rfl rfl rfl rfl ?_
                refine AHead.passU rfl rfl rfl rfl ?_
                refine AHead.passU rfl rfl rfl rfl ?_
                refine AHead.passU rfl rfl rfl rfl ?_
                refine AHead.passU rfl rfl rfl rfl ?_
                refine AHead.pass rfl rfl rfl h112 rfl ?_
                refine AHead.call (o_pickT _ _ _ rfl h112 rfl rfl) rfl ?_
                refine AHead.nil ?_
                refine AOps.nil ?_
                refine AWP.condT rfl ?_
                have hbk : (trkS r.s r.t[k] && decide (prT r.t k < r.t[k].no)) = false := by
                  cases hc : (trkS r.s r.t[k] && decide (prT r.t k < r.t[k].no)) with
                  | false => rfl
                  | true =>
                    simp only [Bool.and_eq_true, decide_eq_true_eq, trkS] at hc
                    simp_all [AV.close, B, I, plc_no, plc_yes]
                    try omega
                have hT := okTs_bad hlt hv hbk
                have hE : okR r = false := by unfold okR; rw [hT]; simp
                refine AWP.seq ?_
                refine AWP.region ?_
                refine AOps.call (o_assign _ rfl rfl) ?_
                refine AOps.nil ?_
                refine AWP.ret ?_
                refine postQ.ret1 Tryz.results14 rfl ?_
                rw [hE]
                rfl
            · skip
              refine AHead.pass rfl rfl rfl h106 rfl ?_
              refine AHead.pass rfl rfl rfl h106 rfl ?_
              refine AHead.pass rfl rfl rfl h106 rfl ?_
              refine AHead.pass rfl rfl rfl h106 rfl ?_
              refine AHead.pass rfl rfl rfl h106 rfl ?_
              refine AHead.call (o_pickT _ _ _ rfl h106 rfl rfl) rfl ?_
              refine AHead.call (o_move _ rfl rfl) rfl ?_
              refine AHead.pass rfl rfl rfl rfl rfl ?_
              refine AHead.pass rfl rfl rfl rfl rfl ?_
              refine AHead.pass rfl rfl rfl rfl rfl ?_
              refine AHead.passU rfl rfl rfl rfl ?_
              refine AHead.passU rfl rfl rfl rfl ?_
              refine AHead.passU rfl rfl rfl rfl ?_
              refine AHead.passU rfl rfl rfl rfl ?_
              refine AHead.passU rfl rfl rfl rfl ?_
              refine AHead.passU rfl rfl rfl rfl ?_
              refine AHead.passU rfl rfl rfl rfl ?_
              refine AHead.passU rfl rfl rfl rfl ?_
              refine AHead.passU rfl rfl rfl rfl ?_
              refine AHead.passU rfl rfl rfl rfl ?_
              refine AHead.pass rfl rfl rfl rfl rfl ?_
              refine AHead.call (o_pickT _ _ _ rfl rfl rfl rfl) rfl ?_
              refine AHead.nil ?_
              refine AOps.nil ?_
              refine AWP.condT rfl ?_
              have hbk : (trkS r.s r.t[k] && decide (prT r.t k < r.t[k].no)) = false := by
                cases hc : (trkS r.s r.t[k] && decide (prT r.t k < r.t[k].no)) with
                | false => rfl
                | true =>
                  simp only [Bool.and_eq_true, decide_eq_true_eq, trkS] at hc
                  simp_all [AV.close, B, I, plc_no, plc_yes]
                  try omega
              have hT := okTs_bad hlt hv hbk
              have hE : okR r = false := by unfold okR; rw [hT]; simp
              refine AWP.seq ?_
              refine AWP.region ?_
              refine AOps.call (o_assign _ rfl rfl) ?_
              refine AOps.nil ?_
              refine AWP.ret ?_
              refine postQ.ret1 Tryz.results14 rfl ?_
              rw [hE]
              rfl
          · skip
            refine AHead.pass rfl rfl rfl h100 rfl ?_
            refine AHead.pass rfl rfl rfl h100 rfl ?_
            refine AHead.pass rfl rfl rfl h100 rfl ?_
            refine AHead.pass rfl rfl rfl h100 rfl ?_
            refine AHead.pass rfl rfl rfl h100 rfl ?_
            refine AHead.call (o_pickT _ _ _ rfl h100 rfl rfl) rfl ?_
            refine AHead.call (o_move _ rfl rfl) rfl ?_
            refine AHead.pass rfl rfl rfl rfl rfl ?_
            refine AHead.pass rfl rfl rfl rfl rfl ?_
            refine AHead.pass rfl rfl rfl rfl rfl ?_
            refine AHead.pass rfl rfl rfl rfl rfl ?_
            refine AHead.pass rfl rfl rfl rfl rfl ?_
            refine AHead.call (o_pickT _ _ _ rfl rfl rfl rfl) rfl ?_
            refine AHead.call (o_move _ rfl rfl) rfl ?_
            refine AHead.pass rfl rfl rfl rfl rfl ?_
            refine AHead.pass rfl rfl rfl rfl rfl ?_
            refine AHead.pass rfl rfl rfl rfl rfl ?_
            refine AHead.passU rfl rfl rfl rfl ?_
            refine AHead.passU rfl rfl rfl rfl ?_
            refine AHead.passU rfl rfl rfl rfl ?_
            refine AHead.passU rfl rfl rfl rfl ?_
            refine AHead.passU rfl rfl rfl rfl ?_
            refine AHead.passU rfl rfl rfl rfl ?_
            refine AHead.passU rfl rfl rfl rfl ?_
            refine AHead.passU rfl rfl rfl rfl ?_
            refine AHead.passU rfl rfl rfl rfl ?_
            refine AHead.passU rfl rfl rfl rfl ?_
            refine AHead.pass rfl rfl rfl rfl rfl ?_
            refine AHead.call (o_pickT _ _ _ rfl rfl rfl rfl) rfl ?_
            refine AHead.nil ?_
            refine AOps.nil ?_
            refine AWP.condT rfl ?_
            have hbk : (trkS r.s r.t[k] && decide (prT r.t k < r.t[k].no)) = false := by
              cases hc : (trkS r.s r.t[k] && decide (prT r.t k < r.t[k].no)) with
              | false => rfl
              | true =>
                simp only [Bool.and_eq_true, decide_eq_true_eq, trkS] at hc
                simp_all [AV.close, B, I, plc_no, plc_yes]
                try omega
            have hT := okTs_bad hlt hv hbk
            have hE : okR r = false := by unfold okR; rw [hT]; simp
            refine AWP.seq ?_
            refine AWP.region ?_
            refine AOps.call (o_assign _ rfl rfl) ?_
            refine AOps.nil ?_
            refine AWP.ret ?_
            refine postQ.ret1 Tryz.results14 rfl ?_
            rw [hE]
            rfl
        · skip
          have hkl : r.t.length ≤ k := by have hq := of_decide_eq_false h91; omega
          have hT : okTs r.s (-1) r.t = true := by rw [hv, List.drop_eq_nil_of_le hkl]; rfl
          have hE : okR r = true := by unfold okR; rw [hS, hT, decide_eq_true h16.1, decide_eq_true h16.2]; rfl
          refine AWP.exit ?_
          refine AWP.seq ?_
          refine AWP.region ?_
          refine AOps.call (o_assign _ rfl rfl) ?_
          refine AOps.nil ?_
          refine AWP.ret ?_
          refine postQ.ret1 Tryz.results14 rfl ?_
          rw [hE]
          rfl
  · skip
    refine AOps.pass rfl rfl rfl h7 rfl ?_
    refine AOps.pass rfl rfl rfl h7 rfl ?_
    refine AOps.pass rfl rfl rfl h7 rfl ?_
    refine AOps.pass rfl rfl rfl h7 rfl ?_
    refine AOps.call (o_pickT _ _ _ rfl h7 rfl rfl) ?_
    refine AOps.nil ?_
    refine AWP.condT rfl ?_
    have hE : okR r = false := by
      cases hc : okR r with
      | false => rfl
      | true =>
        simp only [okR, Bool.and_eq_true, decide_eq_true_eq] at hc
        simp_all [AV.close, B, I]
        try omega
    refine AWP.seq ?_
    refine AWP.region ?_
    refine AOps.call (o_assign _ rfl rfl) ?_
    refine AOps.nil ?_
    refine AWP.ret ?_
    refine postQ.ret1 Tryz.results14 rfl ?_
    rw [hE]
    rfl

end Go.Proofs.YtnnohkbgjdmjdaaGreat

