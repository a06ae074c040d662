/- Y1. -/
import Derived.Test.YtelenedgaoglaaaGreatDoorRA
import Derived.Test.YtelenedgaoglaaaGreatDoorMA
set_option linter.unusedSimpArgs false
set_option linter.unusedVariables false
namespace Go.Proofs.YtelenedgaoglaaaGreatDoor
open Go.Ab
open Go.Pil Go.RowKit
def inB (n a b : Int) : Bool := decide (a ≤ n) && decide (n ≤ b)
theorem inB_iff {n a b : Int} : inB n a b = true ↔ a ≤ n ∧ n ≤ b := by simp [inB]
set_option maxRecDepth 20000 in
theorem within_s (n a b : Int) : FSpec Tryz.prog 59 [I n, I a, I b] (B (inB n a b)) (none) := by
  refine FSpec.of_body Tryz.func59 rfl (leB rfl) fun w0 M0 => ?_
  refine AWP.seq ?_
  refine AWP.region ?_
  refine AOps.call (o_assign _ rfl rfl) ?_
  refine AOps.nil ?_
  refine AWP.seq ?_
  refine AWP.region ?_
  refine AOps.call (o_move _ rfl rfl) ?_
  refine AOps.call (o_move _ rfl rfl) ?_
  refine AOps.call (o_bin _ _ rfl rfl (fun _ => rfl) rfl) ?_
  refine AOps.call (o_move _ rfl rfl) ?_
  refine AOps.split rfl rfl rfl (fun h4 => ?_) (fun h4 => ?_)
  · skip
    refine AOps.go rfl rfl rfl h4 (o_move _ rfl rfl) ?_
    refine AOps.go rfl rfl rfl h4 (o_move _ rfl rfl) ?_
    refine AOps.go rfl rfl rfl h4 (o_bin _ _ rfl rfl (fun _ => rfl) rfl) ?_
    refine AOps.call (o_pickT _ _ _ rfl h4 rfl rfl) ?_
    refine AOps.call (o_assign _ rfl rfl) ?_
    refine AOps.nil ?_
    refine AWP.ret ?_
    refine postQ.ret1 Tryz.results59 rfl ?_
    unfold inB
    simp_all [AV.close, B, I]
    try (intros; omega)
  · skip
    refine AOps.pass rfl rfl rfl h4 rfl ?_
    refine AOps.pass rfl rfl rfl h4 rfl ?_
    refine AOps.pass rfl rfl rfl h4 rfl ?_
    refine AOps.call (o_pickF _ _ _ rfl h4 rfl rfl) ?_
    refine AOps.call (o_assign _ rfl rfl) ?_
    refine AOps.nil ?_
    refine AWP.ret ?_
    refine postQ.ret1 Tryz.results59 rfl ?_
    unfold inB
    simp_all [AV.close, B, I]
    try (intros; omega)
def hdC (p : Plw) : Bool := inB p.no 0 4095 && inB p.cell 0 4095 && inB p.noise 0 65536 && inB p.slab 0 65536 && inB p.jump 0 65536 && inB p.faults 0 32 && decide (p.log.length ≤ 32)
theorem logE_hdC (p : Plw) : logE p = if hdC p = true ∧ logB (-1) p.log = true then 0 else 30 := by
  unfold logE okP hdC
  simp only [Bool.and_eq_true, inB_iff, noB_iff, watB_iff, decide_eq_true_eq]
  congr 1
  simp only [eq_iff_iff]
  constructor
  · rintro ⟨⟨⟨⟨⟨⟨⟨⟨h1, h2⟩, h3⟩, h4⟩, h5⟩, h6⟩, h7⟩, h8⟩, h9⟩
    exact ⟨⟨⟨⟨⟨⟨⟨h1, h2⟩, h6⟩, h7⟩, h8⟩, ⟨h3, h4⟩⟩, h5⟩, h9⟩
  · rintro ⟨⟨⟨⟨⟨⟨⟨h1, h2⟩, h6⟩, h7⟩, h8⟩, ⟨h3, h4⟩⟩, h5⟩, h9⟩
    exact ⟨⟨⟨⟨⟨⟨⟨⟨h1, h2⟩, h3⟩, h4⟩, h5⟩, h6⟩, h7⟩, h8⟩, h9⟩
set_option maxHeartbeats 4000000 in
set_option maxRecDepth 20000 in
theorem CheckR_s (p : Plw) : FSpec Tryz.prog 18 [.agg (eP p)] (I (logE p)) (none) := by
  refine FSpec.of_body Tryz.func18 rfl (leB rfl) fun w0 M0 => ?_
  have hpl := shws_len p.log
  refine AWP.seq ?_
  refine AWP.region ?_
  refine AOps.call (o_box _ rfl rfl rfl) ?_
  refine AOps.call (o_assign _ rfl rfl) ?_
  refine AOps.nil ?_
  refine AWP.seq ?_
  refine AWP.seq ?_
  refine AWP.region ?_
  refine AOps.call (o_fieldRef _ rfl fa24_0 rfl rfl) ?_
  refine AOps.call (o_loadRef _ rfl rfl Tryz.sizeOf3 Tryz.isAgg3 rfl rfl rfl) ?_
  refine AOps.call (o_call (within_s _ _ _) Tryz.call59 rfl rfl) ?_
  refine AOps.call (o_un _ rfl (fun _ => rfl) rfl) ?_
  refine AOps.call (o_move _ rfl rfl) ?_
  refine AOps.split rfl rfl rfl (fun h7 => ?_) (fun h7 => ?_)
  · skip
    refine AOps.go rfl rfl rfl h7 (o_fieldRef _ rfl fa24_1 rfl rfl) ?_
    refine AOps.go rfl rfl rfl h7 (o_loadRef _ rfl rfl Tryz.sizeOf3 Tryz.isAgg3 rfl rfl rfl) ?_
    refine AOps.go rfl rfl rfl h7 (o_call (within_s _ _ _) Tryz.call59 rfl rfl) ?_
    refine AOps.go rfl rfl rfl h7 (o_un _ rfl (fun _ => rfl) rfl) ?_
    refine AOps.call (o_pickF _ _ _ rfl h7 rfl rfl) ?_
    refine AOps.call (o_move _ rfl rfl) ?_
    refine AOps.split rfl rfl rfl (fun h12 => ?_) (fun h12 => ?_)
    · skip
      refine AOps.go rfl rfl rfl h12 (o_fieldRef _ rfl fa24_2 rfl rfl) ?_
      refine AOps.go rfl rfl rfl h12 (o_loadRef _ rfl rfl Tryz.sizeOf3 Tryz.isAgg3 rfl rfl rfl) ?_
      refine AOps.go rfl rfl rfl h12 (o_call (within_s _ _ _) Tryz.call59 rfl rfl) ?_
      refine AOps.go rfl rfl rfl h12 (o_un _ rfl (fun _ => rfl) rfl) ?_
      refine AOps.call (o_pickF _ _ _ rfl h12 rfl rfl) ?_
      refine AOps.call (o_move _ rfl rfl) ?_
      refine AOps.split rfl rfl rfl (fun h17 => ?_) (fun h17 => ?_)
      · skip
        refine AOps.go rfl rfl rfl h17 (o_fieldRef _ rfl fa24_3 rfl rfl) ?_
        refine AOps.go rfl rfl rfl h17 (o_loadRef _ rfl rfl Tryz.sizeOf3 Tryz.isAgg3 rfl rfl rfl) ?_
        refine AOps.go rfl rfl rfl h17 (o_call (within_s _ _ _) Tryz.call59 rfl rfl) ?_
        refine AOps.go rfl rfl rfl h17 (o_un _ rfl (fun _ => rfl) rfl) ?_
        refine AOps.call (o_pickF _ _ _ rfl h17 rfl rfl) ?_
        refine AOps.call (o_move _ rfl rfl) ?_
        refine AOps.split rfl rfl rfl (fun h22 => ?_) (fun h22 => ?_)
        · skip
          refine AOps.go rfl rfl rfl h22 (o_fieldRef _ rfl fa24_4 rfl rfl) ?_
          refine AOps.go rfl rfl rfl h22 (o_loadRef _ rfl rfl Tryz.sizeOf3 Tryz.isAgg3 rfl rfl rfl) ?_
          refine AOps.go rfl rfl rfl h22 (o_call (within_s _ _ _) Tryz.call59 rfl rfl) ?_
          refine AOps.go rfl rfl rfl h22 (o_un _ rfl (fun _ => rfl) rfl) ?_
          refine AOps.call (o_pickF _ _ _ rfl h22 rfl rfl) ?_
          refine AOps.call (o_move _ rfl rfl) ?_
          refine AOps.split rfl rfl rfl (fun h27 => ?_) (fun h27 => ?_)
          · skip
            refine AOps.go rfl rfl rfl h27 (o_fieldRef _ rfl fa24_5 rfl rfl) ?_
            refine AOps.go rfl rfl rfl h27 (o_loadRef _ rfl rfl Tryz.sizeOf3 Tryz.isAgg3 rfl rfl rfl) ?_
            refine AOps.go rfl rfl rfl h27 (o_call (within_s _ _ _) Tryz.call59 rfl rfl) ?_
            refine AOps.go rfl rfl rfl h27 (o_un _ rfl (fun _ => rfl) rfl) ?_
            refine AOps.call (o_pickF _ _ _ rfl h27 rfl rfl) ?_
            refine AOps.call (o_move _ rfl rfl) ?_
            refine AOps.split rfl rfl rfl (fun h32 => ?_) (fun h32 => ?_)
            · skip
              refine AOps.go rfl rfl rfl h32 (o_fieldRef _ rfl fa24_6 rfl rfl) ?_
              refine AOps.go rfl rfl rfl h32 (o_loadRef _ rfl rfl Tryz.sizeOf22 Tryz.isAgg22 rfl rfl rfl) ?_
              refine AOps.go rfl rfl rfl h32 (o_len _ Tryz.underlying22 rfl rfl) ?_
              refine AOps.go rfl rfl rfl h32 (o_bin _ _ rfl rfl (fun _ => rfl) rfl) ?_
              refine AOps.call (o_pickF _ _ _ rfl h32 rfl rfl) ?_
              refine AOps.nil ?_
              refine AWP.cond _ rfl (fun h37 => ?_) (fun h37 => ?_)
              · skip
                have hh : hdC p = false := by
                  cases hc : hdC p with
                  | false => rfl
                  | true =>
                    simp only [hdC, inB, Bool.and_eq_true, decide_eq_true_eq] at hc
                    simp_all [AV.close, B, I, inB]
                    try omega
                refine AWP.seq ?_
                refine AWP.region ?_
                refine AOps.call (o_assign _ rfl rfl) ?_
                refine AOps.nil ?_
                refine AWP.ret ?_
                refine postQ.ret1 Tryz.results18 rfl ?_
                rw [logE_hdC]
                simp_all [I, AV.close]
              · skip
                have hh : hdC p = true := by
                  simp only [hdC, inB, Bool.and_eq_true, decide_eq_true_eq]
                  simp_all [AV.close, B, I, inB]
                  try omega
                have h32 : p.log.length ≤ 32 := by
                  have hh2 := hh
                  simp only [hdC, Bool.and_eq_true, decide_eq_true_eq] at hh2
                  exact hh2.2
                refine AWP.skip ?_
                refine AWP.seq ?_
                refine AWP.seq ?_
                refine AWP.region ?_
                refine AOps.call (o_assign _ rfl rfl) ?_
                refine AOps.nil ?_
                refine AWP.block ?_
                refine AWP.loop (ι := Nat) (fun i => AS.mk' 83 [(1, .ref (1, 0) 0), (3, I i)] [((1, 0), eP p)] [] [(1, 1)]) (fun i => i ≤ p.log.length ∧ logB (-1) p.log = logB (ah p.log i) (p.log.drop i) ∧ -1 ≤ ah p.log i) (fun i => p.log.length - i) (0) (Weak.mk' rfl ⟨⟨.refl rfl, rfl⟩, ⟨⟨.refl rfl, rfl⟩, trivial⟩⟩ ⟨⟨rfl, rfl, rfl⟩, trivial⟩ trivial) (⟨Nat.zero_le _, rfl, Int.le_refl _⟩) ?_
                rintro k ⟨hk, hv, hge⟩
                try dsimp only at *
                refine AWP.seq ?_
                refine AWP.seq ?_
                refine AWP.region ?_
                refine AOps.call (o_move _ rfl rfl) ?_
                refine AOps.call (o_fieldRef _ rfl fa24_6 rfl rfl) ?_
                refine AOps.call (o_loadRef _ rfl rfl Tryz.sizeOf22 Tryz.isAgg22 rfl rfl rfl) ?_
                refine AOps.call (o_len _ Tryz.underlying22 rfl rfl) ?_
                refine AOps.call (o_bin _ _ rfl rfl (fun _ => rfl) rfl) ?_
                refine AOps.nil ?_
                refine AWP.cond _ rfl (fun h44 => ?_) (fun h44 => ?_)
                · skip
                  have hlt : k < p.log.length := by simpa [shws] using h44
                  have hel := shws_at hlt
                  refine AWP.skip ?_
                  refine AWP.seq ?_
                  refine AWP.block ?_
                  refine AWP.seq ?_
                  refine AWP.region ?_
                  refine AOps.call (o_fieldRef _ rfl fa24_6 rfl rfl) ?_
                  refine AOps.call (o_loadRef _ rfl rfl Tryz.sizeOf22 Tryz.isAgg22 rfl rfl rfl) ?_
                  refine AOps.call (o_move _ rfl rfl) ?_
                  refine AOps.call (o_index _ _ Tryz.underlying22 Tryz.sizeOf27 rfl rfl (by omega) hel rfl rfl) ?_
                  refine AOps.call (o_loadRd _ rfl Tryz.sizeOf27 Tryz.isAgg27 rfl rfl rfl) ?_
                  refine AOps.call (o_alloc ze27 rfl rfl) ?_
                  refine AOps.cons (o_store _ _ rfl rfl Tryz.sizeOf27 rfl rfl rfl rfl rfl) ?_
                  refine AOps.nil ?_
                  refine AWP.seq ?_
                  refine AWP.drawn 26 mixed (by kernel_rfl) ?_
                  refine AHead.call (o_fieldRef _ rfl fa27_0 rfl rfl) rfl ?_
                  refine AHead.call (o_loadRef _ rfl rfl Tryz.sizeOf3 Tryz.isAgg3 rfl rfl rfl) rfl ?_
                  refine AHead.call (o_call (within_s _ _ _) Tryz.call59 rfl rfl) rfl ?_
                  refine AHead.call (o_un _ rfl (fun _ => rfl) rfl) rfl ?_
                  refine AHead.call (o_move _ rfl rfl) rfl ?_
                  refine AHead.split rfl rfl rfl (fun h54 => ?_) (fun h54 => ?_)
                  · skip
                    refine AHead.go rfl rfl rfl h54 (o_fieldRef _ rfl fa27_1 rfl rfl) rfl ?_
                    refine AHead.go rfl rfl rfl h54 (o_loadRef _ rfl rfl Tryz.sizeOf3 Tryz.isAgg3 rfl rfl rfl) rfl ?_
                    refine AHead.go rfl rfl rfl h54 (o_call (within_s _ _ _) Tryz.call59 rfl rfl) rfl ?_
                    refine AHead.go rfl rfl rfl h54 (o_un _ rfl (fun _ => rfl) rfl) rfl ?_
                    refine AHead.call (o_pickF _ _ _ rfl h54 rfl rfl) rfl ?_
                    refine AHead.call (o_move _ rfl rfl) rfl ?_
                    refine AHead.split rfl rfl rfl (fun h59 => ?_) (fun h59 => ?_)
                    · skip
                      refine AHead.go rfl rfl rfl h59 (o_move _ rfl rfl) rfl ?_
                      refine AHead.go rfl rfl rfl h59 (o_bin _ _ rfl rfl (fun _ => rfl) rfl) rfl ?_
                      refine AHead.go rfl rfl rfl h59 (o_move _ rfl rfl) rfl ?_
                      refine AHead.split rfl rfl rfl (fun h61 => ?_) (fun h61 => ?_)
                      · skip
                        have hk0 : 0 < k := by have := of_decide_eq_true h61; omega
                        have hah : ah p.log k = (p.log.getD (k - 1) ⟨0, 0⟩).day := if_neg (by omega)
                        have hel1 : (shws p.log)[(((k : Nat) : Int) - 1).toNat]? = some (eW (p.log.getD (k - 1) ⟨0, 0⟩)) := by
                          rw [show (((k : Nat) : Int) - 1).toNat = k - 1 by omega]
                          simp [shws, show k - 1 < p.log.length by omega]
                        generalize hq : p.log.getD (k - 1) ⟨0, 0⟩ = qq at hah hel1
                        refine AHead.go rfl rfl rfl h61 (o_fieldRef _ rfl fa24_6 rfl rfl) rfl ?_
                        refine AHead.go rfl rfl rfl h61 (o_loadRef _ rfl rfl Tryz.sizeOf22 Tryz.isAgg22 rfl rfl rfl) rfl ?_
                        refine AHead.go rfl rfl rfl h61 (o_move _ rfl rfl) rfl ?_
                        refine AHead.go rfl rfl rfl h61 (o_sub _ _ rfl rfl ⟨by (try dsimp only); omega, by (try dsimp only); omega⟩ rfl) rfl ?_
                        refine AHead.go rfl rfl rfl h61 (o_index _ _ Tryz.underlying22 Tryz.sizeOf27 rfl rfl (by omega) hel1 rfl rfl) rfl ?_
                        refine AHead.go rfl rfl rfl h61 (o_fieldRd _ rfl fa27_0 rfl) rfl ?_
                        refine AHead.go rfl rfl rfl h61 (o_loadRd _ rfl Tryz.sizeOf3 Tryz.isAgg3 rfl rfl rfl) rfl ?_
                        refine AHead.go rfl rfl rfl h61 (o_fieldRef _ rfl fa27_0 rfl rfl) rfl ?_
                        refine AHead.go rfl rfl rfl h61 (o_loadRef _ rfl rfl Tryz.sizeOf3 Tryz.isAgg3 rfl rfl rfl) rfl ?_
                        refine AHead.go rfl rfl rfl h61 (o_bin _ _ rfl rfl (fun _ => rfl) rfl) rfl ?_
                        refine AHead.go rfl rfl rfl h59 (o_pickT _ _ _ rfl h61 rfl rfl) rfl ?_
                        refine AHead.call (o_pickF _ _ _ rfl h59 rfl rfl) rfl ?_
                        refine AHead.nil ?_
                        refine AOps.nil ?_
                        refine AWP.cond _ rfl (fun h71 => ?_) (fun h71 => ?_)
                        · skip
                          have hbk : entB (ah p.log k) p.log[k] = false := by
                            cases hc : entB (ah p.log k) p.log[k] with
                            | false => rfl
                            | true =>
                              simp only [entB, watB, Bool.and_eq_true, decide_eq_true_eq] at hc
                              simp_all [AV.close, B, I, inB]
                              try omega
                          have hlg : logB (-1) p.log = false := by rw [hv, logB_step hlt, hbk, Bool.false_and]
                          refine AWP.seq ?_
                          refine AWP.region ?_
                          refine AOps.call (o_assign _ rfl rfl) ?_
                          refine AOps.nil ?_
                          refine AWP.ret ?_
                          refine postQ.ret1 Tryz.results18 rfl ?_
                          rw [logE_hdC]
                          simp_all [I, AV.close]
                        · skip
                          have hbk : entB (ah p.log k) p.log[k] = true := by
                            simp only [entB, watB, Bool.and_eq_true, decide_eq_true_eq]
                            simp_all [AV.close, B, I, inB]
                            try omega
                          refine AWP.skip ?_
                          refine AWP.region ?_
                          refine AOps.call (o_move _ rfl rfl) ?_
                          refine AOps.call (o_add _ _ rfl rfl ⟨by (try dsimp only); omega, by (try dsimp only); omega⟩ rfl) ?_
                          refine AOps.call (o_assign _ rfl rfl) ?_
                          refine AOps.nil ?_
                          refine ⟨k + 1, ?_, (Weak.mk' rfl ⟨⟨.refl rfl, rfl⟩, ⟨⟨.refl rfl, rfl⟩, trivial⟩⟩ ⟨⟨rfl, rfl, rfl⟩, trivial⟩ trivial)⟩
                          exact ⟨⟨by omega, by rw [hv, logB_step hlt, hbk, Bool.true_and], by
                            have h1 := ah_succ hlt
                            have h2 := hbk
                            simp only [entB, Bool.and_eq_true, decide_eq_true_eq] at h2
                            rw [h1]; omega⟩, by omega⟩
                      · skip
                        have hk0 : k = 0 := by have := of_decide_eq_false h61; omega
                        have hah : ah p.log k = -1 := if_pos hk0
                        refine AHead.pass rfl rfl rfl h61 rfl ?_
                        refine AHead.pass rfl rfl rfl h61 rfl ?_
                        refine AHead.pass rfl rfl rfl h61 rfl ?_
                        refine AHead.pass rfl rfl rfl h61 rfl ?_
                        refine AHead.pass rfl rfl rfl h61 rfl ?_
                        refine AHead.pass rfl rfl rfl h61 rfl ?_
                        refine AHead.pass rfl rfl rfl h61 rfl ?_
                        refine AHead.pass rfl rfl rfl h61 rfl ?_
                        refine AHead.pass rfl rfl rfl h61 rfl ?_
                        refine AHead.pass rfl rfl rfl h61 rfl ?_
                        refine AHead.go rfl rfl rfl h59 (o_pickF _ _ _ rfl h61 rfl rfl) rfl ?_
                        refine AHead.call (o_pickF _ _ _ rfl h59 rfl rfl) rfl ?_
                        refine AHead.nil ?_
                        refine AOps.nil ?_
                        refine AWP.condF rfl ?_
                        have hbk : entB (ah p.log k) p.log[k] = true := by
                          simp only [entB, watB, Bool.and_eq_true, decide_eq_true_eq]
                          simp_all [AV.close, B, I, inB]
                          try omega
                        refine AWP.skip ?_
                        refine AWP.region ?_
                        refine AOps.call (o_move _ rfl rfl) ?_
                        refine AOps.call (o_add _ _ rfl rfl ⟨by (try dsimp only); omega, by (try dsimp only); omega⟩ rfl) ?_
                        refine AOps.call (o_assign _ rfl rfl) ?_
                        refine AOps.nil ?_
                        refine ⟨k + 1, ?_, (Weak.mk' rfl ⟨⟨.refl rfl, rfl⟩, ⟨⟨.refl rfl, rfl⟩, trivial⟩⟩ ⟨⟨rfl, rfl, rfl⟩, trivial⟩ trivial)⟩
                        exact ⟨⟨by omega, by rw [hv, logB_step hlt, hbk, Bool.true_and], by
                          have h1 := ah_succ hlt
                          have h2 := hbk
                          simp only [entB, Bool.and_eq_true, decide_eq_true_eq] at h2
                          rw [h1]; omega⟩, by omega⟩
                    · skip
                      refine AHead.pass rfl rfl rfl h59 rfl ?_
                      refine AHead.pass rfl rfl rfl h59 rfl ?_
                      refine AHead.pass rfl rfl rfl h59 rfl ?_
                      refine AHead.passU rfl rfl rfl rfl ?_
                      refine AHead.passU rfl rfl rfl rfl ?_
                      refine AHead.passU rfl rfl rfl rfl ?_
                      refine AHead.passU rfl rfl rfl rfl ?_
                      refine AHead.passU rfl rfl rfl rfl ?_
                      refine AHead.passU rfl rfl rfl rfl ?_
                      refine AHead.passU rfl rfl rfl rfl ?_
                      refine AHead.passU rfl rfl rfl rfl ?_
                      refine AHead.passU rfl rfl rfl rfl ?_
                      refine AHead.passU rfl rfl rfl rfl ?_
                      refine AHead.pass rfl rfl rfl h59 rfl ?_
                      refine AHead.call (o_pickT _ _ _ rfl h59 rfl rfl) rfl ?_
                      refine AHead.nil ?_
                      refine AOps.nil ?_
                      refine AWP.condT rfl ?_
                      have hbk : entB (ah p.log k) p.log[k] = false := by
                        cases hc : entB (ah p.log k) p.log[k] with
                        | false => rfl
                        | true =>
                          simp only [entB, watB, Bool.and_eq_true, decide_eq_true_eq] at hc
                          simp_all [AV.close, B, I, inB]
                          try omega
                      have hlg : logB (-1) p.log = false := by rw [hv, logB_step hlt, hbk, Bool.false_and]
                      refine AWP.seq ?_
                      refine AWP.region ?_
                      refine AOps.call (o_assign _ rfl rfl) ?_
                      refine AOps.nil ?_
                      refine AWP.ret ?_
                      refine postQ.ret1 Tryz.results18 rfl ?_
                      rw [logE_hdC]
                      simp_all [I, AV.close]
                  · skip
                    refine AHead.pass rfl rfl rfl h54 rfl ?_
                    refine AHead.pass rfl rfl rfl h54 rfl ?_
                    refine AHead.pass rfl rfl rfl h54 rfl ?_
                    refine AHead.pass rfl rfl rfl h54 rfl ?_
                    refine AHead.call (o_pickT _ _ _ rfl h54 rfl rfl) rfl ?_
                    refine AHead.call (o_move _ rfl rfl) rfl ?_
                    refine AHead.pass rfl rfl rfl rfl rfl ?_
                    refine AHead.pass rfl rfl rfl rfl rfl ?_
                    refine AHead.pass rfl rfl rfl rfl rfl ?_
                    refine AHead.passU rfl rfl rfl rfl ?_
                    refine AHead.passU rfl rfl rfl rfl ?_
                    refine AHead.passU rfl rfl rfl rfl ?_
                    refine AHead.passU rfl rfl rfl rfl ?_
                    refine AHead.passU rfl rfl rfl rfl ?_
                    refine AHead.passU rfl rfl rfl rfl ?_
                    refine AHead.passU rfl rfl rfl rfl ?_
                    refine AHead.passU rfl rfl rfl rfl ?_
                    refine AHead.passU rfl rfl rfl rfl ?_
                    refine AHead.passU rfl rfl rfl rfl ?_
                    refine AHead.pass rfl rfl rfl rfl rfl ?_
                    refine AHead.call (o_pickT _ _ _ rfl rfl rfl rfl) rfl ?_
                    refine AHead.nil ?_
                    refine AOps.nil ?_
                    refine AWP.condT rfl ?_
                    have hbk : entB (ah p.log k) p.log[k] = false := by
                      cases hc : entB (ah p.log k) p.log[k] with
                      | false => rfl
                      | true =>
                        simp only [entB, watB, Bool.and_eq_true, decide_eq_true_eq] at hc
                        simp_all [AV.close, B, I, inB]
                        try omega
                    have hlg : logB (-1) p.log = false := by rw [hv, logB_step hlt, hbk, Bool.false_and]
                    refine AWP.seq ?_
                    refine AWP.region ?_
                    refine AOps.call (o_assign _ rfl rfl) ?_
                    refine AOps.nil ?_
                    refine AWP.ret ?_
                    refine postQ.ret1 Tryz.results18 rfl ?_
                    rw [logE_hdC]
                    simp_all [I, AV.close]
                · skip
                  have hlg : logB (-1) p.log = true := by
                    rw [hv, List.drop_eq_nil_of_le (by simp [shws] at h44; omega)]; rfl
                  refine AWP.exit ?_
                  refine AWP.seq ?_
                  refine AWP.region ?_
                  refine AOps.call (o_assign _ rfl rfl) ?_
                  refine AOps.nil ?_
                  refine AWP.ret ?_
                  refine postQ.ret1 Tryz.results18 rfl ?_
                  rw [logE_hdC]
                  simp_all [I, AV.close]
            · skip
              refine AOps.pass rfl rfl rfl h32 rfl ?_
              refine AOps.pass rfl rfl rfl h32 rfl ?_
              refine AOps.pass rfl rfl rfl h32 rfl ?_
              refine AOps.pass rfl rfl rfl h32 rfl ?_
              refine AOps.call (o_pickT _ _ _ rfl h32 rfl rfl) ?_
              refine AOps.nil ?_
              refine AWP.condT rfl ?_
              have hh : hdC p = false := by
                cases hc : hdC p with
                | false => rfl
                | true =>
                  simp only [hdC, inB, Bool.and_eq_true, decide_eq_true_eq] at hc
                  simp_all [AV.close, B, I, inB]
                  try omega
              refine AWP.seq ?_
              refine AWP.region ?_
              refine AOps.call (o_assign _ rfl rfl) ?_
              refine AOps.nil ?_
              refine AWP.ret ?_
              refine postQ.ret1 Tryz.results18 rfl ?_
              rw [logE_hdC]
              simp_all [I, AV.close]
          · skip
            refine AOps.pass rfl rfl rfl h27 rfl ?_
            refine AOps.pass rfl rfl rfl h27 rfl ?_
            refine AOps.pass rfl rfl rfl h27 rfl ?_
            refine AOps.pass rfl rfl rfl h27 rfl ?_
            refine AOps.call (o_pickT _ _ _ rfl h27 rfl rfl) ?_
            refine AOps.call (o_move _ rfl rfl) ?_
            refine AOps.pass rfl rfl rfl rfl rfl ?_
            refine AOps.pass rfl rfl rfl rfl rfl ?_
            refine AOps.pass rfl rfl rfl rfl rfl ?_
            refine AOps.pass rfl rfl rfl rfl rfl ?_
            refine AOps.call (o_pickT _ _ _ rfl rfl rfl rfl) ?_
            refine AOps.nil ?_
            refine AWP.condT rfl ?_
            have hh : hdC p = false := by
              cases hc : hdC p with
              | false => rfl
              | true =>
                simp only [hdC, inB, Bool.and_eq_true, decide_eq_true_eq] at hc
                simp_all [AV.close, B, I, inB]
                try omega
            refine AWP.seq ?_
            refine AWP.region ?_
            refine AOps.call (o_assign _ rfl rfl) ?_
            refine AOps.nil ?_
            refine AWP.ret ?_
            refine postQ.ret1 Tryz.results18 rfl ?_
            rw [logE_hdC]
            simp_all [I, AV.close]
        · skip
          refine AOps.pass rfl rfl rfl h22 rfl ?_
          refine AOps.pass rfl rfl rfl h22 rfl ?_
          refine AOps.pass rfl rfl rfl h22 rfl ?_
          refine AOps.pass rfl rfl rfl h22 rfl ?_
          refine AOps.call (o_pickT _ _ _ rfl h22 rfl rfl) ?_
          refine AOps.call (o_move _ rfl rfl) ?_
          refine AOps.pass rfl rfl rfl rfl rfl ?_
          refine AOps.pass rfl rfl rfl rfl rfl ?_
          refine AOps.pass rfl rfl rfl rfl rfl ?_
          refine AOps.pass rfl rfl rfl rfl rfl ?_
          refine AOps.call (o_pickT _ _ _ rfl rfl rfl rfl) ?_
          refine AOps.call (o_move _ rfl rfl) ?_
          refine AOps.pass rfl rfl rfl rfl rfl ?_
          refine AOps.pass rfl rfl rfl rfl rfl ?_
          refine AOps.pass rfl rfl rfl rfl rfl ?_
          refine AOps.pass rfl rfl rfl rfl rfl ?_
          refine AOps.call (o_pickT _ _ _ rfl rfl rfl rfl) ?_
          refine AOps.nil ?_
          refine AWP.condT rfl ?_
          have hh : hdC p = false := by
            cases hc : hdC p with
            | false => rfl
            | true =>
              simp only [hdC, inB, Bool.and_eq_true, decide_eq_true_eq] at hc
              simp_all [AV.close, B, I, inB]
              try omega
          refine AWP.seq ?_
          refine AWP.region ?_
          refine AOps.call (o_assign _ rfl rfl) ?_
          refine AOps.nil ?_
          refine AWP.ret ?_
          refine postQ.ret1 Tryz.results18 rfl ?_
          rw [logE_hdC]
          simp_all [I, AV.close]
      · skip
        refine AOps.pass rfl rfl rfl h17 rfl ?_
        refine AOps.pass rfl rfl rfl h17 rfl ?_
        refine AOps.pass rfl rfl rfl h17 rfl ?_
        refine AOps.pass rfl rfl rfl h17 rfl ?_
        refine AOps.call (o_pickT _ _ _ rfl h17 rfl rfl) ?_
        refine AOps.call (o_move _ rfl rfl) ?_
        refine AOps.pass rfl rfl rfl rfl rfl ?_
        refine AOps.pass rfl rfl rfl rfl rfl ?_
        refine AOps.pass rfl rfl rfl rfl rfl ?_
        refine AOps.pass rfl rfl rfl rfl rfl ?_
        refine AOps.call (o_pickT _ _ _ rfl rfl rfl rfl) ?_
        refine AOps.call (o_move _ rfl rfl) ?_
        refine AOps.pass rfl rfl rfl rfl rfl ?_
        refine AOps.pass rfl rfl rfl rfl rfl ?_
        refine AOps.pass rfl rfl rfl rfl rfl ?_
        refine AOps.pass rfl rfl rfl rfl rfl ?_
        refine AOps.call (o_pickT _ _ _ rfl rfl rfl rfl) ?_
        refine AOps.call (o_move _ rfl rfl) ?_
        refine AOps.pass rfl rfl rfl rfl rfl ?_
        refine AOps.pass rfl rfl rfl rfl rfl ?_
        refine AOps.pass rfl rfl rfl rfl rfl ?_
        refine AOps.pass rfl rfl rfl rfl rfl ?_
        refine AOps.call (o_pickT _ _ _ rfl rfl rfl rfl) ?_
        refine AOps.nil ?_
        refine AWP.condT rfl ?_
        have hh : hdC p = false := by
          cases hc : hdC p with
          | false => rfl
          | true =>
            simp only [hdC, inB, Bool.and_eq_true, decide_eq_true_eq] at hc
            simp_all [AV.close, B, I, inB]
            try omega
        refine AWP.seq ?_
        refine AWP.region ?_
        refine AOps.call (o_assign _ rfl rfl) ?_
        refine AOps.nil ?_
        refine AWP.ret ?_
        refine postQ.ret1 Tryz.results18 rfl ?_
        rw [logE_hdC]
        simp_all [I, AV.close]
    · skip
      refine AOps.pass rfl rfl rfl h12 rfl ?_
      refine AOps.pass rfl rfl rfl h12 rfl ?_
      refine AOps.pass rfl rfl rfl h12 rfl ?_
      refine AOps.pass rfl rfl rfl h12 rfl ?_
      refine AOps.call (o_pickT _ _ _ rfl h12 rfl rfl) ?_
      refine AOps.call (o_move _ rfl rfl) ?_
      refine AOps.pass rfl rfl rfl rfl rfl ?_
      refine AOps.pass rfl rfl rfl rfl rfl ?_
      refine AOps.pass rfl rfl rfl rfl rfl ?_
      refine AOps.pass rfl rfl rfl rfl rfl ?_
      refine AOps.call (o_pickT _ _ _ rfl rfl rfl rfl) ?_
      refine AOps.call (o_move _ rfl rfl) ?_
      refine AOps.pass rfl rfl rfl rfl rfl ?_
      refine AOps.pass rfl rfl rfl rfl rfl ?_
      refine AOps.pass rfl rfl rfl rfl rfl ?_
      refine AOps.pass rfl rfl rfl rfl rfl ?_
      refine AOps.call (o_pickT _ _ _ rfl rfl rfl rfl) ?_
      refine AOps.call (o_move _ rfl rfl) ?_
      refine AOps.pass rfl rfl rfl rfl rfl ?_
      refine AOps.pass rfl rfl rfl rfl rfl ?_
      refine AOps.pass rfl rfl rfl rfl rfl ?_
      refine AOps.pass rfl rfl rfl rfl rfl ?_
      refine AOps.call (o_pickT _ _ _ rfl rfl rfl rfl) ?_
      refine AOps.call (o_move _ rfl rfl) ?_
      refine AOps.pass rfl rfl rfl rfl rfl ?_
      refine AOps.pass rfl rfl rfl rfl rfl ?_
      refine AOps.pass rfl rfl rfl rfl rfl ?_
      refine AOps.pass rfl rfl rfl rfl rfl ?_
      refine AOps.call (o_pickT _ _ _ rfl rfl rfl rfl) ?_
      refine AOps.nil ?_
      refine AWP.condT rfl ?_
      have hh : hdC p = false := by
        cases hc : hdC p with
        | false => rfl
        | true =>
          simp only [hdC, inB, Bool.and_eq_true, decide_eq_true_eq] at hc
          simp_all [AV.close, B, I, inB]
          try omega
      refine AWP.seq ?_
      refine AWP.region ?_
      refine AOps.call (o_assign _ rfl rfl) ?_
      refine AOps.nil ?_
      refine AWP.ret ?_
      refine postQ.ret1 Tryz.results18 rfl ?_
      rw [logE_hdC]
      simp_all [I, AV.close]
  · skip
    refine AOps.pass rfl rfl rfl h7 rfl ?_
    refine AOps.pass rfl rfl rfl h7 rfl ?_
    refine AOps.pass rfl rfl rfl h7 rfl ?_
    refine AOps.pass rfl rfl rfl h7 rfl ?_
    refine AOps.call (o_pickT _ _ _ rfl h7 rfl rfl) ?_
    refine AOps.call (o_move _ rfl rfl) ?_
    refine AOps.pass rfl rfl rfl rfl rfl ?_
    refine AOps.pass rfl rfl rfl rfl rfl ?_
    refine AOps.pass rfl rfl rfl rfl rfl ?_
    refine AOps.pass rfl rfl rfl rfl rfl ?_
    refine AOps.call (o_pickT _ _ _ rfl rfl rfl rfl) ?_
    refine AOps.call (o_move _ rfl rfl) ?_
    refine AOps.pass rfl rfl rfl rfl rfl ?_
    refine AOps.pass rfl rfl rfl rfl rfl ?_
    refine AOps.pass rfl rfl rfl rfl rfl ?_
    refine AOps.pass rfl rfl rfl rfl rfl ?_
    refine AOps.call (o_pickT _ _ _ rfl rfl rfl rfl) ?_
    refine AOps.call (o_move _ rfl rfl) ?_
    refine AOps.pass rfl rfl rfl rfl rfl ?_
    refine AOps.pass rfl rfl rfl rfl rfl ?_
    refine AOps.pass rfl rfl rfl rfl rfl ?_
    refine AOps.pass rfl rfl rfl rfl rfl ?_
    refine AOps.call (o_pickT _ _ _ rfl rfl rfl rfl) ?_
    refine AOps.call (o_move _ rfl rfl) ?_
    refine AOps.pass rfl rfl rfl rfl rfl ?_
    refine AOps.pass rfl rfl rfl rfl rfl ?_
    refine AOps.pass rfl rfl rfl rfl rfl ?_
    refine AOps.pass rfl rfl rfl rfl rfl ?_
    refine AOps.call (o_pickT _ _ _ rfl rfl rfl rfl) ?_
    refine AOps.call (o_move _ rfl rfl) ?_
    refine AOps.pass rfl rfl rfl rfl rfl ?_
    refine AOps.pass rfl rfl rfl rfl rfl ?_
    refine AOps.pass rfl rfl rfl rfl rfl ?_
    refine AOps.pass rfl rfl rfl rfl rfl ?_
    refine AOps.call (o_pickT _ _ _ rfl rfl rfl rfl) ?_
    refine AOps.nil ?_
    refine AWP.condT rfl ?_
    have hh : hdC p = false := by
      cases hc : hdC p with
      | false => rfl
      | true =>
        simp only [hdC, inB, Bool.and_eq_true, decide_eq_true_eq] at hc
        simp_all [AV.close, B, I, inB]
        try omega
    refine AWP.seq ?_
    refine AWP.region ?_
    refine AOps.call (o_assign _ rfl rfl) ?_
    refine AOps.nil ?_
    refine AWP.ret ?_
    refine postQ.ret1 Tryz.results18 rfl ?_
    rw [logE_hdC]
    simp_all [I, AV.close]
end Go.Proofs.YtelenedgaoglaaaGreatDoor
