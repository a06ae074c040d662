import Derived.Test.YtphoomnonenalaaGreatDoorR3
set_option linter.unusedSimpArgs false
set_option linter.unusedVariables false
namespace Go.Proofs.YtphoomnonenalaaGreatDoor
open Go.Ab
theorem oneK_one {h : Sht} {k : Int} (hk : k.toNat < h.stakes.length) : oneK h k = [kOf h k] := by
  unfold oneK kOf
  rw [List.drop_eq_getElem_cons hk, List.getElem?_eq_getElem hk]
  rfl
theorem sn_one {h : Sht} {k : Int} {t : Spn} (hk : k.toNat < h.stakes.length) : snLo h t (oneK h k) = 20 * (coreS h (kOf h k) t).lo + (kOf h k).lost * h.mouth := by
  rw [oneK_one hk]; unfold snLo; simp only [List.foldl_cons, List.foldl_nil]; omega
theorem sn_oneHi {h : Sht} {k : Int} {t : Spn} (hk : k.toNat < h.stakes.length) : snHi h t (oneK h k) = 20 * (coreS h (kOf h k) t).hi + 20 * ((kOf h k).lost * h.mouth) := by
  rw [oneK_one hk]; unfold snHi; simp only [List.foldl_cons, List.foldl_nil]; omega
theorem rnd1 (w : Spn) (b : Int) : rndS w 1 b = ⟨w.lo / b, (w.hi + b - 1) / b⟩ := by unfold rndS; rw [Int.mul_one, Int.mul_one]

set_option maxRecDepth 20000 in
theorem rgram_s (n : Int) : FSpec Tryz.prog 93 [I n] (B (weightB n)) (none) := by
  refine FSpec.of_body Tryz.func93 rfl (leB rfl) fun w0 M0 => ?_
  refine AWP.seq ?_
  refine AWP.region ?_
  refine AOps.call (o_assign _ rfl rfl) ?_
  refine AOps.nil ?_
  refine AWP.seq ?_
  refine AWP.region ?_
  refine AOps.call (o_move _ rfl rfl) ?_
  refine AOps.call (o_bin _ _ rfl rfl (fun _ => rfl) rfl) ?_
  refine AOps.call (o_move _ rfl rfl) ?_
  refine AOps.split rfl rfl rfl (fun h3 => ?_) (fun h3 => ?_)
  · skip
    refine AOps.go rfl rfl rfl h3 (o_move _ rfl rfl) ?_
    refine AOps.go rfl rfl rfl h3 (o_bin _ _ rfl rfl (fun _ => rfl) rfl) ?_
    refine AOps.call (o_pickT _ _ _ rfl h3 rfl rfl) ?_
    refine AOps.call (o_assign _ rfl rfl) ?_
    refine AOps.nil ?_
    refine AWP.ret ?_
    refine postQ.ret1 Tryz.results93 rfl ?_
    unfold weightB
    simp_all [AV.close, B]
    try (intros; omega)
  · skip
    refine AOps.pass rfl rfl rfl h3 rfl ?_
    refine AOps.pass rfl rfl rfl h3 rfl ?_
    refine AOps.call (o_pickF _ _ _ rfl h3 rfl rfl) ?_
    refine AOps.call (o_assign _ rfl rfl) ?_
    refine AOps.nil ?_
    refine AWP.ret ?_
    refine postQ.ret1 Tryz.results93 rfl ?_
    unfold weightB
    simp_all [AV.close, B]
    try (intros; omega)

set_option maxRecDepth 20000 in
theorem rstake_s (k : Stk) : FSpec Tryz.prog 94 [.agg (eK k)] (B (stakeB k)) (none) := by
  refine FSpec.of_body Tryz.func94 rfl (leB rfl) fun w0 M0 => ?_
  refine AWP.seq ?_
  refine AWP.region ?_
  refine AOps.call (o_box _ rfl rfl rfl) ?_
  refine AOps.call (o_assign _ rfl rfl) ?_
  refine AOps.nil ?_
  refine AWP.seq ?_
  refine AWP.region ?_
  refine AOps.call (o_fieldRef _ rfl fa81_2 rfl rfl) ?_
  refine AOps.call (o_loadRef _ rfl rfl Tryz.sizeOf3 Tryz.isAgg3 rfl rfl rfl) ?_
  refine AOps.call (o_call (rgram_s _) Tryz.call93 rfl rfl) ?_
  refine AOps.call (o_assign _ rfl rfl) ?_
  refine AOps.nil ?_
  refine AWP.seq ?_
  refine AWP.region ?_
  refine AOps.call (o_fieldRef _ rfl fa81_4 rfl rfl) ?_
  refine AOps.call (o_loadRef _ rfl rfl Tryz.sizeOf3 Tryz.isAgg3 rfl rfl rfl) ?_
  refine AOps.call (o_call (rgram_s _) Tryz.call93 rfl rfl) ?_
  refine AOps.call (o_assign _ rfl rfl) ?_
  refine AOps.nil ?_
  refine AWP.seq ?_
  refine AWP.region ?_
  refine AOps.call (o_fieldRef _ rfl fa81_0 rfl rfl) ?_
  refine AOps.call (o_loadRef _ rfl rfl Tryz.sizeOf3 Tryz.isAgg3 rfl rfl rfl) ?_
  refine AOps.call (o_bin _ _ rfl rfl (fun _ => rfl) rfl) ?_
  refine AOps.call (o_move _ rfl rfl) ?_
  refine AOps.split rfl rfl rfl (fun h11 => ?_) (fun h11 => ?_)
  · skip
    refine AOps.go rfl rfl rfl h11 (o_fieldRef _ rfl fa81_0 rfl rfl) ?_
    refine AOps.go rfl rfl rfl h11 (o_loadRef _ rfl rfl Tryz.sizeOf3 Tryz.isAgg3 rfl rfl rfl) ?_
    refine AOps.go rfl rfl rfl h11 (o_bin _ _ rfl rfl (fun _ => rfl) rfl) ?_
    refine AOps.call (o_pickT _ _ _ rfl h11 rfl rfl) ?_
    refine AOps.call (o_move _ rfl rfl) ?_
    refine AOps.split rfl rfl rfl (fun h15 => ?_) (fun h15 => ?_)
    · skip
      refine AOps.go rfl rfl rfl h15 (o_fieldRef _ rfl fa81_1 rfl rfl) ?_
      refine AOps.go rfl rfl rfl h15 (o_loadRef _ rfl rfl Tryz.sizeOf3 Tryz.isAgg3 rfl rfl rfl) ?_
      refine AOps.go rfl rfl rfl h15 (o_bin _ _ rfl rfl (fun _ => rfl) rfl) ?_
      refine AOps.call (o_pickT _ _ _ rfl h15 rfl rfl) ?_
      refine AOps.call (o_move _ rfl rfl) ?_
      refine AOps.split rfl rfl rfl (fun h19 => ?_) (fun h19 => ?_)
      · skip
        refine AOps.go rfl rfl rfl h19 (o_fieldRef _ rfl fa81_1 rfl rfl) ?_
        refine AOps.go rfl rfl rfl h19 (o_loadRef _ rfl rfl Tryz.sizeOf3 Tryz.isAgg3 rfl rfl rfl) ?_
        refine AOps.go rfl rfl rfl h19 (o_fieldRef _ rfl fa81_0 rfl rfl) ?_
        refine AOps.go rfl rfl rfl h19 (o_loadRef _ rfl rfl Tryz.sizeOf3 Tryz.isAgg3 rfl rfl rfl) ?_
        refine AOps.go rfl rfl rfl h19 (o_bin _ _ rfl rfl (fun _ => rfl) rfl) ?_
        refine AOps.call (o_pickT _ _ _ rfl h19 rfl rfl) ?_
        refine AOps.call (o_move _ rfl rfl) ?_
        refine AOps.split rfl rfl rfl (fun h25 => ?_) (fun h25 => ?_)
        · skip
          refine AOps.go rfl rfl rfl h25 (o_fieldRef _ rfl fa81_3 rfl rfl) ?_
          refine AOps.go rfl rfl rfl h25 (o_loadRef _ rfl rfl Tryz.sizeOf3 Tryz.isAgg3 rfl rfl rfl) ?_
          refine AOps.go rfl rfl rfl h25 (o_bin _ _ rfl rfl (fun _ => rfl) rfl) ?_
          refine AOps.call (o_pickT _ _ _ rfl h25 rfl rfl) ?_
          refine AOps.call (o_move _ rfl rfl) ?_
          refine AOps.split rfl rfl rfl (fun h29 => ?_) (fun h29 => ?_)
          · skip
            refine AOps.go rfl rfl rfl h29 (o_fieldRef _ rfl fa81_3 rfl rfl) ?_
            refine AOps.go rfl rfl rfl h29 (o_loadRef _ rfl rfl Tryz.sizeOf3 Tryz.isAgg3 rfl rfl rfl) ?_
            refine AOps.go rfl rfl rfl h29 (o_fieldRef _ rfl fa81_0 rfl rfl) ?_
            refine AOps.go rfl rfl rfl h29 (o_loadRef _ rfl rfl Tryz.sizeOf3 Tryz.isAgg3 rfl rfl rfl) ?_
            refine AOps.go rfl rfl rfl h29 (o_bin _ _ rfl rfl (fun _ => rfl) rfl) ?_
            refine AOps.call (o_pickT _ _ _ rfl h29 rfl rfl) ?_
            refine AOps.call (o_assign _ rfl rfl) ?_
            refine AOps.nil ?_
            refine AWP.seq ?_
            refine AWP.region ?_
            refine AOps.call (o_move _ rfl rfl) ?_
            refine AOps.call (o_move _ rfl rfl) ?_
            refine AOps.split rfl rfl rfl (fun h35 => ?_) (fun h35 => ?_)
            · skip
              refine AOps.go rfl rfl rfl h35 (o_move _ rfl rfl) ?_
              refine AOps.call (o_pickT _ _ _ rfl h35 rfl rfl) ?_
              refine AOps.call (o_move _ rfl rfl) ?_
              refine AOps.split rfl rfl rfl (fun h36 => ?_) (fun h36 => ?_)
              · skip
                refine AOps.go rfl rfl rfl h36 (o_move _ rfl rfl) ?_
                refine AOps.call (o_pickT _ _ _ rfl h36 rfl rfl) ?_
                refine AOps.call (o_move _ rfl rfl) ?_
                refine AOps.split rfl rfl rfl (fun h37 => ?_) (fun h37 => ?_)
                · skip
                  have hcd : 0 ≤ k.core ∧ k.core ≤ k.depth ∧ 0 ≤ k.lost ∧ k.lost ≤ k.depth ∧ 0 ≤ k.depth ∧ k.depth ≤ 20000 := by simp_all
                  refine AOps.go rfl rfl rfl h37 (o_fieldRef _ rfl fa81_1 rfl rfl) ?_
                  refine AOps.go rfl rfl rfl h37 (o_loadRef _ rfl rfl Tryz.sizeOf3 Tryz.isAgg3 rfl rfl rfl) ?_
                  refine AOps.go rfl rfl rfl h37 (o_fieldRef _ rfl fa81_3 rfl rfl) ?_
                  refine AOps.go rfl rfl rfl h37 (o_loadRef _ rfl rfl Tryz.sizeOf3 Tryz.isAgg3 rfl rfl rfl) ?_
                  refine AOps.go rfl rfl rfl h37 (o_add _ _ rfl rfl ⟨by (try dsimp only); omega, by (try dsimp only); omega⟩ rfl) ?_
                  refine AOps.go rfl rfl rfl h37 (o_fieldRef _ rfl fa81_0 rfl rfl) ?_
                  refine AOps.go rfl rfl rfl h37 (o_loadRef _ rfl rfl Tryz.sizeOf3 Tryz.isAgg3 rfl rfl rfl) ?_
                  refine AOps.go rfl rfl rfl h37 (o_bin _ _ rfl rfl (fun _ => rfl) rfl) ?_
                  refine AOps.call (o_pickT _ _ _ rfl h37 rfl rfl) ?_
                  refine AOps.call (o_assign _ rfl rfl) ?_
                  refine AOps.nil ?_
                  refine AWP.ret ?_
                  refine postQ.ret1 Tryz.results94 rfl ?_
                  unfold stakeB
                  simp_all [AV.close, B]
                  all_goals first | (intros; omega) | (rw [Bool.eq_iff_iff]; simp only [Bool.and_eq_true, Bool.not_eq_true', decide_eq_true_eq, decide_eq_false_iff_not]; omega)
                · skip
                  refine AOps.pass rfl rfl rfl h37 rfl ?_
                  refine AOps.pass rfl rfl rfl h37 rfl ?_
                  refine AOps.pass rfl rfl rfl h37 rfl ?_
                  refine AOps.pass rfl rfl rfl h37 rfl ?_
                  refine AOps.pass rfl rfl rfl h37 rfl ?_
                  refine AOps.pass rfl rfl rfl h37 rfl ?_
                  refine AOps.pass rfl rfl rfl h37 rfl ?_
                  refine AOps.pass rfl rfl rfl h37 rfl ?_
                  refine AOps.call (o_pickF _ _ _ rfl h37 rfl rfl) ?_
                  refine AOps.call (o_assign _ rfl rfl) ?_
                  refine AOps.nil ?_
                  refine AWP.ret ?_
                  refine postQ.ret1 Tryz.results94 rfl ?_
                  unfold stakeB
                  simp_all [AV.close, B]
                  all_goals first | (intros; omega) | (rw [Bool.eq_iff_iff]; simp only [Bool.and_eq_true, Bool.not_eq_true', decide_eq_true_eq, decide_eq_false_iff_not]; omega)
              · skip
                refine AOps.pass rfl rfl rfl h36 rfl ?_
                refine AOps.call (o_pickF _ _ _ rfl h36 rfl rfl) ?_
                refine AOps.call (o_move _ rfl rfl) ?_
                refine AOps.pass rfl rfl rfl rfl rfl ?_
                refine AOps.pass rfl rfl rfl rfl rfl ?_
                refine AOps.pass rfl rfl rfl rfl rfl ?_
                refine AOps.pass rfl rfl rfl rfl rfl ?_
                refine AOps.pass rfl rfl rfl rfl rfl ?_
                refine AOps.pass rfl rfl rfl rfl rfl ?_
                refine AOps.pass rfl rfl rfl rfl rfl ?_
                refine AOps.pass rfl rfl rfl rfl rfl ?_
                refine AOps.call (o_pickF _ _ _ rfl rfl rfl rfl) ?_
                refine AOps.call (o_assign _ rfl rfl) ?_
                refine AOps.nil ?_
                refine AWP.ret ?_
                refine postQ.ret1 Tryz.results94 rfl ?_
                unfold stakeB
                simp_all [AV.close, B]
                all_goals first | (intros; omega) | (rw [Bool.eq_iff_iff]; simp only [Bool.and_eq_true, Bool.not_eq_true', decide_eq_true_eq, decide_eq_false_iff_not]; omega)
            · skip
              refine AOps.pass rfl rfl rfl h35 rfl ?_
              refine AOps.call (o_pickF _ _ _ rfl h35 rfl rfl) ?_
              refine AOps.call (o_move _ rfl rfl) ?_
              refine AOps.pass rfl rfl rfl rfl rfl ?_
              refine AOps.call (o_pickF _ _ _ rfl rfl rfl rfl) ?_
              refine AOps.call (o_move _ rfl rfl) ?_
              refine AOps.pass rfl rfl rfl rfl rfl ?_
              refine AOps.pass rfl rfl rfl rfl rfl ?_
              refine AOps.pass rfl rfl rfl rfl rfl ?_
              refine AOps.pass rfl rfl rfl rfl rfl ?_
              refine AOps.pass rfl rfl rfl rfl rfl ?_
              refine AOps.pass rfl rfl rfl rfl rfl ?_
              refine AOps.pass rfl rfl rfl rfl rfl ?_
              refine AOps.pass rfl rfl rfl rfl rfl ?_
              refine AOps.call (o_pickF _ _ _ rfl rfl rfl rfl) ?_
              refine AOps.call (o_assign _ rfl rfl) ?_
              refine AOps.nil ?_
              refine AWP.ret ?_
              refine postQ.ret1 Tryz.results94 rfl ?_
              unfold stakeB
              simp_all [AV.close, B]
              all_goals first | (intros; omega) | (rw [Bool.eq_iff_iff]; simp only [Bool.and_eq_true, Bool.not_eq_true', decide_eq_true_eq, decide_eq_false_iff_not]; omega)
          · skip
            refine AOps.pass rfl rfl rfl h29 rfl ?_
            refine AOps.pass rfl rfl rfl h29 rfl ?_
            refine AOps.pass rfl rfl rfl h29 rfl ?_
            refine AOps.pass rfl rfl rfl h29 rfl ?_
            refine AOps.pass rfl rfl rfl h29 rfl ?_
            refine AOps.call (o_pickF _ _ _ rfl h29 rfl rfl) ?_
            refine AOps.call (o_assign _ rfl rfl) ?_
            refine AOps.nil ?_
            refine AWP.seq ?_
            refine AWP.region ?_
            refine AOps.call (o_move _ rfl rfl) ?_
            refine AOps.call (o_move _ rfl rfl) ?_
            refine AOps.split rfl rfl rfl (fun h46 => ?_) (fun h46 => ?_)
            · skip
              refine AOps.go rfl rfl rfl h46 (o_move _ rfl rfl) ?_
              refine AOps.call (o_pickT _ _ _ rfl h46 rfl rfl) ?_
              refine AOps.call (o_move _ rfl rfl) ?_
              refine AOps.split rfl rfl rfl (fun h47 => ?_) (fun h47 => ?_)
              · skip
                refine AOps.go rfl rfl rfl h47 (o_move _ rfl rfl) ?_
                refine AOps.call (o_pickT _ _ _ rfl h47 rfl rfl) ?_
                refine AOps.call (o_move _ rfl rfl) ?_
                refine AOps.pass rfl rfl rfl rfl rfl ?_
                refine AOps.pass rfl rfl rfl rfl rfl ?_
                refine AOps.pass rfl rfl rfl rfl rfl ?_
                refine AOps.pass rfl rfl rfl rfl rfl ?_
                refine AOps.pass rfl rfl rfl rfl rfl ?_
                refine AOps.pass rfl rfl rfl rfl rfl ?_
                refine AOps.pass rfl rfl rfl rfl rfl ?_
                refine AOps.pass rfl rfl rfl rfl rfl ?_
                refine AOps.call (o_pickF _ _ _ rfl rfl rfl rfl) ?_
                refine AOps.call (o_assign _ rfl rfl) ?_
                refine AOps.nil ?_
                refine AWP.ret ?_
                refine postQ.ret1 Tryz.results94 rfl ?_
                unfold stakeB
                simp_all [AV.close, B]
                all_goals first | (intros; omega) | (rw [Bool.eq_iff_iff]; simp only [Bool.and_eq_true, Bool.not_eq_true', decide_eq_true_eq, decide_eq_false_iff_not]; omega)
              · skip
                refine AOps.pass rfl rfl rfl h47 rfl ?_
                refine AOps.call (o_pickF _ _ _ rfl h47 rfl rfl) ?_
                refine AOps.call (o_move _ rfl rfl) ?_
                refine AOps.pass rfl rfl rfl rfl rfl ?_
                refine AOps.pass rfl rfl rfl rfl rfl ?_
                refine AOps.pass rfl rfl rfl rfl rfl ?_
                refine AOps.pass rfl rfl rfl rfl rfl ?_
                refine AOps.pass rfl rfl rfl rfl rfl ?_
                refine AOps.pass rfl rfl rfl rfl rfl ?_
                refine AOps.pass rfl rfl rfl rfl rfl ?_
                refine AOps.pass rfl rfl rfl rfl rfl ?_
                refine AOps.call (o_pickF _ _ _ rfl rfl rfl rfl) ?_
                refine AOps.call (o_assign _ rfl rfl) ?_
                refine AOps.nil ?_
                refine AWP.ret ?_
                refine postQ.ret1 Tryz.results94 rfl ?_
                unfold stakeB
                simp_all [AV.close, B]
                all_goals first | (intros; omega) | (rw [Bool.eq_iff_iff]; simp only [Bool.and_eq_true, Bool.not_eq_true', decide_eq_true_eq, decide_eq_false_iff_not]; omega)
            · skip
              refine AOps.pass rfl rfl rfl h46 rfl ?_
              refine AOps.call (o_pickF _ _ _ rfl h46 rfl rfl) ?_
              refine AOps.call (o_move _ rfl rfl) ?_
              refine AOps.pass rfl rfl rfl rfl rfl ?_
              refine AOps.call (o_pickF _ _ _ rfl rfl rfl rfl) ?_
              refine AOps.call (o_move _ rfl rfl) ?_
              refine AOps.pass rfl rfl rfl rfl rfl ?_
              refine AOps.pass rfl rfl rfl rfl rfl ?_
              refine AOps.pass rfl rfl rfl rfl rfl ?_
              refine AOps.pass rfl rfl rfl rfl rfl ?_
              refine AOps.pass rfl rfl rfl rfl rfl ?_
              refine AOps.pass rfl rfl rfl rfl rfl ?_
              refine AOps.pass rfl rfl rfl rfl rfl ?_
              refine AOps.pass rfl rfl rfl rfl rfl ?_
              refine AOps.call (o_pickF _ _ _ rfl rfl rfl rfl) ?_
              refine AOps.call (o_assign _ rfl rfl) ?_
              refine AOps.nil ?_
              refine AWP.ret ?_
              refine postQ.ret1 Tryz.results94 rfl ?_
              unfold stakeB
              simp_all [AV.close, B]
              all_goals first | (intros; omega) | (rw [Bool.eq_iff_iff]; simp only [Bool.and_eq_true, Bool.not_eq_true', decide_eq_true_eq, decide_eq_false_iff_not]; omega)
        · skip
          refine AOps.pass rfl rfl rfl h25 rfl ?_
          refine AOps.pass rfl rfl rfl h25 rfl ?_
          refine AOps.pass rfl rfl rfl h25 rfl ?_
          refine AOps.call (o_pickF _ _ _ rfl h25 rfl rfl) ?_
          refine AOps.call (o_move _ rfl rfl) ?_
          refine AOps.pass rfl rfl rfl rfl rfl ?_
          refine AOps.pass rfl rfl rfl rfl rfl ?_
          refine AOps.pass rfl rfl rfl rfl rfl ?_
          refine AOps.pass rfl rfl rfl rfl rfl ?_
          refine AOps.pass rfl rfl rfl rfl rfl ?_
          refine AOps.call (o_pickF _ _ _ rfl rfl rfl rfl) ?_
          refine AOps.call (o_assign _ rfl rfl) ?_
          refine AOps.nil ?_
          refine AWP.seq ?_
          refine AWP.region ?_
          refine AOps.call (o_move _ rfl rfl) ?_
          refine AOps.call (o_move _ rfl rfl) ?_
          refine AOps.split rfl rfl rfl (fun h48 => ?_) (fun h48 => ?_)
          · skip
            refine AOps.go rfl rfl rfl h48 (o_move _ rfl rfl) ?_
            refine AOps.call (o_pickT _ _ _ rfl h48 rfl rfl) ?_
            refine AOps.call (o_move _ rfl rfl) ?_
            refine AOps.split rfl rfl rfl (fun h49 => ?_) (fun h49 => ?_)
            · skip
              refine AOps.go rfl rfl rfl h49 (o_move _ rfl rfl) ?_
              refine AOps.call (o_pickT _ _ _ rfl h49 rfl rfl) ?_
              refine AOps.call (o_move _ rfl rfl) ?_
              refine AOps.pass rfl rfl rfl rfl rfl ?_
              refine AOps.pass rfl rfl rfl rfl rfl ?_
              refine AOps.pass rfl rfl rfl rfl rfl ?_
              refine AOps.pass rfl rfl rfl rfl rfl ?_
              refine AOps.pass rfl rfl rfl rfl rfl ?_
              refine AOps.pass rfl rfl rfl rfl rfl ?_
              refine AOps.pass rfl rfl rfl rfl rfl ?_
              refine AOps.pass rfl rfl rfl rfl rfl ?_
              refine AOps.call (o_pickF _ _ _ rfl rfl rfl rfl) ?_
              refine AOps.call (o_assign _ rfl rfl) ?_
              refine AOps.nil ?_
              refine AWP.ret ?_
              refine postQ.ret1 Tryz.results94 rfl ?_
              unfold stakeB
              simp_all [AV.close, B]
              all_goals first | (intros; omega) | (rw [Bool.eq_iff_iff]; simp only [Bool.and_eq_true, Bool.not_eq_true', decide_eq_true_eq, decide_eq_false_iff_not]; omega)
            · skip
              refine AOps.pass rfl rfl rfl h49 rfl ?_
              refine AOps.call (o_pickF _ _ _ rfl h49 rfl rfl) ?_
              refine AOps.call (o_move _ rfl rfl) ?_
              refine AOps.pass rfl rfl rfl rfl rfl ?_
              refine AOps.pass rfl rfl rfl rfl rfl ?_
              refine AOps.pass rfl rfl rfl rfl rfl ?_
              refine AOps.pass rfl rfl rfl rfl rfl ?_
              refine AOps.pass rfl rfl rfl rfl rfl ?_
              refine AOps.pass rfl rfl rfl rfl rfl ?_
              refine AOps.pass rfl rfl rfl rfl rfl ?_
              refine AOps.pass rfl rfl rfl rfl rfl ?_
              refine AOps.call (o_pickF _ _ _ rfl rfl rfl rfl) ?_
              refine AOps.call (o_assign _ rfl rfl) ?_
              refine AOps.nil ?_
              refine AWP.ret ?_
              refine postQ.ret1 Tryz.results94 rfl ?_
              unfold stakeB
              simp_all [AV.close, B]
              all_goals first | (intros; omega) | (rw [Bool.eq_iff_iff]; simp only [Bool.and_eq_true, Bool.not_eq_true', decide_eq_true_eq, decide_eq_false_iff_not]; omega)
          · skip
            refine AOps.pass rfl rfl rfl h48 rfl ?_
            refine AOps.call (o_pickF _ _ _ rfl h48 rfl rfl) ?_
            refine AOps.call (o_move _ rfl rfl) ?_
            refine AOps.pass rfl rfl rfl rfl rfl ?_
            refine AOps.call (o_pickF _ _ _ rfl rfl rfl rfl) ?_
            refine AOps.call (o_move _ rfl rfl) ?_
            refine AOps.pass rfl rfl rfl rfl rfl ?_
            refine AOps.pass rfl rfl rfl rfl rfl ?_
            refine AOps.pass rfl rfl rfl rfl rfl ?_
            refine AOps.pass rfl rfl rfl rfl rfl ?_
            refine AOps.pass rfl rfl rfl rfl rfl ?_
            refine AOps.pass rfl rfl rfl rfl rfl ?_
            refine AOps.pass rfl rfl rfl rfl rfl ?_
            refine AOps.pass rfl rfl rfl rfl rfl ?_
            refine AOps.call (o_pickF _ _ _ rfl rfl rfl rfl) ?_
            refine AOps.call (o_assign _ rfl rfl) ?_
            refine AOps.nil ?_
            refine AWP.ret ?_
            refine postQ.ret1 Tryz.results94 rfl ?_
            unfold stakeB
            simp_all [AV.close, B]
            all_goals first | (intros; omega) | (rw [Bool.eq_iff_iff]; simp only [Bool.and_eq_true, Bool.not_eq_true', decide_eq_true_eq, decide_eq_false_iff_not]; omega)
      · skip
        refine AOps.pass rfl rfl rfl h19 rfl ?_
        refine AOps.pass rfl rfl rfl h19 rfl ?_
        refine AOps.pass rfl rfl rfl h19 rfl ?_
        refine AOps.pass rfl rfl rfl h19 rfl ?_
        refine AOps.pass rfl rfl rfl h19 rfl ?_
        refine AOps.call (o_pickF _ _ _ rfl h19 rfl rfl) ?_
        refine AOps.call (o_move _ rfl rfl) ?_
        refine AOps.pass rfl rfl rfl rfl rfl ?_
        refine AOps.pass rfl rfl rfl rfl rfl ?_
        refine AOps.pass rfl rfl rfl rfl rfl ?_
        refine AOps.call (o_pickF _ _ _ rfl rfl rfl rfl) ?_
        refine AOps.call (o_move _ rfl rfl) ?_
        refine AOps.pass rfl rfl rfl rfl rfl ?_
        refine AOps.pass rfl rfl rfl rfl rfl ?_
        refine AOps.pass rfl rfl rfl rfl rfl ?_
        refine AOps.pass rfl rfl rfl rfl rfl ?_
        refine AOps.pass rfl rfl rfl rfl rfl ?_
        refine AOps.call (o_pickF _ _ _ rfl rfl rfl rfl) ?_
        refine AOps.call (o_assign _ rfl rfl) ?_
        refine AOps.nil ?_
        refine AWP.seq ?_
        refine AWP.region ?_
        refine AOps.call (o_move _ rfl rfl) ?_
        refine AOps.call (o_move _ rfl rfl) ?_
        refine AOps.split rfl rfl rfl (fun h50 => ?_) (fun h50 => ?_)
        · skip
          refine AOps.go rfl rfl rfl h50 (o_move _ rfl rfl) ?_
          refine AOps.call (o_pickT _ _ _ rfl h50 rfl rfl) ?_
          refine AOps.call (o_move _ rfl rfl) ?_
          refine AOps.split rfl rfl rfl (fun h51 => ?_) (fun h51 => ?_)
          · skip
            refine AOps.go rfl rfl rfl h51 (o_move _ rfl rfl) ?_
            refine AOps.call (o_pickT _ _ _ rfl h51 rfl rfl) ?_
            refine AOps.call (o_move _ rfl rfl) ?_
            refine AOps.pass rfl rfl rfl rfl rfl ?_
            refine AOps.pass rfl rfl rfl rfl rfl ?_
            refine AOps.pass rfl rfl rfl rfl rfl ?_
            refine AOps.pass rfl rfl rfl rfl rfl ?_
            refine AOps.pass rfl rfl rfl rfl rfl ?_
            refine AOps.pass rfl rfl rfl rfl rfl ?_
            refine AOps.pass rfl rfl rfl rfl rfl ?_
            refine AOps.pass rfl rfl rfl rfl rfl ?_
            refine AOps.call (o_pickF _ _ _ rfl rfl rfl rfl) ?_
            refine AOps.call (o_assign _ rfl rfl) ?_
            refine AOps.nil ?_
            refine AWP.ret ?_
            refine postQ.ret1 Tryz.results94 rfl ?_
            unfold stakeB
            simp_all [AV.close, B]
            all_goals first | (intros; omega) | (rw [Bool.eq_iff_iff]; simp only [Bool.and_eq_true, Bool.not_eq_true', decide_eq_true_eq, decide_eq_false_iff_not]; omega)
          · skip
            refine AOps.pass rfl rfl rfl h51 rfl ?_
            refine AOps.call (o_pickF _ _ _ rfl h51 rfl rfl) ?_
            refine AOps.call (o_move _ rfl rfl) ?_
            refine AOps.pass rfl rfl rfl rfl rfl ?_
            refine AOps.pass rfl rfl rfl rfl rfl ?_
            refine AOps.pass rfl rfl rfl rfl rfl ?_
            refine AOps.pass rfl rfl rfl rfl rfl ?_
            refine AOps.pass rfl rfl rfl rfl rfl ?_
            refine AOps.pass rfl rfl rfl rfl rfl ?_
            refine AOps.pass rfl rfl rfl rfl rfl ?_
            refine AOps.pass rfl rfl rfl rfl rfl ?_
            refine AOps.call (o_pickF _ _ _ rfl rfl rfl rfl) ?_
            refine AOps.call (o_assign _ rfl rfl) ?_
            refine AOps.nil ?_
            refine AWP.ret ?_
            refine postQ.ret1 Tryz.results94 rfl ?_
            unfold stakeB
            simp_all [AV.close, B]
            all_goals first | (intros; omega) | (rw [Bool.eq_iff_iff]; simp only [Bool.and_eq_true, Bool.not_eq_true', decide_eq_true_eq, decide_eq_false_iff_not]; omega)
        · skip
          refine AOps.pass rfl rfl rfl h50 rfl ?_
          refine AOps.call (o_pickF _ _ _ rfl h50 rfl rfl) ?_
          refine AOps.call (o_move _ rfl rfl) ?_
          refine AOps.pass rfl rfl rfl rfl rfl ?_
          refine AOps.call (o_pickF _ _ _ rfl rfl rfl rfl) ?_
          refine AOps.call (o_move _ rfl rfl) ?_
          refine AOps.pass rfl rfl rfl rfl rfl ?_
          refine AOps.pass rfl rfl rfl rfl rfl ?_
          refine AOps.pass rfl rfl rfl rfl rfl ?_
          refine AOps.pass rfl rfl rfl rfl rfl ?_
          refine AOps.pass rfl rfl rfl rfl rfl ?_
          refine AOps.pass rfl rfl rfl rfl rfl ?_
          refine AOps.pass rfl rfl rfl rfl rfl ?_
          refine AOps.pass rfl rfl rfl rfl rfl ?_
          refine AOps.call (o_pickF _ _ _ rfl rfl rfl rfl) ?_
          refine AOps.call (o_assign _ rfl rfl) ?_
          refine AOps.nil ?_
          refine AWP.ret ?_
          refine postQ.ret1 Tryz.results94 rfl ?_
          unfold stakeB
          simp_all [AV.close, B]
          all_goals first | (intros; omega) | (rw [Bool.eq_iff_iff]; simp only [Bool.and_eq_true, Bool.not_eq_true', decide_eq_true_eq, decide_eq_false_iff_not]; omega)
    · skip
      refine AOps.pass rfl rfl rfl h15 rfl ?_
      refine AOps.pass rfl rfl rfl h15 rfl ?_
      refine AOps.pass rfl rfl rfl h15 rfl ?_
      refine AOps.call (o_pickF _ _ _ rfl h15 rfl rfl) ?_
      refine AOps.call (o_move _ rfl rfl) ?_
      refine AOps.pass rfl rfl rfl rfl rfl ?_
      refine AOps.pass rfl rfl rfl rfl rfl ?_
      refine AOps.pass rfl rfl rfl rfl rfl ?_
      refine AOps.pass rfl rfl rfl rfl rfl ?_
      refine AOps.pass rfl rfl rfl rfl rfl ?_
      refine AOps.call (o_pickF _ _ _ rfl rfl rfl rfl) ?_
      refine AOps.call (o_move _ rfl rfl) ?_
      refine AOps.pass rfl rfl rfl rfl rfl ?_
      refine AOps.pass rfl rfl rfl rfl rfl ?_
      refine AOps.pass rfl rfl rfl rfl rfl ?_
      refine AOps.call (o_pickF _ _ _ rfl rfl rfl rfl) ?_
      refine AOps.call (o_move _ rfl rfl) ?_
      refine AOps.pass rfl rfl rfl rfl rfl ?_
      refine AOps.pass rfl rfl rfl rfl rfl ?_
      refine AOps.pass rfl rfl rfl rfl rfl ?_
      refine AOps.pass rfl rfl rfl rfl rfl ?_
      refine AOps.pass rfl rfl rfl rfl rfl ?_
      refine AOps.call (o_pickF _ _ _ rfl rfl rfl rfl) ?_
      refine AOps.call (o_assign _ rfl rfl) ?_
      refine AOps.nil ?_
      refine AWP.seq ?_
      refine AWP.region ?_
      refine AOps.call (o_move _ rfl rfl) ?_
      refine AOps.call (o_move _ rfl rfl) ?_
      refine AOps.split rfl rfl rfl (fun h52 => ?_) (fun h52 => ?_)
      · skip
        refine AOps.go rfl rfl rfl h52 (o_move _ rfl rfl) ?_
        refine AOps.call (o_pickT _ _ _ rfl h52 rfl rfl) ?_
        refine AOps.call (o_move _ rfl rfl) ?_
        refine AOps.split rfl rfl rfl (fun h53 => ?_) (fun h53 => ?_)
        · skip
          refine AOps.go rfl rfl rfl h53 (o_move _ rfl rfl) ?_
          refine AOps.call (o_pickT _ _ _ rfl h53 rfl rfl) ?_
          refine AOps.call (o_move _ rfl rfl) ?_
          refine AOps.pass rfl rfl rfl rfl rfl ?_
          refine AOps.pass rfl rfl rfl rfl rfl ?_
          refine AOps.pass rfl rfl rfl rfl rfl ?_
          refine AOps.pass rfl rfl rfl rfl rfl ?_
          refine AOps.pass rfl rfl rfl rfl rfl ?_
          refine AOps.pass rfl rfl rfl rfl rfl ?_
          refine AOps.pass rfl rfl rfl rfl rfl ?_
          refine AOps.pass rfl rfl rfl rfl rfl ?_
          refine AOps.call (o_pickF _ _ _ rfl rfl rfl rfl) ?_
          refine AOps.call (o_assign _ rfl rfl) ?_
          refine AOps.nil ?_
          refine AWP.ret ?_
          refine postQ.ret1 Tryz.results94 rfl ?_
          unfold stakeB
          simp_all [AV.close, B]
          all_goals first | (intros; omega) | (rw [Bool.eq_iff_iff]; simp only [Bool.and_eq_true, Bool.not_eq_true', decide_eq_true_eq, decide_eq_false_iff_not]; omega)
        · skip
          refine AOps.pass rfl rfl rfl h53 rfl ?_
          refine AOps.call (o_pickF _ _ _ rfl h53 rfl rfl) ?_
          refine AOps.call (o_move _ rfl rfl) ?_
          refine AOps.pass rfl rfl rfl rfl rfl ?_
          refine AOps.pass rfl rfl rfl rfl rfl ?_
          refine AOps.pass rfl rfl rfl rfl rfl ?_
          refine AOps.pass rfl rfl rfl rfl rfl ?_
          refine AOps.pass rfl rfl rfl rfl rfl ?_
          refine AOps.pass rfl rfl rfl rfl rfl ?_
          refine AOps.pass rfl rfl rfl rfl rfl ?_
          refine AOps.pass rfl rfl rfl rfl rfl ?_
          refine AOps.call (o_pickF _ _ _ rfl rfl rfl rfl) ?_
          refine AOps.call (o_assign _ rfl rfl) ?_
          refine AOps.nil ?_
          refine AWP.ret ?_
          refine postQ.ret1 Tryz.results94 rfl ?_
          unfold stakeB
          simp_all [AV.close, B]
          all_goals first | (intros; omega) | (rw [Bool.eq_iff_iff]; simp only [Bool.and_eq_true, Bool.not_eq_true', decide_eq_true_eq, decide_eq_false_iff_not]; omega)
      · skip
        refine AOps.pass rfl rfl rfl h52 rfl ?_
        refine AOps.call (o_pickF _ _ _ rfl h52 rfl rfl) ?_
        refine AOps.call (o_move _ rfl rfl) ?_
        refine AOps.pass rfl rfl rfl rfl rfl ?_
        refine AOps.call (o_pickF _ _ _ rfl rfl rfl rfl) ?_
        refine AOps.call (o_move _ rfl rfl) ?_
        refine AOps.pass rfl rfl rfl rfl rfl ?_
        refine AOps.pass rfl rfl rfl rfl rfl ?_
        refine AOps.pass rfl rfl rfl rfl rfl ?_
        refine AOps.pass rfl rfl rfl rfl rfl ?_
        refine AOps.pass rfl rfl rfl rfl rfl ?_
        refine AOps.pass rfl rfl rfl rfl rfl ?_
        refine AOps.pass rfl rfl rfl rfl rfl ?_
        refine AOps.pass rfl rfl rfl rfl rfl ?_
        refine AOps.call (o_pickF _ _ _ rfl rfl rfl rfl) ?_
        refine AOps.call (o_assign _ rfl rfl) ?_
        refine AOps.nil ?_
        refine AWP.ret ?_
        refine postQ.ret1 Tryz.results94 rfl ?_
        unfold stakeB
        simp_all [AV.close, B]
        all_goals first | (intros; omega) | (rw [Bool.eq_iff_iff]; simp only [Bool.and_eq_true, Bool.not_eq_true', decide_eq_true_eq, decide_eq_false_iff_not]; omega)
  · skip
    refine AOps.pass rfl rfl rfl h11 rfl ?_
    refine AOps.pass rfl rfl rfl h11 rfl ?_
    refine AOps.pass rfl rfl rfl h11 rfl ?_
    refine AOps.call (o_pickF _ _ _ rfl h11 rfl rfl) ?_
    refine AOps.call (o_move _ rfl rfl) ?_
    refine AOps.pass rfl rfl rfl rfl rfl ?_
    refine AOps.pass rfl rfl rfl rfl rfl ?_
    refine AOps.pass rfl rfl rfl rfl rfl ?_
    refine AOps.call (o_pickF _ _ _ rfl rfl rfl rfl) ?_
    refine AOps.call (o_move _ rfl rfl) ?_
    refine AOps.pass rfl rfl rfl rfl rfl ?_
    refine AOps.pass rfl rfl rfl rfl rfl ?_
    refine AOps.pass rfl rfl rfl rfl rfl ?_
    refine AOps.pass rfl rfl rfl rfl rfl ?_
    refine AOps.pass rfl rfl rfl rfl rfl ?_
    refine AOps.call (o_pickF _ _ _ rfl rfl rfl rfl) ?_
    refine AOps.call (o_move _ rfl rfl) ?_
    refine AOps.pass rfl rfl rfl rfl rfl ?_
    refine AOps.pass rfl rfl rfl rfl rfl ?_
    refine AOps.pass rfl rfl rfl rfl rfl ?_
    refine AOps.call (o_pickF _ _ _ rfl rfl rfl rfl) ?_
    refine AOps.call (o_move _ rfl rfl) ?_
    refine AOps.pass rfl rfl rfl rfl rfl ?_
    refine AOps.pass rfl rfl rfl rfl rfl ?_
    refine AOps.pass rfl rfl rfl rfl rfl ?_
    refine AOps.pass rfl rfl rfl rfl rfl ?_
    refine AOps.pass rfl rfl rfl rfl rfl ?_
    refine AOps.call (o_pickF _ _ _ rfl rfl rfl rfl) ?_
    refine AOps.call (o_assign _ rfl rfl) ?_
    refine AOps.nil ?_
    refine AWP.seq ?_
    refine AWP.region ?_
    refine AOps.call (o_move _ rfl rfl) ?_
    refine AOps.call (o_move _ rfl rfl) ?_
    refine AOps.split rfl rfl rfl (fun h54 => ?_) (fun h54 => ?_)
    · skip
      refine AOps.go rfl rfl rfl h54 (o_move _ rfl rfl) ?_
      refine AOps.call (o_pickT _ _ _ rfl h54 rfl rfl) ?_
      refine AOps.call (o_move _ rfl rfl) ?_
      refine AOps.split rfl rfl rfl (fun h55 => ?_) (fun h55 => ?_)
      · skip
        refine AOps.go rfl rfl rfl h55 (o_move _ rfl rfl) ?_
        refine AOps.call (o_pickT _ _ _ rfl h55 rfl rfl) ?_
        refine AOps.call (o_move _ rfl rfl) ?_
        refine AOps.pass rfl rfl rfl rfl rfl ?_
        refine AOps.pass rfl rfl rfl rfl rfl ?_
        refine AOps.pass rfl rfl rfl rfl rfl ?_
        refine AOps.pass rfl rfl rfl rfl rfl ?_
        refine AOps.pass rfl rfl rfl rfl rfl ?_
        refine AOps.pass rfl rfl rfl rfl rfl ?_
        refine AOps.pass rfl rfl rfl rfl rfl ?_
        refine AOps.pass rfl rfl rfl rfl rfl ?_
        refine AOps.call (o_pickF _ _ _ rfl rfl rfl rfl) ?_
        refine AOps.call (o_assign _ rfl rfl) ?_
        refine AOps.nil ?_
        refine AWP.ret ?_
        refine postQ.ret1 Tryz.results94 rfl ?_
        unfold stakeB
        simp_all [AV.close, B]
        all_goals first | (intros; omega) | (rw [Bool.eq_iff_iff]; simp only [Bool.and_eq_true, Bool.not_eq_true', decide_eq_true_eq, decide_eq_false_iff_not]; omega)
      · skip
        refine AOps.pass rfl rfl rfl h55 rfl ?_
        refine AOps.call (o_pickF _ _ _ rfl h55 rfl rfl) ?_
        refine AOps.call (o_move _ rfl rfl) ?_
        refine AOps.pass rfl rfl rfl rfl rfl ?_
        refine AOps.pass rfl rfl rfl rfl rfl ?_
        refine AOps.pass rfl rfl rfl rfl rfl ?_
        refine AOps.pass rfl rfl rfl rfl rfl ?_
        refine AOps.pass rfl rfl rfl rfl rfl ?_
        refine AOps.pass rfl rfl rfl rfl rfl ?_
        refine AOps.pass rfl rfl rfl rfl rfl ?_
        refine AOps.pass rfl rfl rfl rfl rfl ?_
        refine AOps.call (o_pickF _ _ _ rfl rfl rfl rfl) ?_
        refine AOps.call (o_assign _ rfl rfl) ?_
        refine AOps.nil ?_
        refine AWP.ret ?_
        refine postQ.ret1 Tryz.results94 rfl ?_
        unfold stakeB
        simp_all [AV.close, B]
        all_goals first | (intros; omega) | (rw [Bool.eq_iff_iff]; simp only [Bool.and_eq_true, Bool.not_eq_true', decide_eq_true_eq, decide_eq_false_iff_not]; omega)
    · skip
      refine AOps.pass rfl rfl rfl h54 rfl ?_
      refine AOps.call (o_pickF _ _ _ rfl h54 rfl rfl) ?_
      refine AOps.call (o_move _ rfl rfl) ?_
      refine AOps.pass rfl rfl rfl rfl rfl ?_
      refine AOps.call (o_pickF _ _ _ rfl rfl rfl rfl) ?_
      refine AOps.call (o_move _ rfl rfl) ?_
      refine AOps.pass rfl rfl rfl rfl rfl ?_
      refine AOps.pass rfl rfl rfl rfl rfl ?_
      refine AOps.pass rfl rfl rfl rfl rfl ?_
      refine AOps.pass rfl rfl rfl rfl rfl ?_
      refine AOps.pass rfl rfl rfl rfl rfl ?_
      refine AOps.pass rfl rfl rfl rfl rfl ?_
      refine AOps.pass rfl rfl rfl rfl rfl ?_
      refine AOps.pass rfl rfl rfl rfl rfl ?_
      refine AOps.call (o_pickF _ _ _ rfl rfl rfl rfl) ?_
      refine AOps.call (o_assign _ rfl rfl) ?_
      refine AOps.nil ?_
      refine AWP.ret ?_
      refine postQ.ret1 Tryz.results94 rfl ?_
      unfold stakeB
      simp_all [AV.close, B]
      all_goals first | (intros; omega) | (rw [Bool.eq_iff_iff]; simp only [Bool.and_eq_true, Bool.not_eq_true', decide_eq_true_eq, decide_eq_false_iff_not]; omega)

set_option maxRecDepth 20000 in
theorem rCheckSheet_s (h : Sht) : FSpec Tryz.prog 53 [.agg (eH h)] (I (if sheetB h then 0 else 12)) (none) := by
  refine FSpec.of_body Tryz.func53 rfl (leB rfl) fun w0 M0 => ?_
  have hsl := stakes_len h.stakes
  refine AWP.seq ?_
  refine AWP.region ?_
  refine AOps.call (o_box _ rfl rfl rfl) ?_
  refine AOps.call (o_assign _ rfl rfl) ?_
  refine AOps.nil ?_
  refine AWP.seq ?_
  refine AWP.region ?_
  refine AOps.call (o_fieldRef _ rfl fa40_0 rfl rfl) ?_
  refine AOps.call (o_loadRef _ rfl rfl Tryz.sizeOf3 Tryz.isAgg3 rfl rfl rfl) ?_
  refine AOps.call (o_call (rNumber_s _) Tryz.call77 rfl rfl) ?_
  refine AOps.call (o_assign _ rfl rfl) ?_
  refine AOps.nil ?_
  refine AWP.seq ?_
  refine AWP.region ?_
  refine AOps.call (o_fieldRef _ rfl fa40_1 rfl rfl) ?_
  refine AOps.call (o_loadRef _ rfl rfl Tryz.sizeOf3 Tryz.isAgg3 rfl rfl rfl) ?_
  refine AOps.call (o_call (rNumber_s _) Tryz.call77 rfl rfl) ?_
  refine AOps.call (o_assign _ rfl rfl) ?_
  refine AOps.nil ?_
  refine AWP.seq ?_
  refine AWP.region ?_
  refine AOps.call (o_fieldRef _ rfl fa40_4 rfl rfl) ?_
  refine AOps.call (o_loadRef _ rfl rfl Tryz.sizeOf3 Tryz.isAgg3 rfl rfl rfl) ?_
  refine AOps.call (o_call (rNumber_s _) Tryz.call77 rfl rfl) ?_
  refine AOps.call (o_assign _ rfl rfl) ?_
  refine AOps.nil ?_
  refine AWP.seq ?_
  refine AWP.region ?_
  refine AOps.call (o_fieldRef _ rfl fa40_2 rfl rfl) ?_
  refine AOps.call (o_loadRef _ rfl rfl Tryz.sizeOf3 Tryz.isAgg3 rfl rfl rfl) ?_
  refine AOps.call (o_call (rDay_s _) Tryz.call40 rfl rfl) ?_
  refine AOps.call (o_assign _ rfl rfl) ?_
  refine AOps.nil ?_
  refine AWP.seq ?_
  refine AWP.region ?_
  refine AOps.call (o_fieldRef _ rfl fa40_3 rfl rfl) ?_
  refine AOps.call (o_loadRef _ rfl rfl Tryz.sizeOf3 Tryz.isAgg3 rfl rfl rfl) ?_
  refine AOps.call (o_call (rDay_s _) Tryz.call40 rfl rfl) ?_
  refine AOps.call (o_assign _ rfl rfl) ?_
  refine AOps.nil ?_
  refine AWP.seq ?_
  refine AWP.region ?_
  refine AOps.call (o_fieldRef _ rfl fa40_7 rfl rfl) ?_
  refine AOps.call (o_loadRef _ rfl rfl Tryz.sizeOf3 Tryz.isAgg3 rfl rfl rfl) ?_
  refine AOps.call (o_call (rDay_s _) Tryz.call40 rfl rfl) ?_
  refine AOps.call (o_assign _ rfl rfl) ?_
  refine AOps.nil ?_
  refine AWP.seq ?_
  refine AWP.region ?_
  refine AOps.call (o_fieldRef _ rfl fa40_6 rfl rfl) ?_
  refine AOps.call (o_loadRef _ rfl rfl Tryz.sizeOf3 Tryz.isAgg3 rfl rfl rfl) ?_
  refine AOps.call (o_call (rgram_s _) Tryz.call93 rfl rfl) ?_
  refine AOps.call (o_assign _ rfl rfl) ?_
  refine AOps.nil ?_
  refine AWP.seq ?_
  refine AWP.seq ?_
  refine AWP.region ?_
  refine AOps.call (o_move _ rfl rfl) ?_
  refine AOps.call (o_un _ rfl (fun _ => rfl) rfl) ?_
  refine AOps.call (o_move _ rfl rfl) ?_
  refine AOps.split rfl rfl rfl (fun h25 => ?_) (fun h25 => ?_)
  · skip
    refine AOps.go rfl rfl rfl h25 (o_move _ rfl rfl) ?_
    refine AOps.go rfl rfl rfl h25 (o_un _ rfl (fun _ => rfl) rfl) ?_
    refine AOps.call (o_pickF _ _ _ rfl h25 rfl rfl) ?_
    refine AOps.call (o_move _ rfl rfl) ?_
    refine AOps.split rfl rfl rfl (fun h27 => ?_) (fun h27 => ?_)
    · skip
      refine AOps.go rfl rfl rfl h27 (o_move _ rfl rfl) ?_
      refine AOps.go rfl rfl rfl h27 (o_un _ rfl (fun _ => rfl) rfl) ?_
      refine AOps.call (o_pickF _ _ _ rfl h27 rfl rfl) ?_
      refine AOps.call (o_move _ rfl rfl) ?_
      refine AOps.split rfl rfl rfl (fun h29 => ?_) (fun h29 => ?_)
      · skip
        refine AOps.go rfl rfl rfl h29 (o_move _ rfl rfl) ?_
        refine AOps.go rfl rfl rfl h29 (o_un _ rfl (fun _ => rfl) rfl) ?_
        refine AOps.call (o_pickF _ _ _ rfl h29 rfl rfl) ?_
        refine AOps.call (o_move _ rfl rfl) ?_
        refine AOps.split rfl rfl rfl (fun h31 => ?_) (fun h31 => ?_)
        · skip
          refine AOps.go rfl rfl rfl h31 (o_move _ rfl rfl) ?_
          refine AOps.go rfl rfl rfl h31 (o_un _ rfl (fun _ => rfl) rfl) ?_
          refine AOps.call (o_pickF _ _ _ rfl h31 rfl rfl) ?_
          refine AOps.call (o_move _ rfl rfl) ?_
          refine AOps.split rfl rfl rfl (fun h33 => ?_) (fun h33 => ?_)
          · skip
            refine AOps.go rfl rfl rfl h33 (o_move _ rfl rfl) ?_
            refine AOps.go rfl rfl rfl h33 (o_un _ rfl (fun _ => rfl) rfl) ?_
            refine AOps.call (o_pickF _ _ _ rfl h33 rfl rfl) ?_
            refine AOps.call (o_move _ rfl rfl) ?_
            refine AOps.split rfl rfl rfl (fun h35 => ?_) (fun h35 => ?_)
            · skip
              refine AOps.go rfl rfl rfl h35 (o_move _ rfl rfl) ?_
              refine AOps.go rfl rfl rfl h35 (o_un _ rfl (fun _ => rfl) rfl) ?_
              refine AOps.call (o_pickF _ _ _ rfl h35 rfl rfl) ?_
              refine AOps.call (o_move _ rfl rfl) ?_
              refine AOps.split rfl rfl rfl (fun h37 => ?_) (fun h37 => ?_)
              · skip
                refine AOps.go rfl rfl rfl h37 (o_fieldRef _ rfl fa40_5 rfl rfl) ?_
                refine AOps.go rfl rfl rfl h37 (o_loadRef _ rfl rfl Tryz.sizeOf3 Tryz.isAgg3 rfl rfl rfl) ?_
                refine AOps.go rfl rfl rfl h37 (o_bin _ _ rfl rfl (fun _ => rfl) rfl) ?_
                refine AOps.call (o_pickF _ _ _ rfl h37 rfl rfl) ?_
                refine AOps.call (o_move _ rfl rfl) ?_
                refine AOps.split rfl rfl rfl (fun h41 => ?_) (fun h41 => ?_)
                · skip
                  refine AOps.go rfl rfl rfl h41 (o_fieldRef _ rfl fa40_5 rfl rfl) ?_
                  refine AOps.go rfl rfl rfl h41 (o_loadRef _ rfl rfl Tryz.sizeOf3 Tryz.isAgg3 rfl rfl rfl) ?_
                  refine AOps.go rfl rfl rfl h41 (o_bin _ _ rfl rfl (fun _ => rfl) rfl) ?_
                  refine AOps.call (o_pickF _ _ _ rfl h41 rfl rfl) ?_
                  refine AOps.call (o_move _ rfl rfl) ?_
                  refine AOps.split rfl rfl rfl (fun h45 => ?_) (fun h45 => ?_)
                  · skip
                    refine AOps.go rfl rfl rfl h45 (o_fieldRef _ rfl fa40_8 rfl rfl) ?_
                    refine AOps.go rfl rfl rfl h45 (o_loadRef _ rfl rfl Tryz.sizeOf38 Tryz.isAgg38 rfl rfl rfl) ?_
                    refine AOps.go rfl rfl rfl h45 (o_len _ Tryz.underlying38 rfl rfl) ?_
                    refine AOps.go rfl rfl rfl h45 (o_bin _ _ rfl rfl (fun _ => rfl) rfl) ?_
                    refine AOps.call (o_pickF _ _ _ rfl h45 rfl rfl) ?_
                    refine AOps.call (o_move _ rfl rfl) ?_
                    refine AOps.split rfl rfl rfl (fun h50 => ?_) (fun h50 => ?_)
                    · skip
                      refine AOps.go rfl rfl rfl h50 (o_fieldRef _ rfl fa40_8 rfl rfl) ?_
                      refine AOps.go rfl rfl rfl h50 (o_loadRef _ rfl rfl Tryz.sizeOf38 Tryz.isAgg38 rfl rfl rfl) ?_
                      refine AOps.go rfl rfl rfl h50 (o_len _ Tryz.underlying38 rfl rfl) ?_
                      refine AOps.go rfl rfl rfl h50 (o_bin _ _ rfl rfl (fun _ => rfl) rfl) ?_
                      refine AOps.call (o_pickF _ _ _ rfl h50 rfl rfl) ?_
                      refine AOps.nil ?_
                      refine AWP.cond _ rfl (fun h55 => ?_) (fun h55 => ?_)
                      · skip
                        have hhd : (headB h && (mouthB h && decide (1 ≤ h.stakes.length ∧ h.stakes.length ≤ 32))) = false := by
                          unfold headB mouthB
                          first
                          | (simp_all; done)
                          | (simp_all; omega)
                        have hb : sheetB h = false := by rw [sheetB_eq, ← Bool.and_assoc, ← Bool.and_assoc, Bool.and_assoc (headB h), hhd]; rfl
                        refine AWP.seq ?_
                        refine AWP.region ?_
                        refine AOps.call (o_assign _ rfl rfl) ?_
                        refine AOps.nil ?_
                        refine AWP.ret ?_
                        refine postQ.ret1 Tryz.results53 rfl ?_
                        rw [hb]; rfl
                      · skip
                        have hhd : (headB h && (mouthB h && decide (1 ≤ h.stakes.length ∧ h.stakes.length ≤ 32))) = true := by
                          unfold headB mouthB
                          first
                          | (simp_all; done)
                          | (simp_all; omega)
                        have hb0 : sheetB h = h.stakes.all stakeB := by rw [sheetB_eq, ← Bool.and_assoc, ← Bool.and_assoc, Bool.and_assoc (headB h), hhd]; rfl
                        refine AWP.skip ?_
                        refine AWP.seq ?_
                        refine AWP.seq ?_
                        refine AWP.region ?_
                        refine AOps.call (o_assign _ rfl rfl) ?_
                        refine AOps.nil ?_
                        refine AWP.block ?_
                        refine AWP.loop (ι := Nat) (fun i => AS.mk' 96 [(1, .ref (1, 0) 0), (10, I i)] [((1, 0), eH h)] [] [(1, 1)]) (fun i => i ≤ h.stakes.length ∧ h.stakes.all stakeB = (h.stakes.drop i).all stakeB) (fun i => h.stakes.length - i) (0) (Weak.mk' rfl ⟨⟨.refl rfl, rfl⟩, ⟨⟨.refl rfl, rfl⟩, trivial⟩⟩ ⟨⟨rfl, rfl, rfl⟩, trivial⟩ trivial) (⟨Nat.zero_le _, rfl⟩) ?_
                        rintro k ⟨hk, hinv⟩
                        try dsimp only at *
                        refine AWP.seq ?_
                        refine AWP.seq ?_
                        refine AWP.region ?_
                        refine AOps.call (o_move _ rfl rfl) ?_
                        refine AOps.call (o_fieldRef _ rfl fa40_8 rfl rfl) ?_
                        refine AOps.call (o_loadRef _ rfl rfl Tryz.sizeOf38 Tryz.isAgg38 rfl rfl rfl) ?_
                        refine AOps.call (o_len _ Tryz.underlying38 rfl rfl) ?_
                        refine AOps.call (o_bin _ _ rfl rfl (fun _ => rfl) rfl) ?_
                        refine AOps.nil ?_
                        refine AWP.cond _ rfl (fun h62 => ?_) (fun h62 => ?_)
                        · skip
                          have h32 : h.stakes.length ≤ 32 := by
                            rw [Bool.and_eq_true, Bool.and_eq_true, decide_eq_true_eq] at hhd
                            exact hhd.2.2.2
                          have hlt : k < h.stakes.length := by simpa [stakes] using h62
                          have hel := stakes_get hlt
                          refine AWP.skip ?_
                          refine AWP.seq ?_
                          refine AWP.block ?_
                          refine AWP.seq ?_
                          refine AWP.region ?_
                          refine AOps.call (o_fieldRef _ rfl fa40_8 rfl rfl) ?_
                          refine AOps.call (o_loadRef _ rfl rfl Tryz.sizeOf38 Tryz.isAgg38 rfl rfl rfl) ?_
                          refine AOps.call (o_move _ rfl rfl) ?_
                          refine AOps.call (o_index _ _ Tryz.underlying38 Tryz.sizeOf81 rfl rfl (by omega) hel rfl rfl) ?_
                          refine AOps.call (o_loadRd _ rfl Tryz.sizeOf81 Tryz.isAgg81 rfl rfl rfl) ?_
                          refine AOps.call (o_call (rstake_s h.stakes[k]) Tryz.call94 rfl rfl) ?_
                          refine AOps.call (o_assign _ rfl rfl) ?_
                          refine AOps.nil ?_
                          refine AWP.seq ?_
                          refine AWP.region ?_
                          refine AOps.call (o_move _ rfl rfl) ?_
                          refine AOps.call (o_un _ rfl (fun _ => rfl) rfl) ?_
                          refine AOps.nil ?_
                          refine AWP.cond _ rfl (fun h69 => ?_) (fun h69 => ?_)
                          · skip
                            have hb : sheetB h = false := by rw [hb0, hinv, alls_at hlt]; simp_all
                            refine AWP.seq ?_
                            refine AWP.region ?_
                            refine AOps.call (o_assign _ rfl rfl) ?_
                            refine AOps.nil ?_
                            refine AWP.ret ?_
                            refine postQ.ret1 Tryz.results53 rfl ?_
                            rw [hb]; rfl
                          · skip
                            refine AWP.skip ?_
                            refine AWP.region ?_
                            refine AOps.call (o_move _ rfl rfl) ?_
                            refine AOps.call (o_add _ _ rfl rfl ⟨by (try dsimp only); omega, by (try dsimp only); omega⟩ rfl) ?_
                            refine AOps.call (o_assign _ rfl rfl) ?_
                            refine AOps.nil ?_
                            refine ⟨k + 1, ?_, (Weak.mk' rfl ⟨⟨.refl rfl, rfl⟩, ⟨⟨.refl rfl, rfl⟩, trivial⟩⟩ ⟨⟨rfl, rfl, rfl⟩, trivial⟩ trivial)⟩
                            exact ⟨⟨by omega, by rw [hinv, alls_at hlt]; simp_all⟩, by omega⟩
                        · skip
                          have hkl : k = h.stakes.length := by simp [stakes] at h62 hk; omega
                          subst hkl
                          have hb : sheetB h = true := by rw [hb0, hinv, List.drop_length]; rfl
                          refine AWP.exit ?_
                          refine AWP.seq ?_
                          refine AWP.region ?_
                          refine AOps.call (o_assign _ rfl rfl) ?_
                          refine AOps.nil ?_
                          refine AWP.ret ?_
                          refine postQ.ret1 Tryz.results53 rfl ?_
                          rw [hb]; rfl
                    · skip
                      refine AOps.pass rfl rfl rfl h50 rfl ?_
                      refine AOps.pass rfl rfl rfl h50 rfl ?_
                      refine AOps.pass rfl rfl rfl h50 rfl ?_
                      refine AOps.pass rfl rfl rfl h50 rfl ?_
                      refine AOps.call (o_pickT _ _ _ rfl h50 rfl rfl) ?_
                      refine AOps.nil ?_
                      refine AWP.condT rfl ?_
                      have hhd : (headB h && (mouthB h && decide (1 ≤ h.stakes.length ∧ h.stakes.length ≤ 32))) = false := by
                        unfold headB mouthB
                        first
                        | (simp_all; done)
                        | (simp_all; omega)
                      have hb : sheetB h = false := by rw [sheetB_eq, ← Bool.and_assoc, ← Bool.and_assoc, Bool.and_assoc (headB h), hhd]; rfl
                      refine AWP.seq ?_
                      refine AWP.region ?_
                      refine AOps.call (o_assign _ rfl rfl) ?_
                      refine AOps.nil ?_
                      refine AWP.ret ?_
                      refine postQ.ret1 Tryz.results53 rfl ?_
                      rw [hb]; rfl
                  · skip
                    refine AOps.pass rfl rfl rfl h45 rfl ?_
                    refine AOps.pass rfl rfl rfl h45 rfl ?_
                    refine AOps.pass rfl rfl rfl h45 rfl ?_
                    refine AOps.pass rfl rfl rfl h45 rfl ?_
                    refine AOps.call (o_pickT _ _ _ rfl h45 rfl rfl) ?_
                    refine AOps.call (o_move _ rfl rfl) ?_
                    refine AOps.pass rfl rfl rfl rfl rfl ?_
                    refine AOps.pass rfl rfl rfl rfl rfl ?_
                    refine AOps.pass rfl rfl rfl rfl rfl ?_
                    refine AOps.pass rfl rfl rfl rfl rfl ?_
                    refine AOps.call (o_pickT _ _ _ rfl rfl rfl rfl) ?_
                    refine AOps.nil ?_
                    refine AWP.condT rfl ?_
                    have hhd : (headB h && (mouthB h && decide (1 ≤ h.stakes.length ∧ h.stakes.length ≤ 32))) = false := by
                      unfold headB mouthB
                      first
                      | (simp_all; done)
                      | (simp_all; omega)
                    have hb : sheetB h = false := by rw [sheetB_eq, ← Bool.and_assoc, ← Bool.and_assoc, Bool.and_assoc (headB h), hhd]; rfl
                    refine AWP.seq ?_
                    refine AWP.region ?_
                    refine AOps.call (o_assign _ rfl rfl) ?_
                    refine AOps.nil ?_
                    refine AWP.ret ?_
                    refine postQ.ret1 Tryz.results53 rfl ?_
                    rw [hb]; rfl
                · skip
                  refine AOps.pass rfl rfl rfl h41 rfl ?_
                  refine AOps.pass rfl rfl rfl h41 rfl ?_
                  refine AOps.pass rfl rfl rfl h41 rfl ?_
                  refine AOps.call (o_pickT _ _ _ rfl h41 rfl rfl) ?_
                  refine AOps.call (o_move _ rfl rfl) ?_
                  refine AOps.pass rfl rfl rfl rfl rfl ?_
                  refine AOps.pass rfl rfl rfl rfl rfl ?_
                  refine AOps.pass rfl rfl rfl rfl rfl ?_
                  refine AOps.pass rfl rfl rfl rfl rfl ?_
                  refine AOps.call (o_pickT _ _ _ rfl rfl rfl rfl) ?_
                  refine AOps.call (o_move _ rfl rfl) ?_
                  refine AOps.pass rfl rfl rfl rfl rfl ?_
                  refine AOps.pass rfl rfl rfl rfl rfl ?_
                  refine AOps.pass rfl rfl rfl rfl rfl ?_
                  refine AOps.pass rfl rfl rfl rfl rfl ?_
                  refine AOps.call (o_pickT _ _ _ rfl rfl rfl rfl) ?_
                  refine AOps.nil ?_
                  refine AWP.condT rfl ?_
                  have hhd : (headB h && (mouthB h && decide (1 ≤ h.stakes.length ∧ h.stakes.length ≤ 32))) = false := by
                    unfold headB mouthB
                    first
                    | (simp_all; done)
                    | (simp_all; omega)
                  have hb : sheetB h = false := by rw [sheetB_eq, ← Bool.and_assoc, ← Bool.and_assoc, Bool.and_assoc (headB h), hhd]; rfl
                  refine AWP.seq ?_
                  refine AWP.region ?_
                  refine AOps.call (o_assign _ rfl rfl) ?_
                  refine AOps.nil ?_
                  refine AWP.ret ?_
                  refine postQ.ret1 Tryz.results53 rfl ?_
                  rw [hb]; rfl
              · skip
                refine AOps.pass rfl rfl rfl h37 rfl ?_
                refine AOps.pass rfl rfl rfl h37 rfl ?_
                refine AOps.pass rfl rfl rfl h37 rfl ?_
                refine AOps.call (o_pickT _ _ _ rfl h37 rfl rfl) ?_
                refine AOps.call (o_move _ rfl rfl) ?_
                refine AOps.pass rfl rfl rfl rfl rfl ?_
                refine AOps.pass rfl rfl rfl rfl rfl ?_
                refine AOps.pass rfl rfl rfl rfl rfl ?_
                refine AOps.call (o_pickT _ _ _ rfl rfl rfl rfl) ?_
                refine AOps.call (o_move _ rfl rfl) ?_
                refine AOps.pass rfl rfl rfl rfl rfl ?_
                refine AOps.pass rfl rfl rfl rfl rfl ?_
                refine AOps.pass rfl rfl rfl rfl rfl ?_
                refine AOps.pass rfl rfl rfl rfl rfl ?_
                refine AOps.call (o_pickT _ _ _ rfl rfl rfl rfl) ?_
                refine AOps.call (o_move _ rfl rfl) ?_
                refine AOps.pass rfl rfl rfl rfl rfl ?_
                refine AOps.pass rfl rfl rfl rfl rfl ?_
                refine AOps.pass rfl rfl rfl rfl rfl ?_
                refine AOps.pass rfl rfl rfl rfl rfl ?_
                refine AOps.call (o_pickT _ _ _ rfl rfl rfl rfl) ?_
                refine AOps.nil ?_
                refine AWP.condT rfl ?_
                have hhd : (headB h && (mouthB h && decide (1 ≤ h.stakes.length ∧ h.stakes.length ≤ 32))) = false := by
                  unfold headB mouthB
                  first
                  | (simp_all; done)
                  | (simp_all; omega)
                have hb : sheetB h = false := by rw [sheetB_eq, ← Bool.and_assoc, ← Bool.and_assoc, Bool.and_assoc (headB h), hhd]; rfl
                refine AWP.seq ?_
                refine AWP.region ?_
                refine AOps.call (o_assign _ rfl rfl) ?_
                refine AOps.nil ?_
                refine AWP.ret ?_
                refine postQ.ret1 Tryz.results53 rfl ?_
                rw [hb]; rfl
            · skip
              refine AOps.pass rfl rfl rfl h35 rfl ?_
              refine AOps.pass rfl rfl rfl h35 rfl ?_
              refine AOps.call (o_pickT _ _ _ rfl h35 rfl rfl) ?_
              refine AOps.call (o_move _ rfl rfl) ?_
              refine AOps.pass rfl rfl rfl rfl rfl ?_
              refine AOps.pass rfl rfl rfl rfl rfl ?_
              refine AOps.pass rfl rfl rfl rfl rfl ?_
              refine AOps.call (o_pickT _ _ _ rfl rfl rfl rfl) ?_
              refine AOps.call (o_move _ rfl rfl) ?_
              refine AOps.pass rfl rfl rfl rfl rfl ?_
              refine AOps.pass rfl rfl rfl rfl rfl ?_
              refine AOps.pass rfl rfl rfl rfl rfl ?_
              refine AOps.call (o_pickT _ _ _ rfl rfl rfl rfl) ?_
              refine AOps.call (o_move _ rfl rfl) ?_
              refine AOps.pass rfl rfl rfl rfl rfl ?_
              refine AOps.pass rfl rfl rfl rfl rfl ?_
              refine AOps.pass rfl rfl rfl rfl rfl ?_
              refine AOps.pass rfl rfl rfl rfl rfl ?_
              refine AOps.call (o_pickT _ _ _ rfl rfl rfl rfl) ?_
              refine AOps.call (o_move _ rfl rfl) ?_
              refine AOps.pass rfl rfl rfl rfl rfl ?_
              refine AOps.pass rfl rfl rfl rfl rfl ?_
              refine AOps.pass rfl rfl rfl rfl rfl ?_
              refine AOps.pass rfl rfl rfl rfl rfl ?_
              refine AOps.call (o_pickT _ _ _ rfl rfl rfl rfl) ?_
              refine AOps.nil ?_
              refine AWP.condT rfl ?_
              have hhd : (headB h && (mouthB h && decide (1 ≤ h.stakes.length ∧ h.stakes.length ≤ 32))) = false := by
                unfold headB mouthB
                first
                | (simp_all; done)
                | (simp_all; omega)
              have hb : sheetB h = false := by rw [sheetB_eq, ← Bool.and_assoc, ← Bool.and_assoc, Bool.and_assoc (headB h), hhd]; rfl
              refine AWP.seq ?_
              refine AWP.region ?_
              refine AOps.call (o_assign _ rfl rfl) ?_
              refine AOps.nil ?_
              refine AWP.ret ?_
              refine postQ.ret1 Tryz.results53 rfl ?_
              rw [hb]; rfl
          · skip
            refine AOps.pass rfl rfl rfl h33 rfl ?_
            refine AOps.pass rfl rfl rfl h33 rfl ?_
            refine AOps.call (o_pickT _ _ _ rfl h33 rfl rfl) ?_
            refine AOps.call (o_move _ rfl rfl) ?_
            refine AOps.pass rfl rfl rfl rfl rfl ?_
            refine AOps.pass rfl rfl rfl rfl rfl ?_
            refine AOps.call (o_pickT _ _ _ rfl rfl rfl rfl) ?_
            refine AOps.call (o_move _ rfl rfl) ?_
            refine AOps.pass rfl rfl rfl rfl rfl ?_
            refine AOps.pass rfl rfl rfl rfl rfl ?_
            refine AOps.pass rfl rfl rfl rfl rfl ?_
            refine AOps.call (o_pickT _ _ _ rfl rfl rfl rfl) ?_
            refine AOps.call (o_move _ rfl rfl) ?_
            refine AOps.pass rfl rfl rfl rfl rfl ?_
            refine AOps.pass rfl rfl rfl rfl rfl ?_
            refine AOps.pass rfl rfl rfl rfl rfl ?_
            refine AOps.call (o_pickT _ _ _ rfl rfl rfl rfl) ?_
            refine AOps.call (o_move _ rfl rfl) ?_
            refine AOps.pass rfl rfl rfl rfl rfl ?_
            refine AOps.pass rfl rfl rfl rfl rfl ?_
            refine AOps.pass rfl rfl rfl rfl rfl ?_
            refine AOps.pass rfl rfl rfl rfl rfl ?_
            refine AOps.call (o_pickT _ _ _ rfl rfl rfl rfl) ?_
            refine AOps.call (o_move _ rfl rfl) ?_
            refine AOps.pass rfl rfl rfl rfl rfl ?_
            refine AOps.pass rfl rfl rfl rfl rfl ?_
            refine AOps.pass rfl rfl rfl rfl rfl ?_
            refine AOps.pass rfl rfl rfl rfl rfl ?_
            refine AOps.call (o_pickT _ _ _ rfl rfl rfl rfl) ?_
            refine AOps.nil ?_
            refine AWP.condT rfl ?_
            have hhd : (headB h && (mouthB h && decide (1 ≤ h.stakes.length ∧ h.stakes.length ≤ 32))) = false := by
              unfold headB mouthB
              first
              | (simp_all; done)
              | (simp_all; omega)
            have hb : sheetB h = false := by rw [sheetB_eq, ← Bool.and_assoc, ← Bool.and_assoc, Bool.and_assoc (headB h), hhd]; rfl
            refine AWP.seq ?_
            refine AWP.region ?_
            refine AOps.call (o_assign _ rfl rfl) ?_
            refine AOps.nil ?_
            refine AWP.ret ?_
            refine postQ.ret1 Tryz.results53 rfl ?_
            rw [hb]; rfl
        · skip
          refine AOps.pass rfl rfl rfl h31 rfl ?_
          refine AOps.pass rfl rfl rfl h31 rfl ?_
          refine AOps.call (o_pickT _ _ _ rfl h31 rfl rfl) ?_
          refine AOps.call (o_move _ rfl rfl) ?_
          refine AOps.pass rfl rfl rfl rfl rfl ?_
          refine AOps.pass rfl rfl rfl rfl rfl ?_
          refine AOps.call (o_pickT _ _ _ rfl rfl rfl rfl) ?_
          refine AOps.call (o_move _ rfl rfl) ?_
          refine AOps.pass rfl rfl rfl rfl rfl ?_
          refine AOps.pass rfl rfl rfl rfl rfl ?_
          refine AOps.call (o_pickT _ _ _ rfl rfl rfl rfl) ?_
          refine AOps.call (o_move _ rfl rfl) ?_
          refine AOps.pass rfl rfl rfl rfl rfl ?_
          refine AOps.pass rfl rfl rfl rfl rfl ?_
          refine AOps.pass rfl rfl rfl rfl rfl ?_
          refine AOps.call (o_pickT _ _ _ rfl rfl rfl rfl) ?_
          refine AOps.call (o_move _ rfl rfl) ?_
          refine AOps.pass rfl rfl rfl rfl rfl ?_
          refine AOps.pass rfl rfl rfl rfl rfl ?_
          refine AOps.pass rfl rfl rfl rfl rfl ?_
          refine AOps.call (o_pickT _ _ _ rfl rfl rfl rfl) ?_
          refine AOps.call (o_move _ rfl rfl) ?_
          refine AOps.pass rfl rfl rfl rfl rfl ?_
          refine AOps.pass rfl rfl rfl rfl rfl ?_
          refine AOps.pass rfl rfl rfl rfl rfl ?_
          refine AOps.pass rfl rfl rfl rfl rfl ?_
          refine AOps.call (o_pickT _ _ _ rfl rfl rfl rfl) ?_
          refine AOps.call (o_move _ rfl rfl) ?_
          refine AOps.pass rfl rfl rfl rfl rfl ?_
          refine AOps.pass rfl rfl rfl rfl rfl ?_
          refine AOps.pass rfl rfl rfl rfl rfl ?_
          refine AOps.pass rfl rfl rfl rfl rfl ?_
          refine AOps.call (o_pickT _ _ _ rfl rfl rfl rfl) ?_
          refine AOps.nil ?_
          refine AWP.condT rfl ?_
          have hhd : (headB h && (mouthB h && decide (1 ≤ h.stakes.length ∧ h.stakes.length ≤ 32))) = false := by
            unfold headB mouthB
            first
            | (simp_all; done)
            | (simp_all; omega)
          have hb : sheetB h = false := by rw [sheetB_eq, ← Bool.and_assoc, ← Bool.and_assoc, Bool.and_assoc (headB h), hhd]; rfl
          refine AWP.seq ?_
          refine AWP.region ?_
          refine AOps.call (o_assign _ rfl rfl) ?_
          refine AOps.nil ?_
          refine AWP.ret ?_
          refine postQ.ret1 Tryz.results53 rfl ?_
          rw [hb]; rfl
      · skip
        refine AOps.pass rfl rfl rfl h29 rfl ?_
        refine AOps.pass rfl rfl rfl h29 rfl ?_
        refine AOps.call (o_pickT _ _ _ rfl h29 rfl rfl) ?_
        refine AOps.call (o_move _ rfl rfl) ?_
        refine AOps.pass rfl rfl rfl rfl rfl ?_
        refine AOps.pass rfl rfl rfl rfl rfl ?_
        refine AOps.call (o_pickT _ _ _ rfl rfl rfl rfl) ?_
        refine AOps.call (o_move _ rfl rfl) ?_
        refine AOps.pass rfl rfl rfl rfl rfl ?_
        refine AOps.pass rfl rfl rfl rfl rfl ?_
        refine AOps.call (o_pickT _ _ _ rfl rfl rfl rfl) ?_
        refine AOps.call (o_move _ rfl rfl) ?_
        refine AOps.pass rfl rfl rfl rfl rfl ?_
        refine AOps.pass rfl rfl rfl rfl rfl ?_
        refine AOps.call (o_pickT _ _ _ rfl rfl rfl rfl) ?_
        refine AOps.call (o_move _ rfl rfl) ?_
        refine AOps.pass rfl rfl rfl rfl rfl ?_
        refine AOps.pass rfl rfl rfl rfl rfl ?_
        refine AOps.pass rfl rfl rfl rfl rfl ?_
        refine AOps.call (o_pickT _ _ _ rfl rfl rfl rfl) ?_
        refine AOps.call (o_move _ rfl rfl) ?_
        refine AOps.pass rfl rfl rfl rfl rfl ?_
        refine AOps.pass rfl rfl rfl rfl rfl ?_
        refine AOps.pass rfl rfl rfl rfl rfl ?_
        refine AOps.call (o_pickT _ _ _ rfl rfl rfl rfl) ?_
        refine AOps.call (o_move _ rfl rfl) ?_
        refine AOps.pass rfl rfl rfl rfl rfl ?_
        refine AOps.pass rfl rfl rfl rfl rfl ?_
        refine AOps.pass rfl rfl rfl rfl rfl ?_
        refine AOps.pass rfl rfl rfl rfl rfl ?_
        refine AOps.call (o_pickT _ _ _ rfl rfl rfl rfl) ?_
        refine AOps.call (o_move _ rfl rfl) ?_
        refine AOps.pass rfl rfl rfl rfl rfl ?_
        refine AOps.pass rfl rfl rfl rfl rfl ?_
        refine AOps.pass rfl rfl rfl rfl rfl ?_
        refine AOps.pass rfl rfl rfl rfl rfl ?_
        refine AOps.call (o_pickT _ _ _ rfl rfl rfl rfl) ?_
        refine AOps.nil ?_
        refine AWP.condT rfl ?_
        have hhd : (headB h && (mouthB h && decide (1 ≤ h.stakes.length ∧ h.stakes.length ≤ 32))) = false := by
          unfold headB mouthB
          first
          | (simp_all; done)
          | (simp_all; omega)
        have hb : sheetB h = false := by rw [sheetB_eq, ← Bool.and_assoc, ← Bool.and_assoc, Bool.and_assoc (headB h), hhd]; rfl
        refine AWP.seq ?_
        refine AWP.region ?_
        refine AOps.call (o_assign _ rfl rfl) ?_
        refine AOps.nil ?_
        refine AWP.ret ?_
        refine postQ.ret1 Tryz.results53 rfl ?_
        rw [hb]; rfl
    · skip
      refine AOps.pass rfl rfl rfl h27 rfl ?_
      refine AOps.pass rfl rfl rfl h27 rfl ?_
      refine AOps.call (o_pickT _ _ _ rfl h27 rfl rfl) ?_
      refine AOps.call (o_move _ rfl rfl) ?_
      refine AOps.pass rfl rfl rfl rfl rfl ?_
      refine AOps.pass rfl rfl rfl rfl rfl ?_
      refine AOps.call (o_pickT _ _ _ rfl rfl rfl rfl) ?_
      refine AOps.call (o_move _ rfl rfl) ?_
      refine AOps.pass rfl rfl rfl rfl rfl ?_
      refine AOps.pass rfl rfl rfl rfl rfl ?_
      refine AOps.call (o_pickT _ _ _ rfl rfl rfl rfl) ?_
      refine AOps.call (o_move _ rfl rfl) ?_
      refine AOps.pass rfl rfl rfl rfl rfl ?_
      refine AOps.pass rfl rfl rfl rfl rfl ?_
      refine AOps.call (o_pickT _ _ _ rfl rfl rfl rfl) ?_
      refine AOps.call (o_move _ rfl rfl) ?_
      refine AOps.pass rfl rfl rfl rfl rfl ?_
      refine AOps.pass rfl rfl rfl rfl rfl ?_
      refine AOps.call (o_pickT _ _ _ rfl rfl rfl rfl) ?_
      refine AOps.call (o_move _ rfl rfl) ?_
      refine AOps.pass rfl rfl rfl rfl rfl ?_
      refine AOps.pass rfl rfl rfl rfl rfl ?_
      refine AOps.pass rfl rfl rfl rfl rfl ?_
      refine AOps.call (o_pickT _ _ _ rfl rfl rfl rfl) ?_
      refine AOps.call (o_move _ rfl rfl) ?_
      refine AOps.pass rfl rfl rfl rfl rfl ?_
      refine AOps.pass rfl rfl rfl rfl rfl ?_
      refine AOps.pass rfl rfl rfl rfl rfl ?_
      refine AOps.call (o_pickT _ _ _ rfl rfl rfl rfl) ?_
      refine AOps.call (o_move _ rfl rfl) ?_
      refine AOps.pass rfl rfl rfl rfl rfl ?_
      refine AOps.pass rfl rfl rfl rfl rfl ?_
      refine AOps.pass rfl rfl rfl rfl rfl ?_
      refine AOps.pass rfl rfl rfl rfl rfl ?_
      refine AOps.call (o_pickT _ _ _ rfl rfl rfl rfl) ?_
      refine AOps.call (o_move _ rfl rfl) ?_
      refine AOps.pass rfl rfl rfl rfl rfl ?_
      refine AOps.pass rfl rfl rfl rfl rfl ?_
      refine AOps.pass rfl rfl rfl rfl rfl ?_
      refine AOps.pass rfl rfl rfl rfl rfl ?_
      refine AOps.call (o_pickT _ _ _ rfl rfl rfl rfl) ?_
      refine AOps.nil ?_
      refine AWP.condT rfl ?_
      have hhd : (headB h && (mouthB h && decide (1 ≤ h.stakes.length ∧ h.stakes.length ≤ 32))) = false := by
        unfold headB mouthB
        first
        | (simp_all; done)
        | (simp_all; omega)
      have hb : sheetB h = false := by rw [sheetB_eq, ← Bool.and_assoc, ← Bool.and_assoc, Bool.and_assoc (headB h), hhd]; rfl
      refine AWP.seq ?_
      refine AWP.region ?_
      refine AOps.call (o_assign _ rfl rfl) ?_
      refine AOps.nil ?_
      refine AWP.ret ?_
      refine postQ.ret1 Tryz.results53 rfl ?_
      rw [hb]; rfl
  · skip
    refine AOps.pass rfl rfl rfl h25 rfl ?_
    refine AOps.pass rfl rfl rfl h25 rfl ?_
    refine AOps.call (o_pickT _ _ _ rfl h25 rfl rfl) ?_
    refine AOps.call (o_move _ rfl rfl) ?_
    refine AOps.pass rfl rfl rfl rfl rfl ?_
    refine AOps.pass rfl rfl rfl rfl rfl ?_
    refine AOps.call (o_pickT _ _ _ rfl rfl rfl rfl) ?_
    refine AOps.call (o_move _ rfl rfl) ?_
    refine AOps.pass rfl rfl rfl rfl rfl ?_
    refine AOps.pass rfl rfl rfl rfl rfl ?_
    refine AOps.call (o_pickT _ _ _ rfl rfl rfl rfl) ?_
    refine AOps.call (o_move _ rfl rfl) ?_
    refine AOps.pass rfl rfl rfl rfl rfl ?_
    refine AOps.pass rfl rfl rfl rfl rfl ?_
    refine AOps.call (o_pickT _ _ _ rfl rfl rfl rfl) ?_
    refine AOps.call (o_move _ rfl rfl) ?_
    refine AOps.pass rfl rfl rfl rfl rfl ?_
    refine AOps.pass rfl rfl rfl rfl rfl ?_
    refine AOps.call (o_pickT _ _ _ rfl rfl rfl rfl) ?_
    refine AOps.call (o_move _ rfl rfl) ?_
    refine AOps.pass rfl rfl rfl rfl rfl ?_
    refine AOps.pass rfl rfl rfl rfl rfl ?_
    refine AOps.call (o_pickT _ _ _ rfl rfl rfl rfl) ?_
    refine AOps.call (o_move _ rfl rfl) ?_
    refine AOps.pass rfl rfl rfl rfl rfl ?_
    refine AOps.pass rfl rfl rfl rfl rfl ?_
    refine AOps.pass rfl rfl rfl rfl rfl ?_
    refine AOps.call (o_pickT _ _ _ rfl rfl rfl rfl) ?_
    refine AOps.call (o_move _ rfl rfl) ?_
    refine AOps.pass rfl rfl rfl rfl rfl ?_
    refine AOps.pass rfl rfl rfl rfl rfl ?_
    refine AOps.pass rfl rfl rfl rfl rfl ?_
    refine AOps.call (o_pickT _ _ _ rfl rfl rfl rfl) ?_
    refine AOps.call (o_move _ rfl rfl) ?_
    refine AOps.pass rfl rfl rfl rfl rfl ?_
    refine AOps.pass rfl rfl rfl rfl rfl ?_
    refine AOps.pass rfl rfl rfl rfl rfl ?_
    refine AOps.pass rfl rfl rfl rfl rfl ?_
    refine AOps.call (o_pickT _ _ _ rfl rfl rfl rfl) ?_
    refine AOps.call (o_move _ rfl rfl) ?_
    refine AOps.pass rfl rfl rfl rfl rfl ?_
    refine AOps.pass rfl rfl rfl rfl rfl ?_
    refine AOps.pass rfl rfl rfl rfl rfl ?_
    refine AOps.pass rfl rfl rfl rfl rfl ?_
    refine AOps.call (o_pickT _ _ _ rfl rfl rfl rfl) ?_
    refine AOps.nil ?_
    refine AWP.condT rfl ?_
    have hhd : (headB h && (mouthB h && decide (1 ≤ h.stakes.length ∧ h.stakes.length ≤ 32))) = false := by
      unfold headB mouthB
      first
      | (simp_all; done)
      | (simp_all; omega)
    have hb : sheetB h = false := by rw [sheetB_eq, ← Bool.and_assoc, ← Bool.and_assoc, Bool.and_assoc (headB h), hhd]; rfl
    refine AWP.seq ?_
    refine AWP.region ?_
    refine AOps.call (o_assign _ rfl rfl) ?_
    refine AOps.nil ?_
    refine AWP.ret ?_
    refine postQ.ret1 Tryz.results53 rfl ?_
    rw [hb]; rfl

set_option maxRecDepth 20000 in
theorem rweighed_s (c : Scl) (h : Sht) (k known : Int) : FSpec Tryz.prog 82 [.agg (eS c), .agg (eH h), I k, I known] (I (stakeE c h k known)) (none) := by
  refine FSpec.of_body Tryz.func82 rfl (leB rfl) fun w0 M0 => ?_
  have hsl := stakes_len h.stakes
  refine AWP.seq ?_
  refine AWP.region ?_
  refine AOps.call (o_box _ rfl rfl rfl) ?_
  refine AOps.call (o_box _ rfl rfl rfl) ?_
  refine AOps.call (o_assign _ rfl rfl) ?_
  refine AOps.nil ?_
  refine AWP.seq ?_
  refine AWP.region ?_
  refine AOps.call (o_loadRef _ rfl rfl Tryz.sizeOf24 Tryz.isAgg24 rfl rfl rfl) ?_
  refine AOps.call (o_call (rCheckScale_s c) Tryz.call44 rfl rfl) ?_
  refine AOps.call (o_assign _ rfl rfl) ?_
  refine AOps.nil ?_
  refine AWP.seq ?_
  refine AWP.seq ?_
  refine AWP.region ?_
  refine AOps.call (o_move _ rfl rfl) ?_
  refine AOps.call (o_bin _ _ rfl rfl (fun _ => rfl) rfl) ?_
  refine AOps.nil ?_
  refine AWP.cond _ rfl (fun h7 => ?_) (fun h7 => ?_)
  · skip
    have hz : ¬ scaleE c = 0 := by simpa using h7
    refine AWP.seq ?_
    refine AWP.region ?_
    refine AOps.call (o_move _ rfl rfl) ?_
    refine AOps.call (o_assign _ rfl rfl) ?_
    refine AOps.nil ?_
    refine AWP.ret ?_
    refine postQ.ret1 Tryz.results82 rfl ?_
    unfold stakeE
    simp_all [AV.close, I]
    try (intros; omega)
  · skip
    have hz : scaleE c = 0 := by simpa using h7
    refine AWP.skip ?_
    refine AWP.seq ?_
    refine AWP.region ?_
    refine AOps.call (o_loadRef _ rfl rfl Tryz.sizeOf40 Tryz.isAgg40 rfl rfl rfl) ?_
    refine AOps.call (o_call (rCheckSheet_s h) Tryz.call53 rfl rfl) ?_
    refine AOps.call (o_assign _ rfl rfl) ?_
    refine AOps.nil ?_
    refine AWP.seq ?_
    refine AWP.seq ?_
    refine AWP.region ?_
    refine AOps.call (o_move _ rfl rfl) ?_
    refine AOps.call (o_bin _ _ rfl rfl (fun _ => rfl) rfl) ?_
    refine AOps.nil ?_
    refine AWP.cond _ rfl (fun h11 => ?_) (fun h11 => ?_)
    · skip
      have hb : sheetB h = false := by
        cases hh : sheetB h with
        | false => rfl
        | true => rw [hh] at h11; simp at h11
      refine AWP.seq ?_
      refine AWP.region ?_
      refine AOps.call (o_move _ rfl rfl) ?_
      refine AOps.call (o_assign _ rfl rfl) ?_
      refine AOps.nil ?_
      refine AWP.ret ?_
      refine postQ.ret1 Tryz.results82 rfl ?_
      unfold stakeE
      simp_all [AV.close, I]
      try (intros; omega)
    · skip
      have hb : sheetB h = true := by
        cases hh : sheetB h with
        | true => rfl
        | false => rw [hh] at h11; simp at h11
      refine AWP.skip ?_
      refine AWP.seq ?_
      refine AWP.region ?_
      refine AOps.call (o_move _ rfl rfl) ?_
      refine AOps.call (o_call (rDay_s _) Tryz.call40 rfl rfl) ?_
      refine AOps.call (o_assign _ rfl rfl) ?_
      refine AOps.nil ?_
      refine AWP.seq ?_
      refine AWP.seq ?_
      refine AWP.region ?_
      refine AOps.call (o_move _ rfl rfl) ?_
      refine AOps.call (o_un _ rfl (fun _ => rfl) rfl) ?_
      refine AOps.call (o_move _ rfl rfl) ?_
      refine AOps.split rfl rfl rfl (fun h15 => ?_) (fun h15 => ?_)
      · skip
        refine AOps.go rfl rfl rfl h15 (o_fieldRef _ rfl fa24_0 rfl rfl) ?_
        refine AOps.go rfl rfl rfl h15 (o_loadRef _ rfl rfl Tryz.sizeOf3 Tryz.isAgg3 rfl rfl rfl) ?_
        refine AOps.go rfl rfl rfl h15 (o_fieldRef _ rfl fa40_4 rfl rfl) ?_
        refine AOps.go rfl rfl rfl h15 (o_loadRef _ rfl rfl Tryz.sizeOf3 Tryz.isAgg3 rfl rfl rfl) ?_
        refine AOps.go rfl rfl rfl h15 (o_bin _ _ rfl rfl (fun _ => rfl) rfl) ?_
        refine AOps.call (o_pickF _ _ _ rfl h15 rfl rfl) ?_
        refine AOps.call (o_move _ rfl rfl) ?_
        refine AOps.split rfl rfl rfl (fun h21 => ?_) (fun h21 => ?_)
        · skip
          refine AOps.go rfl rfl rfl h21 (o_move _ rfl rfl) ?_
          refine AOps.go rfl rfl rfl h21 (o_bin _ _ rfl rfl (fun _ => rfl) rfl) ?_
          refine AOps.call (o_pickF _ _ _ rfl h21 rfl rfl) ?_
          refine AOps.call (o_move _ rfl rfl) ?_
          refine AOps.split rfl rfl rfl (fun h24 => ?_) (fun h24 => ?_)
          · skip
            refine AOps.go rfl rfl rfl h24 (o_move _ rfl rfl) ?_
            refine AOps.go rfl rfl rfl h24 (o_fieldRef _ rfl fa40_8 rfl rfl) ?_
            refine AOps.go rfl rfl rfl h24 (o_loadRef _ rfl rfl Tryz.sizeOf38 Tryz.isAgg38 rfl rfl rfl) ?_
            refine AOps.go rfl rfl rfl h24 (o_len _ Tryz.underlying38 rfl rfl) ?_
            refine AOps.go rfl rfl rfl h24 (o_bin _ _ rfl rfl (fun _ => rfl) rfl) ?_
            refine AOps.call (o_pickF _ _ _ rfl h24 rfl rfl) ?_
            refine AOps.nil ?_
            refine AWP.cond _ rfl (fun h30 => ?_) (fun h30 => ?_)
            · skip
              refine AWP.seq ?_
              refine AWP.region ?_
              refine AOps.call (o_assign _ rfl rfl) ?_
              refine AOps.nil ?_
              refine AWP.ret ?_
              refine postQ.ret1 Tryz.results82 rfl ?_
              unfold stakeE
              simp_all [AV.close, I]
              try (intros; omega)
            · skip
              refine AWP.skip ?_
              refine AWP.seq ?_
              refine AWP.region ?_
              refine AOps.call (o_assign _ rfl rfl) ?_
              refine AOps.nil ?_
              refine AWP.ret ?_
              refine postQ.ret1 Tryz.results82 rfl ?_
              unfold stakeE
              simp_all [AV.close, I]
              try (intros; omega)
          · skip
            refine AOps.pass rfl rfl rfl h24 rfl ?_
            refine AOps.pass rfl rfl rfl h24 rfl ?_
            refine AOps.pass rfl rfl rfl h24 rfl ?_
            refine AOps.pass rfl rfl rfl h24 rfl ?_
            refine AOps.pass rfl rfl rfl h24 rfl ?_
            refine AOps.call (o_pickT _ _ _ rfl h24 rfl rfl) ?_
            refine AOps.nil ?_
            refine AWP.condT rfl ?_
            refine AWP.seq ?_
            refine AWP.region ?_
            refine AOps.call (o_assign _ rfl rfl) ?_
            refine AOps.nil ?_
            refine AWP.ret ?_
            refine postQ.ret1 Tryz.results82 rfl ?_
            unfold stakeE
            simp_all [AV.close, I]
            try (intros; omega)
        · skip
          refine AOps.pass rfl rfl rfl h21 rfl ?_
          refine AOps.pass rfl rfl rfl h21 rfl ?_
          refine AOps.call (o_pickT _ _ _ rfl h21 rfl rfl) ?_
          refine AOps.call (o_move _ rfl rfl) ?_
          refine AOps.pass rfl rfl rfl rfl rfl ?_
          refine AOps.pass rfl rfl rfl rfl rfl ?_
          refine AOps.pass rfl rfl rfl rfl rfl ?_
          refine AOps.pass rfl rfl rfl rfl rfl ?_
          refine AOps.pass rfl rfl rfl rfl rfl ?_
          refine AOps.call (o_pickT _ _ _ rfl rfl rfl rfl) ?_
          refine AOps.nil ?_
          refine AWP.condT rfl ?_
          refine AWP.seq ?_
          refine AWP.region ?_
          refine AOps.call (o_assign _ rfl rfl) ?_
          refine AOps.nil ?_
          refine AWP.ret ?_
          refine postQ.ret1 Tryz.results82 rfl ?_
          unfold stakeE
          simp_all [AV.close, I]
          try (intros; omega)
      · skip
        refine AOps.pass rfl rfl rfl h15 rfl ?_
        refine AOps.pass rfl rfl rfl h15 rfl ?_
        refine AOps.pass rfl rfl rfl h15 rfl ?_
        refine AOps.pass rfl rfl rfl h15 rfl ?_
        refine AOps.pass rfl rfl rfl h15 rfl ?_
        refine AOps.call (o_pickT _ _ _ rfl h15 rfl rfl) ?_
        refine AOps.call (o_move _ rfl rfl) ?_
        refine AOps.pass rfl rfl rfl rfl rfl ?_
        refine AOps.pass rfl rfl rfl rfl rfl ?_
        refine AOps.call (o_pickT _ _ _ rfl rfl rfl rfl) ?_
        refine AOps.call (o_move _ rfl rfl) ?_
        refine AOps.pass rfl rfl rfl rfl rfl ?_
        refine AOps.pass rfl rfl rfl rfl rfl ?_
        refine AOps.pass rfl rfl rfl rfl rfl ?_
        refine AOps.pass rfl rfl rfl rfl rfl ?_
        refine AOps.pass rfl rfl rfl rfl rfl ?_
        refine AOps.call (o_pickT _ _ _ rfl rfl rfl rfl) ?_
        refine AOps.nil ?_
        refine AWP.condT rfl ?_
        refine AWP.seq ?_
        refine AWP.region ?_
        refine AOps.call (o_assign _ rfl rfl) ?_
        refine AOps.nil ?_
        refine AWP.ret ?_
        refine postQ.ret1 Tryz.results82 rfl ?_
        unfold stakeE
        simp_all [AV.close, I]
        try (intros; omega)

set_option maxRecDepth 20000 in
theorem rturns_s (c : Scl) (h : Sht) (known : Int) (hs : scaleB c = true) (hb : sheetB h = true) : FSpec Tryz.prog 83 [.agg (eS c), .agg (eH h), I known] (.tup [.agg (eP (posS c h known)), B (decide ((posS c h known).lo ≤ (posS c h known).hi))]) (none) := by
  refine FSpec.of_body Tryz.func83 rfl (leB rfl) fun w0 M0 => ?_
  have hbd := sheetB_bd hb
  have hsl := stakes_len h.stakes
  refine AWP.seq ?_
  refine AWP.region ?_
  refine AOps.call (o_box _ rfl rfl rfl) ?_
  refine AOps.call (o_box _ rfl rfl rfl) ?_
  refine AOps.call (o_alloc ze51 rfl rfl) ?_
  refine AOps.call (o_assign _ rfl rfl) ?_
  refine AOps.nil ?_
  refine AWP.seq ?_
  refine AWP.region ?_
  refine AOps.call (o_loadRef _ rfl rfl Tryz.sizeOf24 Tryz.isAgg24 rfl rfl rfl) ?_
  refine AOps.call (o_fieldRef _ rfl fa40_7 rfl rfl) ?_
  refine AOps.call (o_loadRef _ rfl rfl Tryz.sizeOf3 Tryz.isAgg3 rfl rfl rfl) ?_
  refine AOps.call (o_fieldRef _ rfl fa40_2 rfl rfl) ?_
  refine AOps.call (o_loadRef _ rfl rfl Tryz.sizeOf3 Tryz.isAgg3 rfl rfl rfl) ?_
  refine AOps.call (o_move _ rfl rfl) ?_
  refine AOps.call (o_call (rturn_s c _ _ known hs hbd.2.1 hbd.1) Tryz.call108 rfl rfl) ?_
  refine AOps.call (o_alloc ze51 rfl rfl) ?_
  refine AOps.cons (o_store _ _ rfl rfl Tryz.sizeOf51 rfl rfl rfl rfl rfl) ?_
  refine AOps.nil ?_
  refine AWP.seq ?_
  refine AWP.seq ?_
  refine AWP.region ?_
  refine AOps.call (o_assign _ rfl rfl) ?_
  refine AOps.nil ?_
  refine AWP.block ?_
  refine AWP.loop (ι := Nat) (fun i => AS.mk' 43 [(4, .ref (4, 0) 0), (6, .ref (6, 0) 0), (8, .ref (8, 0) 0), (9, I i)] [((4, 0), eH h), ((6, 0), [I 0, I 0]), ((8, 0), [I (tnS c h.emptyDay h.day known).lo, I (posHi h.empty (tnS c h.emptyDay h.day known).hi (h.stakes.take i))])] [] [(4, 1), (6, 1), (8, 1)]) (fun i => i ≤ h.stakes.length) (fun i => h.stakes.length - i) (0) (Weak.mk' rfl ⟨⟨.refl rfl, rfl⟩, ⟨⟨.refl rfl, rfl⟩, ⟨⟨.refl rfl, rfl⟩, ⟨⟨.refl rfl, rfl⟩, trivial⟩⟩⟩⟩ ⟨⟨rfl, rfl, rfl⟩, ⟨⟨rfl, rfl, rfl⟩, ⟨⟨rfl, rfl, rfl⟩, trivial⟩⟩⟩ trivial) (Nat.zero_le _) ?_
  rintro k hk
  try dsimp only at *
  refine AWP.seq ?_
  refine AWP.seq ?_
  refine AWP.region ?_
  refine AOps.call (o_move _ rfl rfl) ?_
  refine AOps.call (o_fieldRef _ rfl fa40_8 rfl rfl) ?_
  refine AOps.call (o_loadRef _ rfl rfl Tryz.sizeOf38 Tryz.isAgg38 rfl rfl rfl) ?_
  refine AOps.call (o_len _ Tryz.underlying38 rfl rfl) ?_
  refine AOps.call (o_bin _ _ rfl rfl (fun _ => rfl) rfl) ?_
  refine AOps.nil ?_
  refine AWP.cond _ rfl (fun h17 => ?_) (fun h17 => ?_)
  · skip
    have hlt : k < h.stakes.length := by simpa [stakes] using h17
    have hel := stakes_get hlt
    have hst := stakeB_bd (sheetB_stakes hb _ (List.getElem_mem hlt))
    refine AWP.skip ?_
    refine AWP.seq ?_
    refine AWP.block ?_
    refine AWP.drawn 13 mixed (by kernel_rfl) ?_
    refine AHead.call (o_fieldRef _ rfl fa51_1 rfl rfl) rfl ?_
    refine AHead.call (o_loadRef _ rfl rfl Tryz.sizeOf3 Tryz.isAgg3 rfl rfl rfl) rfl ?_
    refine AHead.call (o_fieldRef _ rfl fa40_8 rfl rfl) rfl ?_
    refine AHead.call (o_loadRef _ rfl rfl Tryz.sizeOf38 Tryz.isAgg38 rfl rfl rfl) rfl ?_
    refine AHead.call (o_move _ rfl rfl) rfl ?_
    refine AHead.call (o_index _ _ Tryz.underlying38 Tryz.sizeOf81 rfl rfl (by omega) hel rfl rfl) rfl ?_
    refine AHead.call (o_fieldRd _ rfl fa81_2 rfl) rfl ?_
    refine AHead.call (o_loadRd _ rfl Tryz.sizeOf3 Tryz.isAgg3 rfl rfl rfl) rfl ?_
    refine AHead.call (o_fieldRef _ rfl fa40_6 rfl rfl) rfl ?_
    refine AHead.call (o_loadRef _ rfl rfl Tryz.sizeOf3 Tryz.isAgg3 rfl rfl rfl) rfl ?_
    refine AHead.call (o_sub _ _ rfl rfl ⟨by (try dsimp only); omega, by (try dsimp only); omega⟩ rfl) rfl ?_
    refine AHead.call (o_minI _ _ rfl rfl rfl) rfl ?_
    refine AHead.call (o_fieldRef _ rfl fa51_1 rfl rfl) rfl ?_
    refine AHead.nil ?_
    refine AOps.cons (o_store _ _ rfl rfl Tryz.sizeOf3 rfl rfl rfl rfl rfl) ?_
    refine AOps.nil ?_
    refine AWP.region ?_
    refine AOps.call (o_move _ rfl rfl) ?_
    refine AOps.call (o_add _ _ rfl rfl ⟨by (try dsimp only); omega, by (try dsimp only); omega⟩ rfl) ?_
    refine AOps.call (o_assign _ rfl rfl) ?_
    refine AOps.nil ?_
    refine ⟨k + 1, ?_, (Weak.mk' rfl ⟨⟨.refl rfl, rfl⟩, ⟨⟨.refl rfl, rfl⟩, ⟨⟨.refl rfl, rfl⟩, ⟨⟨.refl rfl, rfl⟩, trivial⟩⟩⟩⟩ ⟨⟨rfl, rfl, rfl⟩, ⟨⟨rfl, rfl, rfl⟩, ⟨⟨(by rw [posHi_take hlt, mn1]; rfl), rfl, rfl⟩, trivial⟩⟩⟩ trivial)⟩
    exact ⟨by omega, by omega⟩
  · skip
    have hkl : k = h.stakes.length := by simp [stakes] at h17 hk; omega
    subst hkl
    rw [List.take_length]
    refine AWP.exit ?_
    refine AWP.seq ?_
    refine AWP.drawnS 6 (fun i => Nat.beq i 1 || Nat.beq i 2 || Nat.beq i 3 || Nat.beq i 4 || Nat.beq i 5) (6, 0) mixed (by kernel_rfl) ?_
    refine AHeadS.call (o_loadRef _ rfl rfl Tryz.sizeOf51 Tryz.isAgg51 rfl rfl rfl) rfl rfl ?_
    refine AHeadS.callL (o_fieldRef _ rfl fa51_0 rfl rfl) rfl ?_
    refine AHeadS.callL (o_loadRef _ rfl rfl Tryz.sizeOf3 Tryz.isAgg3 rfl rfl rfl) rfl ?_
    refine AHeadS.callL (o_fieldRef _ rfl fa51_1 rfl rfl) rfl ?_
    refine AHeadS.callL (o_loadRef _ rfl rfl Tryz.sizeOf3 Tryz.isAgg3 rfl rfl rfl) rfl ?_
    refine AHeadS.callL (o_bin _ _ rfl rfl (fun _ => rfl) rfl) rfl ?_
    refine AHeadS.nil ⟨_, _, rfl, ok_storeAny _ _ rfl rfl Tryz.sizeOf51 rfl rfl rfl rfl rfl, ?_⟩
    refine AOps.call (o_assign _ rfl rfl) ?_
    refine AOps.nil ?_
    refine AWP.ret ?_
    exact postQ.retC1 Tryz.results83 rfl rfl Tryz.sizeOf51 Tryz.isAgg51 rfl rfl rfl

set_option maxRecDepth 20000 in
theorem rcore_s (h : Sht) (k : Int) (t : Spn) (hf : Fits h t h.stakes) (hk0 : 0 ≤ k) (hkl : k.toNat < h.stakes.length) : FSpec Tryz.prog 109 [.agg (eH h), I k, .agg (eP t)] (.agg (eP (coreS h (kOf h k) t))) (none) := by
  refine FSpec.of_body Tryz.func109 rfl (leB rfl) fun w0 M0 => ?_
  have hbd := sheetB_bd hf.sheet
  have hel := kOf_get hkl
  have hst := stakeB_bd (hf.st _ (kOf_mem hkl)).1
  have h4 := hf.lo
  have h5 := hf.hi
  have h6 := hf.le
  have h7 := hf.hi2
  have hcb := core_bd hf (kOf_mem hkl)
  refine AWP.seq ?_
  refine AWP.region ?_
  refine AOps.call (o_box _ rfl rfl rfl) ?_
  refine AOps.call (o_box _ rfl rfl rfl) ?_
  refine AOps.call (o_alloc ze51 rfl rfl) ?_
  refine AOps.nil ?_
  refine AWP.seq ?_
  refine AWP.region ?_
  refine AOps.call (o_fieldRef _ rfl fa40_8 rfl rfl) ?_
  refine AOps.call (o_loadRef _ rfl rfl Tryz.sizeOf38 Tryz.isAgg38 rfl rfl rfl) ?_
  refine AOps.call (o_move _ rfl rfl) ?_
  refine AOps.call (o_index _ _ Tryz.underlying38 Tryz.sizeOf81 rfl rfl (by omega) hel rfl rfl) ?_
  refine AOps.call (o_loadRd _ rfl Tryz.sizeOf81 Tryz.isAgg81 rfl rfl rfl) ?_
  refine AOps.call (o_alloc ze81 rfl rfl) ?_
  refine AOps.cons (o_store _ _ rfl rfl Tryz.sizeOf81 rfl rfl rfl rfl rfl) ?_
  refine AOps.nil ?_
  refine AWP.seq ?_
  refine AWP.region ?_
  refine AOps.call (o_fieldRef _ rfl fa81_2 rfl rfl) ?_
  refine AOps.call (o_loadRef _ rfl rfl Tryz.sizeOf3 Tryz.isAgg3 rfl rfl rfl) ?_
  refine AOps.call (o_fieldRef _ rfl fa40_6 rfl rfl) ?_
  refine AOps.call (o_loadRef _ rfl rfl Tryz.sizeOf3 Tryz.isAgg3 rfl rfl rfl) ?_
  refine AOps.call (o_sub _ _ rfl rfl ⟨by (try dsimp only); omega, by (try dsimp only); omega⟩ rfl) ?_
  refine AOps.call (o_assign _ rfl rfl) ?_
  refine AOps.nil ?_
  refine AWP.seq ?_
  refine AWP.region ?_
  refine AOps.call (o_move _ rfl rfl) ?_
  refine AOps.call (o_fieldRef _ rfl fa51_1 rfl rfl) ?_
  refine AOps.call (o_loadRef _ rfl rfl Tryz.sizeOf3 Tryz.isAgg3 rfl rfl rfl) ?_
  refine AOps.call (o_sub _ _ rfl rfl ⟨by (try dsimp only); omega, by (try dsimp only); omega⟩ rfl) ?_
  refine AOps.call (o_fieldRef _ rfl fa81_4 rfl rfl) ?_
  refine AOps.call (o_loadRef _ rfl rfl Tryz.sizeOf3 Tryz.isAgg3 rfl rfl rfl) ?_
  refine AOps.call (o_sub _ _ rfl rfl ⟨by (try dsimp only); omega, by (try dsimp only); omega⟩ rfl) ?_
  refine AOps.call (o_maxI _ _ rfl rfl rfl) ?_
  refine AOps.call (o_move _ rfl rfl) ?_
  refine AOps.call (o_fieldRef _ rfl fa51_0 rfl rfl) ?_
  refine AOps.call (o_loadRef _ rfl rfl Tryz.sizeOf3 Tryz.isAgg3 rfl rfl rfl) ?_
  refine AOps.call (o_sub _ _ rfl rfl ⟨by (try dsimp only); omega, by (try dsimp only); omega⟩ rfl) ?_
  refine AOps.call (o_build bu51 rfl rfl rfl) ?_
  refine AOps.cons (o_store _ _ rfl rfl Tryz.sizeOf51 rfl rfl rfl rfl rfl) ?_
  refine AOps.nil ?_
  refine AWP.ret ?_
  exact postQ.retC Tryz.results109 rfl rfl Tryz.sizeOf51 Tryz.isAgg51 rfl rfl

set_option maxRecDepth 20000 in
theorem rsnow_s (h : Sht) (k : Int) (t : Spn) (hf : Fits h t h.stakes) (hk0 : 0 ≤ k) (hkl : k.toNat < h.stakes.length) : FSpec Tryz.prog 84 [.agg (eH h), I k, .agg (eP t)] (.agg (eP ⟨snLo h t (oneK h k), snHi h t (oneK h k)⟩)) (none) := by
  refine FSpec.of_body Tryz.func84 rfl (leB rfl) fun w0 M0 => ?_
  have hbd := sheetB_bd hf.sheet
  have hel := kOf_get hkl
  have hst := stakeB_bd (hf.st _ (kOf_mem hkl)).1
  have h4 := hf.lo
  have h5 := hf.hi
  have h6 := hf.le
  have h7 := hf.hi2
  have hcb := core_bd hf (kOf_mem hkl)
  refine AWP.seq ?_
  refine AWP.region ?_
  refine AOps.call (o_box _ rfl rfl rfl) ?_
  refine AOps.call (o_box _ rfl rfl rfl) ?_
  refine AOps.call (o_alloc ze51 rfl rfl) ?_
  refine AOps.nil ?_
  refine AWP.seq ?_
  refine AWP.region ?_
  refine AOps.call (o_loadRef _ rfl rfl Tryz.sizeOf40 Tryz.isAgg40 rfl rfl rfl) ?_
  refine AOps.call (o_move _ rfl rfl) ?_
  refine AOps.call (o_loadRef _ rfl rfl Tryz.sizeOf51 Tryz.isAgg51 rfl rfl rfl) ?_
  refine AOps.call (o_call (rcore_s h k t hf hk0 hkl) Tryz.call109 rfl rfl) ?_
  refine AOps.call (o_alloc ze51 rfl rfl) ?_
  refine AOps.cons (o_store _ _ rfl rfl Tryz.sizeOf51 rfl rfl rfl rfl rfl) ?_
  refine AOps.nil ?_
  refine AWP.seq ?_
  refine AWP.drawn 10 mixed (by kernel_rfl) ?_
  refine AHead.call (o_fieldRef _ rfl fa40_8 rfl rfl) rfl ?_
  refine AHead.call (o_loadRef _ rfl rfl Tryz.sizeOf38 Tryz.isAgg38 rfl rfl rfl) rfl ?_
  refine AHead.call (o_move _ rfl rfl) rfl ?_
  refine AHead.call (o_index _ _ Tryz.underlying38 Tryz.sizeOf81 rfl rfl (by omega) hel rfl rfl) rfl ?_
  refine AHead.call (o_fieldRd _ rfl fa81_3 rfl) rfl ?_
  refine AHead.call (o_loadRd _ rfl Tryz.sizeOf3 Tryz.isAgg3 rfl rfl rfl) rfl ?_
  refine AHead.call (o_fieldRef _ rfl fa40_5 rfl rfl) rfl ?_
  refine AHead.call (o_loadRef _ rfl rfl Tryz.sizeOf3 Tryz.isAgg3 rfl rfl rfl) rfl ?_
  refine AHead.call (o_mul _ _ rfl rfl ⟨by (try dsimp only); omega, by (try dsimp only); omega⟩ rfl) rfl ?_
  refine AHead.call (o_assign _ rfl rfl) rfl ?_
  refine AHead.nil ?_
  refine AOps.nil ?_
  refine AWP.seq ?_
  refine AWP.region ?_
  refine AOps.call (o_fieldRef _ rfl fa51_0 rfl rfl) ?_
  refine AOps.call (o_loadRef _ rfl rfl Tryz.sizeOf3 Tryz.isAgg3 rfl rfl rfl) ?_
  refine AOps.call (o_mul _ _ rfl rfl ⟨by (try dsimp only); omega, by (try dsimp only); omega⟩ rfl) ?_
  refine AOps.call (o_move _ rfl rfl) ?_
  refine AOps.call (o_add _ _ rfl rfl ⟨by (try dsimp only); omega, by (try dsimp only); omega⟩ rfl) ?_
  refine AOps.call (o_fieldRef _ rfl fa51_1 rfl rfl) ?_
  refine AOps.call (o_loadRef _ rfl rfl Tryz.sizeOf3 Tryz.isAgg3 rfl rfl rfl) ?_
  refine AOps.call (o_mul _ _ rfl rfl ⟨by (try dsimp only); omega, by (try dsimp only); omega⟩ rfl) ?_
  refine AOps.call (o_move _ rfl rfl) ?_
  refine AOps.call (o_mul _ _ rfl rfl ⟨by (try dsimp only); omega, by (try dsimp only); omega⟩ rfl) ?_
  refine AOps.call (o_add _ _ rfl rfl ⟨by (try dsimp only); omega, by (try dsimp only); omega⟩ rfl) ?_
  refine AOps.call (o_build bu51 rfl rfl rfl) ?_
  refine AOps.cons (o_store _ _ rfl rfl Tryz.sizeOf51 rfl rfl rfl rfl rfl) ?_
  refine AOps.nil ?_
  refine AWP.ret ?_
  refine postQ.retC Tryz.results84 rfl rfl Tryz.sizeOf51 Tryz.isAgg51 rfl ?_
  rw [sn_one hkl, sn_oneHi hkl]; rfl

set_option maxRecDepth 20000 in
theorem rrounded_s (w : Spn) (b : Int) (h1 : 0 ≤ w.lo ∧ w.lo ≤ 1000000000000000000) (h2 : 0 ≤ w.hi ∧ w.hi ≤ 1000000000000000000) (h3 : 1 ≤ b ∧ b ≤ 1000000000000000000) : FSpec Tryz.prog 85 [.agg (eP w), I b] (.agg (eP (rndS w 1 b))) (none) := by
  refine FSpec.of_body Tryz.func85 rfl (leB rfl) fun w0 M0 => ?_
  refine AWP.seq ?_
  refine AWP.region ?_
  refine AOps.call (o_box _ rfl rfl rfl) ?_
  refine AOps.call (o_alloc ze51 rfl rfl) ?_
  refine AOps.nil ?_
  refine AWP.seq ?_
  refine AWP.drawn 12 mixed (by kernel_rfl) ?_
  refine AHead.call (o_fieldRef _ rfl fa51_0 rfl rfl) rfl ?_
  refine AHead.call (o_loadRef _ rfl rfl Tryz.sizeOf3 Tryz.isAgg3 rfl rfl rfl) rfl ?_
  refine AHead.call (o_move _ rfl rfl) rfl ?_
  refine AHead.call (o_quo _ _ rfl rfl ⟨by omega, by omega⟩ (by omega) rfl) rfl ?_
  refine AHead.call (o_fieldRef _ rfl fa51_1 rfl rfl) rfl ?_
  refine AHead.call (o_loadRef _ rfl rfl Tryz.sizeOf3 Tryz.isAgg3 rfl rfl rfl) rfl ?_
  refine AHead.call (o_move _ rfl rfl) rfl ?_
  refine AHead.call (o_add _ _ rfl rfl ⟨by (try dsimp only); omega, by (try dsimp only); omega⟩ rfl) rfl ?_
  refine AHead.call (o_sub _ _ rfl rfl ⟨by (try dsimp only); omega, by (try dsimp only); omega⟩ rfl) rfl ?_
  refine AHead.call (o_move _ rfl rfl) rfl ?_
  refine AHead.call (o_quo _ _ rfl rfl ⟨by omega, by omega⟩ (by omega) rfl) rfl ?_
  refine AHead.call (o_build bu51 rfl rfl rfl) rfl ?_
  refine AHead.nil ?_
  refine AOps.cons (o_store _ _ rfl rfl Tryz.sizeOf51 rfl rfl rfl rfl rfl) ?_
  refine AOps.nil ?_
  refine AWP.ret ?_
  refine postQ.retC Tryz.results85 rfl rfl Tryz.sizeOf51 Tryz.isAgg51 rfl ?_
  rw [rnd1]; rfl

end Go.Proofs.YtphoomnonenalaaGreatDoor
