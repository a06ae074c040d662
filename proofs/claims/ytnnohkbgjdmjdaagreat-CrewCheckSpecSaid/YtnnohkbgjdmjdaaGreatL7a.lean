import Derived.Test.YtnnohkbgjdmjdaaGreatPr7
set_option linter.unusedSimpArgs false
set_option linter.unusedVariables false
namespace Go.Proofs.YtnnohkbgjdmjdaaGreat
open Go.Ab

set_option maxRecDepth 20000 in
theorem isIn_s (x a b : Int) : FSpec Tryz.prog 28 [I x, I a, I b] (B (decide (a ≤ x) && decide (x ≤ b))) (none) := by
  refine FSpec.of_body Tryz.func28 rfl (leB rfl) fun w0 M0 => ?_
  refine AWP.seq ?_
  refine AWP.region ?_
  refine AOps.call (o_assign _ rfl rfl) ?_
  refine AOps.nil ?_
  refine AWP.seq ?_
  refine AWP.region ?_
  refine AOps.call (o_move _ rfl rfl) ?_
  refine AOps.call (o_move _ rfl rfl) ?_
  refine AOps.call (o_bin _ _ rfl rfl (fun _ => rfl) rfl) ?_
  refine AOps.call (o_move _ rfl rfl) ?_
  refine AOps.split rfl rfl rfl (fun h4 => ?_) (fun h4 => ?_)
  · skip
    refine AOps.go rfl rfl rfl h4 (o_move _ rfl rfl) ?_
    refine AOps.go rfl rfl rfl h4 (o_move _ rfl rfl) ?_
    refine AOps.go rfl rfl rfl h4 (o_bin _ _ rfl rfl (fun _ => rfl) rfl) ?_
    refine AOps.call (o_pickT _ _ _ rfl h4 rfl rfl) ?_
    refine AOps.call (o_assign _ rfl rfl) ?_
    refine AOps.nil ?_
    refine AWP.ret ?_
    refine postQ.ret1 Tryz.results28 rfl ?_
    simp_all [AV.close, B]
    try (intros; omega)
  · skip
    refine AOps.pass rfl rfl rfl h4 rfl ?_
    refine AOps.pass rfl rfl rfl h4 rfl ?_
    refine AOps.pass rfl rfl rfl h4 rfl ?_
    refine AOps.call (o_pickF _ _ _ rfl h4 rfl rfl) ?_
    refine AOps.call (o_assign _ rfl rfl) ?_
    refine AOps.nil ?_
    refine AWP.ret ?_
    refine postQ.ret1 Tryz.results28 rfl ?_
    simp_all [AV.close, B]
    try (intros; omega)

set_option maxRecDepth 20000 in
theorem light_s (d : Int) (hd : 0 ≤ d ∧ d ≤ 1048576) : FSpec Tryz.prog 29 [I d] (I (lightN d)) (none) := by
  refine FSpec.of_body Tryz.func29 rfl (leB rfl) fun w0 M0 => ?_
  have hm : 0 ≤ d % 365 ∧ d % 365 < 365 := ⟨Int.emod_nonneg _ (by decide), Int.emod_lt_of_pos _ (by decide)⟩
  refine AWP.seq ?_
  refine AWP.region ?_
  refine AOps.call (o_assign _ rfl rfl) ?_
  refine AOps.nil ?_
  refine AWP.seq ?_
  refine AWP.region ?_
  refine AOps.call (o_move _ rfl rfl) ?_
  refine AOps.call (o_rem _ _ rfl rfl ⟨by omega, by omega⟩ (by decide) rfl) ?_
  refine AOps.call (o_assign _ rfl rfl) ?_
  refine AOps.nil ?_
  refine AWP.seq ?_
  refine AWP.seq ?_
  refine AWP.region ?_
  refine AOps.call (o_move _ rfl rfl) ?_
  refine AOps.call (o_bin _ _ rfl rfl (fun _ => rfl) rfl) ?_
  refine AOps.nil ?_
  refine AWP.cond _ rfl (fun h5 => ?_) (fun h5 => ?_)
  · skip
    refine AWP.seq ?_
    refine AWP.region ?_
    refine AOps.call (o_move _ rfl rfl) ?_
    refine AOps.call (o_mul _ _ rfl rfl ⟨by (try dsimp only); omega, by (try dsimp only); omega⟩ rfl) ?_
    refine AOps.call (o_quo _ _ rfl rfl ⟨by omega, by omega⟩ (by omega) rfl) ?_
    refine AOps.call (o_add _ _ rfl rfl ⟨by (try dsimp only); omega, by (try dsimp only); omega⟩ rfl) ?_
    refine AOps.call (o_assign _ rfl rfl) ?_
    refine AOps.nil ?_
    refine AWP.ret ?_
    refine postQ.ret1 Tryz.results29 rfl ?_
    simp_all [AV.close, I, lightN]
    try (intros; omega)
  · skip
    refine AWP.skip ?_
    refine AWP.seq ?_
    refine AWP.region ?_
    refine AOps.call (o_move _ rfl rfl) ?_
    refine AOps.call (o_sub _ _ rfl rfl ⟨by (try dsimp only); omega, by (try dsimp only); omega⟩ rfl) ?_
    refine AOps.call (o_mul _ _ rfl rfl ⟨by (try dsimp only); omega, by (try dsimp only); omega⟩ rfl) ?_
    refine AOps.call (o_quo _ _ rfl rfl ⟨by omega, by omega⟩ (by omega) rfl) ?_
    refine AOps.call (o_add _ _ rfl rfl ⟨by (try dsimp only); omega, by (try dsimp only); omega⟩ rfl) ?_
    refine AOps.call (o_assign _ rfl rfl) ?_
    refine AOps.nil ?_
    refine AWP.ret ?_
    refine postQ.ret1 Tryz.results29 rfl ?_
    simp_all [AV.close, I, lightN]
    try (intros; omega)

set_option maxRecDepth 20000 in
theorem Light_s (d : Int) : FSpec Tryz.prog 7 [I d] (.tup [I (if okDay d then lightN d else 0), I (if okDay d then 0 else 1)]) (none) := by
  refine FSpec.of_body Tryz.func7 rfl (leB rfl) fun w0 M0 => ?_
  refine AWP.seq ?_
  refine AWP.region ?_
  refine AOps.call (o_assign _ rfl rfl) ?_
  refine AOps.call (o_assign _ rfl rfl) ?_
  refine AOps.nil ?_
  refine AWP.seq ?_
  refine AWP.seq ?_
  refine AWP.region ?_
  refine AOps.call (o_move _ rfl rfl) ?_
  refine AOps.call (o_call (isIn_s _ _ _) Tryz.call28 rfl rfl) ?_
  refine AOps.call (o_un _ rfl (fun _ => rfl) rfl) ?_
  refine AOps.nil ?_
  refine AWP.cond _ rfl (fun h6 => ?_) (fun h6 => ?_)
  · skip
    refine AWP.seq ?_
    refine AWP.region ?_
    refine AOps.call (o_assign _ rfl rfl) ?_
    refine AOps.call (o_assign _ rfl rfl) ?_
    refine AOps.nil ?_
    refine AWP.ret ?_
    refine postQ.ret2 Tryz.results7 rfl rfl ?_
    simp_all [AV.close, AV.close.closeL, B, I, okDay]
    try (intros; omega)
  · skip
    refine AWP.skip ?_
    refine AWP.seq ?_
    refine AWP.region ?_
    refine AOps.call (o_move _ rfl rfl) ?_
    refine AOps.call (o_call (light_s _ (by simp_all)) Tryz.call29 rfl rfl) ?_
    refine AOps.call (o_assign _ rfl rfl) ?_
    refine AOps.call (o_assign _ rfl rfl) ?_
    refine AOps.nil ?_
    refine AWP.ret ?_
    refine postQ.ret2 Tryz.results7 rfl rfl ?_
    simp_all [AV.close, AV.close.closeL, B, I, okDay]
    try (intros; omega)

end Go.Proofs.YtnnohkbgjdmjdaaGreat

