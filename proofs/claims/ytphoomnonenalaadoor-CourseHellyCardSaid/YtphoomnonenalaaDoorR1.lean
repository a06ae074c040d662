import Derived.Test.YtphoomnonenalaaDoorC11
set_option linter.unusedSimpArgs false
set_option linter.unusedVariables false
namespace Go.Proofs.YtphoomnonenalaaDoor
open Go.Ab
theorem contraB_or (r : Int) (a b : Tst) : contraB r a b = (decide (a.lo - b.hi > r * far a.day b.day) || decide (b.lo - a.hi > r * far a.day b.day)) := by
  unfold contraB
  rw [mx1, Bool.eq_iff_iff]
  simp only [Bool.or_eq_true, decide_eq_true_eq]
  split <;> omega

set_option maxRecDepth 20000 in
theorem rDay_s (n : Int) : FSpec Tryd.prog 74 [I n] (B (dayB n)) (none) := by
  refine FSpec.of_body Tryd.func74 rfl (leB rfl) fun w0 M0 => ?_
  refine AWP.seq ?_
  refine AWP.region ?_
  refine AOps.call (o_assign _ rfl rfl) ?_
  refine AOps.nil ?_
  refine AWP.seq ?_
  refine AWP.region ?_
  refine AOps.call (o_move _ rfl rfl) ?_
  refine AOps.call (o_bin _ _ rfl rfl (fun _ => rfl) rfl) ?_
  refine AOps.call (o_move _ rfl rfl) ?_
  refine AOps.split rfl rfl rfl (fun h3 => ?_) (fun h3 => ?_)
  · skip
    refine AOps.go rfl rfl rfl h3 (o_move _ rfl rfl) ?_
    refine AOps.go rfl rfl rfl h3 (o_bin _ _ rfl rfl (fun _ => rfl) rfl) ?_
    refine AOps.call (o_pickT _ _ _ rfl h3 rfl rfl) ?_
    refine AOps.call (o_assign _ rfl rfl) ?_
    refine AOps.nil ?_
    refine AWP.ret ?_
    refine postQ.ret1 Tryd.results74 rfl ?_
    unfold dayB
    simp_all [AV.close, B]
    try (intros; omega)
  · skip
    refine AOps.pass rfl rfl rfl h3 rfl ?_
    refine AOps.pass rfl rfl rfl h3 rfl ?_
    refine AOps.call (o_pickF _ _ _ rfl h3 rfl rfl) ?_
    refine AOps.call (o_assign _ rfl rfl) ?_
    refine AOps.nil ?_
    refine AWP.ret ?_
    refine postQ.ret1 Tryd.results74 rfl ?_
    unfold dayB
    simp_all [AV.close, B]
    try (intros; omega)

set_option maxRecDepth 20000 in
theorem rNumber_s (n : Int) : FSpec Tryd.prog 101 [I n] (B (noB n)) (none) := by
  refine FSpec.of_body Tryd.func101 rfl (leB rfl) fun w0 M0 => ?_
  refine AWP.seq ?_
  refine AWP.region ?_
  refine AOps.call (o_assign _ rfl rfl) ?_
  refine AOps.nil ?_
  refine AWP.seq ?_
  refine AWP.region ?_
  refine AOps.call (o_move _ rfl rfl) ?_
  refine AOps.call (o_bin _ _ rfl rfl (fun _ => rfl) rfl) ?_
  refine AOps.call (o_move _ rfl rfl) ?_
  refine AOps.split rfl rfl rfl (fun h3 => ?_) (fun h3 => ?_)
  · skip
    refine AOps.go rfl rfl rfl h3 (o_move _ rfl rfl) ?_
    refine AOps.go rfl rfl rfl h3 (o_bin _ _ rfl rfl (fun _ => rfl) rfl) ?_
    refine AOps.call (o_pickT _ _ _ rfl h3 rfl rfl) ?_
    refine AOps.call (o_assign _ rfl rfl) ?_
    refine AOps.nil ?_
    refine AWP.ret ?_
    refine postQ.ret1 Tryd.results101 rfl ?_
    unfold noB
    simp_all [AV.close, B]
    try (intros; omega)
  · skip
    refine AOps.pass rfl rfl rfl h3 rfl ?_
    refine AOps.pass rfl rfl rfl h3 rfl ?_
    refine AOps.call (o_pickF _ _ _ rfl h3 rfl rfl) ?_
    refine AOps.call (o_assign _ rfl rfl) ?_
    refine AOps.nil ?_
    refine AWP.ret ?_
    refine postQ.ret1 Tryd.results101 rfl ?_
    unfold noB
    simp_all [AV.close, B]
    try (intros; omega)

set_option maxRecDepth 20000 in
theorem rfar_s (a b : Int) (ha : 0 ≤ a ∧ a ≤ 1048576) (hb : 0 ≤ b ∧ b ≤ 1048576) : FSpec Tryd.prog 87 [I a, I b] (I (far a b)) (none) := by
  refine FSpec.of_body Tryd.func87 rfl (leB rfl) fun w0 M0 => ?_
  refine AWP.seq ?_
  refine AWP.region ?_
  refine AOps.call (o_assign _ rfl rfl) ?_
  refine AOps.nil ?_
  refine AWP.seq ?_
  refine AWP.seq ?_
  refine AWP.region ?_
  refine AOps.call (o_move _ rfl rfl) ?_
  refine AOps.call (o_move _ rfl rfl) ?_
  refine AOps.call (o_bin _ _ rfl rfl (fun _ => rfl) rfl) ?_
  refine AOps.nil ?_
  refine AWP.cond _ rfl (fun h5 => ?_) (fun h5 => ?_)
  · skip
    refine AWP.seq ?_
    refine AWP.region ?_
    refine AOps.call (o_move _ rfl rfl) ?_
    refine AOps.call (o_move _ rfl rfl) ?_
    refine AOps.call (o_sub _ _ rfl rfl ⟨by (try dsimp only); omega, by (try dsimp only); omega⟩ rfl) ?_
    refine AOps.call (o_assign _ rfl rfl) ?_
    refine AOps.nil ?_
    refine AWP.ret ?_
    refine postQ.ret1 Tryd.results87 rfl ?_
    unfold far
    simp_all [AV.close, I]
    try (intros; omega)
  · skip
    refine AWP.skip ?_
    refine AWP.seq ?_
    refine AWP.region ?_
    refine AOps.call (o_move _ rfl rfl) ?_
    refine AOps.call (o_move _ rfl rfl) ?_
    refine AOps.call (o_sub _ _ rfl rfl ⟨by (try dsimp only); omega, by (try dsimp only); omega⟩ rfl) ?_
    refine AOps.call (o_assign _ rfl rfl) ?_
    refine AOps.nil ?_
    refine AWP.ret ?_
    refine postQ.ret1 Tryd.results87 rfl ?_
    unfold far
    simp_all [AV.close, I]
    try (intros; omega)

set_option maxRecDepth 20000 in
theorem rCheckTest_s (t : Tst) : FSpec Tryd.prog 18 [.agg (eT t)] (I (if testB t then 0 else 10)) (none) := by
  refine FSpec.of_body Tryd.func18 rfl (leB rfl) fun w0 M0 => ?_
  refine AWP.seq ?_
  refine AWP.region ?_
  refine AOps.call (o_box _ rfl rfl rfl) ?_
  refine AOps.call (o_assign _ rfl rfl) ?_
  refine AOps.nil ?_
  refine AWP.seq ?_
  refine AWP.region ?_
  refine AOps.call (o_fieldRef _ rfl fa26_0 rfl rfl) ?_
  refine AOps.call (o_loadRef _ rfl rfl Tryd.sizeOf3 Tryd.isAgg3 rfl rfl rfl) ?_
  refine AOps.call (o_call (rDay_s _) Tryd.call74 rfl rfl) ?_
  refine AOps.call (o_assign _ rfl rfl) ?_
  refine AOps.nil ?_
  refine AWP.seq ?_
  refine AWP.region ?_
  refine AOps.call (o_fieldRef _ rfl fa26_1 rfl rfl) ?_
  refine AOps.call (o_loadRef _ rfl rfl Tryd.sizeOf3 Tryd.isAgg3 rfl rfl rfl) ?_
  refine AOps.call (o_call (rDay_s _) Tryd.call74 rfl rfl) ?_
  refine AOps.call (o_assign _ rfl rfl) ?_
  refine AOps.nil ?_
  refine AWP.seq ?_
  refine AWP.seq ?_
  refine AWP.region ?_
  refine AOps.call (o_move _ rfl rfl) ?_
  refine AOps.call (o_move _ rfl rfl) ?_
  refine AOps.split rfl rfl rfl (fun h9 => ?_) (fun h9 => ?_)
  · skip
    refine AOps.go rfl rfl rfl h9 (o_move _ rfl rfl) ?_
    refine AOps.call (o_pickT _ _ _ rfl h9 rfl rfl) ?_
    refine AOps.call (o_move _ rfl rfl) ?_
    refine AOps.split rfl rfl rfl (fun h10 => ?_) (fun h10 => ?_)
    · skip
      refine AOps.go rfl rfl rfl h10 (o_fieldRef _ rfl fa26_2 rfl rfl) ?_
      refine AOps.go rfl rfl rfl h10 (o_loadRef _ rfl rfl Tryd.sizeOf3 Tryd.isAgg3 rfl rfl rfl) ?_
      refine AOps.go rfl rfl rfl h10 (o_bin _ _ rfl rfl (fun _ => rfl) rfl) ?_
      refine AOps.call (o_pickT _ _ _ rfl h10 rfl rfl) ?_
      refine AOps.call (o_move _ rfl rfl) ?_
      refine AOps.split rfl rfl rfl (fun h14 => ?_) (fun h14 => ?_)
      · skip
        refine AOps.go rfl rfl rfl h14 (o_fieldRef _ rfl fa26_2 rfl rfl) ?_
        refine AOps.go rfl rfl rfl h14 (o_loadRef _ rfl rfl Tryd.sizeOf3 Tryd.isAgg3 rfl rfl rfl) ?_
        refine AOps.go rfl rfl rfl h14 (o_fieldRef _ rfl fa26_3 rfl rfl) ?_
        refine AOps.go rfl rfl rfl h14 (o_loadRef _ rfl rfl Tryd.sizeOf3 Tryd.isAgg3 rfl rfl rfl) ?_
        refine AOps.go rfl rfl rfl h14 (o_bin _ _ rfl rfl (fun _ => rfl) rfl) ?_
        refine AOps.call (o_pickT _ _ _ rfl h14 rfl rfl) ?_
        refine AOps.call (o_move _ rfl rfl) ?_
        refine AOps.split rfl rfl rfl (fun h20 => ?_) (fun h20 => ?_)
        · skip
          refine AOps.go rfl rfl rfl h20 (o_fieldRef _ rfl fa26_3 rfl rfl) ?_
          refine AOps.go rfl rfl rfl h20 (o_loadRef _ rfl rfl Tryd.sizeOf3 Tryd.isAgg3 rfl rfl rfl) ?_
          refine AOps.go rfl rfl rfl h20 (o_bin _ _ rfl rfl (fun _ => rfl) rfl) ?_
          refine AOps.call (o_pickT _ _ _ rfl h20 rfl rfl) ?_
          refine AOps.nil ?_
          refine AWP.cond _ rfl (fun h24 => ?_) (fun h24 => ?_)
          · skip
            refine AWP.seq ?_
            refine AWP.region ?_
            refine AOps.call (o_assign _ rfl rfl) ?_
            refine AOps.nil ?_
            refine AWP.ret ?_
            refine postQ.ret1 Tryd.results18 rfl ?_
            unfold testB driftB
            simp_all [AV.close, I]
            try (intros; omega)
          · skip
            refine AWP.skip ?_
            refine AWP.seq ?_
            refine AWP.region ?_
            refine AOps.call (o_assign _ rfl rfl) ?_
            refine AOps.nil ?_
            refine AWP.ret ?_
            refine postQ.ret1 Tryd.results18 rfl ?_
            unfold testB driftB
            simp_all [AV.close, I]
            try (intros; omega)
        · skip
          refine AOps.pass rfl rfl rfl h20 rfl ?_
          refine AOps.pass rfl rfl rfl h20 rfl ?_
          refine AOps.pass rfl rfl rfl h20 rfl ?_
          refine AOps.call (o_pickF _ _ _ rfl h20 rfl rfl) ?_
          refine AOps.nil ?_
          refine AWP.condF rfl ?_
          refine AWP.skip ?_
          refine AWP.seq ?_
          refine AWP.region ?_
          refine AOps.call (o_assign _ rfl rfl) ?_
          refine AOps.nil ?_
          refine AWP.ret ?_
          refine postQ.ret1 Tryd.results18 rfl ?_
          unfold testB driftB
          simp_all [AV.close, I]
          try (intros; omega)
      · skip
        refine AOps.pass rfl rfl rfl h14 rfl ?_
        refine AOps.pass rfl rfl rfl h14 rfl ?_
        refine AOps.pass rfl rfl rfl h14 rfl ?_
        refine AOps.pass rfl rfl rfl h14 rfl ?_
        refine AOps.pass rfl rfl rfl h14 rfl ?_
        refine AOps.call (o_pickF _ _ _ rfl h14 rfl rfl) ?_
        refine AOps.call (o_move _ rfl rfl) ?_
        refine AOps.pass rfl rfl rfl rfl rfl ?_
        refine AOps.pass rfl rfl rfl rfl rfl ?_
        refine AOps.pass rfl rfl rfl rfl rfl ?_
        refine AOps.call (o_pickF _ _ _ rfl rfl rfl rfl) ?_
        refine AOps.nil ?_
        refine AWP.condF rfl ?_
        refine AWP.skip ?_
        refine AWP.seq ?_
        refine AWP.region ?_
        refine AOps.call (o_assign _ rfl rfl) ?_
        refine AOps.nil ?_
        refine AWP.ret ?_
        refine postQ.ret1 Tryd.results18 rfl ?_
        unfold testB driftB
        simp_all [AV.close, I]
        try (intros; omega)
    · skip
      refine AOps.pass rfl rfl rfl h10 rfl ?_
      refine AOps.pass rfl rfl rfl h10 rfl ?_
      refine AOps.pass rfl rfl rfl h10 rfl ?_
      refine AOps.call (o_pickF _ _ _ rfl h10 rfl rfl) ?_
      refine AOps.call (o_move _ rfl rfl) ?_
      refine AOps.pass rfl rfl rfl rfl rfl ?_
      refine AOps.pass rfl rfl rfl rfl rfl ?_
      refine AOps.pass rfl rfl rfl rfl rfl ?_
      refine AOps.pass rfl rfl rfl rfl rfl ?_
      refine AOps.pass rfl rfl rfl rfl rfl ?_
      refine AOps.call (o_pickF _ _ _ rfl rfl rfl rfl) ?_
      refine AOps.call (o_move _ rfl rfl) ?_
      refine AOps.pass rfl rfl rfl rfl rfl ?_
      refine AOps.pass rfl rfl rfl rfl rfl ?_
      refine AOps.pass rfl rfl rfl rfl rfl ?_
      refine AOps.call (o_pickF _ _ _ rfl rfl rfl rfl) ?_
      refine AOps.nil ?_
      refine AWP.condF rfl ?_
      refine AWP.skip ?_
      refine AWP.seq ?_
      refine AWP.region ?_
      refine AOps.call (o_assign _ rfl rfl) ?_
      refine AOps.nil ?_
      refine AWP.ret ?_
      refine postQ.ret1 Tryd.results18 rfl ?_
      unfold testB driftB
      simp_all [AV.close, I]
      try (intros; omega)
  · skip
    refine AOps.pass rfl rfl rfl h9 rfl ?_
    refine AOps.call (o_pickF _ _ _ rfl h9 rfl rfl) ?_
    refine AOps.call (o_move _ rfl rfl) ?_
    refine AOps.pass rfl rfl rfl rfl rfl ?_
    refine AOps.pass rfl rfl rfl rfl rfl ?_
    refine AOps.pass rfl rfl rfl rfl rfl ?_
    refine AOps.call (o_pickF _ _ _ rfl rfl rfl rfl) ?_
    refine AOps.call (o_move _ rfl rfl) ?_
    refine AOps.pass rfl rfl rfl rfl rfl ?_
    refine AOps.pass rfl rfl rfl rfl rfl ?_
    refine AOps.pass rfl rfl rfl rfl rfl ?_
    refine AOps.pass rfl rfl rfl rfl rfl ?_
    refine AOps.pass rfl rfl rfl rfl rfl ?_
    refine AOps.call (o_pickF _ _ _ rfl rfl rfl rfl) ?_
    refine AOps.call (o_move _ rfl rfl) ?_
    refine AOps.pass rfl rfl rfl rfl rfl ?_
    refine AOps.pass rfl rfl rfl rfl rfl ?_
    refine AOps.pass rfl rfl rfl rfl rfl ?_
    refine AOps.call (o_pickF _ _ _ rfl rfl rfl rfl) ?_
    refine AOps.nil ?_
    refine AWP.condF rfl ?_
    refine AWP.skip ?_
    refine AWP.seq ?_
    refine AWP.region ?_
    refine AOps.call (o_assign _ rfl rfl) ?_
    refine AOps.nil ?_
    refine AWP.ret ?_
    refine postQ.ret1 Tryd.results18 rfl ?_
    unfold testB driftB
    simp_all [AV.close, I]
    try (intros; omega)

set_option maxRecDepth 20000 in
theorem rapart_s (r : Int) (a b : Tst) (hr : 0 ≤ r ∧ r ≤ 1000) (ha : testB a = true) (hb : testB b = true) : FSpec Tryd.prog 124 [I r, .agg (eT a), .agg (eT b)] (B (contraB r a b)) (none) := by
  refine FSpec.of_body Tryd.func124 rfl (leB rfl) fun w0 M0 => ?_
  have h1 := testB_bd ha
  have h2 := testB_bd hb
  have hfb := far_bd (a := a.day) (b := b.day) ⟨h1.1, h1.2.1⟩ ⟨h2.1, h2.2.1⟩
  have hmb := mul_bd hr.1 hr.2 hfb.1 hfb.2
  refine AWP.seq ?_
  refine AWP.region ?_
  refine AOps.call (o_box _ rfl rfl rfl) ?_
  refine AOps.call (o_box _ rfl rfl rfl) ?_
  refine AOps.call (o_assign _ rfl rfl) ?_
  refine AOps.nil ?_
  refine AWP.seq ?_
  refine AWP.region ?_
  refine AOps.call (o_move _ rfl rfl) ?_
  refine AOps.call (o_fieldRef _ rfl fa26_0 rfl rfl) ?_
  refine AOps.call (o_loadRef _ rfl rfl Tryd.sizeOf3 Tryd.isAgg3 rfl rfl rfl) ?_
  refine AOps.call (o_fieldRef _ rfl fa26_0 rfl rfl) ?_
  refine AOps.call (o_loadRef _ rfl rfl Tryd.sizeOf3 Tryd.isAgg3 rfl rfl rfl) ?_
  refine AOps.call (o_call (rfar_s a.day b.day ⟨h1.1, h1.2.1⟩ ⟨h2.1, h2.2.1⟩) Tryd.call87 rfl rfl) ?_
  refine AOps.call (o_mul _ _ rfl rfl ⟨by (try dsimp only); omega, by (try dsimp only); omega⟩ rfl) ?_
  refine AOps.call (o_assign _ rfl rfl) ?_
  refine AOps.nil ?_
  refine AWP.seq ?_
  refine AWP.region ?_
  refine AOps.call (o_fieldRef _ rfl fa26_2 rfl rfl) ?_
  refine AOps.call (o_loadRef _ rfl rfl Tryd.sizeOf3 Tryd.isAgg3 rfl rfl rfl) ?_
  refine AOps.call (o_fieldRef _ rfl fa26_3 rfl rfl) ?_
  refine AOps.call (o_loadRef _ rfl rfl Tryd.sizeOf3 Tryd.isAgg3 rfl rfl rfl) ?_
  refine AOps.call (o_sub _ _ rfl rfl ⟨by (try dsimp only); omega, by (try dsimp only); omega⟩ rfl) ?_
  refine AOps.call (o_move _ rfl rfl) ?_
  refine AOps.call (o_bin _ _ rfl rfl (fun _ => rfl) rfl) ?_
  refine AOps.call (o_move _ rfl rfl) ?_
  refine AOps.split rfl rfl rfl (fun h16 => ?_) (fun h16 => ?_)
  · skip
    refine AOps.go rfl rfl rfl h16 (o_fieldRef _ rfl fa26_2 rfl rfl) ?_
    refine AOps.go rfl rfl rfl h16 (o_loadRef _ rfl rfl Tryd.sizeOf3 Tryd.isAgg3 rfl rfl rfl) ?_
    refine AOps.go rfl rfl rfl h16 (o_fieldRef _ rfl fa26_3 rfl rfl) ?_
    refine AOps.go rfl rfl rfl h16 (o_loadRef _ rfl rfl Tryd.sizeOf3 Tryd.isAgg3 rfl rfl rfl) ?_
    refine AOps.go rfl rfl rfl h16 (o_sub _ _ rfl rfl ⟨by (try dsimp only); omega, by (try dsimp only); omega⟩ rfl) ?_
    refine AOps.go rfl rfl rfl h16 (o_move _ rfl rfl) ?_
    refine AOps.go rfl rfl rfl h16 (o_bin _ _ rfl rfl (fun _ => rfl) rfl) ?_
    refine AOps.call (o_pickF _ _ _ rfl h16 rfl rfl) ?_
    refine AOps.call (o_assign _ rfl rfl) ?_
    refine AOps.nil ?_
    refine AWP.ret ?_
    refine postQ.ret1 Tryd.results124 rfl ?_
    rw [contraB_or]
    simp_all [AV.close, B]
    try (intros; omega)
  · skip
    refine AOps.pass rfl rfl rfl h16 rfl ?_
    refine AOps.pass rfl rfl rfl h16 rfl ?_
    refine AOps.pass rfl rfl rfl h16 rfl ?_
    refine AOps.pass rfl rfl rfl h16 rfl ?_
    refine AOps.pass rfl rfl rfl h16 rfl ?_
    refine AOps.pass rfl rfl rfl h16 rfl ?_
    refine AOps.pass rfl rfl rfl h16 rfl ?_
    refine AOps.call (o_pickT _ _ _ rfl h16 rfl rfl) ?_
    refine AOps.call (o_assign _ rfl rfl) ?_
    refine AOps.nil ?_
    refine AWP.ret ?_
    refine postQ.ret1 Tryd.results124 rfl ?_
    rw [contraB_or]
    simp_all [AV.close, B]
    try (intros; omega)

set_option maxRecDepth 20000 in
theorem rvalid_s (s : Scl) : FSpec Tryd.prog 68 [.agg (eS s)] (B (scaleB s)) (none) := by
  refine FSpec.of_body Tryd.func68 rfl (leB rfl) fun w0 M0 => ?_
  refine AWP.seq ?_
  refine AWP.region ?_
  refine AOps.call (o_box _ rfl rfl rfl) ?_
  refine AOps.call (o_assign _ rfl rfl) ?_
  refine AOps.nil ?_
  refine AWP.seq ?_
  refine AWP.region ?_
  refine AOps.call (o_fieldRef _ rfl fa24_0 rfl rfl) ?_
  refine AOps.call (o_loadRef _ rfl rfl Tryd.sizeOf3 Tryd.isAgg3 rfl rfl rfl) ?_
  refine AOps.call (o_call (rNumber_s _) Tryd.call101 rfl rfl) ?_
  refine AOps.call (o_assign _ rfl rfl) ?_
  refine AOps.nil ?_
  refine AWP.seq ?_
  refine AWP.seq ?_
  refine AWP.region ?_
  refine AOps.call (o_move _ rfl rfl) ?_
  refine AOps.call (o_un _ rfl (fun _ => rfl) rfl) ?_
  refine AOps.call (o_move _ rfl rfl) ?_
  refine AOps.split rfl rfl rfl (fun h6 => ?_) (fun h6 => ?_)
  · skip
    refine AOps.go rfl rfl rfl h6 (o_fieldRef _ rfl fa24_1 rfl rfl) ?_
    refine AOps.go rfl rfl rfl h6 (o_loadRef _ rfl rfl Tryd.sizeOf3 Tryd.isAgg3 rfl rfl rfl) ?_
    refine AOps.go rfl rfl rfl h6 (o_bin _ _ rfl rfl (fun _ => rfl) rfl) ?_
    refine AOps.call (o_pickF _ _ _ rfl h6 rfl rfl) ?_
    refine AOps.call (o_move _ rfl rfl) ?_
    refine AOps.split rfl rfl rfl (fun h10 => ?_) (fun h10 => ?_)
    · skip
      refine AOps.go rfl rfl rfl h10 (o_fieldRef _ rfl fa24_1 rfl rfl) ?_
      refine AOps.go rfl rfl rfl h10 (o_loadRef _ rfl rfl Tryd.sizeOf3 Tryd.isAgg3 rfl rfl rfl) ?_
      refine AOps.go rfl rfl rfl h10 (o_bin _ _ rfl rfl (fun _ => rfl) rfl) ?_
      refine AOps.call (o_pickF _ _ _ rfl h10 rfl rfl) ?_
      refine AOps.call (o_move _ rfl rfl) ?_
      refine AOps.split rfl rfl rfl (fun h14 => ?_) (fun h14 => ?_)
      · skip
        refine AOps.go rfl rfl rfl h14 (o_fieldRef _ rfl fa24_2 rfl rfl) ?_
        refine AOps.go rfl rfl rfl h14 (o_loadRef _ rfl rfl Tryd.sizeOf22 Tryd.isAgg22 rfl rfl rfl) ?_
        refine AOps.go rfl rfl rfl h14 (o_len _ Tryd.underlying22 rfl rfl) ?_
        refine AOps.go rfl rfl rfl h14 (o_bin _ _ rfl rfl (fun _ => rfl) rfl) ?_
        refine AOps.call (o_pickF _ _ _ rfl h14 rfl rfl) ?_
        refine AOps.nil ?_
        refine AWP.cond _ rfl (fun h19 => ?_) (fun h19 => ?_)
        · skip
          refine AWP.seq ?_
          refine AWP.region ?_
          refine AOps.call (o_assign _ rfl rfl) ?_
          refine AOps.nil ?_
          refine AWP.ret ?_
          refine postQ.ret1 Tryd.results68 rfl ?_
          try rw [oks_at hlt] at hinv
          simp_all [AV.close, B, scaleB, tests_len, badP]
          try (intros; omega)
        · skip
          have hlen : s.tests.length ≤ 64 := by simp_all [tests_len] <;> omega
          refine AWP.skip ?_
          refine AWP.seq ?_
          refine AWP.seq ?_
          refine AWP.region ?_
          refine AOps.call (o_assign _ rfl rfl) ?_
          refine AOps.nil ?_
          refine AWP.block ?_
          refine AWP.loop (ι := Nat) (fun i => AS.mk' 62 [(1, .ref (1, 0) 0), (4, I i)] [((1, 0), eS s)] [] [(1, 1)]) (fun i => i ≤ s.tests.length ∧ oks none s.tests = oks (prevT s.tests i) (s.tests.drop i)) (fun i => s.tests.length - i) (0) (Weak.mk' rfl ⟨⟨.refl rfl, rfl⟩, ⟨⟨.refl rfl, rfl⟩, trivial⟩⟩ ⟨⟨rfl, rfl, rfl⟩, trivial⟩ trivial) (⟨Nat.zero_le _, rfl⟩) ?_
          rintro k ⟨hk, hinv⟩
          try dsimp only at *
          refine AWP.seq ?_
          refine AWP.seq ?_
          refine AWP.region ?_
          refine AOps.call (o_move _ rfl rfl) ?_
          refine AOps.call (o_fieldRef _ rfl fa24_2 rfl rfl) ?_
          refine AOps.call (o_loadRef _ rfl rfl Tryd.sizeOf22 Tryd.isAgg22 rfl rfl rfl) ?_
          refine AOps.call (o_len _ Tryd.underlying22 rfl rfl) ?_
          refine AOps.call (o_bin _ _ rfl rfl (fun _ => rfl) rfl) ?_
          refine AOps.nil ?_
          refine AWP.cond _ rfl (fun h25 => ?_) (fun h25 => ?_)
          · skip
            have hlt : k < s.tests.length := by simpa [tests] using h25
            have hel := tests_get hlt
            refine AWP.skip ?_
            refine AWP.seq ?_
            refine AWP.block ?_
            refine AWP.seq ?_
            refine AWP.region ?_
            refine AOps.call (o_fieldRef _ rfl fa24_2 rfl rfl) ?_
            refine AOps.call (o_loadRef _ rfl rfl Tryd.sizeOf22 Tryd.isAgg22 rfl rfl rfl) ?_
            refine AOps.call (o_move _ rfl rfl) ?_
            refine AOps.call (o_index _ _ Tryd.underlying22 Tryd.sizeOf26 rfl rfl (by omega) (by assumption) rfl rfl) ?_
            refine AOps.call (o_loadRd _ rfl Tryd.sizeOf26 Tryd.isAgg26 rfl rfl rfl) ?_
            refine AOps.call (o_call (rCheckTest_s s.tests[k]) Tryd.call18 rfl rfl) ?_
            refine AOps.call (o_assign _ rfl rfl) ?_
            refine AOps.nil ?_
            refine AWP.seq ?_
            refine AWP.drawn 22 mixed (by kernel_rfl) ?_
            refine AHead.call (o_move _ rfl rfl) rfl ?_
            refine AHead.call (o_bin _ _ rfl rfl (fun _ => rfl) rfl) rfl ?_
            refine AHead.call (o_move _ rfl rfl) rfl ?_
            refine AHead.split rfl rfl rfl (fun h32 => ?_) (fun h32 => ?_)
            · skip
              refine AHead.go rfl rfl rfl h32 (o_move _ rfl rfl) rfl ?_
              refine AHead.go rfl rfl rfl h32 (o_bin _ _ rfl rfl (fun _ => rfl) rfl) rfl ?_
              refine AHead.go rfl rfl rfl h32 (o_move _ rfl rfl) rfl ?_
              refine AHead.split rfl rfl rfl (fun h34 => ?_) (fun h34 => ?_)
              · skip
                have hk0 : 0 < k := by simp at h34; omega
                have hlt1 : k - 1 < s.tests.length := by omega
                have hel1 : (tests s.tests)[((k : Int) - 1).toNat]? = some (eT s.tests[k - 1]) := by
                  have := tests_get hlt1
                  rwa [show (((k - 1 : Nat)) : Int) = (k : Int) - 1 by omega] at this
                have hbt : badP (prevT s.tests k) s.tests[k] = (!testB s.tests[k] || decide (s.tests[k].known < s.tests[k - 1].known)) := by
                  obtain ⟨q, rfl⟩ : ∃ q, k = q + 1 := ⟨k - 1, by omega⟩
                  simp [prevT, badP, show q < s.tests.length by omega]
                refine AHead.go rfl rfl rfl h34 (o_fieldRef _ rfl fa24_2 rfl rfl) rfl ?_
                refine AHead.go rfl rfl rfl h34 (o_loadRef _ rfl rfl Tryd.sizeOf22 Tryd.isAgg22 rfl rfl rfl) rfl ?_
                refine AHead.go rfl rfl rfl h34 (o_move _ rfl rfl) rfl ?_
                refine AHead.go rfl rfl rfl h34 (o_sub _ _ rfl rfl ⟨by (try dsimp only); omega, by (try dsimp only); omega⟩ rfl) rfl ?_
                refine AHead.go rfl rfl rfl h34 (o_index _ _ Tryd.underlying22 Tryd.sizeOf26 rfl rfl (by omega) hel1 rfl rfl) rfl ?_
                refine AHead.go rfl rfl rfl h34 (o_fieldRd _ rfl fa26_1 rfl) rfl ?_
                refine AHead.go rfl rfl rfl h34 (o_loadRd _ rfl Tryd.sizeOf3 Tryd.isAgg3 rfl rfl rfl) rfl ?_
                refine AHead.go rfl rfl rfl h34 (o_fieldRef _ rfl fa24_2 rfl rfl) rfl ?_
                refine AHead.go rfl rfl rfl h34 (o_loadRef _ rfl rfl Tryd.sizeOf22 Tryd.isAgg22 rfl rfl rfl) rfl ?_
                refine AHead.go rfl rfl rfl h34 (o_move _ rfl rfl) rfl ?_
                refine AHead.go rfl rfl rfl h34 (o_index _ _ Tryd.underlying22 Tryd.sizeOf26 rfl rfl (by omega) hel rfl rfl) rfl ?_
                refine AHead.go rfl rfl rfl h34 (o_fieldRd _ rfl fa26_1 rfl) rfl ?_
                refine AHead.go rfl rfl rfl h34 (o_loadRd _ rfl Tryd.sizeOf3 Tryd.isAgg3 rfl rfl rfl) rfl ?_
                refine AHead.go rfl rfl rfl h34 (o_bin _ _ rfl rfl (fun _ => rfl) rfl) rfl ?_
                refine AHead.go rfl rfl rfl h32 (o_pickT _ _ _ rfl h34 rfl rfl) rfl ?_
                refine AHead.call (o_pickF _ _ _ rfl h32 rfl rfl) rfl ?_
                refine AHead.nil ?_
                refine AOps.nil ?_
                refine AWP.cond _ rfl (fun h47 => ?_) (fun h47 => ?_)
                · skip
                  have hB : badP (prevT s.tests k) s.tests[k] = true := by
                    first
                    | (rw [hbt]; simp_all; done)
                    | (unfold badP; simp_all; done)
                  rw [oks_at hlt, hB] at hinv
                  refine AWP.seq ?_
                  refine AWP.region ?_
                  refine AOps.call (o_assign _ rfl rfl) ?_
                  refine AOps.nil ?_
                  refine AWP.ret ?_
                  refine postQ.ret1 Tryd.results68 rfl ?_
                  try rw [oks_at hlt] at hinv
                  simp_all [AV.close, B, scaleB, tests_len, badP]
                  try (intros; omega)
                · skip
                  have hB : badP (prevT s.tests k) s.tests[k] = false := by
                    first
                    | (rw [hbt]; simp_all; done)
                    | (unfold badP; simp_all; done)
                  refine AWP.skip ?_
                  refine AWP.region ?_
                  refine AOps.call (o_move _ rfl rfl) ?_
                  refine AOps.call (o_add _ _ rfl rfl ⟨by (try dsimp only); omega, by (try dsimp only); omega⟩ rfl) ?_
                  refine AOps.call (o_assign _ rfl rfl) ?_
                  refine AOps.nil ?_
                  refine ⟨k + 1, ?_, (Weak.mk' rfl ⟨⟨.refl rfl, rfl⟩, ⟨⟨.refl rfl, rfl⟩, trivial⟩⟩ ⟨⟨rfl, rfl, rfl⟩, trivial⟩ trivial)⟩
                  refine ⟨⟨by omega, ?_⟩, by omega⟩
                  rw [hinv, oks_at hlt]
                  first
                  | (rw [hB]; simp; done)
                  | (rw [hbt]; simp_all)
              · skip
                have hk0 : k = 0 := by simp at h34; omega
                have hbt : badP (prevT s.tests k) s.tests[k] = !testB s.tests[k] := by
                  subst hk0; simp [prevT, badP]
                refine AHead.pass rfl rfl rfl h34 rfl ?_
                refine AHead.pass rfl rfl rfl h34 rfl ?_
                refine AHead.pass rfl rfl rfl h34 rfl ?_
                refine AHead.pass rfl rfl rfl h34 rfl ?_
                refine AHead.pass rfl rfl rfl h34 rfl ?_
                refine AHead.pass rfl rfl rfl h34 rfl ?_
                refine AHead.pass rfl rfl rfl h34 rfl ?_
                refine AHead.pass rfl rfl rfl h34 rfl ?_
                refine AHead.pass rfl rfl rfl h34 rfl ?_
                refine AHead.pass rfl rfl rfl h34 rfl ?_
                refine AHead.pass rfl rfl rfl h34 rfl ?_
                refine AHead.pass rfl rfl rfl h34 rfl ?_
                refine AHead.pass rfl rfl rfl h34 rfl ?_
                refine AHead.pass rfl rfl rfl h34 rfl ?_
                refine AHead.go rfl rfl rfl h32 (o_pickF _ _ _ rfl h34 rfl rfl) rfl ?_
                refine AHead.call (o_pickF _ _ _ rfl h32 rfl rfl) rfl ?_
                refine AHead.nil ?_
                refine AOps.nil ?_
                refine AWP.condF rfl ?_
                refine AWP.skip ?_
                refine AWP.region ?_
                refine AOps.call (o_move _ rfl rfl) ?_
                refine AOps.call (o_add _ _ rfl rfl ⟨by (try dsimp only); omega, by (try dsimp only); omega⟩ rfl) ?_
                refine AOps.call (o_assign _ rfl rfl) ?_
                refine AOps.nil ?_
                refine ⟨k + 1, ?_, (Weak.mk' rfl ⟨⟨.refl rfl, rfl⟩, ⟨⟨.refl rfl, rfl⟩, trivial⟩⟩ ⟨⟨rfl, rfl, rfl⟩, trivial⟩ trivial)⟩
                refine ⟨⟨by omega, ?_⟩, by omega⟩
                rw [hinv, oks_at hlt]
                first
                | (rw [hB]; simp; done)
                | (rw [hbt]; simp_all)
            · skip
              refine AHead.pass rfl rfl rfl h32 rfl ?_
              refine AHead.pass rfl rfl rfl h32 rfl ?_
              refine AHead.pass rfl rfl rfl h32 rfl ?_
              refine AHead.passU rfl rfl rfl rfl ?_
              refine AHead.passU rfl rfl rfl rfl ?_
              refine AHead.passU rfl rfl rfl rfl ?_
              refine AHead.passU rfl rfl rfl rfl ?_
              refine AHead.passU rfl rfl rfl rfl ?_
              refine AHead.passU rfl rfl rfl rfl ?_
              refine AHead.passU rfl rfl rfl rfl ?_
              refine AHead.passU rfl rfl rfl rfl ?_
              refine AHead.passU rfl rfl rfl rfl ?_
              refine AHead.passU rfl rfl rfl rfl ?_
              refine AHead.passU rfl rfl rfl rfl ?_
              refine AHead.passU rfl rfl rfl rfl ?_
              refine AHead.passU rfl rfl rfl rfl ?_
              refine AHead.passU rfl rfl rfl rfl ?_
              refine AHead.pass rfl rfl rfl h32 rfl ?_
              refine AHead.call (o_pickT _ _ _ rfl h32 rfl rfl) rfl ?_
              refine AHead.nil ?_
              refine AOps.nil ?_
              refine AWP.condT rfl ?_
              refine AWP.seq ?_
              refine AWP.region ?_
              refine AOps.call (o_assign _ rfl rfl) ?_
              refine AOps.nil ?_
              refine AWP.ret ?_
              refine postQ.ret1 Tryd.results68 rfl ?_
              try rw [oks_at hlt] at hinv
              simp_all [AV.close, B, scaleB, tests_len, badP]
              try (intros; omega)
          · skip
            have hkl : k = s.tests.length := by simp [tests] at h25 hk; omega
            subst hkl
            rw [oks_end] at hinv
            refine AWP.exit ?_
            refine AWP.seq ?_
            refine AWP.region ?_
            refine AOps.call (o_assign _ rfl rfl) ?_
            refine AOps.nil ?_
            refine AWP.ret ?_
            refine postQ.ret1 Tryd.results68 rfl ?_
            try rw [oks_at hlt] at hinv
            simp_all [AV.close, B, scaleB, tests_len, badP]
            try (intros; omega)
      · skip
        refine AOps.pass rfl rfl rfl h14 rfl ?_
        refine AOps.pass rfl rfl rfl h14 rfl ?_
        refine AOps.pass rfl rfl rfl h14 rfl ?_
        refine AOps.pass rfl rfl rfl h14 rfl ?_
        refine AOps.call (o_pickT _ _ _ rfl h14 rfl rfl) ?_
        refine AOps.nil ?_
        refine AWP.condT rfl ?_
        refine AWP.seq ?_
        refine AWP.region ?_
        refine AOps.call (o_assign _ rfl rfl) ?_
        refine AOps.nil ?_
        refine AWP.ret ?_
        refine postQ.ret1 Tryd.results68 rfl ?_
        try rw [oks_at hlt] at hinv
        simp_all [AV.close, B, scaleB, tests_len, badP]
        try (intros; omega)
    · skip
      refine AOps.pass rfl rfl rfl h10 rfl ?_
      refine AOps.pass rfl rfl rfl h10 rfl ?_
      refine AOps.pass rfl rfl rfl h10 rfl ?_
      refine AOps.call (o_pickT _ _ _ rfl h10 rfl rfl) ?_
      refine AOps.call (o_move _ rfl rfl) ?_
      refine AOps.pass rfl rfl rfl rfl rfl ?_
      refine AOps.pass rfl rfl rfl rfl rfl ?_
      refine AOps.pass rfl rfl rfl rfl rfl ?_
      refine AOps.pass rfl rfl rfl rfl rfl ?_
      refine AOps.call (o_pickT _ _ _ rfl rfl rfl rfl) ?_
      refine AOps.nil ?_
      refine AWP.condT rfl ?_
      refine AWP.seq ?_
      refine AWP.region ?_
      refine AOps.call (o_assign _ rfl rfl) ?_
      refine AOps.nil ?_
      refine AWP.ret ?_
      refine postQ.ret1 Tryd.results68 rfl ?_
      try rw [oks_at hlt] at hinv
      simp_all [AV.close, B, scaleB, tests_len, badP]
      try (intros; omega)
  · skip
    refine AOps.pass rfl rfl rfl h6 rfl ?_
    refine AOps.pass rfl rfl rfl h6 rfl ?_
    refine AOps.pass rfl rfl rfl h6 rfl ?_
    refine AOps.call (o_pickT _ _ _ rfl h6 rfl rfl) ?_
    refine AOps.call (o_move _ rfl rfl) ?_
    refine AOps.pass rfl rfl rfl rfl rfl ?_
    refine AOps.pass rfl rfl rfl rfl rfl ?_
    refine AOps.pass rfl rfl rfl rfl rfl ?_
    refine AOps.call (o_pickT _ _ _ rfl rfl rfl rfl) ?_
    refine AOps.call (o_move _ rfl rfl) ?_
    refine AOps.pass rfl rfl rfl rfl rfl ?_
    refine AOps.pass rfl rfl rfl rfl rfl ?_
    refine AOps.pass rfl rfl rfl rfl rfl ?_
    refine AOps.pass rfl rfl rfl rfl rfl ?_
    refine AOps.call (o_pickT _ _ _ rfl rfl rfl rfl) ?_
    refine AOps.nil ?_
    refine AWP.condT rfl ?_
    refine AWP.seq ?_
    refine AWP.region ?_
    refine AOps.call (o_assign _ rfl rfl) ?_
    refine AOps.nil ?_
    refine AWP.ret ?_
    refine postQ.ret1 Tryd.results68 rfl ?_
    try rw [oks_at hlt] at hinv
    simp_all [AV.close, B, scaleB, tests_len, badP]
    try (intros; omega)

set_option maxRecDepth 20000 in
theorem rpair_s (s : Scl) (hr : 0 ≤ s.rate ∧ s.rate ≤ 1000) (hl : s.tests.length ≤ 1000) (hv : ∀ t ∈ s.tests, testB t = true) : FSpec Tryd.prog 69 [.agg (eS s)] (match pairs s.rate s.tests 0 with | some (i, j) => .tup [.agg [I i, I j], B true] | none => .tup [.agg [I 0, I 0], B false]) (none) := by
  refine FSpec.of_body Tryd.func69 rfl (leB rfl) fun w0 M0 => ?_
  refine AWP.seq ?_
  refine AWP.region ?_
  refine AOps.call (o_box _ rfl rfl rfl) ?_
  refine AOps.call (o_alloc ze28 rfl rfl) ?_
  refine AOps.call (o_assign _ rfl rfl) ?_
  refine AOps.nil ?_
  refine AWP.seq ?_
  refine AWP.seq ?_
  refine AWP.region ?_
  refine AOps.call (o_assign _ rfl rfl) ?_
  refine AOps.nil ?_
  refine AWP.block ?_
  refine AWP.loop (ι := Nat) (fun i => AS.mk' 41 [(1, .ref (1, 0) 0), (2, .ref (2, 0) 0), (4, I i)] [((1, 0), eS s), ((2, 0), [I 0, I 0])] [] [(1, 1), (2, 1)]) (fun i => i ≤ s.tests.length ∧ pairs s.rate s.tests 0 = pairs s.rate (s.tests.drop i) i) (fun i => s.tests.length - i) (0) (Weak.mk' rfl ⟨⟨.refl rfl, rfl⟩, ⟨⟨.refl rfl, rfl⟩, ⟨⟨.refl rfl, rfl⟩, trivial⟩⟩⟩ ⟨⟨rfl, rfl, rfl⟩, ⟨⟨rfl, rfl, rfl⟩, trivial⟩⟩ trivial) (⟨Nat.zero_le _, rfl⟩) ?_
  rintro k ⟨hk, hinv⟩
  try dsimp only at *
  refine AWP.seq ?_
  refine AWP.seq ?_
  refine AWP.region ?_
  refine AOps.call (o_move _ rfl rfl) ?_
  refine AOps.call (o_fieldRef _ rfl fa24_2 rfl rfl) ?_
  refine AOps.call (o_loadRef _ rfl rfl Tryd.sizeOf22 Tryd.isAgg22 rfl rfl rfl) ?_
  refine AOps.call (o_len _ Tryd.underlying22 rfl rfl) ?_
  refine AOps.call (o_bin _ _ rfl rfl (fun _ => rfl) rfl) ?_
  refine AOps.nil ?_
  refine AWP.cond _ rfl (fun h8 => ?_) (fun h8 => ?_)
  · skip
    have hlt : k < s.tests.length := by simpa [tests] using h8
    have hel := tests_get hlt
    have hdl : (s.tests.drop (k + 1)).length = s.tests.length - (k + 1) := List.length_drop
    refine AWP.skip ?_
    refine AWP.seq ?_
    refine AWP.block ?_
    refine AWP.seq ?_
    refine AWP.region ?_
    refine AOps.call (o_move _ rfl rfl) ?_
    refine AOps.call (o_add _ _ rfl rfl ⟨by (try dsimp only); omega, by (try dsimp only); omega⟩ rfl) ?_
    refine AOps.call (o_assign _ rfl rfl) ?_
    refine AOps.nil ?_
    refine AWP.block ?_
    refine AWP.loop (ι := Nat) (fun i => AS.mk' 41 [(1, .ref (1, 0) 0), (2, .ref (2, 0) 0), (4, I k), (5, I ((k : Int) + 1 + i))] [((1, 0), eS s), ((2, 0), [I 0, I 0])] [] [(1, 1), (2, 1)]) (fun i => i ≤ (s.tests.drop (k + 1)).length ∧ (s.tests.drop (k + 1)).findIdx? (contraB s.rate s.tests[k]) = (((s.tests.drop (k + 1)).drop i).findIdx? (contraB s.rate s.tests[k])).map (· + i)) (fun i => (s.tests.drop (k + 1)).length - i) (0) (Weak.mk' rfl ⟨⟨.refl rfl, rfl⟩, ⟨⟨.refl rfl, rfl⟩, ⟨⟨.refl rfl, rfl⟩, ⟨⟨.refl (congrArg I (Int.add_zero _).symm), rfl⟩, trivial⟩⟩⟩⟩ ⟨⟨rfl, rfl, rfl⟩, ⟨⟨rfl, rfl, rfl⟩, trivial⟩⟩ trivial) (⟨Nat.zero_le _, by simp⟩) ?_
    rintro j ⟨hj, hjnv⟩
    try dsimp only at *
    refine AWP.seq ?_
    refine AWP.seq ?_
    refine AWP.region ?_
    refine AOps.call (o_move _ rfl rfl) ?_
    refine AOps.call (o_fieldRef _ rfl fa24_2 rfl rfl) ?_
    refine AOps.call (o_loadRef _ rfl rfl Tryd.sizeOf22 Tryd.isAgg22 rfl rfl rfl) ?_
    refine AOps.call (o_len _ Tryd.underlying22 rfl rfl) ?_
    refine AOps.call (o_bin _ _ rfl rfl (fun _ => rfl) rfl) ?_
    refine AOps.nil ?_
    refine AWP.cond _ rfl (fun h14 => ?_) (fun h14 => ?_)
    · skip
      have hjlt : j < (s.tests.drop (k + 1)).length := by simp [tests] at h14; omega
      have hjel : (tests s.tests)[((k : Int) + 1 + (j : Int)).toNat]? = some (eT (s.tests.drop (k + 1))[j]) := by
        rw [show ((k : Int) + 1 + (j : Int)).toNat = k + 1 + j by omega]
        simp [tests, show k + 1 + j < s.tests.length by omega]
      refine AWP.skip ?_
      refine AWP.seq ?_
      refine AWP.block ?_
      refine AWP.seq ?_
      refine AWP.drawn 14 mixed (by kernel_rfl) ?_
      refine AHead.call (o_fieldRef _ rfl fa24_1 rfl rfl) rfl ?_
      refine AHead.call (o_loadRef _ rfl rfl Tryd.sizeOf3 Tryd.isAgg3 rfl rfl rfl) rfl ?_
      refine AHead.call (o_fieldRef _ rfl fa24_2 rfl rfl) rfl ?_
      refine AHead.call (o_loadRef _ rfl rfl Tryd.sizeOf22 Tryd.isAgg22 rfl rfl rfl) rfl ?_
      refine AHead.call (o_move _ rfl rfl) rfl ?_
      refine AHead.call (o_index _ _ Tryd.underlying22 Tryd.sizeOf26 rfl rfl (by omega) hel rfl rfl) rfl ?_
      refine AHead.call (o_loadRd _ rfl Tryd.sizeOf26 Tryd.isAgg26 rfl rfl rfl) rfl ?_
      refine AHead.call (o_fieldRef _ rfl fa24_2 rfl rfl) rfl ?_
      refine AHead.call (o_loadRef _ rfl rfl Tryd.sizeOf22 Tryd.isAgg22 rfl rfl rfl) rfl ?_
      refine AHead.call (o_move _ rfl rfl) rfl ?_
      refine AHead.call (o_index _ _ Tryd.underlying22 Tryd.sizeOf26 rfl rfl (by omega) hjel rfl rfl) rfl ?_
      refine AHead.call (o_loadRd _ rfl Tryd.sizeOf26 Tryd.isAgg26 rfl rfl rfl) rfl ?_
      refine AHead.call (o_call (rapart_s s.rate s.tests[k] (s.tests.drop (k + 1))[j] hr (hv _ (List.getElem_mem hlt)) (hv _ (List.mem_of_mem_drop (List.getElem_mem hjlt)))) Tryd.call124 rfl rfl) rfl ?_
      refine AHead.call (o_assign _ rfl rfl) rfl ?_
      refine AHead.nil ?_
      refine AOps.nil ?_
      refine AWP.seq ?_
      refine AWP.region ?_
      refine AOps.call (o_move _ rfl rfl) ?_
      refine AOps.nil ?_
      refine AWP.cond _ rfl (fun h26 => ?_) (fun h26 => ?_)
      · skip
        have hyes : (s.tests.drop (k + 1)).findIdx? (contraB s.rate s.tests[k]) = some j := by rw [hjnv, find_at hjlt, if_pos h26]; simp
        have hpr : pairs s.rate s.tests 0 = some (k, k + 1 + j) := by rw [hinv, pairs_at hlt, hyes]
        refine AWP.seq ?_
        refine AWP.region ?_
        refine AOps.call (o_move _ rfl rfl) ?_
        refine AOps.call (o_move _ rfl rfl) ?_
        refine AOps.call (o_build bu28 rfl rfl rfl) ?_
        refine AOps.cons (o_store _ _ rfl rfl Tryd.sizeOf28 rfl rfl rfl rfl rfl) ?_
        refine AOps.call (o_assign _ rfl rfl) ?_
        refine AOps.nil ?_
        refine AWP.ret ?_
        refine postQ.retC1 Tryd.results69 rfl rfl Tryd.sizeOf28 Tryd.isAgg28 rfl rfl ?_
        first
        | (rw [hpr]; rfl)
        | (rw [hpn]; rfl)
      · skip
        refine AWP.skip ?_
        refine AWP.region ?_
        refine AOps.call (o_move _ rfl rfl) ?_
        refine AOps.call (o_add _ _ rfl rfl ⟨by (try dsimp only); omega, by (try dsimp only); omega⟩ rfl) ?_
        refine AOps.call (o_assign _ rfl rfl) ?_
        refine AOps.nil ?_
        refine ⟨j + 1, ?_, (Weak.mk' rfl ⟨⟨.refl rfl, rfl⟩, ⟨⟨.refl rfl, rfl⟩, ⟨⟨.refl rfl, rfl⟩, ⟨⟨.refl (congrArg I (by omega)), rfl⟩, trivial⟩⟩⟩⟩ ⟨⟨rfl, rfl, rfl⟩, ⟨⟨rfl, rfl, rfl⟩, trivial⟩⟩ trivial)⟩
        refine ⟨⟨by omega, ?_⟩, by omega⟩
        rw [hjnv, find_at hjlt, if_neg (by simp_all)]
        simp [Option.map_map, Function.comp_def, Nat.add_comm, Nat.add_left_comm]
    · skip
      have hjl : j = (s.tests.drop (k + 1)).length := by simp [tests] at h14; omega
      subst hjl
      have hno : (s.tests.drop (k + 1)).findIdx? (contraB s.rate s.tests[k]) = none := by rw [hjnv, List.drop_length]; rfl
      refine AWP.exit ?_
      refine AWP.region ?_
      refine AOps.call (o_move _ rfl rfl) ?_
      refine AOps.call (o_add _ _ rfl rfl ⟨by (try dsimp only); omega, by (try dsimp only); omega⟩ rfl) ?_
      refine AOps.call (o_assign _ rfl rfl) ?_
      refine AOps.nil ?_
      refine ⟨k + 1, ?_, (Weak.mk' rfl ⟨⟨.refl rfl, rfl⟩, ⟨⟨.refl rfl, rfl⟩, ⟨⟨.refl rfl, rfl⟩, trivial⟩⟩⟩ ⟨⟨rfl, rfl, rfl⟩, ⟨⟨rfl, rfl, rfl⟩, trivial⟩⟩ trivial)⟩
      exact ⟨⟨by omega, by rw [hinv, pairs_at hlt, hno]⟩, by omega⟩
  · skip
    have hkl : k = s.tests.length := by simp [tests] at h8 hk; omega
    subst hkl
    have hpn : pairs s.rate s.tests 0 = none := by rw [hinv]; simp [pairs]
    refine AWP.exit ?_
    refine AWP.seq ?_
    refine AWP.region ?_
    refine AOps.call (o_build bu28 rfl rfl rfl) ?_
    refine AOps.cons (o_store _ _ rfl rfl Tryd.sizeOf28 rfl rfl rfl rfl rfl) ?_
    refine AOps.call (o_assign _ rfl rfl) ?_
    refine AOps.nil ?_
    refine AWP.ret ?_
    refine postQ.retC1 Tryd.results69 rfl rfl Tryd.sizeOf28 Tryd.isAgg28 rfl rfl ?_
    first
    | (rw [hpr]; rfl)
    | (rw [hpn]; rfl)

end Go.Proofs.YtphoomnonenalaaDoor
