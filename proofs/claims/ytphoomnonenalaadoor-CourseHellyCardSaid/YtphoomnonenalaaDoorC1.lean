import Derived.Test.YtphoomnonenalaaDoorM1
set_option linter.unusedSimpArgs false
set_option linter.unusedVariables false
namespace Go.Proofs.YtphoomnonenalaaDoor
open Go.Ab

set_option maxRecDepth 20000 in
theorem isDay_s (n : Int) : FSpec Tryd.prog 72 [I n] (B (dayB n)) none := by
  refine FSpec.of_body Tryd.func72 rfl (leB rfl) fun w0 M0 => ?_
  refine AWP.seq ?_
  refine AWP.region ?_
  refine AOps.call (o_assign _ rfl rfl) ?_
  refine AOps.nil ?_
  refine AWP.seq ?_
  refine AWP.region ?_
  refine AOps.call (o_move _ rfl rfl) ?_
  refine AOps.call (o_bin _ _ rfl rfl (fun _ => rfl) rfl) ?_
  refine AOps.call (o_move _ rfl rfl) ?_
  refine AOps.split rfl rfl rfl (fun h3 => ?_) (fun h3 => ?_)
  · skip
    refine AOps.go rfl rfl rfl h3 (o_move _ rfl rfl) ?_
    refine AOps.go rfl rfl rfl h3 (o_bin _ _ rfl rfl (fun _ => rfl) rfl) ?_
    refine AOps.call (o_pickT _ _ _ rfl h3 rfl rfl) ?_
    refine AOps.call (o_assign _ rfl rfl) ?_
    refine AOps.nil ?_
    refine AWP.ret ?_
    refine postQ.ret1 Tryd.results72 rfl ?_
    simp_all [AV.close, B, dayB]
    try (intros; omega)
  · skip
    refine AOps.pass rfl rfl rfl h3 rfl ?_
    refine AOps.pass rfl rfl rfl h3 rfl ?_
    refine AOps.call (o_pickF _ _ _ rfl h3 rfl rfl) ?_
    refine AOps.call (o_assign _ rfl rfl) ?_
    refine AOps.nil ?_
    refine AWP.ret ?_
    refine postQ.ret1 Tryd.results72 rfl ?_
    simp_all [AV.close, B, dayB]
    try (intros; omega)

set_option maxRecDepth 20000 in
theorem isNo_s (n : Int) : FSpec Tryd.prog 98 [I n] (B (noB n)) none := by
  refine FSpec.of_body Tryd.func98 rfl (leB rfl) fun w0 M0 => ?_
  refine AWP.seq ?_
  refine AWP.region ?_
  refine AOps.call (o_assign _ rfl rfl) ?_
  refine AOps.nil ?_
  refine AWP.seq ?_
  refine AWP.region ?_
  refine AOps.call (o_move _ rfl rfl) ?_
  refine AOps.call (o_bin _ _ rfl rfl (fun _ => rfl) rfl) ?_
  refine AOps.call (o_move _ rfl rfl) ?_
  refine AOps.split rfl rfl rfl (fun h3 => ?_) (fun h3 => ?_)
  · skip
    refine AOps.go rfl rfl rfl h3 (o_move _ rfl rfl) ?_
    refine AOps.go rfl rfl rfl h3 (o_bin _ _ rfl rfl (fun _ => rfl) rfl) ?_
    refine AOps.call (o_pickT _ _ _ rfl h3 rfl rfl) ?_
    refine AOps.call (o_assign _ rfl rfl) ?_
    refine AOps.nil ?_
    refine AWP.ret ?_
    refine postQ.ret1 Tryd.results98 rfl ?_
    simp_all [AV.close, B, noB]
    try (intros; omega)
  · skip
    refine AOps.pass rfl rfl rfl h3 rfl ?_
    refine AOps.pass rfl rfl rfl h3 rfl ?_
    refine AOps.call (o_pickF _ _ _ rfl h3 rfl rfl) ?_
    refine AOps.call (o_assign _ rfl rfl) ?_
    refine AOps.nil ?_
    refine AWP.ret ?_
    refine postQ.ret1 Tryd.results98 rfl ?_
    simp_all [AV.close, B, noB]
    try (intros; omega)

set_option maxRecDepth 20000 in
theorem isDrift_s (n : Int) : FSpec Tryd.prog 73 [I n] (B (driftB n)) none := by
  refine FSpec.of_body Tryd.func73 rfl (leB rfl) fun w0 M0 => ?_
  refine AWP.seq ?_
  refine AWP.region ?_
  refine AOps.call (o_assign _ rfl rfl) ?_
  refine AOps.nil ?_
  refine AWP.seq ?_
  refine AWP.region ?_
  refine AOps.call (o_move _ rfl rfl) ?_
  refine AOps.call (o_bin _ _ rfl rfl (fun _ => rfl) rfl) ?_
  refine AOps.call (o_move _ rfl rfl) ?_
  refine AOps.split rfl rfl rfl (fun h3 => ?_) (fun h3 => ?_)
  · skip
    refine AOps.go rfl rfl rfl h3 (o_move _ rfl rfl) ?_
    refine AOps.go rfl rfl rfl h3 (o_bin _ _ rfl rfl (fun _ => rfl) rfl) ?_
    refine AOps.call (o_pickT _ _ _ rfl h3 rfl rfl) ?_
    refine AOps.call (o_assign _ rfl rfl) ?_
    refine AOps.nil ?_
    refine AWP.ret ?_
    refine postQ.ret1 Tryd.results73 rfl ?_
    simp_all [AV.close, B, driftB]
    try (intros; omega)
  · skip
    refine AOps.pass rfl rfl rfl h3 rfl ?_
    refine AOps.pass rfl rfl rfl h3 rfl ?_
    refine AOps.call (o_pickF _ _ _ rfl h3 rfl rfl) ?_
    refine AOps.call (o_assign _ rfl rfl) ?_
    refine AOps.nil ?_
    refine AWP.ret ?_
    refine postQ.ret1 Tryd.results73 rfl ?_
    simp_all [AV.close, B, driftB]
    try (intros; omega)

set_option maxRecDepth 20000 in
theorem isWeight_s (n : Int) : FSpec Tryd.prog 99 [I n] (B (weightB n)) none := by
  refine FSpec.of_body Tryd.func99 rfl (leB rfl) fun w0 M0 => ?_
  refine AWP.seq ?_
  refine AWP.region ?_
  refine AOps.call (o_assign _ rfl rfl) ?_
  refine AOps.nil ?_
  refine AWP.seq ?_
  refine AWP.region ?_
  refine AOps.call (o_move _ rfl rfl) ?_
  refine AOps.call (o_bin _ _ rfl rfl (fun _ => rfl) rfl) ?_
  refine AOps.call (o_move _ rfl rfl) ?_
  refine AOps.split rfl rfl rfl (fun h3 => ?_) (fun h3 => ?_)
  · skip
    refine AOps.go rfl rfl rfl h3 (o_move _ rfl rfl) ?_
    refine AOps.go rfl rfl rfl h3 (o_bin _ _ rfl rfl (fun _ => rfl) rfl) ?_
    refine AOps.call (o_pickT _ _ _ rfl h3 rfl rfl) ?_
    refine AOps.call (o_assign _ rfl rfl) ?_
    refine AOps.nil ?_
    refine AWP.ret ?_
    refine postQ.ret1 Tryd.results99 rfl ?_
    simp_all [AV.close, B, weightB]
    try (intros; omega)
  · skip
    refine AOps.pass rfl rfl rfl h3 rfl ?_
    refine AOps.pass rfl rfl rfl h3 rfl ?_
    refine AOps.call (o_pickF _ _ _ rfl h3 rfl rfl) ?_
    refine AOps.call (o_assign _ rfl rfl) ?_
    refine AOps.nil ?_
    refine AWP.ret ?_
    refine postQ.ret1 Tryd.results99 rfl ?_
    simp_all [AV.close, B, weightB]
    try (intros; omega)

set_option maxRecDepth 20000 in
theorem ends_s (a : Int) (l : List Int) (hl : l.length ≤ 1000000) : FSpec Tryd.prog 126 [I a, .sl (ints l)] (.agg (eP ⟨mn a l, mx a l⟩)) none := by
  refine FSpec.of_body Tryd.func126 rfl (leB rfl) fun w0 M0 => ?_
  refine AWP.seq ?_
  refine AWP.region ?_
  refine AOps.call (o_alloc ze40 rfl rfl) ?_
  refine AOps.nil ?_
  refine AWP.seq ?_
  refine AWP.region ?_
  refine AOps.call (o_move _ rfl rfl) ?_
  refine AOps.call (o_move _ rfl rfl) ?_
  refine AOps.call (o_build bu40 rfl rfl rfl) ?_
  refine AOps.call (o_alloc ze40 rfl rfl) ?_
  refine AOps.cons (o_store _ _ rfl rfl Tryd.sizeOf40 rfl rfl rfl rfl rfl) ?_
  refine AOps.nil ?_
  refine AWP.seq ?_
  refine AWP.seq ?_
  refine AWP.region ?_
  refine AOps.call (o_move _ rfl rfl) ?_
  refine AOps.call (o_len _ Tryd.underlying45 rfl rfl) ?_
  refine AOps.call (o_move _ rfl rfl) ?_
  refine AOps.nil ?_
  refine AWP.block ?_
  refine AWP.loop (ι := Nat × Int × Int) (fun i => AS.mk' 31 [(4, .ref (4, 0) 0), (5, .ref (5, 0) 0), (11, .sl (ints l)), (12, I (ints l).length), (13, I i.1)] [((4, 0), [I 0, I 0]), ((5, 0), [I i.2.1, I i.2.2])] [] [(4, 1), (5, 1)]) (fun i => i.1 ≤ l.length ∧ i.2.1 = mn a (l.take i.1) ∧ i.2.2 = mx a (l.take i.1)) (fun i => l.length - i.1) (0, a, a) (Weak.mk' rfl ⟨⟨.refl rfl, rfl⟩, ⟨⟨.refl rfl, rfl⟩, ⟨⟨.refl rfl, rfl⟩, ⟨⟨.refl rfl, rfl⟩, ⟨⟨.refl rfl, rfl⟩, trivial⟩⟩⟩⟩⟩ ⟨⟨rfl, rfl, rfl⟩, ⟨⟨rfl, rfl, rfl⟩, trivial⟩⟩ trivial) (⟨Nat.zero_le _, rfl, rfl⟩) ?_
  rintro ⟨k, lo, hi⟩ ⟨hk, hlo, hhi⟩
  dsimp only at *
  refine AWP.seq ?_
  refine AWP.region ?_
  refine AOps.call (o_bin _ _ rfl rfl (fun _ => rfl) rfl) ?_
  refine AOps.nil ?_
  refine AWP.seq ?_
  refine AWP.cond _ rfl (fun h10 => ?_) (fun h10 => ?_)
  · skip
    have hlt : k < l.length := by simpa [ints] using h10
    have hel := ints_get hlt
    refine AWP.skip ?_
    refine AWP.seq ?_
    refine AWP.block ?_
    refine AWP.seq ?_
    refine AWP.region ?_
    refine AOps.call (o_index _ _ Tryd.underlying45 Tryd.sizeOf3 rfl rfl (by omega) (by assumption) rfl rfl) ?_
    refine AOps.call (o_loadRd _ rfl Tryd.sizeOf3 Tryd.isAgg3 rfl rfl rfl) ?_
    refine AOps.call (o_assign _ rfl rfl) ?_
    refine AOps.nil ?_
    refine AWP.seq ?_
    refine AWP.seq ?_
    refine AWP.region ?_
    refine AOps.call (o_move _ rfl rfl) ?_
    refine AOps.call (o_fieldRef _ rfl fa40_0 rfl rfl) ?_
    refine AOps.call (o_loadRef _ rfl rfl Tryd.sizeOf3 Tryd.isAgg3 rfl rfl rfl) ?_
    refine AOps.call (o_bin _ _ rfl rfl (fun _ => rfl) rfl) ?_
    refine AOps.nil ?_
    refine AWP.cond _ rfl (fun h16 => ?_) (fun h16 => ?_)
    · skip
      refine AWP.region ?_
      refine AOps.call (o_move _ rfl rfl) ?_
      refine AOps.call (o_fieldRef _ rfl fa40_0 rfl rfl) ?_
      refine AOps.cons (o_store _ _ rfl rfl Tryd.sizeOf3 rfl rfl rfl rfl rfl) ?_
      refine AOps.nil ?_
      refine AWP.seq ?_
      refine AWP.region ?_
      refine AOps.call (o_move _ rfl rfl) ?_
      refine AOps.call (o_fieldRef _ rfl fa40_1 rfl rfl) ?_
      refine AOps.call (o_loadRef _ rfl rfl Tryd.sizeOf3 Tryd.isAgg3 rfl rfl rfl) ?_
      refine AOps.call (o_bin _ _ rfl rfl (fun _ => rfl) rfl) ?_
      refine AOps.nil ?_
      refine AWP.cond _ rfl (fun h21 => ?_) (fun h21 => ?_)
      · skip
        refine AWP.region ?_
        refine AOps.call (o_move _ rfl rfl) ?_
        refine AOps.call (o_fieldRef _ rfl fa40_1 rfl rfl) ?_
        refine AOps.cons (o_store _ _ rfl rfl Tryd.sizeOf3 rfl rfl rfl rfl rfl) ?_
        refine AOps.nil ?_
        refine AWP.region ?_
        refine AOps.call (o_add _ _ rfl rfl ⟨by omega, by omega⟩ rfl) ?_
        refine AOps.call (o_move _ rfl rfl) ?_
        refine AOps.nil ?_
        refine ⟨(k + 1, _, _), ?_, (Weak.mk' rfl ⟨⟨.refl rfl, rfl⟩, ⟨⟨.refl rfl, rfl⟩, ⟨⟨.refl rfl, rfl⟩, ⟨⟨.refl rfl, rfl⟩, ⟨⟨.refl rfl, rfl⟩, trivial⟩⟩⟩⟩⟩ ⟨⟨rfl, rfl, rfl⟩, ⟨⟨rfl, rfl, rfl⟩, trivial⟩⟩ trivial)⟩
        simp only [decide_eq_true_eq, decide_eq_false_iff_not, gt_iff_lt] at *
        exact ⟨⟨by omega, by rw [mn_take hlt, ← hlo]; split <;> omega, by rw [mx_take hlt, ← hhi]; split <;> omega⟩, by omega⟩
      · skip
        refine AWP.skip ?_
        refine AWP.region ?_
        refine AOps.call (o_add _ _ rfl rfl ⟨by omega, by omega⟩ rfl) ?_
        refine AOps.call (o_move _ rfl rfl) ?_
        refine AOps.nil ?_
        refine ⟨(k + 1, _, _), ?_, (Weak.mk' rfl ⟨⟨.refl rfl, rfl⟩, ⟨⟨.refl rfl, rfl⟩, ⟨⟨.refl rfl, rfl⟩, ⟨⟨.refl rfl, rfl⟩, ⟨⟨.refl rfl, rfl⟩, trivial⟩⟩⟩⟩⟩ ⟨⟨rfl, rfl, rfl⟩, ⟨⟨rfl, rfl, rfl⟩, trivial⟩⟩ trivial)⟩
        simp only [decide_eq_true_eq, decide_eq_false_iff_not, gt_iff_lt] at *
        exact ⟨⟨by omega, by rw [mn_take hlt, ← hlo]; split <;> omega, by rw [mx_take hlt, ← hhi]; split <;> omega⟩, by omega⟩
    · skip
      refine AWP.skip ?_
      refine AWP.seq ?_
      refine AWP.region ?_
      refine AOps.call (o_move _ rfl rfl) ?_
      refine AOps.call (o_fieldRef _ rfl fa40_1 rfl rfl) ?_
      refine AOps.call (o_loadRef _ rfl rfl Tryd.sizeOf3 Tryd.isAgg3 rfl rfl rfl) ?_
      refine AOps.call (o_bin _ _ rfl rfl (fun _ => rfl) rfl) ?_
      refine AOps.nil ?_
      refine AWP.cond _ rfl (fun h28 => ?_) (fun h28 => ?_)
      · skip
        refine AWP.region ?_
        refine AOps.call (o_move _ rfl rfl) ?_
        refine AOps.call (o_fieldRef _ rfl fa40_1 rfl rfl) ?_
        refine AOps.cons (o_store _ _ rfl rfl Tryd.sizeOf3 rfl rfl rfl rfl rfl) ?_
        refine AOps.nil ?_
        refine AWP.region ?_
        refine AOps.call (o_add _ _ rfl rfl ⟨by omega, by omega⟩ rfl) ?_
        refine AOps.call (o_move _ rfl rfl) ?_
        refine AOps.nil ?_
        refine ⟨(k + 1, _, _), ?_, (Weak.mk' rfl ⟨⟨.refl rfl, rfl⟩, ⟨⟨.refl rfl, rfl⟩, ⟨⟨.refl rfl, rfl⟩, ⟨⟨.refl rfl, rfl⟩, ⟨⟨.refl rfl, rfl⟩, trivial⟩⟩⟩⟩⟩ ⟨⟨rfl, rfl, rfl⟩, ⟨⟨rfl, rfl, rfl⟩, trivial⟩⟩ trivial)⟩
        simp only [decide_eq_true_eq, decide_eq_false_iff_not, gt_iff_lt] at *
        exact ⟨⟨by omega, by rw [mn_take hlt, ← hlo]; split <;> omega, by rw [mx_take hlt, ← hhi]; split <;> omega⟩, by omega⟩
      · skip
        refine AWP.skip ?_
        refine AWP.region ?_
        refine AOps.call (o_add _ _ rfl rfl ⟨by omega, by omega⟩ rfl) ?_
        refine AOps.call (o_move _ rfl rfl) ?_
        refine AOps.nil ?_
        refine ⟨(k + 1, _, _), ?_, (Weak.mk' rfl ⟨⟨.refl rfl, rfl⟩, ⟨⟨.refl rfl, rfl⟩, ⟨⟨.refl rfl, rfl⟩, ⟨⟨.refl rfl, rfl⟩, ⟨⟨.refl rfl, rfl⟩, trivial⟩⟩⟩⟩⟩ ⟨⟨rfl, rfl, rfl⟩, ⟨⟨rfl, rfl, rfl⟩, trivial⟩⟩ trivial)⟩
        simp only [decide_eq_true_eq, decide_eq_false_iff_not, gt_iff_lt] at *
        exact ⟨⟨by omega, by rw [mn_take hlt, ← hlo]; split <;> omega, by rw [mx_take hlt, ← hhi]; split <;> omega⟩, by omega⟩
  · skip
    have hkl : k = l.length := by simp [ints] at h10 hk; omega
    subst hkl
    rw [List.take_length] at hlo hhi
    subst hlo hhi
    refine AWP.exit ?_
    refine AWP.seq ?_
    refine AWP.region ?_
    refine AOps.call (o_loadRef _ rfl rfl Tryd.sizeOf40 Tryd.isAgg40 rfl rfl rfl) ?_
    refine AOps.cons (o_store _ _ rfl rfl Tryd.sizeOf40 rfl rfl rfl rfl rfl) ?_
    refine AOps.nil ?_
    refine AWP.ret ?_
    exact postQ.retC Tryd.results126 rfl rfl Tryd.sizeOf40 Tryd.isAgg40 rfl rfl

set_option maxRecDepth 20000 in
theorem reach_s (r a b : Int) (hr : 0 ≤ r ∧ r ≤ 1000) (ha : 0 ≤ a ∧ a ≤ 1048576) (hb : 0 ≤ b ∧ b ≤ 1048576) : FSpec Tryd.prog 125 [I r, I a, I b] (I (r * far a b)) none := by
  refine FSpec.of_body Tryd.func125 rfl (leB rfl) fun w0 M0 => ?_
  have hm1 : mx a [b] = if a < b then b else a := rfl
  have hm2 : mn a [b] = if b < a then b else a := rfl
  have hf : mx a [b] - mn a [b] = far a b := by rw [hm1, hm2]; unfold far; split <;> split <;> omega
  have hfb : 0 ≤ far a b ∧ far a b ≤ 4194304 := by unfold far; split <;> omega
  have hmb := mul_bd hr.1 hr.2 hfb.1 hfb.2
  have hmb2 : inI64 (r * (mx a [b] - mn a [b])) := by rw [hf]; exact ⟨by omega, by omega⟩
  refine AWP.seq ?_
  refine AWP.region ?_
  refine AOps.call (o_assign _ rfl rfl) ?_
  refine AOps.nil ?_
  refine AWP.seq ?_
  refine AWP.region ?_
  refine AOps.call (o_move _ rfl rfl) ?_
  refine AOps.call (o_move _ rfl rfl) ?_
  refine AOps.call (o_lit Tryd.underlying45 Tryd.sizeOf3 Tryd.zeroValue3 rfl rfl rfl rfl rfl rfl rfl) ?_
  refine AOps.call (o_call (ends_s _ [b] (leB rfl)) Tryd.call126 rfl rfl) ?_
  refine AOps.call (o_alloc ze40 rfl rfl) ?_
  refine AOps.cons (o_store _ _ rfl rfl Tryd.sizeOf40 rfl rfl rfl rfl rfl) ?_
  refine AOps.nil ?_
  refine AWP.seq ?_
  refine AWP.region ?_
  refine AOps.call (o_move _ rfl rfl) ?_
  refine AOps.call (o_fieldRef _ rfl fa40_1 rfl rfl) ?_
  refine AOps.call (o_loadRef _ rfl rfl Tryd.sizeOf3 Tryd.isAgg3 rfl rfl rfl) ?_
  refine AOps.call (o_fieldRef _ rfl fa40_0 rfl rfl) ?_
  refine AOps.call (o_loadRef _ rfl rfl Tryd.sizeOf3 Tryd.isAgg3 rfl rfl rfl) ?_
  refine AOps.call (o_sub _ _ rfl rfl (by rw [hf]; exact ⟨by omega, by omega⟩) rfl) ?_
  refine AOps.call (o_mul _ _ rfl rfl hmb2 rfl) ?_
  refine AOps.call (o_assign _ rfl rfl) ?_
  refine AOps.nil ?_
  refine AWP.ret ?_
  refine postQ.ret1 Tryd.results125 rfl ?_
  rw [hf]
  rfl

set_option maxRecDepth 20000 in
theorem contradict_s (r : Int) (a b : Tst) (hr : 0 ≤ r ∧ r ≤ 1000) (ha : testB a = true) (hb : testB b = true) : FSpec Tryd.prog 123 [I r, .agg (eT a), .agg (eT b)] (B (contraB r a b)) none := by
  refine FSpec.of_body Tryd.func123 rfl (leB rfl) fun w0 M0 => ?_
  simp only [testB, dayB, driftB, Bool.and_eq_true, decide_eq_true_eq] at ha hb
  refine AWP.seq ?_
  refine AWP.region ?_
  refine AOps.call (o_box _ rfl rfl rfl) ?_
  refine AOps.call (o_box _ rfl rfl rfl) ?_
  refine AOps.call (o_assign _ rfl rfl) ?_
  refine AOps.nil ?_
  refine AWP.seq ?_
  refine AWP.drawn 21 mixed (by kernel_rfl) ?_
  refine AHead.call (o_fieldRef _ rfl fa26_2 rfl rfl) rfl ?_
  refine AHead.call (o_loadRef _ rfl rfl Tryd.sizeOf3 Tryd.isAgg3 rfl rfl rfl) rfl ?_
  refine AHead.call (o_fieldRef _ rfl fa26_3 rfl rfl) rfl ?_
  refine AHead.call (o_loadRef _ rfl rfl Tryd.sizeOf3 Tryd.isAgg3 rfl rfl rfl) rfl ?_
  refine AHead.call (o_sub _ _ rfl rfl ⟨by omega, by omega⟩ rfl) rfl ?_
  refine AHead.call (o_fieldRef _ rfl fa26_2 rfl rfl) rfl ?_
  refine AHead.call (o_loadRef _ rfl rfl Tryd.sizeOf3 Tryd.isAgg3 rfl rfl rfl) rfl ?_
  refine AHead.call (o_fieldRef _ rfl fa26_3 rfl rfl) rfl ?_
  refine AHead.call (o_loadRef _ rfl rfl Tryd.sizeOf3 Tryd.isAgg3 rfl rfl rfl) rfl ?_
  refine AHead.call (o_sub _ _ rfl rfl ⟨by omega, by omega⟩ rfl) rfl ?_
  refine AHead.call (o_lit Tryd.underlying45 Tryd.sizeOf3 Tryd.zeroValue3 rfl rfl rfl rfl rfl rfl rfl) rfl ?_
  refine AHead.call (o_call (ends_s _ [b.lo - a.hi] (leB rfl)) Tryd.call126 rfl rfl) rfl ?_
  refine AHead.call (o_field _ rfl fa40_1 rfl rfl rfl) rfl ?_
  refine AHead.call (o_move _ rfl rfl) rfl ?_
  refine AHead.call (o_fieldRef _ rfl fa26_0 rfl rfl) rfl ?_
  refine AHead.call (o_loadRef _ rfl rfl Tryd.sizeOf3 Tryd.isAgg3 rfl rfl rfl) rfl ?_
  refine AHead.call (o_fieldRef _ rfl fa26_0 rfl rfl) rfl ?_
  refine AHead.call (o_loadRef _ rfl rfl Tryd.sizeOf3 Tryd.isAgg3 rfl rfl rfl) rfl ?_
  refine AHead.call (o_call (reach_s _ _ _ hr (by omega) (by omega)) Tryd.call125 rfl rfl) rfl ?_
  refine AHead.call (o_bin _ _ rfl rfl (fun _ => rfl) rfl) rfl ?_
  refine AHead.call (o_assign _ rfl rfl) rfl ?_
  refine AHead.nil ?_
  refine AOps.nil ?_
  refine AWP.ret ?_
  exact postQ.ret1 Tryd.results123 rfl rfl

set_option maxRecDepth 20000 in
theorem CheckTest_s (t : Tst) : FSpec Tryd.prog 17 [.agg (eT t)] (I (if testB t then 0 else 10)) none := by
  refine FSpec.of_body Tryd.func17 rfl (leB rfl) fun w0 M0 => ?_
  refine AWP.seq ?_
  refine AWP.region ?_
  refine AOps.call (o_box _ rfl rfl rfl) ?_
  refine AOps.call (o_assign _ rfl rfl) ?_
  refine AOps.nil ?_
  refine AWP.seq ?_
  refine AWP.seq ?_
  refine AWP.region ?_
  refine AOps.call (o_fieldRef _ rfl fa26_0 rfl rfl) ?_
  refine AOps.call (o_loadRef _ rfl rfl Tryd.sizeOf3 Tryd.isAgg3 rfl rfl rfl) ?_
  refine AOps.call (o_call (isDay_s _) Tryd.call72 rfl rfl) ?_
  refine AOps.call (o_un _ rfl (fun _ => rfl) rfl) ?_
  refine AOps.call (o_move _ rfl rfl) ?_
  refine AOps.split rfl rfl rfl (fun h7 => ?_) (fun h7 => ?_)
  · skip
    refine AOps.go rfl rfl rfl h7 (o_fieldRef _ rfl fa26_1 rfl rfl) ?_
    refine AOps.go rfl rfl rfl h7 (o_loadRef _ rfl rfl Tryd.sizeOf3 Tryd.isAgg3 rfl rfl rfl) ?_
    refine AOps.go rfl rfl rfl h7 (o_call (isDay_s _) Tryd.call72 rfl rfl) ?_
    refine AOps.go rfl rfl rfl h7 (o_un _ rfl (fun _ => rfl) rfl) ?_
    refine AOps.call (o_pickF _ _ _ rfl h7 rfl rfl) ?_
    refine AOps.call (o_move _ rfl rfl) ?_
    refine AOps.split rfl rfl rfl (fun h12 => ?_) (fun h12 => ?_)
    · skip
      refine AOps.go rfl rfl rfl h12 (o_fieldRef _ rfl fa26_2 rfl rfl) ?_
      refine AOps.go rfl rfl rfl h12 (o_loadRef _ rfl rfl Tryd.sizeOf3 Tryd.isAgg3 rfl rfl rfl) ?_
      refine AOps.go rfl rfl rfl h12 (o_call (isDrift_s _) Tryd.call73 rfl rfl) ?_
      refine AOps.go rfl rfl rfl h12 (o_un _ rfl (fun _ => rfl) rfl) ?_
      refine AOps.call (o_pickF _ _ _ rfl h12 rfl rfl) ?_
      refine AOps.call (o_move _ rfl rfl) ?_
      refine AOps.split rfl rfl rfl (fun h17 => ?_) (fun h17 => ?_)
      · skip
        refine AOps.go rfl rfl rfl h17 (o_fieldRef _ rfl fa26_3 rfl rfl) ?_
        refine AOps.go rfl rfl rfl h17 (o_loadRef _ rfl rfl Tryd.sizeOf3 Tryd.isAgg3 rfl rfl rfl) ?_
        refine AOps.go rfl rfl rfl h17 (o_call (isDrift_s _) Tryd.call73 rfl rfl) ?_
        refine AOps.go rfl rfl rfl h17 (o_un _ rfl (fun _ => rfl) rfl) ?_
        refine AOps.call (o_pickF _ _ _ rfl h17 rfl rfl) ?_
        refine AOps.call (o_move _ rfl rfl) ?_
        refine AOps.split rfl rfl rfl (fun h22 => ?_) (fun h22 => ?_)
        · skip
          refine AOps.go rfl rfl rfl h22 (o_fieldRef _ rfl fa26_2 rfl rfl) ?_
          refine AOps.go rfl rfl rfl h22 (o_loadRef _ rfl rfl Tryd.sizeOf3 Tryd.isAgg3 rfl rfl rfl) ?_
          refine AOps.go rfl rfl rfl h22 (o_fieldRef _ rfl fa26_3 rfl rfl) ?_
          refine AOps.go rfl rfl rfl h22 (o_loadRef _ rfl rfl Tryd.sizeOf3 Tryd.isAgg3 rfl rfl rfl) ?_
          refine AOps.go rfl rfl rfl h22 (o_bin _ _ rfl rfl (fun _ => rfl) rfl) ?_
          refine AOps.call (o_pickF _ _ _ rfl h22 rfl rfl) ?_
          refine AOps.nil ?_
          refine AWP.cond _ rfl (fun h28 => ?_) (fun h28 => ?_)
          · skip
            refine AWP.seq ?_
            refine AWP.region ?_
            refine AOps.call (o_assign _ rfl rfl) ?_
            refine AOps.nil ?_
            refine AWP.ret ?_
            refine postQ.ret1 Tryd.results17 rfl ?_
            simp_all [AV.close, AV.close.closeL, B, I, testB]
            try (intros; omega)
          · skip
            refine AWP.skip ?_
            refine AWP.seq ?_
            refine AWP.region ?_
            refine AOps.call (o_assign _ rfl rfl) ?_
            refine AOps.nil ?_
            refine AWP.ret ?_
            refine postQ.ret1 Tryd.results17 rfl ?_
            simp_all [AV.close, AV.close.closeL, B, I, testB]
            try (intros; omega)
        · skip
          refine AOps.pass rfl rfl rfl h22 rfl ?_
          refine AOps.pass rfl rfl rfl h22 rfl ?_
          refine AOps.pass rfl rfl rfl h22 rfl ?_
          refine AOps.pass rfl rfl rfl h22 rfl ?_
          refine AOps.pass rfl rfl rfl h22 rfl ?_
          refine AOps.call (o_pickT _ _ _ rfl h22 rfl rfl) ?_
          refine AOps.nil ?_
          refine AWP.condT rfl ?_
          refine AWP.seq ?_
          refine AWP.region ?_
          refine AOps.call (o_assign _ rfl rfl) ?_
          refine AOps.nil ?_
          refine AWP.ret ?_
          refine postQ.ret1 Tryd.results17 rfl ?_
          simp_all [AV.close, AV.close.closeL, B, I, testB]
          try (intros; omega)
      · skip
        refine AOps.pass rfl rfl rfl h17 rfl ?_
        refine AOps.pass rfl rfl rfl h17 rfl ?_
        refine AOps.pass rfl rfl rfl h17 rfl ?_
        refine AOps.pass rfl rfl rfl h17 rfl ?_
        refine AOps.call (o_pickT _ _ _ rfl h17 rfl rfl) ?_
        refine AOps.call (o_move _ rfl rfl) ?_
        refine AOps.pass rfl rfl rfl rfl rfl ?_
        refine AOps.pass rfl rfl rfl rfl rfl ?_
        refine AOps.pass rfl rfl rfl rfl rfl ?_
        refine AOps.pass rfl rfl rfl rfl rfl ?_
        refine AOps.pass rfl rfl rfl rfl rfl ?_
        refine AOps.call (o_pickT _ _ _ rfl rfl rfl rfl) ?_
        refine AOps.nil ?_
        refine AWP.condT rfl ?_
        refine AWP.seq ?_
        refine AWP.region ?_
        refine AOps.call (o_assign _ rfl rfl) ?_
        refine AOps.nil ?_
        refine AWP.ret ?_
        refine postQ.ret1 Tryd.results17 rfl ?_
        simp_all [AV.close, AV.close.closeL, B, I, testB]
        try (intros; omega)
    · skip
      refine AOps.pass rfl rfl rfl h12 rfl ?_
      refine AOps.pass rfl rfl rfl h12 rfl ?_
      refine AOps.pass rfl rfl rfl h12 rfl ?_
      refine AOps.pass rfl rfl rfl h12 rfl ?_
      refine AOps.call (o_pickT _ _ _ rfl h12 rfl rfl) ?_
      refine AOps.call (o_move _ rfl rfl) ?_
      refine AOps.pass rfl rfl rfl rfl rfl ?_
      refine AOps.pass rfl rfl rfl rfl rfl ?_
      refine AOps.pass rfl rfl rfl rfl rfl ?_
      refine AOps.pass rfl rfl rfl rfl rfl ?_
      refine AOps.call (o_pickT _ _ _ rfl rfl rfl rfl) ?_
      refine AOps.call (o_move _ rfl rfl) ?_
      refine AOps.pass rfl rfl rfl rfl rfl ?_
      refine AOps.pass rfl rfl rfl rfl rfl ?_
      refine AOps.pass rfl rfl rfl rfl rfl ?_
      refine AOps.pass rfl rfl rfl rfl rfl ?_
      refine AOps.pass rfl rfl rfl rfl rfl ?_
      refine AOps.call (o_pickT _ _ _ rfl rfl rfl rfl) ?_
      refine AOps.nil ?_
      refine AWP.condT rfl ?_
      refine AWP.seq ?_
      refine AWP.region ?_
      refine AOps.call (o_assign _ rfl rfl) ?_
      refine AOps.nil ?_
      refine AWP.ret ?_
      refine postQ.ret1 Tryd.results17 rfl ?_
      simp_all [AV.close, AV.close.closeL, B, I, testB]
      try (intros; omega)
  · skip
    refine AOps.pass rfl rfl rfl h7 rfl ?_
    refine AOps.pass rfl rfl rfl h7 rfl ?_
    refine AOps.pass rfl rfl rfl h7 rfl ?_
    refine AOps.pass rfl rfl rfl h7 rfl ?_
    refine AOps.call (o_pickT _ _ _ rfl h7 rfl rfl) ?_
    refine AOps.call (o_move _ rfl rfl) ?_
    refine AOps.pass rfl rfl rfl rfl rfl ?_
    refine AOps.pass rfl rfl rfl rfl rfl ?_
    refine AOps.pass rfl rfl rfl rfl rfl ?_
    refine AOps.pass rfl rfl rfl rfl rfl ?_
    refine AOps.call (o_pickT _ _ _ rfl rfl rfl rfl) ?_
    refine AOps.call (o_move _ rfl rfl) ?_
    refine AOps.pass rfl rfl rfl rfl rfl ?_
    refine AOps.pass rfl rfl rfl rfl rfl ?_
    refine AOps.pass rfl rfl rfl rfl rfl ?_
    refine AOps.pass rfl rfl rfl rfl rfl ?_
    refine AOps.call (o_pickT _ _ _ rfl rfl rfl rfl) ?_
    refine AOps.call (o_move _ rfl rfl) ?_
    refine AOps.pass rfl rfl rfl rfl rfl ?_
    refine AOps.pass rfl rfl rfl rfl rfl ?_
    refine AOps.pass rfl rfl rfl rfl rfl ?_
    refine AOps.pass rfl rfl rfl rfl rfl ?_
    refine AOps.pass rfl rfl rfl rfl rfl ?_
    refine AOps.call (o_pickT _ _ _ rfl rfl rfl rfl) ?_
    refine AOps.nil ?_
    refine AWP.condT rfl ?_
    refine AWP.seq ?_
    refine AWP.region ?_
    refine AOps.call (o_assign _ rfl rfl) ?_
    refine AOps.nil ?_
    refine AWP.ret ?_
    refine postQ.ret1 Tryd.results17 rfl ?_
    simp_all [AV.close, AV.close.closeL, B, I, testB]
    try (intros; omega)

end Go.Proofs.YtphoomnonenalaaDoor
