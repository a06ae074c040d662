import Derived.Test.YtphoomnonenalaaDoorC9
import Derived.Test.YtphoomnonenalaaDoorAbB
set_option linter.unusedSimpArgs false
set_option linter.unusedVariables false
namespace Go.Proofs.YtphoomnonenalaaDoor
open Go.Ab
theorem md_bd {a m : Int} (h1 : 1 ≤ a) (h2 : a ≤ 20000) (h3 : 1 ≤ m) (h4 : m ≤ 1000) : 1 ≤ 20 * m * a ∧ 20 * m * a ≤ 400000000 := by
  have h5 := Int.mul_le_mul (show 20 * m ≤ 20000 by omega) h2 (by omega) (by omega)
  have h6 := Int.mul_le_mul (show 1 ≤ 20 * m by omega) h1 (by omega) (by omega)
  omega

set_option maxRecDepth 20000 in
theorem snow_s (c : Scl) (h : Sht) (l : List Stk) (known : Int) (hs : scaleB c = true) (hb : sheetB h = true) (hl : ∀ x ∈ l, x ∈ h.stakes) (hll : l.length ≤ 32) : FSpec Tryd.prog 94 [.agg (eS c), .agg (eH h), .sl (stakes l), I known] (.tup [.agg (eP (snR c h l known)), I (posE c h known)]) (none) := by
  refine FSpec.of_body Tryd.func94 rfl (leB rfl) fun w0 M0 => ?_
  have hbd := sheetB_bd hb
  refine AWP.seq ?_
  refine AWP.region ?_
  refine AOps.call (o_box _ rfl rfl rfl) ?_
  refine AOps.call (o_box _ rfl rfl rfl) ?_
  refine AOps.call (o_alloc ze40 rfl rfl) ?_
  refine AOps.call (o_assign _ rfl rfl) ?_
  refine AOps.nil ?_
  refine AWP.seq ?_
  refine AWP.region ?_
  refine AOps.call (o_loadRef _ rfl rfl Tryd.sizeOf24 Tryd.isAgg24 rfl rfl rfl) ?_
  refine AOps.call (o_loadRef _ rfl rfl Tryd.sizeOf54 Tryd.isAgg54 rfl rfl rfl) ?_
  refine AOps.call (o_move _ rfl rfl) ?_
  refine AOps.call (o_call (possible_s c h known hs hb) Tryd.call89 rfl rfl) ?_
  refine AOps.call (o_move _ rfl rfl) ?_
  refine AOps.call (o_extract _ rfl rfl rfl rfl) ?_
  refine AOps.call (o_extract _ rfl rfl rfl rfl) ?_
  refine AOps.call (o_alloc ze40 rfl rfl) ?_
  refine AOps.cons (o_store _ _ rfl rfl Tryd.sizeOf40 rfl rfl rfl rfl rfl) ?_
  refine AOps.call (o_assign _ rfl rfl) ?_
  refine AOps.nil ?_
  refine AWP.seq ?_
  refine AWP.seq ?_
  refine AWP.region ?_
  refine AOps.call (o_move _ rfl rfl) ?_
  refine AOps.call (o_bin _ _ rfl rfl (fun _ => rfl) rfl) ?_
  refine AOps.nil ?_
  refine AWP.cond _ rfl (fun h13 => ?_) (fun h13 => ?_)
  · skip
    have hp : ¬ posE c h known = 0 := by simpa using h13
    have hR : snR c h l known = ⟨0, 0⟩ := if_neg hp
    refine AWP.seq ?_
    refine AWP.region ?_
    refine AOps.call (o_build bu40 rfl rfl rfl) ?_
    refine AOps.call (o_move _ rfl rfl) ?_
    refine AOps.cons (o_store _ _ rfl rfl Tryd.sizeOf40 rfl rfl rfl rfl rfl) ?_
    refine AOps.call (o_assign _ rfl rfl) ?_
    refine AOps.nil ?_
    refine AWP.ret ?_
    refine postQ.retC1 Tryd.results94 rfl rfl Tryd.sizeOf40 Tryd.isAgg40 rfl rfl ?_
    rw [hR]
    first
    | (rw [hp]; rfl)
    | rfl
  · skip
    have hp : posE c h known = 0 := by simpa using h13
    have hf : Fits h (posS c h known) l := fits hs hb hp hl
    rw [show posR c h known = posS c h known from if_pos hp]
    have hR : snR c h l known = snS c h l known := if_pos hp
    refine AWP.skip ?_
    refine AWP.seq ?_
    refine AWP.region ?_
    refine AOps.call (o_alloc ze40 rfl rfl) ?_
    refine AOps.nil ?_
    refine AWP.seq ?_
    refine AWP.seq ?_
    refine AWP.region ?_
    refine AOps.call (o_move _ rfl rfl) ?_
    refine AOps.call (o_len _ Tryd.underlying52 rfl rfl) ?_
    refine AOps.call (o_move _ rfl rfl) ?_
    refine AOps.nil ?_
    refine AWP.block ?_
    refine AWP.loop (ι := Nat) (fun i => AS.mk' 63 [(2, .sl (stakes l)), (5, .ref (5, 0) 0), (8, .ref (8, 0) 0), (10, .ref (10, 0) 0), (12, .ref (12, 0) 0), (28, .sl (stakes l)), (29, I (stakes l).length), (30, I i)] [((5, 0), eH h), ((8, 0), [I 0, I 0]), ((10, 0), eP (posS c h known)), ((12, 0), [I (snLo h (posS c h known) (l.take i)), I (snHi h (posS c h known) (l.take i))])] [] [(5, 1), (8, 1), (10, 1), (12, 1)]) (fun i => i ≤ l.length) (fun i => l.length - i) (0) (Weak.mk' rfl ⟨⟨.refl rfl, rfl⟩, ⟨⟨.refl rfl, rfl⟩, ⟨⟨.refl rfl, rfl⟩, ⟨⟨.refl rfl, rfl⟩, ⟨⟨.refl rfl, rfl⟩, ⟨⟨.refl rfl, rfl⟩, ⟨⟨.refl rfl, rfl⟩, ⟨⟨.refl rfl, rfl⟩, trivial⟩⟩⟩⟩⟩⟩⟩⟩ ⟨⟨rfl, rfl, rfl⟩, ⟨⟨rfl, rfl, rfl⟩, ⟨⟨rfl, rfl, rfl⟩, ⟨⟨rfl, rfl, rfl⟩, trivial⟩⟩⟩⟩ trivial) (Nat.zero_le _) ?_
    rintro i hk
    try dsimp only at *
    refine AWP.seq ?_
    refine AWP.region ?_
    refine AOps.call (o_bin _ _ rfl rfl (fun _ => rfl) rfl) ?_
    refine AOps.nil ?_
    refine AWP.seq ?_
    refine AWP.cond _ rfl (fun h20 => ?_) (fun h20 => ?_)
    · skip
      have hlt : i < l.length := by simpa [stakes] using h20
      have hel := stakes_get hlt
      have hcb := core_bd hf (List.getElem_mem hlt)
      have hsb := sn_bd (hf.take i) (by rw [List.length_take]; omega)
      refine AWP.skip ?_
      refine AWP.seq ?_
      refine AWP.block ?_
      refine AWP.seq ?_
      refine AWP.region ?_
      refine AOps.call (o_index _ _ Tryd.underlying52 Tryd.sizeOf79 rfl rfl (by omega) (by assumption) rfl rfl) ?_
      refine AOps.call (o_loadRd _ rfl Tryd.sizeOf79 Tryd.isAgg79 rfl rfl rfl) ?_
      refine AOps.call (o_alloc ze79 rfl rfl) ?_
      refine AOps.cons (o_store _ _ rfl rfl Tryd.sizeOf79 rfl rfl rfl rfl rfl) ?_
      refine AOps.nil ?_
      refine AWP.seq ?_
      refine AWP.region ?_
      refine AOps.call (o_loadRef _ rfl rfl Tryd.sizeOf54 Tryd.isAgg54 rfl rfl rfl) ?_
      refine AOps.call (o_loadRef _ rfl rfl Tryd.sizeOf79 Tryd.isAgg79 rfl rfl rfl) ?_
      refine AOps.call (o_loadRef _ rfl rfl Tryd.sizeOf40 Tryd.isAgg40 rfl rfl rfl) ?_
      refine AOps.call (o_call (core_s h l[i] (posS c h known) l hf (List.getElem_mem hlt)) Tryd.call90 rfl rfl) ?_
      refine AOps.call (o_alloc ze40 rfl rfl) ?_
      refine AOps.cons (o_store _ _ rfl rfl Tryd.sizeOf40 rfl rfl rfl rfl rfl) ?_
      refine AOps.nil ?_
      refine AWP.seq ?_
      refine AWP.region ?_
      refine AOps.call (o_fieldRef _ rfl fa79_3 rfl rfl) ?_
      refine AOps.call (o_loadRef _ rfl rfl Tryd.sizeOf3 Tryd.isAgg3 rfl rfl rfl) ?_
      refine AOps.call (o_fieldRef _ rfl fa54_5 rfl rfl) ?_
      refine AOps.call (o_loadRef _ rfl rfl Tryd.sizeOf3 Tryd.isAgg3 rfl rfl rfl) ?_
      refine AOps.call (o_mul _ _ rfl rfl ⟨by (try dsimp only); omega, by (try dsimp only); omega⟩ rfl) ?_
      refine AOps.call (o_assign _ rfl rfl) ?_
      refine AOps.nil ?_
      refine AWP.seq ?_
      refine AWP.region ?_
      refine AOps.call (o_fieldRef _ rfl fa40_0 rfl rfl) ?_
      refine AOps.call (o_loadRef _ rfl rfl Tryd.sizeOf3 Tryd.isAgg3 rfl rfl rfl) ?_
      refine AOps.call (o_fieldRef _ rfl fa40_0 rfl rfl) ?_
      refine AOps.call (o_loadRef _ rfl rfl Tryd.sizeOf3 Tryd.isAgg3 rfl rfl rfl) ?_
      refine AOps.call (o_mul _ _ rfl rfl ⟨by (try dsimp only); omega, by (try dsimp only); omega⟩ rfl) ?_
      refine AOps.call (o_move _ rfl rfl) ?_
      refine AOps.call (o_add _ _ rfl rfl ⟨by (try dsimp only); omega, by (try dsimp only); omega⟩ rfl) ?_
      refine AOps.call (o_add _ _ rfl rfl ⟨by (try dsimp only); omega, by (try dsimp only); omega⟩ rfl) ?_
      refine AOps.call (o_fieldRef _ rfl fa40_0 rfl rfl) ?_
      refine AOps.cons (o_store _ _ rfl rfl Tryd.sizeOf3 rfl rfl rfl rfl rfl) ?_
      refine AOps.nil ?_
      refine AWP.region ?_
      refine AOps.call (o_fieldRef _ rfl fa40_1 rfl rfl) ?_
      refine AOps.call (o_loadRef _ rfl rfl Tryd.sizeOf3 Tryd.isAgg3 rfl rfl rfl) ?_
      refine AOps.call (o_fieldRef _ rfl fa40_1 rfl rfl) ?_
      refine AOps.call (o_loadRef _ rfl rfl Tryd.sizeOf3 Tryd.isAgg3 rfl rfl rfl) ?_
      refine AOps.call (o_move _ rfl rfl) ?_
      refine AOps.call (o_add _ _ rfl rfl ⟨by (try dsimp only); omega, by (try dsimp only); omega⟩ rfl) ?_
      refine AOps.call (o_mul _ _ rfl rfl ⟨by (try dsimp only); omega, by (try dsimp only); omega⟩ rfl) ?_
      refine AOps.call (o_add _ _ rfl rfl ⟨by (try dsimp only); omega, by (try dsimp only); omega⟩ rfl) ?_
      refine AOps.call (o_fieldRef _ rfl fa40_1 rfl rfl) ?_
      refine AOps.cons (o_store _ _ rfl rfl Tryd.sizeOf3 rfl rfl rfl rfl rfl) ?_
      refine AOps.nil ?_
      refine AWP.region ?_
      refine AOps.call (o_add _ _ rfl rfl ⟨by (try dsimp only); omega, by (try dsimp only); omega⟩ rfl) ?_
      refine AOps.call (o_move _ rfl rfl) ?_
      refine AOps.nil ?_
      refine ⟨i + 1, ?_, (Weak.mk' rfl ⟨⟨.refl rfl, rfl⟩, ⟨⟨.refl rfl, rfl⟩, ⟨⟨.refl rfl, rfl⟩, ⟨⟨.refl rfl, rfl⟩, ⟨⟨.refl rfl, rfl⟩, ⟨⟨.refl rfl, rfl⟩, ⟨⟨.refl rfl, rfl⟩, ⟨⟨.refl rfl, rfl⟩, trivial⟩⟩⟩⟩⟩⟩⟩⟩ ⟨⟨rfl, rfl, rfl⟩, ⟨⟨rfl, rfl, rfl⟩, ⟨⟨rfl, rfl, rfl⟩, ⟨⟨by rw [snLo_take hlt, snHi_take hlt]; rfl, rfl, rfl⟩, trivial⟩⟩⟩⟩ trivial)⟩
      exact ⟨by omega, by omega⟩
    · skip
      have hkl : i = l.length := by simp [stakes] at h20 hk; omega
      subst hkl
      rw [List.take_length]
      refine AWP.exit ?_
      refine AWP.seq ?_
      refine AWP.region ?_
      refine AOps.call (o_loadRef _ rfl rfl Tryd.sizeOf40 Tryd.isAgg40 rfl rfl rfl) ?_
      refine AOps.cons (o_store _ _ rfl rfl Tryd.sizeOf40 rfl rfl rfl rfl rfl) ?_
      refine AOps.call (o_assign _ rfl rfl) ?_
      refine AOps.nil ?_
      refine AWP.ret ?_
      refine postQ.retC1 Tryd.results94 rfl rfl Tryd.sizeOf40 Tryd.isAgg40 rfl rfl ?_
      rw [hR]
      first
      | (rw [hp]; rfl)
      | rfl

set_option maxRecDepth 20000 in
theorem rounded_s (w : Spn) (t b : Int) (h1 : 0 ≤ w.lo * t ∧ w.lo * t ≤ 1000000000000000000) (h2 : 0 ≤ w.hi * t ∧ w.hi * t ≤ 1000000000000000000) (h3 : 1 ≤ b ∧ b ≤ 1000000000000000000) : FSpec Tryd.prog 95 [.agg (eP w), I t, I b] (.agg (eP (rndS w t b))) (none) := by
  refine FSpec.of_body Tryd.func95 rfl (leB rfl) fun w0 M0 => ?_
  refine AWP.seq ?_
  refine AWP.region ?_
  refine AOps.call (o_box _ rfl rfl rfl) ?_
  refine AOps.call (o_alloc ze40 rfl rfl) ?_
  refine AOps.nil ?_
  refine AWP.seq ?_
  refine AWP.drawn 16 mixed (by kernel_rfl) ?_
  refine AHead.call (o_fieldRef _ rfl fa40_0 rfl rfl) rfl ?_
  refine AHead.call (o_loadRef _ rfl rfl Tryd.sizeOf3 Tryd.isAgg3 rfl rfl rfl) rfl ?_
  refine AHead.call (o_move _ rfl rfl) rfl ?_
  refine AHead.call (o_mul _ _ rfl rfl ⟨by (try dsimp only); omega, by (try dsimp only); omega⟩ rfl) rfl ?_
  refine AHead.call (o_move _ rfl rfl) rfl ?_
  refine AHead.call (o_quo _ _ rfl rfl ⟨by omega, by omega⟩ (by omega) rfl) rfl ?_
  refine AHead.call (o_fieldRef _ rfl fa40_1 rfl rfl) rfl ?_
  refine AHead.call (o_loadRef _ rfl rfl Tryd.sizeOf3 Tryd.isAgg3 rfl rfl rfl) rfl ?_
  refine AHead.call (o_move _ rfl rfl) rfl ?_
  refine AHead.call (o_mul _ _ rfl rfl ⟨by (try dsimp only); omega, by (try dsimp only); omega⟩ rfl) rfl ?_
  refine AHead.call (o_move _ rfl rfl) rfl ?_
  refine AHead.call (o_add _ _ rfl rfl ⟨by (try dsimp only); omega, by (try dsimp only); omega⟩ rfl) rfl ?_
  refine AHead.call (o_sub _ _ rfl rfl ⟨by (try dsimp only); omega, by (try dsimp only); omega⟩ rfl) rfl ?_
  refine AHead.call (o_move _ rfl rfl) rfl ?_
  refine AHead.call (o_quo _ _ rfl rfl ⟨by omega, by omega⟩ (by omega) rfl) rfl ?_
  refine AHead.call (o_build bu40 rfl rfl rfl) rfl ?_
  refine AHead.nil ?_
  refine AOps.cons (o_store _ _ rfl rfl Tryd.sizeOf40 rfl rfl rfl rfl rfl) ?_
  refine AOps.nil ?_
  refine AWP.ret ?_
  exact postQ.retC Tryd.results95 rfl rfl Tryd.sizeOf40 Tryd.isAgg40 rfl rfl

set_option maxRecDepth 20000 in
theorem Water_s (c : Scl) (h : Sht) (k known : Int) : FSpec Tryd.prog 33 [.agg (eS c), .agg (eH h), I k, I known] (.tup [.agg (eP (watR c h k known)), I (watE c h k known)]) (none) := by
  refine FSpec.of_body Tryd.func33 rfl (leB rfl) fun w0 M0 => ?_
  refine AWP.seq ?_
  refine AWP.region ?_
  refine AOps.call (o_box _ rfl rfl rfl) ?_
  refine AOps.call (o_box _ rfl rfl rfl) ?_
  refine AOps.call (o_alloc ze40 rfl rfl) ?_
  refine AOps.call (o_assign _ rfl rfl) ?_
  refine AOps.nil ?_
  refine AWP.seq ?_
  refine AWP.seq ?_
  refine AWP.region ?_
  refine AOps.call (o_loadRef _ rfl rfl Tryd.sizeOf24 Tryd.isAgg24 rfl rfl rfl) ?_
  refine AOps.call (o_loadRef _ rfl rfl Tryd.sizeOf54 Tryd.isAgg54 rfl rfl rfl) ?_
  refine AOps.call (o_move _ rfl rfl) ?_
  refine AOps.call (o_move _ rfl rfl) ?_
  refine AOps.call (o_call (checkStake_s c h k known) Tryd.call88 rfl rfl) ?_
  refine AOps.call (o_assign _ rfl rfl) ?_
  refine AOps.nil ?_
  refine AWP.seq ?_
  refine AWP.region ?_
  refine AOps.call (o_move _ rfl rfl) ?_
  refine AOps.call (o_bin _ _ rfl rfl (fun _ => rfl) rfl) ?_
  refine AOps.nil ?_
  refine AWP.cond _ rfl (fun h11 => ?_) (fun h11 => ?_)
  · skip
    have hz : ¬ stakeE c h k known = 0 := by simpa using h11
    have hE : watE c h k known = stakeE c h k known := if_neg hz
    have hR : watR c h k known = ⟨0, 0⟩ := if_neg (by rw [hE]; exact hz)
    refine AWP.seq ?_
    refine AWP.region ?_
    refine AOps.call (o_build bu40 rfl rfl rfl) ?_
    refine AOps.call (o_move _ rfl rfl) ?_
    refine AOps.cons (o_store _ _ rfl rfl Tryd.sizeOf40 rfl rfl rfl rfl rfl) ?_
    refine AOps.call (o_assign _ rfl rfl) ?_
    refine AOps.nil ?_
    refine AWP.ret ?_
    refine postQ.retC1 Tryd.results33 rfl rfl Tryd.sizeOf40 Tryd.isAgg40 rfl rfl ?_
    rw [hE, hR]; rfl
  · skip
    have hz : stakeE c h k known = 0 := by simpa using h11
    obtain ⟨hs, hb, hk0, hkl, hdy⟩ := stakeE_0 hz
    have hbd := sheetB_bd hb
    have hel := kOf_get hkl
    have hol := @oneK_len h k
    have hsl := stakes_len h.stakes
    refine AWP.skip ?_
    refine AWP.seq ?_
    refine AWP.drawnS 14 (fun i => Nat.beq i 12) (11, 0) mixed (by kernel_rfl) ?_
    refine AHeadS.call (o_loadRef _ rfl rfl Tryd.sizeOf24 Tryd.isAgg24 rfl rfl rfl) rfl rfl ?_
    refine AHeadS.call (o_loadRef _ rfl rfl Tryd.sizeOf54 Tryd.isAgg54 rfl rfl rfl) rfl rfl ?_
    refine AHeadS.call (o_fieldRef _ rfl fa54_8 rfl rfl) rfl rfl ?_
    refine AHeadS.call (o_loadRef _ rfl rfl Tryd.sizeOf52 Tryd.isAgg52 rfl rfl rfl) rfl rfl ?_
    refine AHeadS.call (o_move _ rfl rfl) rfl rfl ?_
    refine AHeadS.call (o_move _ rfl rfl) rfl rfl ?_
    refine AHeadS.call (o_add _ _ rfl rfl ⟨by (try dsimp only); omega, by (try dsimp only); omega⟩ rfl) rfl rfl ?_
    refine AHeadS.call (o_sliceE _ _ _ Tryd.underlying52 Tryd.sizeOf79 rfl (boundA_some rfl hk0 rfl) (boundA_some rfl (by omega) (by omega : _ = k.toNat + 1)) (by omega) (by omega) stakes_z (oneK_eq h k) rfl) rfl rfl ?_
    refine AHeadS.call (o_move _ rfl rfl) rfl rfl ?_
    refine AHeadS.call (o_call (snow_s c h (oneK h k) known hs hb oneK_mem (by omega)) Tryd.call94 rfl rfl) rfl rfl ?_
    refine AHeadS.call (o_move _ rfl rfl) rfl rfl ?_
    refine AHeadS.call (o_extract _ rfl rfl rfl rfl) rfl rfl ?_
    refine AHeadS.callL (o_extract _ rfl rfl rfl rfl) rfl ?_
    refine AHeadS.call (o_alloc ze40 rfl rfl) rfl rfl ?_
    refine AHeadS.nil ⟨_, _, rfl, ok_storeAny _ _ rfl rfl Tryd.sizeOf40 rfl rfl rfl rfl rfl, ?_⟩
    refine AOps.call (o_assign _ rfl rfl) ?_
    refine AOps.nil ?_
    refine AWP.seq ?_
    refine AWP.seq ?_
    refine AWP.region ?_
    refine AOps.call (o_move _ rfl rfl) ?_
    refine AOps.call (o_bin _ _ rfl rfl (fun _ => rfl) rfl) ?_
    refine AOps.nil ?_
    refine AWP.cond _ rfl (fun h27 => ?_) (fun h27 => ?_)
    · skip
      have hp : ¬ posE c h known = 0 := by simpa using h27
      have hE : watE c h k known = posE c h known := (if_pos hz)
      have hR : watR c h k known = ⟨0, 0⟩ := if_neg (by rw [hE]; exact hp)
      refine AWP.seq ?_
      refine AWP.region ?_
      refine AOps.call (o_build bu40 rfl rfl rfl) ?_
      refine AOps.call (o_move _ rfl rfl) ?_
      refine AOps.cons (o_store _ _ rfl rfl Tryd.sizeOf40 rfl rfl rfl rfl rfl) ?_
      refine AOps.call (o_assign _ rfl rfl) ?_
      refine AOps.nil ?_
      refine AWP.ret ?_
      refine postQ.retC1 Tryd.results33 rfl rfl Tryd.sizeOf40 Tryd.isAgg40 rfl rfl ?_
      rw [hE, hR]; rfl
    · skip
      have hp : posE c h known = 0 := by simpa using h27
      rw [show snR c h (oneK h k) known = snS c h (oneK h k) known from if_pos hp]
      have hE : watE c h k known = 0 := (if_pos hz).trans hp
      have hR : watR c h k known = rndS (snS c h (oneK h k) known) 1 (20 * h.mouth) := if_pos hE
      have hsb := sn_bd (fits hs hb hp (l := (oneK h k)) oneK_mem) (by omega)
      refine AWP.skip ?_
      refine AWP.seq ?_
      refine AWP.region ?_
      refine AOps.call (o_loadRef _ rfl rfl Tryd.sizeOf40 Tryd.isAgg40 rfl rfl rfl) ?_
      refine AOps.call (o_fieldRef _ rfl fa54_5 rfl rfl) ?_
      refine AOps.call (o_loadRef _ rfl rfl Tryd.sizeOf3 Tryd.isAgg3 rfl rfl rfl) ?_
      refine AOps.call (o_mul _ _ rfl rfl ⟨by (try dsimp only); omega, by (try dsimp only); omega⟩ rfl) ?_
      refine AOps.call (o_call (rounded_s (snS c h (oneK h k) known) 1 (20 * h.mouth) ⟨by simp only [snS]; omega, by simp only [snS]; omega⟩ ⟨by simp only [snS]; omega, by simp only [snS]; omega⟩ ⟨by omega, by omega⟩) Tryd.call95 rfl rfl) ?_
      refine AOps.cons (o_store _ _ rfl rfl Tryd.sizeOf40 rfl rfl rfl rfl rfl) ?_
      refine AOps.call (o_assign _ rfl rfl) ?_
      refine AOps.nil ?_
      refine AWP.ret ?_
      refine postQ.retC1 Tryd.results33 rfl rfl Tryd.sizeOf40 Tryd.isAgg40 rfl rfl ?_
      rw [hE, hR]; rfl

set_option maxRecDepth 20000 in
theorem Density_s (c : Scl) (h : Sht) (k known : Int) : FSpec Tryd.prog 49 [.agg (eS c), .agg (eH h), I k, I known] (.tup [.agg (eP (denR c h k known)), I (denE c h k known)]) (none) := by
  refine FSpec.of_body Tryd.func49 rfl (leB rfl) fun w0 M0 => ?_
  refine AWP.seq ?_
  refine AWP.region ?_
  refine AOps.call (o_box _ rfl rfl rfl) ?_
  refine AOps.call (o_box _ rfl rfl rfl) ?_
  refine AOps.call (o_alloc ze40 rfl rfl) ?_
  refine AOps.call (o_assign _ rfl rfl) ?_
  refine AOps.nil ?_
  refine AWP.seq ?_
  refine AWP.seq ?_
  refine AWP.region ?_
  refine AOps.call (o_loadRef _ rfl rfl Tryd.sizeOf24 Tryd.isAgg24 rfl rfl rfl) ?_
  refine AOps.call (o_loadRef _ rfl rfl Tryd.sizeOf54 Tryd.isAgg54 rfl rfl rfl) ?_
  refine AOps.call (o_move _ rfl rfl) ?_
  refine AOps.call (o_move _ rfl rfl) ?_
  refine AOps.call (o_call (checkStake_s c h k known) Tryd.call88 rfl rfl) ?_
  refine AOps.call (o_assign _ rfl rfl) ?_
  refine AOps.nil ?_
  refine AWP.seq ?_
  refine AWP.region ?_
  refine AOps.call (o_move _ rfl rfl) ?_
  refine AOps.call (o_bin _ _ rfl rfl (fun _ => rfl) rfl) ?_
  refine AOps.nil ?_
  refine AWP.cond _ rfl (fun h11 => ?_) (fun h11 => ?_)
  · skip
    have hz : ¬ stakeE c h k known = 0 := by simpa using h11
    have hE : denE c h k known = stakeE c h k known := if_neg hz
    have hR : denR c h k known = ⟨0, 0⟩ := if_neg (by rw [hE]; exact hz)
    refine AWP.seq ?_
    refine AWP.region ?_
    refine AOps.call (o_build bu40 rfl rfl rfl) ?_
    refine AOps.call (o_move _ rfl rfl) ?_
    refine AOps.cons (o_store _ _ rfl rfl Tryd.sizeOf40 rfl rfl rfl rfl rfl) ?_
    refine AOps.call (o_assign _ rfl rfl) ?_
    refine AOps.nil ?_
    refine AWP.ret ?_
    refine postQ.retC1 Tryd.results49 rfl rfl Tryd.sizeOf40 Tryd.isAgg40 rfl rfl ?_
    rw [hE, hR]; rfl
  · skip
    have hz : stakeE c h k known = 0 := by simpa using h11
    obtain ⟨hs, hb, hk0, hkl, hdy⟩ := stakeE_0 hz
    have hbd := sheetB_bd hb
    have hel := kOf_get hkl
    have hol := @oneK_len h k
    have hsl := stakes_len h.stakes
    have hst := stakeB_bd (sheetB_stakes hb _ (kOf_mem hkl))
    refine AWP.skip ?_
    refine AWP.seq ?_
    refine AWP.region ?_
    refine AOps.call (o_fieldRef _ rfl fa54_8 rfl rfl) ?_
    refine AOps.call (o_loadRef _ rfl rfl Tryd.sizeOf52 Tryd.isAgg52 rfl rfl rfl) ?_
    refine AOps.call (o_move _ rfl rfl) ?_
    refine AOps.call (o_index _ _ Tryd.underlying52 Tryd.sizeOf79 rfl rfl (by omega) (by assumption) rfl rfl) ?_
    refine AOps.call (o_fieldRd _ rfl fa79_0 rfl) ?_
    refine AOps.call (o_loadRd _ rfl Tryd.sizeOf3 Tryd.isAgg3 rfl rfl rfl) ?_
    refine AOps.call (o_assign _ rfl rfl) ?_
    refine AOps.nil ?_
    refine AWP.seq ?_
    refine AWP.seq ?_
    refine AWP.region ?_
    refine AOps.call (o_move _ rfl rfl) ?_
    refine AOps.call (o_bin _ _ rfl rfl (fun _ => rfl) rfl) ?_
    refine AOps.nil ?_
    refine AWP.cond _ rfl (fun h20 => ?_) (fun h20 => ?_)
    · skip
      have hd : (kOf h k).depth = 0 := by simpa using h20
      have hE : denE c h k known = 4 := (if_pos hz).trans (if_pos hd)
      have hR : denR c h k known = ⟨0, 0⟩ := if_neg (by rw [hE]; omega)
      refine AWP.seq ?_
      refine AWP.region ?_
      refine AOps.call (o_build bu40 rfl rfl rfl) ?_
      refine AOps.cons (o_store _ _ rfl rfl Tryd.sizeOf40 rfl rfl rfl rfl rfl) ?_
      refine AOps.call (o_assign _ rfl rfl) ?_
      refine AOps.nil ?_
      refine AWP.ret ?_
      refine postQ.retC1 Tryd.results49 rfl rfl Tryd.sizeOf40 Tryd.isAgg40 rfl rfl ?_
      rw [hE, hR]; rfl
    · skip
      have hd : ¬ (kOf h k).depth = 0 := by simpa using h20
      have hmb := md_bd (a := (kOf h k).depth) (m := h.mouth) (by omega) (by omega) (by omega) (by omega)
      refine AWP.skip ?_
      refine AWP.seq ?_
      refine AWP.drawnS 14 (fun i => Nat.beq i 12) (12, 0) mixed (by kernel_rfl) ?_
      refine AHeadS.call (o_loadRef _ rfl rfl Tryd.sizeOf24 Tryd.isAgg24 rfl rfl rfl) rfl rfl ?_
      refine AHeadS.call (o_loadRef _ rfl rfl Tryd.sizeOf54 Tryd.isAgg54 rfl rfl rfl) rfl rfl ?_
      refine AHeadS.call (o_fieldRef _ rfl fa54_8 rfl rfl) rfl rfl ?_
      refine AHeadS.call (o_loadRef _ rfl rfl Tryd.sizeOf52 Tryd.isAgg52 rfl rfl rfl) rfl rfl ?_
      refine AHeadS.call (o_move _ rfl rfl) rfl rfl ?_
      refine AHeadS.call (o_move _ rfl rfl) rfl rfl ?_
      refine AHeadS.call (o_add _ _ rfl rfl ⟨by (try dsimp only); omega, by (try dsimp only); omega⟩ rfl) rfl rfl ?_
      refine AHeadS.call (o_sliceE _ _ _ Tryd.underlying52 Tryd.sizeOf79 rfl (boundA_some rfl hk0 rfl) (boundA_some rfl (by omega) (by omega : _ = k.toNat + 1)) (by omega) (by omega) stakes_z (oneK_eq h k) rfl) rfl rfl ?_
      refine AHeadS.call (o_move _ rfl rfl) rfl rfl ?_
      refine AHeadS.call (o_call (snow_s c h (oneK h k) known hs hb oneK_mem (by omega)) Tryd.call94 rfl rfl) rfl rfl ?_
      refine AHeadS.call (o_move _ rfl rfl) rfl rfl ?_
      refine AHeadS.call (o_extract _ rfl rfl rfl rfl) rfl rfl ?_
      refine AHeadS.callL (o_extract _ rfl rfl rfl rfl) rfl ?_
      refine AHeadS.call (o_alloc ze40 rfl rfl) rfl rfl ?_
      refine AHeadS.nil ⟨_, _, rfl, ok_storeAny _ _ rfl rfl Tryd.sizeOf40 rfl rfl rfl rfl rfl, ?_⟩
      refine AOps.call (o_assign _ rfl rfl) ?_
      refine AOps.nil ?_
      refine AWP.seq ?_
      refine AWP.seq ?_
      refine AWP.region ?_
      refine AOps.call (o_move _ rfl rfl) ?_
      refine AOps.call (o_bin _ _ rfl rfl (fun _ => rfl) rfl) ?_
      refine AOps.nil ?_
      refine AWP.cond _ rfl (fun h37 => ?_) (fun h37 => ?_)
      · skip
        have hp : ¬ posE c h known = 0 := by simpa using h37
        have hE : denE c h k known = posE c h known := ((if_pos hz).trans (if_neg hd))
        have hR : denR c h k known = ⟨0, 0⟩ := if_neg (by rw [hE]; exact hp)
        refine AWP.seq ?_
        refine AWP.region ?_
        refine AOps.call (o_build bu40 rfl rfl rfl) ?_
        refine AOps.call (o_move _ rfl rfl) ?_
        refine AOps.cons (o_store _ _ rfl rfl Tryd.sizeOf40 rfl rfl rfl rfl rfl) ?_
        refine AOps.call (o_assign _ rfl rfl) ?_
        refine AOps.nil ?_
        refine AWP.ret ?_
        refine postQ.retC1 Tryd.results49 rfl rfl Tryd.sizeOf40 Tryd.isAgg40 rfl rfl ?_
        rw [hE, hR]; rfl
      · skip
        have hp : posE c h known = 0 := by simpa using h37
        rw [show snR c h (oneK h k) known = snS c h (oneK h k) known from if_pos hp]
        have hE : denE c h k known = 0 := ((if_pos hz).trans (if_neg hd)).trans hp
        have hR : denR c h k known = rndS (snS c h (oneK h k) known) 1000 (20 * h.mouth * (kOf h k).depth) := if_pos hE
        have hsb := sn_bd (fits hs hb hp (l := (oneK h k)) oneK_mem) (by omega)
        refine AWP.skip ?_
        refine AWP.seq ?_
        refine AWP.region ?_
        refine AOps.call (o_loadRef _ rfl rfl Tryd.sizeOf40 Tryd.isAgg40 rfl rfl rfl) ?_
        refine AOps.call (o_fieldRef _ rfl fa54_5 rfl rfl) ?_
        refine AOps.call (o_loadRef _ rfl rfl Tryd.sizeOf3 Tryd.isAgg3 rfl rfl rfl) ?_
        refine AOps.call (o_mul _ _ rfl rfl ⟨by (try dsimp only); omega, by (try dsimp only); omega⟩ rfl) ?_
        refine AOps.call (o_move _ rfl rfl) ?_
        refine AOps.call (o_mul _ _ rfl rfl ⟨by (try dsimp only); omega, by (try dsimp only); omega⟩ rfl) ?_
        refine AOps.call (o_call (rounded_s (snS c h (oneK h k) known) 1000 (20 * h.mouth * (kOf h k).depth) ⟨by simp only [snS]; omega, by simp only [snS]; omega⟩ ⟨by simp only [snS]; omega, by simp only [snS]; omega⟩ ⟨by omega, by omega⟩) Tryd.call95 rfl rfl) ?_
        refine AOps.cons (o_store _ _ rfl rfl Tryd.sizeOf40 rfl rfl rfl rfl rfl) ?_
        refine AOps.call (o_assign _ rfl rfl) ?_
        refine AOps.nil ?_
        refine AWP.ret ?_
        refine postQ.retC1 Tryd.results49 rfl rfl Tryd.sizeOf40 Tryd.isAgg40 rfl rfl ?_
        rw [hE, hR]; rfl

set_option maxRecDepth 20000 in
theorem Course_s (c : Scl) (h : Sht) (known : Int) : FSpec Tryd.prog 51 [.agg (eS c), .agg (eH h), I known] (.tup [.agg (eP (couR c h known)), I (watE c h 0 known)]) (none) := by
  refine FSpec.of_body Tryd.func51 rfl (leB rfl) fun w0 M0 => ?_
  refine AWP.seq ?_
  refine AWP.region ?_
  refine AOps.call (o_box _ rfl rfl rfl) ?_
  refine AOps.call (o_box _ rfl rfl rfl) ?_
  refine AOps.call (o_alloc ze40 rfl rfl) ?_
  refine AOps.call (o_assign _ rfl rfl) ?_
  refine AOps.nil ?_
  refine AWP.seq ?_
  refine AWP.seq ?_
  refine AWP.region ?_
  refine AOps.call (o_loadRef _ rfl rfl Tryd.sizeOf24 Tryd.isAgg24 rfl rfl rfl) ?_
  refine AOps.call (o_loadRef _ rfl rfl Tryd.sizeOf54 Tryd.isAgg54 rfl rfl rfl) ?_
  refine AOps.call (o_move _ rfl rfl) ?_
  refine AOps.call (o_call (checkStake_s c h 0 known) Tryd.call88 rfl rfl) ?_
  refine AOps.call (o_assign _ rfl rfl) ?_
  refine AOps.nil ?_
  refine AWP.seq ?_
  refine AWP.region ?_
  refine AOps.call (o_move _ rfl rfl) ?_
  refine AOps.call (o_bin _ _ rfl rfl (fun _ => rfl) rfl) ?_
  refine AOps.nil ?_
  refine AWP.cond _ rfl (fun h10 => ?_) (fun h10 => ?_)
  · skip
    have hz : ¬ stakeE c h 0 known = 0 := by simpa using h10
    have hE : watE c h 0 known = stakeE c h 0 known := if_neg hz
    have hR : couR c h known = ⟨0, 0⟩ := if_neg (by rw [hE]; exact hz)
    refine AWP.seq ?_
    refine AWP.region ?_
    refine AOps.call (o_build bu40 rfl rfl rfl) ?_
    refine AOps.call (o_move _ rfl rfl) ?_
    refine AOps.cons (o_store _ _ rfl rfl Tryd.sizeOf40 rfl rfl rfl rfl rfl) ?_
    refine AOps.call (o_assign _ rfl rfl) ?_
    refine AOps.nil ?_
    refine AWP.ret ?_
    refine postQ.retC1 Tryd.results51 rfl rfl Tryd.sizeOf40 Tryd.isAgg40 rfl rfl ?_
    rw [hE, hR]
    first
    | rfl
    | (rw [hsl]; rfl)
  · skip
    have hz : stakeE c h 0 known = 0 := by simpa using h10
    obtain ⟨hs, hb, hk0, hkl, hdy⟩ := stakeE_0 hz
    have hbd := sheetB_bd hb
    have hsl := stakes_len h.stakes
    have hmb := md_bd (a := (h.stakes.length : Int)) (m := h.mouth) (by omega) (by omega) (by omega) (by omega)
    refine AWP.skip ?_
    refine AWP.seq ?_
    refine AWP.region ?_
    refine AOps.call (o_loadRef _ rfl rfl Tryd.sizeOf24 Tryd.isAgg24 rfl rfl rfl) ?_
    refine AOps.call (o_loadRef _ rfl rfl Tryd.sizeOf54 Tryd.isAgg54 rfl rfl rfl) ?_
    refine AOps.call (o_fieldRef _ rfl fa54_8 rfl rfl) ?_
    refine AOps.call (o_loadRef _ rfl rfl Tryd.sizeOf52 Tryd.isAgg52 rfl rfl rfl) ?_
    refine AOps.call (o_move _ rfl rfl) ?_
    refine AOps.call (o_call (snow_s c h h.stakes known hs hb (fun _ h => h) (by omega)) Tryd.call94 rfl rfl) ?_
    refine AOps.call (o_move _ rfl rfl) ?_
    refine AOps.call (o_extract _ rfl rfl rfl rfl) ?_
    refine AOps.call (o_extract _ rfl rfl rfl rfl) ?_
    refine AOps.call (o_alloc ze40 rfl rfl) ?_
    refine AOps.cons (o_store _ _ rfl rfl Tryd.sizeOf40 rfl rfl rfl rfl rfl) ?_
    refine AOps.call (o_assign _ rfl rfl) ?_
    refine AOps.nil ?_
    refine AWP.seq ?_
    refine AWP.seq ?_
    refine AWP.region ?_
    refine AOps.call (o_move _ rfl rfl) ?_
    refine AOps.call (o_bin _ _ rfl rfl (fun _ => rfl) rfl) ?_
    refine AOps.nil ?_
    refine AWP.cond _ rfl (fun h22 => ?_) (fun h22 => ?_)
    · skip
      have hp : ¬ posE c h known = 0 := by simpa using h22
      have hE : watE c h 0 known = posE c h known := (if_pos hz)
      have hR : couR c h known = ⟨0, 0⟩ := if_neg (by rw [hE]; exact hp)
      refine AWP.seq ?_
      refine AWP.region ?_
      refine AOps.call (o_build bu40 rfl rfl rfl) ?_
      refine AOps.call (o_move _ rfl rfl) ?_
      refine AOps.cons (o_store _ _ rfl rfl Tryd.sizeOf40 rfl rfl rfl rfl rfl) ?_
      refine AOps.call (o_assign _ rfl rfl) ?_
      refine AOps.nil ?_
      refine AWP.ret ?_
      refine postQ.retC1 Tryd.results51 rfl rfl Tryd.sizeOf40 Tryd.isAgg40 rfl rfl ?_
      rw [hE, hR]
      first
      | rfl
      | (rw [hsl]; rfl)
    · skip
      have hp : posE c h known = 0 := by simpa using h22
      rw [show snR c h h.stakes known = snS c h h.stakes known from if_pos hp]
      have hE : watE c h 0 known = 0 := (if_pos hz).trans hp
      have hR : couR c h known = rndS (snS c h h.stakes known) 1 (20 * h.mouth * h.stakes.length) := if_pos hE
      have hsb := sn_bd (fits hs hb hp (l := h.stakes) (fun _ h => h)) (by omega)
      refine AWP.skip ?_
      refine AWP.seq ?_
      refine AWP.region ?_
      refine AOps.call (o_loadRef _ rfl rfl Tryd.sizeOf40 Tryd.isAgg40 rfl rfl rfl) ?_
      refine AOps.call (o_fieldRef _ rfl fa54_5 rfl rfl) ?_
      refine AOps.call (o_loadRef _ rfl rfl Tryd.sizeOf3 Tryd.isAgg3 rfl rfl rfl) ?_
      refine AOps.call (o_mul _ _ rfl rfl ⟨by (try dsimp only); omega, by (try dsimp only); omega⟩ rfl) ?_
      refine AOps.call (o_fieldRef _ rfl fa54_8 rfl rfl) ?_
      refine AOps.call (o_loadRef _ rfl rfl Tryd.sizeOf52 Tryd.isAgg52 rfl rfl rfl) ?_
      refine AOps.call (o_len _ Tryd.underlying52 rfl rfl) ?_
      refine AOps.call (o_mul _ _ rfl rfl ⟨by rw [hsl]; omega, by rw [hsl]; omega⟩ rfl) ?_
      refine AOps.call (o_call (rounded_s (snS c h h.stakes known) 1 (20 * h.mouth * (stakes h.stakes).length) ⟨by simp only [snS]; omega, by simp only [snS]; omega⟩ ⟨by simp only [snS]; omega, by simp only [snS]; omega⟩ ⟨by rw [hsl]; omega, by rw [hsl]; omega⟩) Tryd.call95 rfl rfl) ?_
      refine AOps.cons (o_store _ _ rfl rfl Tryd.sizeOf40 rfl rfl rfl rfl rfl) ?_
      refine AOps.call (o_assign _ rfl rfl) ?_
      refine AOps.nil ?_
      refine AWP.ret ?_
      refine postQ.retC1 Tryd.results51 rfl rfl Tryd.sizeOf40 Tryd.isAgg40 rfl rfl ?_
      rw [hE, hR]
      first
      | rfl
      | (rw [hsl]; rfl)

end Go.Proofs.YtphoomnonenalaaDoor
