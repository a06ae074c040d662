import Derived.Test.YtphoomnonenalaaGreatDoorC16
import Derived.Test.YtphoomnonenalaaGreatDoorR6
set_option linter.unusedSimpArgs false
set_option linter.unusedVariables false
namespace Go.Proofs.YtphoomnonenalaaGreatDoor
open Go.Ab

theorem snLo_nx {h : Sht} {t : Spn} {k : Nat} (hk : k < h.stakes.length) : snLo h t (h.stakes.take (k + 1)) = snLo h t (h.stakes.take k) + snLo h t (oneK h k) := by
  have hk' : ((k : Nat) : Int).toNat < h.stakes.length := by omega
  rw [snLo_take hk, sn_one hk']
  have : kOf h k = h.stakes[k] := by unfold kOf; rw [show ((k : Nat) : Int).toNat = k by omega, List.getElem?_eq_getElem hk]; rfl
  rw [this]
theorem snHi_nx {h : Sht} {t : Spn} {k : Nat} (hk : k < h.stakes.length) : snHi h t (h.stakes.take (k + 1)) = snHi h t (h.stakes.take k) + snHi h t (oneK h k) := by
  have hk' : ((k : Nat) : Int).toNat < h.stakes.length := by omega
  rw [snHi_take hk, sn_oneHi hk']
  have : kOf h k = h.stakes[k] := by unfold kOf; rw [show ((k : Nat) : Int).toNat = k by omega, List.getElem?_eq_getElem hk]; rfl
  rw [this, Int.mul_add]

set_option maxRecDepth 20000 in
theorem rCourse_s (c : Scl) (h : Sht) (known : Int) : FSpec Tryz.prog 45 [.agg (eS c), .agg (eH h), I known] (.tup [.agg (eP (couR c h known)), I (watE c h 0 known)]) (none) := by
  refine FSpec.of_body Tryz.func45 rfl (leB rfl) fun w0 M0 => ?_
  have hsl := stakes_len h.stakes
  refine AWP.seq ?_
  refine AWP.region ?_
  refine AOps.call (o_box _ rfl rfl rfl) ?_
  refine AOps.call (o_box _ rfl rfl rfl) ?_
  refine AOps.call (o_alloc ze51 rfl rfl) ?_
  refine AOps.call (o_assign _ rfl rfl) ?_
  refine AOps.nil ?_
  refine AWP.seq ?_
  refine AWP.region ?_
  refine AOps.call (o_loadRef _ rfl rfl Tryz.sizeOf24 Tryz.isAgg24 rfl rfl rfl) ?_
  refine AOps.call (o_loadRef _ rfl rfl Tryz.sizeOf40 Tryz.isAgg40 rfl rfl rfl) ?_
  refine AOps.call (o_move _ rfl rfl) ?_
  refine AOps.call (o_call (rweighed_s c h 0 known) Tryz.call82 rfl rfl) ?_
  refine AOps.call (o_assign _ rfl rfl) ?_
  refine AOps.nil ?_
  refine AWP.seq ?_
  refine AWP.seq ?_
  refine AWP.region ?_
  refine AOps.call (o_move _ rfl rfl) ?_
  refine AOps.call (o_bin _ _ rfl rfl (fun _ => rfl) rfl) ?_
  refine AOps.nil ?_
  refine AWP.cond _ rfl (fun h10 => ?_) (fun h10 => ?_)
  · skip
    have hz : ¬ stakeE c h 0 known = 0 := by simpa using h10
    have hE : watE c h 0 known = stakeE c h 0 known := if_neg hz
    have hR : couR c h known = ⟨0, 0⟩ := if_neg (by rw [hE]; exact hz)
    refine AWP.seq ?_
    refine AWP.region ?_
    refine AOps.call (o_build bu51 rfl rfl rfl) ?_
    refine AOps.call (o_move _ rfl rfl) ?_
    refine AOps.cons (o_store _ _ rfl rfl Tryz.sizeOf51 rfl rfl rfl rfl rfl) ?_
    refine AOps.call (o_assign _ rfl rfl) ?_
    refine AOps.nil ?_
    refine AWP.ret ?_
    refine postQ.retC1 Tryz.results45 rfl rfl Tryz.sizeOf51 Tryz.isAgg51 rfl rfl ?_
    rw [hE, hR]
    first
    | rfl
    | (rw [hsl]; rfl)
  · skip
    have hz : stakeE c h 0 known = 0 := by simpa using h10
    obtain ⟨hs, hb, hk0, hkl, hdy⟩ := stakeE_0 hz
    have hbd := sheetB_bd hb
    refine AWP.skip ?_
    refine AWP.seq ?_
    refine AWP.region ?_
    refine AOps.call (o_loadRef _ rfl rfl Tryz.sizeOf24 Tryz.isAgg24 rfl rfl rfl) ?_
    refine AOps.call (o_loadRef _ rfl rfl Tryz.sizeOf40 Tryz.isAgg40 rfl rfl rfl) ?_
    refine AOps.call (o_move _ rfl rfl) ?_
    refine AOps.call (o_call (rturns_s c h known hs hb) Tryz.call83 rfl rfl) ?_
    refine AOps.call (o_move _ rfl rfl) ?_
    refine AOps.call (o_extract _ rfl rfl rfl rfl) ?_
    refine AOps.call (o_extract _ rfl rfl rfl rfl) ?_
    refine AOps.call (o_alloc ze51 rfl rfl) ?_
    refine AOps.cons (o_store _ _ rfl rfl Tryz.sizeOf51 rfl rfl rfl rfl rfl) ?_
    refine AOps.call (o_assign _ rfl rfl) ?_
    refine AOps.nil ?_
    refine AWP.seq ?_
    refine AWP.seq ?_
    refine AWP.region ?_
    refine AOps.call (o_move _ rfl rfl) ?_
    refine AOps.call (o_un _ rfl (fun _ => rfl) rfl) ?_
    refine AOps.nil ?_
    refine AWP.cond _ rfl (fun h20 => ?_) (fun h20 => ?_)
    · skip
      have hle : ¬ (posS c h known).lo ≤ (posS c h known).hi := by simpa using h20
      have hp : posE c h known = 13 := if_pos (by omega)
      have hE : watE c h 0 known = 13 := (if_pos hz).trans hp
      have hR : couR c h known = ⟨0, 0⟩ := if_neg (by rw [hE]; omega)
      refine AWP.seq ?_
      refine AWP.region ?_
      refine AOps.call (o_build bu51 rfl rfl rfl) ?_
      refine AOps.cons (o_store _ _ rfl rfl Tryz.sizeOf51 rfl rfl rfl rfl rfl) ?_
      refine AOps.call (o_assign _ rfl rfl) ?_
      refine AOps.nil ?_
      refine AWP.ret ?_
      refine postQ.retC1 Tryz.results45 rfl rfl Tryz.sizeOf51 Tryz.isAgg51 rfl rfl ?_
      rw [hE, hR]
      first
      | rfl
      | (rw [hsl]; rfl)
    · skip
      have hle : (posS c h known).lo ≤ (posS c h known).hi := by simpa using h20
      have hp : posE c h known = 0 := if_neg (by omega)
      have hf := fits hs hb hp (l := h.stakes) (fun _ h => h)
      have hE : watE c h 0 known = 0 := (if_pos hz).trans hp
      have hR : couR c h known = rndS (snS c h h.stakes known) 1 (20 * h.mouth * h.stakes.length) := if_pos hE
      refine AWP.skip ?_
      refine AWP.seq ?_
      refine AWP.region ?_
      refine AOps.call (o_build bu51 rfl rfl rfl) ?_
      refine AOps.call (o_alloc ze51 rfl rfl) ?_
      refine AOps.cons (o_store _ _ rfl rfl Tryz.sizeOf51 rfl rfl rfl rfl rfl) ?_
      refine AOps.nil ?_
      refine AWP.seq ?_
      refine AWP.seq ?_
      refine AWP.region ?_
      refine AOps.call (o_assign _ rfl rfl) ?_
      refine AOps.nil ?_
      refine AWP.block ?_
      refine AWP.loop (ι := Nat) (fun i => AS.mk' 65 [(4, .ref (4, 0) 0), (6, .ref (6, 0) 0), (9, .ref (9, 0) 0), (11, .ref (11, 0) 0), (12, I i)] [((4, 0), eH h), ((6, 0), [I 0, I 0]), ((9, 0), eP (posS c h known)), ((11, 0), [I (snLo h (posS c h known) (h.stakes.take i)), I (snHi h (posS c h known) (h.stakes.take i))])] [] [(4, 1), (6, 1), (9, 1), (11, 1)]) (fun i => i ≤ h.stakes.length) (fun i => h.stakes.length - i) (0) (Weak.mk' rfl ⟨⟨.refl rfl, rfl⟩, ⟨⟨.refl rfl, rfl⟩, ⟨⟨.refl rfl, rfl⟩, ⟨⟨.refl rfl, rfl⟩, ⟨⟨.refl rfl, rfl⟩, trivial⟩⟩⟩⟩⟩ ⟨⟨rfl, rfl, rfl⟩, ⟨⟨rfl, rfl, rfl⟩, ⟨⟨rfl, rfl, rfl⟩, ⟨⟨rfl, rfl, rfl⟩, trivial⟩⟩⟩⟩ trivial) (Nat.zero_le _) ?_
      rintro k hk
      try dsimp only at *
      refine AWP.seq ?_
      refine AWP.seq ?_
      refine AWP.region ?_
      refine AOps.call (o_move _ rfl rfl) ?_
      refine AOps.call (o_fieldRef _ rfl fa40_8 rfl rfl) ?_
      refine AOps.call (o_loadRef _ rfl rfl Tryz.sizeOf38 Tryz.isAgg38 rfl rfl rfl) ?_
      refine AOps.call (o_len _ Tryz.underlying38 rfl rfl) ?_
      refine AOps.call (o_bin _ _ rfl rfl (fun _ => rfl) rfl) ?_
      refine AOps.nil ?_
      refine AWP.cond _ rfl (fun h30 => ?_) (fun h30 => ?_)
      · skip
        have hlt : k < h.stakes.length := by simp at h30; omega
        have hb1 := sn_bd (hf.take k) (by rw [List.length_take]; omega)
        have hol := @oneK_len h k
        have hb2 := sn_bd (fits hs hb hp (l := oneK h k) oneK_mem) (by omega)
        refine AWP.skip ?_
        refine AWP.seq ?_
        refine AWP.block ?_
        refine AWP.seq ?_
        refine AWP.region ?_
        refine AOps.call (o_loadRef _ rfl rfl Tryz.sizeOf40 Tryz.isAgg40 rfl rfl rfl) ?_
        refine AOps.call (o_move _ rfl rfl) ?_
        refine AOps.call (o_loadRef _ rfl rfl Tryz.sizeOf51 Tryz.isAgg51 rfl rfl rfl) ?_
        refine AOps.call (o_call (rsnow_s h k (posS c h known) hf (by omega) (by omega)) Tryz.call84 rfl rfl) ?_
        refine AOps.call (o_alloc ze51 rfl rfl) ?_
        refine AOps.cons (o_store _ _ rfl rfl Tryz.sizeOf51 rfl rfl rfl rfl rfl) ?_
        refine AOps.nil ?_
        refine AWP.seq ?_
        refine AWP.region ?_
        refine AOps.call (o_fieldRef _ rfl fa51_0 rfl rfl) ?_
        refine AOps.call (o_loadRef _ rfl rfl Tryz.sizeOf3 Tryz.isAgg3 rfl rfl rfl) ?_
        refine AOps.call (o_fieldRef _ rfl fa51_0 rfl rfl) ?_
        refine AOps.call (o_loadRef _ rfl rfl Tryz.sizeOf3 Tryz.isAgg3 rfl rfl rfl) ?_
        refine AOps.call (o_add _ _ rfl rfl ⟨by (try dsimp only); omega, by (try dsimp only); omega⟩ rfl) ?_
        refine AOps.call (o_fieldRef _ rfl fa51_0 rfl rfl) ?_
        refine AOps.cons (o_store _ _ rfl rfl Tryz.sizeOf3 rfl rfl rfl rfl rfl) ?_
        refine AOps.nil ?_
        refine AWP.region ?_
        refine AOps.call (o_fieldRef _ rfl fa51_1 rfl rfl) ?_
        refine AOps.call (o_loadRef _ rfl rfl Tryz.sizeOf3 Tryz.isAgg3 rfl rfl rfl) ?_
        refine AOps.call (o_fieldRef _ rfl fa51_1 rfl rfl) ?_
        refine AOps.call (o_loadRef _ rfl rfl Tryz.sizeOf3 Tryz.isAgg3 rfl rfl rfl) ?_
        refine AOps.call (o_add _ _ rfl rfl ⟨by (try dsimp only); omega, by (try dsimp only); omega⟩ rfl) ?_
        refine AOps.call (o_fieldRef _ rfl fa51_1 rfl rfl) ?_
        refine AOps.cons (o_store _ _ rfl rfl Tryz.sizeOf3 rfl rfl rfl rfl rfl) ?_
        refine AOps.nil ?_
        refine AWP.region ?_
        refine AOps.call (o_move _ rfl rfl) ?_
        refine AOps.call (o_add _ _ rfl rfl ⟨by (try dsimp only); omega, by (try dsimp only); omega⟩ rfl) ?_
        refine AOps.call (o_assign _ rfl rfl) ?_
        refine AOps.nil ?_
        refine ⟨k + 1, ?_, (Weak.mk' rfl ⟨⟨.refl rfl, rfl⟩, ⟨⟨.refl rfl, rfl⟩, ⟨⟨.refl rfl, rfl⟩, ⟨⟨.refl rfl, rfl⟩, ⟨⟨.refl rfl, rfl⟩, trivial⟩⟩⟩⟩⟩ ⟨⟨rfl, rfl, rfl⟩, ⟨⟨rfl, rfl, rfl⟩, ⟨⟨rfl, rfl, rfl⟩, ⟨⟨(by rw [snLo_nx hlt, snHi_nx hlt]; rfl), rfl, rfl⟩, trivial⟩⟩⟩⟩ trivial)⟩
        exact ⟨by omega, by omega⟩
      · skip
        have hkl2 : k = h.stakes.length := by simp at h30; omega
        subst hkl2
        rw [List.take_length]
        have hb1 := sn_bd hf (by omega)
        have hmb : 20 ≤ 20 * h.mouth * (h.stakes.length : Int) ∧ 20 * h.mouth * (h.stakes.length : Int) ≤ 20000 * 32 := ⟨by have := Int.mul_le_mul (show (20 : Int) ≤ 20 * h.mouth by omega) (show (1 : Int) ≤ (h.stakes.length : Int) by omega) (by omega) (by omega); omega, Int.mul_le_mul (by omega) (by omega) (by omega) (by omega)⟩
        rw [← hsl] at hmb
        refine AWP.exit ?_
        refine AWP.seq ?_
        refine AWP.region ?_
        refine AOps.call (o_loadRef _ rfl rfl Tryz.sizeOf51 Tryz.isAgg51 rfl rfl rfl) ?_
        refine AOps.call (o_fieldRef _ rfl fa40_5 rfl rfl) ?_
        refine AOps.call (o_loadRef _ rfl rfl Tryz.sizeOf3 Tryz.isAgg3 rfl rfl rfl) ?_
        refine AOps.call (o_mul _ _ rfl rfl ⟨by (try dsimp only); omega, by (try dsimp only); omega⟩ rfl) ?_
        refine AOps.call (o_fieldRef _ rfl fa40_8 rfl rfl) ?_
        refine AOps.call (o_loadRef _ rfl rfl Tryz.sizeOf38 Tryz.isAgg38 rfl rfl rfl) ?_
        refine AOps.call (o_len _ Tryz.underlying38 rfl rfl) ?_
        refine AOps.call (o_mul _ _ rfl rfl ⟨by omega, by omega⟩ rfl) ?_
        refine AOps.call (o_call (rrounded_s (snS c h h.stakes known) (20 * h.mouth * ((stakes h.stakes).length : Int)) ⟨by simp only [snS]; omega, by simp only [snS]; omega⟩ ⟨by simp only [snS]; omega, by simp only [snS]; omega⟩ ⟨by omega, by omega⟩) Tryz.call85 rfl rfl) ?_
        refine AOps.cons (o_store _ _ rfl rfl Tryz.sizeOf51 rfl rfl rfl rfl rfl) ?_
        refine AOps.call (o_assign _ rfl rfl) ?_
        refine AOps.nil ?_
        refine AWP.ret ?_
        refine postQ.retC1 Tryz.results45 rfl rfl Tryz.sizeOf51 Tryz.isAgg51 rfl rfl ?_
        rw [hE, hR]
        first
        | rfl
        | (rw [hsl]; rfl)

set_option maxRecDepth 20000 in
theorem rsheets_s (l : List Sht) (hl : l.length ≤ 1000000) : FSpec Tryz.prog 38 [.sl (shts l)] (I (sheetsE l)) (none) := by
  refine FSpec.of_body Tryz.func38 rfl (leB rfl) fun w0 M0 => ?_
  refine AWP.seq ?_
  refine AWP.region ?_
  refine AOps.call (o_assign _ rfl rfl) ?_
  refine AOps.nil ?_
  refine AWP.seq ?_
  refine AWP.seq ?_
  refine AWP.region ?_
  refine AOps.call (o_move _ rfl rfl) ?_
  refine AOps.call (o_len _ Tryz.underlying25 rfl rfl) ?_
  refine AOps.call (o_bin _ _ rfl rfl (fun _ => rfl) rfl) ?_
  refine AOps.nil ?_
  refine AWP.cond _ rfl (fun h5 => ?_) (fun h5 => ?_)
  · skip
    have hbig : 256 < l.length := by simp [shts_len] at h5; omega
    refine AWP.seq ?_
    refine AWP.region ?_
    refine AOps.call (o_assign _ rfl rfl) ?_
    refine AOps.nil ?_
    refine AWP.ret ?_
    refine postQ.ret1 Tryz.results38 rfl ?_
    try rw [allh_at hlt] at hinv
    unfold sheetsE
    first
    | (rw [if_pos hbig]; rfl)
    | (rw [if_neg hbig, hinv]; rfl)
    | (rw [if_neg hbig, hinv]; simp_all [AV.close, I])
  · skip
    have hbig : ¬ 256 < l.length := by simp [shts_len] at h5; omega
    refine AWP.skip ?_
    refine AWP.seq ?_
    refine AWP.seq ?_
    refine AWP.region ?_
    refine AOps.call (o_assign _ rfl rfl) ?_
    refine AOps.nil ?_
    refine AWP.block ?_
    refine AWP.loop (ι := Nat) (fun i => AS.mk' 22 [(0, .sl (shts l)), (3, I i)] [] [] []) (fun i => i ≤ l.length ∧ l.all sheetB = (l.drop i).all sheetB) (fun i => l.length - i) (0) (Weak.mk' rfl ⟨⟨.refl rfl, rfl⟩, ⟨⟨.refl rfl, rfl⟩, trivial⟩⟩ trivial trivial) (⟨Nat.zero_le _, rfl⟩) ?_
    rintro k ⟨hk, hinv⟩
    try dsimp only at *
    refine AWP.seq ?_
    refine AWP.seq ?_
    refine AWP.region ?_
    refine AOps.call (o_move _ rfl rfl) ?_
    refine AOps.call (o_move _ rfl rfl) ?_
    refine AOps.call (o_len _ Tryz.underlying25 rfl rfl) ?_
    refine AOps.call (o_bin _ _ rfl rfl (fun _ => rfl) rfl) ?_
    refine AOps.nil ?_
    refine AWP.cond _ rfl (fun h11 => ?_) (fun h11 => ?_)
    · skip
      have hlt : k < l.length := by simp [shts_len] at h11; omega
      have hel := shts_get hlt
      refine AWP.skip ?_
      refine AWP.seq ?_
      refine AWP.block ?_
      refine AWP.seq ?_
      refine AWP.region ?_
      refine AOps.call (o_move _ rfl rfl) ?_
      refine AOps.call (o_move _ rfl rfl) ?_
      refine AOps.call (o_index _ _ Tryz.underlying25 Tryz.sizeOf40 rfl rfl (by omega) (by assumption) rfl rfl) ?_
      refine AOps.call (o_loadRd _ rfl Tryz.sizeOf40 Tryz.isAgg40 rfl rfl rfl) ?_
      refine AOps.call (o_call (rCheckSheet_s l[k]) Tryz.call53 rfl rfl) ?_
      refine AOps.call (o_assign _ rfl rfl) ?_
      refine AOps.nil ?_
      refine AWP.seq ?_
      refine AWP.region ?_
      refine AOps.call (o_move _ rfl rfl) ?_
      refine AOps.call (o_bin _ _ rfl rfl (fun _ => rfl) rfl) ?_
      refine AOps.nil ?_
      refine AWP.cond _ rfl (fun h17 => ?_) (fun h17 => ?_)
      · skip
        refine AWP.seq ?_
        refine AWP.region ?_
        refine AOps.call (o_move _ rfl rfl) ?_
        refine AOps.call (o_assign _ rfl rfl) ?_
        refine AOps.nil ?_
        refine AWP.ret ?_
        refine postQ.ret1 Tryz.results38 rfl ?_
        try rw [allh_at hlt] at hinv
        unfold sheetsE
        first
        | (rw [if_pos hbig]; rfl)
        | (rw [if_neg hbig, hinv]; rfl)
        | (rw [if_neg hbig, hinv]; simp_all [AV.close, I])
      · skip
        refine AWP.skip ?_
        refine AWP.region ?_
        refine AOps.call (o_move _ rfl rfl) ?_
        refine AOps.call (o_add _ _ rfl rfl ⟨by (try dsimp only); omega, by (try dsimp only); omega⟩ rfl) ?_
        refine AOps.call (o_assign _ rfl rfl) ?_
        refine AOps.nil ?_
        refine ⟨k + 1, ?_, (Weak.mk' rfl ⟨⟨.refl rfl, rfl⟩, ⟨⟨.refl rfl, rfl⟩, trivial⟩⟩ trivial trivial)⟩
        refine ⟨⟨by omega, ?_⟩, by omega⟩
        rw [hinv, allh_at hlt]
        have : sheetB l[k] = true := by
          cases hh : sheetB l[k] with
          | true => rfl
          | false => simp_all
        rw [this]; rfl
    · skip
      have hkl : k = l.length := by simp [shts_len] at h11; omega
      subst hkl
      rw [List.drop_length] at hinv
      refine AWP.exit ?_
      refine AWP.seq ?_
      refine AWP.region ?_
      refine AOps.call (o_assign _ rfl rfl) ?_
      refine AOps.nil ?_
      refine AWP.ret ?_
      refine postQ.ret1 Tryz.results38 rfl ?_
      try rw [allh_at hlt] at hinv
      unfold sheetsE
      first
      | (rw [if_pos hbig]; rfl)
      | (rw [if_neg hbig, hinv]; rfl)
      | (rw [if_neg hbig, hinv]; simp_all [AV.close, I])

theorem prevI_el {l : List Int} {k : Nat} (h0 : 0 < k) (h : k < l.length) : (ints l)[((k : Nat) : Int).toNat - 1]? = some [I (prevI (-1) l k)] := by
  obtain ⟨j, rfl⟩ : ∃ j, k = j + 1 := ⟨k - 1, by omega⟩
  have hj : j < l.length := by omega
  rw [show (((j + 1 : Nat)) : Int).toNat - 1 = j by omega]
  simp [ints, prevI, hj]
theorem prevI_el' {l : List Int} {k : Nat} (h0 : 0 < k) (h : k < l.length) : (ints l)[(((k : Nat) : Int) - 1).toNat]? = some [I (prevI (-1) l k)] := by
  have := prevI_el h0 h
  rwa [show (((k : Nat) : Int) - 1).toNat = ((k : Nat) : Int).toNat - 1 by omega]

set_option maxRecDepth 20000 in
theorem rNumbers_s (l : List Int) (hl : l.length ≤ 1000000) : FSpec Tryz.prog 39 [.sl (ints l)] (B (incB 4095 (-1) l)) (none) := by
  refine FSpec.of_body Tryz.func39 rfl (leB rfl) fun w0 M0 => ?_
  refine AWP.seq ?_
  refine AWP.region ?_
  refine AOps.call (o_assign _ rfl rfl) ?_
  refine AOps.nil ?_
  refine AWP.seq ?_
  refine AWP.seq ?_
  refine AWP.region ?_
  refine AOps.call (o_assign _ rfl rfl) ?_
  refine AOps.nil ?_
  refine AWP.block ?_
  refine AWP.loop (ι := Nat) (fun i => AS.mk' 34 [(0, .sl (ints l)), (3, I i)] [] [] []) (fun i => i ≤ l.length ∧ -1 ≤ prevI (-1) l i ∧ incB 4095 (-1) l = incB 4095 (prevI (-1) l i) (l.drop i)) (fun i => l.length - i) (0) (Weak.mk' rfl ⟨⟨.refl rfl, rfl⟩, ⟨⟨.refl rfl, rfl⟩, trivial⟩⟩ trivial trivial) (⟨Nat.zero_le _, by simp [prevI], rfl⟩) ?_
  rintro k ⟨hk, hp, hinv⟩
  try dsimp only at *
  refine AWP.seq ?_
  refine AWP.seq ?_
  refine AWP.region ?_
  refine AOps.call (o_move _ rfl rfl) ?_
  refine AOps.call (o_move _ rfl rfl) ?_
  refine AOps.call (o_len _ Tryz.underlying26 rfl rfl) ?_
  refine AOps.call (o_bin _ _ rfl rfl (fun _ => rfl) rfl) ?_
  refine AOps.nil ?_
  refine AWP.cond _ rfl (fun h5 => ?_) (fun h5 => ?_)
  · skip
    have hlt : k < l.length := by simp [ints_len] at h5; omega
    have hel := ints_get hlt
    refine AWP.skip ?_
    refine AWP.seq ?_
    refine AWP.block ?_
    refine AWP.seq ?_
    refine AWP.region ?_
    refine AOps.call (o_move _ rfl rfl) ?_
    refine AOps.call (o_move _ rfl rfl) ?_
    refine AOps.call (o_index _ _ Tryz.underlying26 Tryz.sizeOf3 rfl rfl (by omega) (by assumption) rfl rfl) ?_
    refine AOps.call (o_loadRd _ rfl Tryz.sizeOf3 Tryz.isAgg3 rfl rfl rfl) ?_
    refine AOps.call (o_call (rNumber_s _) Tryz.call77 rfl rfl) ?_
    refine AOps.call (o_assign _ rfl rfl) ?_
    refine AOps.nil ?_
    refine AWP.seq ?_
    refine AWP.drawn 18 mixed (by kernel_rfl) ?_
    refine AHead.call (o_move _ rfl rfl) rfl ?_
    refine AHead.call (o_un _ rfl (fun _ => rfl) rfl) rfl ?_
    refine AHead.call (o_move _ rfl rfl) rfl ?_
    refine AHead.split rfl rfl rfl (fun h11 => ?_) (fun h11 => ?_)
    · skip
      refine AHead.go rfl rfl rfl h11 (o_move _ rfl rfl) rfl ?_
      refine AHead.go rfl rfl rfl h11 (o_bin _ _ rfl rfl (fun _ => rfl) rfl) rfl ?_
      refine AHead.go rfl rfl rfl h11 (o_move _ rfl rfl) rfl ?_
      refine AHead.split rfl rfl rfl (fun h13 => ?_) (fun h13 => ?_)
      · skip
        have hk0 : 0 < k := by simp at h13; omega
        have hel1 := prevI_el' hk0 hlt
        refine AHead.go rfl rfl rfl h13 (o_move _ rfl rfl) rfl ?_
        refine AHead.go rfl rfl rfl h13 (o_move _ rfl rfl) rfl ?_
        refine AHead.go rfl rfl rfl h13 (o_index _ _ Tryz.underlying26 Tryz.sizeOf3 rfl rfl (by omega) (by assumption) rfl rfl) rfl ?_
        refine AHead.go rfl rfl rfl h13 (o_loadRd _ rfl Tryz.sizeOf3 Tryz.isAgg3 rfl rfl rfl) rfl ?_
        refine AHead.go rfl rfl rfl h13 (o_move _ rfl rfl) rfl ?_
        refine AHead.go rfl rfl rfl h13 (o_move _ rfl rfl) rfl ?_
        refine AHead.go rfl rfl rfl h13 (o_sub _ _ rfl rfl ⟨by (try dsimp only); omega, by (try dsimp only); omega⟩ rfl) rfl ?_
        refine AHead.go rfl rfl rfl h13 (o_index _ _ Tryz.underlying26 Tryz.sizeOf3 rfl rfl (by omega) hel1 rfl rfl) rfl ?_
        refine AHead.go rfl rfl rfl h13 (o_loadRd _ rfl Tryz.sizeOf3 Tryz.isAgg3 rfl rfl rfl) rfl ?_
        refine AHead.go rfl rfl rfl h13 (o_bin _ _ rfl rfl (fun _ => rfl) rfl) rfl ?_
        refine AHead.go rfl rfl rfl h11 (o_pickT _ _ _ rfl h13 rfl rfl) rfl ?_
        refine AHead.call (o_pickF _ _ _ rfl h11 rfl rfl) rfl ?_
        refine AHead.nil ?_
        refine AOps.nil ?_
        refine AWP.cond _ rfl (fun h22 => ?_) (fun h22 => ?_)
        · skip
          have hbad : l[k] ≤ prevI (-1) l k ∨ l[k] > 4095 := by
            first
            | exact .inl (of_decide_eq_true (by assumption))
            | (have hx : (!noB l[k]) = true := by assumption
               have hno : noB l[k] = false := by simpa using hx
               unfold noB at hno; simp at hno; omega)
          refine AWP.seq ?_
          refine AWP.region ?_
          refine AOps.call (o_assign _ rfl rfl) ?_
          refine AOps.nil ?_
          refine AWP.ret ?_
          refine postQ.ret1 Tryz.results39 rfl ?_
          first
          | (rw [hinv]; rfl)
          | (rw [hinv, inc_at hlt]
             have hq : (decide (l[k] ≤ prevI (-1) l k) || decide (l[k] > 4095)) = true := by
              rw [Bool.or_eq_true, decide_eq_true_eq, decide_eq_true_eq]; exact hbad
             rw [hq]; rfl)
        · skip
          have hx : (!noB l[k]) = false := by assumption
          have hno : noB l[k] = true := by simpa using hx
          have hnb : 0 ≤ l[k] ∧ l[k] ≤ 4095 := by simpa [noB] using hno
          have hgt : ¬ l[k] ≤ prevI (-1) l k := by
            first
            | exact of_decide_eq_false (by assumption)
            | (subst hk0; simp only [prevI]; omega)
          refine AWP.skip ?_
          refine AWP.region ?_
          refine AOps.call (o_move _ rfl rfl) ?_
          refine AOps.call (o_add _ _ rfl rfl ⟨by (try dsimp only); omega, by (try dsimp only); omega⟩ rfl) ?_
          refine AOps.call (o_assign _ rfl rfl) ?_
          refine AOps.nil ?_
          refine ⟨k + 1, ?_, (Weak.mk' rfl ⟨⟨.refl rfl, rfl⟩, ⟨⟨.refl rfl, rfl⟩, trivial⟩⟩ trivial trivial)⟩
          refine ⟨⟨by omega, ?_, ?_⟩, by omega⟩
          · rw [prevI_at hlt]; omega
          · rw [hinv, inc_at hlt]
            have hq : (decide (l[k] ≤ prevI (-1) l k) || decide (l[k] > 4095)) = false := by
              rw [Bool.or_eq_false_iff, decide_eq_false_iff_not, decide_eq_false_iff_not]
              exact ⟨hgt, by omega⟩
            rw [hq]; rfl
      · skip
        have hk0 : k = 0 := by simp at h13; omega
        refine AHead.pass rfl rfl rfl h13 rfl ?_
        refine AHead.pass rfl rfl rfl h13 rfl ?_
        refine AHead.pass rfl rfl rfl h13 rfl ?_
        refine AHead.pass rfl rfl rfl h13 rfl ?_
        refine AHead.pass rfl rfl rfl h13 rfl ?_
        refine AHead.pass rfl rfl rfl h13 rfl ?_
        refine AHead.pass rfl rfl rfl h13 rfl ?_
        refine AHead.pass rfl rfl rfl h13 rfl ?_
        refine AHead.pass rfl rfl rfl h13 rfl ?_
        refine AHead.pass rfl rfl rfl h13 rfl ?_
        refine AHead.go rfl rfl rfl h11 (o_pickF _ _ _ rfl h13 rfl rfl) rfl ?_
        refine AHead.call (o_pickF _ _ _ rfl h11 rfl rfl) rfl ?_
        refine AHead.nil ?_
        refine AOps.nil ?_
        refine AWP.condF rfl ?_
        have hx : (!noB l[k]) = false := by assumption
        have hno : noB l[k] = true := by simpa using hx
        have hnb : 0 ≤ l[k] ∧ l[k] ≤ 4095 := by simpa [noB] using hno
        have hgt : ¬ l[k] ≤ prevI (-1) l k := by
          first
          | exact of_decide_eq_false (by assumption)
          | (subst hk0; simp only [prevI]; omega)
        refine AWP.skip ?_
        refine AWP.region ?_
        refine AOps.call (o_move _ rfl rfl) ?_
        refine AOps.call (o_add _ _ rfl rfl ⟨by (try dsimp only); omega, by (try dsimp only); omega⟩ rfl) ?_
        refine AOps.call (o_assign _ rfl rfl) ?_
        refine AOps.nil ?_
        refine ⟨k + 1, ?_, (Weak.mk' rfl ⟨⟨.refl rfl, rfl⟩, ⟨⟨.refl rfl, rfl⟩, trivial⟩⟩ trivial trivial)⟩
        refine ⟨⟨by omega, ?_, ?_⟩, by omega⟩
        · rw [prevI_at hlt]; omega
        · rw [hinv, inc_at hlt]
          have hq : (decide (l[k] ≤ prevI (-1) l k) || decide (l[k] > 4095)) = false := by
            rw [Bool.or_eq_false_iff, decide_eq_false_iff_not, decide_eq_false_iff_not]
            exact ⟨hgt, by omega⟩
          rw [hq]; rfl
    · skip
      refine AHead.pass rfl rfl rfl h11 rfl ?_
      refine AHead.pass rfl rfl rfl h11 rfl ?_
      refine AHead.pass rfl rfl rfl h11 rfl ?_
      refine AHead.passU rfl rfl rfl rfl ?_
      refine AHead.passU rfl rfl rfl rfl ?_
      refine AHead.passU rfl rfl rfl rfl ?_
      refine AHead.passU rfl rfl rfl rfl ?_
      refine AHead.passU rfl rfl rfl rfl ?_
      refine AHead.passU rfl rfl rfl rfl ?_
      refine AHead.passU rfl rfl rfl rfl ?_
      refine AHead.passU rfl rfl rfl rfl ?_
      refine AHead.passU rfl rfl rfl rfl ?_
      refine AHead.passU rfl rfl rfl rfl ?_
      refine AHead.pass rfl rfl rfl h11 rfl ?_
      refine AHead.call (o_pickT _ _ _ rfl h11 rfl rfl) rfl ?_
      refine AHead.nil ?_
      refine AOps.nil ?_
      refine AWP.condT rfl ?_
      have hbad : l[k] ≤ prevI (-1) l k ∨ l[k] > 4095 := by
        first
        | exact .inl (of_decide_eq_true (by assumption))
        | (have hx : (!noB l[k]) = true := by assumption
           have hno : noB l[k] = false := by simpa using hx
           unfold noB at hno; simp at hno; omega)
      refine AWP.seq ?_
      refine AWP.region ?_
      refine AOps.call (o_assign _ rfl rfl) ?_
      refine AOps.nil ?_
      refine AWP.ret ?_
      refine postQ.ret1 Tryz.results39 rfl ?_
      first
      | (rw [hinv]; rfl)
      | (rw [hinv, inc_at hlt]
         have hq : (decide (l[k] ≤ prevI (-1) l k) || decide (l[k] > 4095)) = true := by
          rw [Bool.or_eq_true, decide_eq_true_eq, decide_eq_true_eq]; exact hbad
         rw [hq]; rfl)
  · skip
    have hkl : k = l.length := by simp [ints_len] at h5; omega
    subst hkl
    rw [List.drop_length] at hinv
    refine AWP.exit ?_
    refine AWP.seq ?_
    refine AWP.region ?_
    refine AOps.call (o_assign _ rfl rfl) ?_
    refine AOps.nil ?_
    refine AWP.ret ?_
    refine postQ.ret1 Tryz.results39 rfl ?_
    first
    | (rw [hinv]; rfl)
    | (rw [hinv, inc_at hlt]
       have hq : (decide (l[k] ≤ prevI (-1) l k) || decide (l[k] > 4095)) = true := by
        rw [Bool.or_eq_true, decide_eq_true_eq, decide_eq_true_eq]; exact hbad
       rw [hq]; rfl)

theorem has_at {l : List Int} {n : Int} {k : Nat} (h : k < l.length) : (l.drop k).contains n = (l[k] == n || (l.drop (k + 1)).contains n) := by
  rw [List.drop_eq_getElem_cons h, List.contains_cons]
  congr 1
  rw [Bool.eq_iff_iff]; simp only [beq_iff_eq]; exact eq_comm

set_option maxRecDepth 20000 in
theorem rHas_s (l : List Int) (n : Int) (hl : l.length ≤ 1000000) : FSpec Tryz.prog 41 [.sl (ints l), I n] (B (l.contains n)) (none) := by
  refine FSpec.of_body Tryz.func41 rfl (leB rfl) fun w0 M0 => ?_
  refine AWP.seq ?_
  refine AWP.region ?_
  refine AOps.call (o_assign _ rfl rfl) ?_
  refine AOps.nil ?_
  refine AWP.seq ?_
  refine AWP.seq ?_
  refine AWP.region ?_
  refine AOps.call (o_assign _ rfl rfl) ?_
  refine AOps.nil ?_
  refine AWP.block ?_
  refine AWP.loop (ι := Nat) (fun i => AS.mk' 18 [(0, .sl (ints l)), (1, I n), (5, I i)] [] [] []) (fun i => i ≤ l.length ∧ l.contains n = (l.drop i).contains n) (fun i => l.length - i) (0) (Weak.mk' rfl ⟨⟨.refl rfl, rfl⟩, ⟨⟨.refl rfl, rfl⟩, ⟨⟨.refl rfl, rfl⟩, trivial⟩⟩⟩ trivial trivial) (⟨Nat.zero_le _, rfl⟩) ?_
  rintro k ⟨hk, hinv⟩
  try dsimp only at *
  refine AWP.seq ?_
  refine AWP.seq ?_
  refine AWP.region ?_
  refine AOps.call (o_move _ rfl rfl) ?_
  refine AOps.call (o_move _ rfl rfl) ?_
  refine AOps.call (o_len _ Tryz.underlying26 rfl rfl) ?_
  refine AOps.call (o_bin _ _ rfl rfl (fun _ => rfl) rfl) ?_
  refine AOps.nil ?_
  refine AWP.cond _ rfl (fun h5 => ?_) (fun h5 => ?_)
  · skip
    have hlt : k < l.length := by simp [ints_len] at h5; omega
    have hel := ints_get hlt
    refine AWP.skip ?_
    refine AWP.seq ?_
    refine AWP.block ?_
    refine AWP.seq ?_
    refine AWP.region ?_
    refine AOps.call (o_move _ rfl rfl) ?_
    refine AOps.call (o_move _ rfl rfl) ?_
    refine AOps.call (o_index _ _ Tryz.underlying26 Tryz.sizeOf3 rfl rfl (by omega) (by assumption) rfl rfl) ?_
    refine AOps.call (o_loadRd _ rfl Tryz.sizeOf3 Tryz.isAgg3 rfl rfl rfl) ?_
    refine AOps.call (o_move _ rfl rfl) ?_
    refine AOps.call (o_bin _ _ rfl rfl (fun _ => rfl) rfl) ?_
    refine AOps.nil ?_
    refine AWP.cond _ rfl (fun h11 => ?_) (fun h11 => ?_)
    · skip
      have hq : (l[k] == n) = true := h11
      refine AWP.seq ?_
      refine AWP.region ?_
      refine AOps.call (o_assign _ rfl rfl) ?_
      refine AOps.nil ?_
      refine AWP.ret ?_
      refine postQ.ret1 Tryz.results41 rfl ?_
      first
      | (rw [hinv]; rfl)
      | (rw [hinv, has_at hlt, hq]; rfl)
    · skip
      have hq : (l[k] == n) = false := h11
      refine AWP.skip ?_
      refine AWP.region ?_
      refine AOps.call (o_move _ rfl rfl) ?_
      refine AOps.call (o_add _ _ rfl rfl ⟨by (try dsimp only); omega, by (try dsimp only); omega⟩ rfl) ?_
      refine AOps.call (o_assign _ rfl rfl) ?_
      refine AOps.nil ?_
      refine ⟨k + 1, ?_, (Weak.mk' rfl ⟨⟨.refl rfl, rfl⟩, ⟨⟨.refl rfl, rfl⟩, ⟨⟨.refl rfl, rfl⟩, trivial⟩⟩⟩ trivial trivial)⟩
      refine ⟨⟨by omega, ?_⟩, by omega⟩
      rw [hinv, has_at hlt, hq]; rfl
  · skip
    have hkl : k = l.length := by simp [ints_len] at h5; omega
    subst hkl
    rw [List.drop_length] at hinv
    refine AWP.exit ?_
    refine AWP.seq ?_
    refine AWP.region ?_
    refine AOps.call (o_assign _ rfl rfl) ?_
    refine AOps.nil ?_
    refine AWP.ret ?_
    refine postQ.ret1 Tryz.results41 rfl ?_
    first
    | (rw [hinv]; rfl)
    | (rw [hinv, has_at hlt, hq]; rfl)

set_option maxRecDepth 20000 in
theorem rStanding_s (l : List Sht) (wd : List Int) (k : Int) (hl : l.length ≤ 1000000) (hw : wd.length ≤ 1000000) : FSpec Tryz.prog 8 [.sl (shts l), .sl (ints wd), I k] (if standE l wd k = 0 then .tup [.sl (ints (standL l wd k)), I 0] else .tup [.sl [], I (standE l wd k)]) (none) := by
  refine FSpec.of_body Tryz.func8 rfl (leB rfl) fun w0 M0 => ?_
  refine AWP.seq ?_
  refine AWP.region ?_
  refine AOps.call (o_nil (z := 1) (e := 3) rfl) ?_
  refine AOps.call (o_assign _ rfl rfl) ?_
  refine AOps.nil ?_
  refine AWP.seq ?_
  refine AWP.region ?_
  refine AOps.call (o_move _ rfl rfl) ?_
  refine AOps.call (o_call (rsheets_s l hl) Tryz.call38 rfl rfl) ?_
  refine AOps.call (o_assign _ rfl rfl) ?_
  refine AOps.nil ?_
  refine AWP.seq ?_
  refine AWP.seq ?_
  refine AWP.region ?_
  refine AOps.call (o_move _ rfl rfl) ?_
  refine AOps.call (o_bin _ _ rfl rfl (fun _ => rfl) rfl) ?_
  refine AOps.nil ?_
  refine AWP.cond _ rfl (fun h6 => ?_) (fun h6 => ?_)
  · skip
    have hz : ¬ standE l wd k = 0 := by
      unfold standE
      have h1 : ¬ sheetsE l = 0 := by simpa using h6
      rw [if_neg h1]; exact h1
    have hE : standE l wd k = sheetsE l := by
      unfold standE
      rw [if_neg (by simpa using h6)]
    refine AWP.seq ?_
    refine AWP.region ?_
    refine AOps.call (o_move _ rfl rfl) ?_
    refine AOps.call (o_nil (z := 1) (e := 3) rfl) ?_
    refine AOps.call (o_assign _ rfl rfl) ?_
    refine AOps.nil ?_
    refine AWP.ret ?_
    refine postQ.ret2 Tryz.results8 rfl rfl ?_
    first
    | (rw [if_neg hz, hE]; rfl)
    | (rw [if_pos hE]; unfold standL; rw [← hkl, ← hacc]; rfl)
  · skip
    have hq : sheetsE l = 0 := by simpa using h6
    refine AWP.skip ?_
    refine AWP.seq ?_
    refine AWP.region ?_
    refine AOps.call (o_move _ rfl rfl) ?_
    refine AOps.call (o_call (rNumbers_s wd hw) Tryz.call39 rfl rfl) ?_
    refine AOps.call (o_assign _ rfl rfl) ?_
    refine AOps.nil ?_
    refine AWP.seq ?_
    refine AWP.region ?_
    refine AOps.call (o_move _ rfl rfl) ?_
    refine AOps.call (o_call (rDay_s k) Tryz.call40 rfl rfl) ?_
    refine AOps.call (o_assign _ rfl rfl) ?_
    refine AOps.nil ?_
    refine AWP.seq ?_
    refine AWP.seq ?_
    refine AWP.region ?_
    refine AOps.call (o_move _ rfl rfl) ?_
    refine AOps.call (o_un _ rfl (fun _ => rfl) rfl) ?_
    refine AOps.call (o_move _ rfl rfl) ?_
    refine AOps.split rfl rfl rfl (fun h13 => ?_) (fun h13 => ?_)
    · skip
      refine AOps.go rfl rfl rfl h13 (o_move _ rfl rfl) ?_
      refine AOps.go rfl rfl rfl h13 (o_un _ rfl (fun _ => rfl) rfl) ?_
      refine AOps.call (o_pickF _ _ _ rfl h13 rfl rfl) ?_
      refine AOps.nil ?_
      refine AWP.cond _ rfl (fun h15 => ?_) (fun h15 => ?_)
      · skip
        have hE : standE l wd k = 1 := by
          unfold standE
          rw [if_pos hq, if_neg (by simp_all)]
        have hz : ¬ standE l wd k = 0 := by rw [hE]; decide
        refine AWP.seq ?_
        refine AWP.region ?_
        refine AOps.call (o_nil (z := 1) (e := 3) rfl) ?_
        refine AOps.call (o_assign _ rfl rfl) ?_
        refine AOps.nil ?_
        refine AWP.ret ?_
        refine postQ.ret2 Tryz.results8 rfl rfl ?_
        first
        | (rw [if_neg hz, hE]; rfl)
        | (rw [if_pos hE]; unfold standL; rw [← hkl, ← hacc]; rfl)
      · skip
        have hE : standE l wd k = 0 := by
          unfold standE
          rw [if_pos hq, if_pos (by simp_all)]
        have hz := standE_0 hE
        have hl256 := sheetsE_len hq
        refine AWP.skip ?_
        refine AWP.seq ?_
        refine AWP.region ?_
        refine AOps.call (o_nil (z := 1) (e := 3) rfl) ?_
        refine AOps.nil ?_
        refine AWP.seq ?_
        refine AWP.seq ?_
        refine AWP.region ?_
        refine AOps.call (o_assign _ rfl rfl) ?_
        refine AOps.nil ?_
        refine AWP.block ?_
        refine AWP.loop (ι := Nat × List Int) (fun i => AS.mk' 115 [(0, .sl (shts l)), (1, .sl (ints wd)), (2, I k), (11, .own (11, 0) (ints i.2)), (12, I i.1)] [] [((11, 0), ((ints i.2).length, 1, 3))] [(11, 1)]) (fun i => i.1 ≤ l.length ∧ i.2 = pickL (okS l wd k) i.1) (fun i => l.length - i.1) (0, []) (Weak.mk' rfl ⟨⟨.refl rfl, rfl⟩, ⟨⟨.refl rfl, rfl⟩, ⟨⟨.refl rfl, rfl⟩, ⟨⟨.refl rfl, rfl⟩, ⟨⟨.refl rfl, rfl⟩, trivial⟩⟩⟩⟩⟩ trivial ⟨⟨rfl, rfl⟩, trivial⟩) (⟨Nat.zero_le _, rfl⟩) ?_
        rintro ⟨j, acc⟩ ⟨hk, hacc⟩
        try dsimp only at *
        refine AWP.seq ?_
        refine AWP.seq ?_
        refine AWP.region ?_
        refine AOps.call (o_move _ rfl rfl) ?_
        refine AOps.call (o_move _ rfl rfl) ?_
        refine AOps.call (o_len _ Tryz.underlying25 rfl rfl) ?_
        refine AOps.call (o_bin _ _ rfl rfl (fun _ => rfl) rfl) ?_
        refine AOps.nil ?_
        refine AWP.cond _ rfl (fun h23 => ?_) (fun h23 => ?_)
        · skip
          have hlt : j < l.length := by simp [shts_len] at h23; omega
          have hel := shts_get hlt
          have hal : acc.length ≤ j := by rw [hacc]; exact pickL_len _ _
          refine AWP.skip ?_
          refine AWP.seq ?_
          refine AWP.block ?_
          refine AWP.seq ?_
          refine AWP.region ?_
          refine AOps.call (o_move _ rfl rfl) ?_
          refine AOps.call (o_move _ rfl rfl) ?_
          refine AOps.call (o_move _ rfl rfl) ?_
          refine AOps.call (o_index _ _ Tryz.underlying25 Tryz.sizeOf40 rfl rfl (by omega) (by assumption) rfl rfl) ?_
          refine AOps.call (o_fieldRd _ rfl fa40_0 rfl) ?_
          refine AOps.call (o_loadRd _ rfl Tryz.sizeOf3 Tryz.isAgg3 rfl rfl rfl) ?_
          refine AOps.call (o_call (rHas_s wd l[j].no hw) Tryz.call41 rfl rfl) ?_
          refine AOps.call (o_assign _ rfl rfl) ?_
          refine AOps.nil ?_
          refine AWP.seq ?_
          refine AWP.seq ?_
          refine AWP.region ?_
          refine AOps.call (o_move _ rfl rfl) ?_
          refine AOps.call (o_move _ rfl rfl) ?_
          refine AOps.split rfl rfl rfl (fun h30 => ?_) (fun h30 => ?_)
          · skip
            refine AOps.go rfl rfl rfl h30 (o_move _ rfl rfl) ?_
            refine AOps.go rfl rfl rfl h30 (o_move _ rfl rfl) ?_
            refine AOps.go rfl rfl rfl h30 (o_index _ _ Tryz.underlying25 Tryz.sizeOf40 rfl rfl (by omega) (by assumption) rfl rfl) ?_
            refine AOps.go rfl rfl rfl h30 (o_fieldRd _ rfl fa40_3 rfl) ?_
            refine AOps.go rfl rfl rfl h30 (o_loadRd _ rfl Tryz.sizeOf3 Tryz.isAgg3 rfl rfl rfl) ?_
            refine AOps.go rfl rfl rfl h30 (o_move _ rfl rfl) ?_
            refine AOps.go rfl rfl rfl h30 (o_bin _ _ rfl rfl (fun _ => rfl) rfl) ?_
            refine AOps.call (o_pickF _ _ _ rfl h30 rfl rfl) ?_
            refine AOps.nil ?_
            refine AWP.cond _ rfl (fun h37 => ?_) (fun h37 => ?_)
            · skip
              refine AWP.exit ?_
              refine AWP.region ?_
              refine AOps.call (o_move _ rfl rfl) ?_
              refine AOps.call (o_add _ _ rfl rfl ⟨by (try dsimp only); omega, by (try dsimp only); omega⟩ rfl) ?_
              refine AOps.call (o_assign _ rfl rfl) ?_
              refine AOps.nil ?_
              refine ⟨(j + 1, _), ?_, (Weak.mk' rfl ⟨⟨.refl rfl, rfl⟩, ⟨⟨.refl rfl, rfl⟩, ⟨⟨.refl rfl, rfl⟩, ⟨⟨.refl rfl, rfl⟩, ⟨⟨.refl rfl, rfl⟩, trivial⟩⟩⟩⟩⟩ trivial ⟨⟨rfl, rfl⟩, trivial⟩)⟩
              refine ⟨⟨by omega, ?_⟩, by omega⟩
              rw [pickL_succ, ← hacc]
              cases hp : okS l wd k j with
              | true =>
                first
                | rfl
                | (exfalso; rw [okS_at hlt] at hp; simp_all [standB]; done)
                | (exfalso; rw [okS_at hlt] at hp; simp_all [standB]; omega)
              | false =>
                first
                | exact (List.append_nil _).symm
                | (exfalso; rw [okS_at hlt] at hp; simp_all [standB]; done)
                | (exfalso; rw [okS_at hlt] at hp; simp_all [standB]; omega)
            · skip
              refine AWP.skip ?_
              refine AWP.seq ?_
              refine AWP.region ?_
              refine AOps.call (o_assign _ rfl rfl) ?_
              refine AOps.nil ?_
              refine AWP.seq ?_
              refine AWP.seq ?_
              refine AWP.region ?_
              refine AOps.call (o_assign _ rfl rfl) ?_
              refine AOps.nil ?_
              refine AWP.block ?_
              refine AWP.loop (ι := Nat × Bool) (fun i => AS.mk' 115 [(0, .sl (shts l)), (1, .sl (ints wd)), (2, I k), (11, .own (11, 0) (ints acc)), (12, I j), (14, B i.2), (15, I i.1)] [] [((11, 0), ((ints acc).length, 1, 3))] [(11, 1)]) (fun i => i.1 ≤ l.length ∧ (i.2 && !anyF (overB l[j] j k) (l.drop i.1) i.1) = !anyF (overB l[j] j k) l 0) (fun i => l.length - i.1) (0, true) (Weak.mk' rfl ⟨⟨.refl rfl, rfl⟩, ⟨⟨.refl rfl, rfl⟩, ⟨⟨.refl rfl, rfl⟩, ⟨⟨.refl rfl, rfl⟩, ⟨⟨.refl rfl, rfl⟩, ⟨⟨.refl rfl, rfl⟩, ⟨⟨.refl rfl, rfl⟩, trivial⟩⟩⟩⟩⟩⟩⟩ trivial ⟨⟨rfl, rfl⟩, trivial⟩) (⟨Nat.zero_le _, rfl⟩) ?_
              rintro ⟨u, last⟩ ⟨hk2, hinv⟩
              try dsimp only at *
              refine AWP.seq ?_
              refine AWP.seq ?_
              refine AWP.region ?_
              refine AOps.call (o_move _ rfl rfl) ?_
              refine AOps.call (o_move _ rfl rfl) ?_
              refine AOps.call (o_len _ Tryz.underlying25 rfl rfl) ?_
              refine AOps.call (o_bin _ _ rfl rfl (fun _ => rfl) rfl) ?_
              refine AOps.nil ?_
              refine AWP.cond _ rfl (fun h43 => ?_) (fun h43 => ?_)
              · skip
                have hlt2 : u < l.length := by simp [shts_len] at h43; omega
                have hel2 := shts_get hlt2
                refine AWP.skip ?_
                refine AWP.seq ?_
                refine AWP.block ?_
                refine AWP.seq ?_
                refine AWP.seq ?_
                refine AWP.drawn 20 mixed (by kernel_rfl) ?_
                refine AHead.call (o_move _ rfl rfl) rfl ?_
                refine AHead.call (o_move _ rfl rfl) rfl ?_
                refine AHead.call (o_index _ _ Tryz.underlying25 Tryz.sizeOf40 rfl rfl (by omega) (by assumption) rfl rfl) rfl ?_
                refine AHead.call (o_fieldRd _ rfl fa40_0 rfl) rfl ?_
                refine AHead.call (o_loadRd _ rfl Tryz.sizeOf3 Tryz.isAgg3 rfl rfl rfl) rfl ?_
                refine AHead.call (o_move _ rfl rfl) rfl ?_
                refine AHead.call (o_move _ rfl rfl) rfl ?_
                refine AHead.call (o_index _ _ Tryz.underlying25 Tryz.sizeOf40 rfl rfl (by omega) (by assumption) rfl rfl) rfl ?_
                refine AHead.call (o_fieldRd _ rfl fa40_0 rfl) rfl ?_
                refine AHead.call (o_loadRd _ rfl Tryz.sizeOf3 Tryz.isAgg3 rfl rfl rfl) rfl ?_
                refine AHead.call (o_bin _ _ rfl rfl (fun _ => rfl) rfl) rfl ?_
                refine AHead.call (o_move _ rfl rfl) rfl ?_
                refine AHead.split rfl rfl rfl (fun h53 => ?_) (fun h53 => ?_)
                · skip
                  refine AHead.go rfl rfl rfl h53 (o_move _ rfl rfl) rfl ?_
                  refine AHead.go rfl rfl rfl h53 (o_move _ rfl rfl) rfl ?_
                  refine AHead.go rfl rfl rfl h53 (o_index _ _ Tryz.underlying25 Tryz.sizeOf40 rfl rfl (by omega) (by assumption) rfl rfl) rfl ?_
                  refine AHead.go rfl rfl rfl h53 (o_fieldRd _ rfl fa40_3 rfl) rfl ?_
                  refine AHead.go rfl rfl rfl h53 (o_loadRd _ rfl Tryz.sizeOf3 Tryz.isAgg3 rfl rfl rfl) rfl ?_
                  refine AHead.go rfl rfl rfl h53 (o_move _ rfl rfl) rfl ?_
                  refine AHead.go rfl rfl rfl h53 (o_bin _ _ rfl rfl (fun _ => rfl) rfl) rfl ?_
                  refine AHead.call (o_pickF _ _ _ rfl h53 rfl rfl) rfl ?_
                  refine AHead.nil ?_
                  refine AOps.nil ?_
                  refine AWP.cond _ rfl (fun h60 => ?_) (fun h60 => ?_)
                  · skip
                    refine AWP.exit ?_
                    refine AWP.region ?_
                    refine AOps.call (o_move _ rfl rfl) ?_
                    refine AOps.call (o_add _ _ rfl rfl ⟨by (try dsimp only); omega, by (try dsimp only); omega⟩ rfl) ?_
                    refine AOps.call (o_assign _ rfl rfl) ?_
                    refine AOps.nil ?_
                    refine ⟨(u + 1, _), ?_, (Weak.mk' rfl ⟨⟨.refl rfl, rfl⟩, ⟨⟨.refl rfl, rfl⟩, ⟨⟨.refl rfl, rfl⟩, ⟨⟨.refl rfl, rfl⟩, ⟨⟨.refl rfl, rfl⟩, ⟨⟨.refl rfl, rfl⟩, ⟨⟨.refl rfl, rfl⟩, trivial⟩⟩⟩⟩⟩⟩⟩ trivial ⟨⟨rfl, rfl⟩, trivial⟩)⟩
                    refine ⟨⟨by omega, ?_⟩, by omega⟩
                    rw [← hinv, anyF_at hlt2]
                    cases hov : overB l[j] j k l[u] u with
                    | true =>
                      first
                      | (simp; done)
                      | (exfalso; unfold overB at hov; simp_all; done)
                      | (exfalso; unfold overB at hov; simp_all; omega)
                      | (exfalso; unfold overB at hov; simp at *; omega)
                    | false =>
                      first
                      | (simp; done)
                      | (exfalso; unfold overB at hov; simp_all; done)
                      | (exfalso; unfold overB at hov; simp_all; omega)
                      | (exfalso; unfold overB at hov; simp at *; omega)
                  · skip
                    refine AWP.skip ?_
                    refine AWP.seq ?_
                    refine AWP.drawn 29 mixed (by kernel_rfl) ?_
                    refine AHead.call (o_move _ rfl rfl) rfl ?_
                    refine AHead.call (o_move _ rfl rfl) rfl ?_
                    refine AHead.call (o_index _ _ Tryz.underlying25 Tryz.sizeOf40 rfl rfl (by omega) (by assumption) rfl rfl) rfl ?_
                    refine AHead.call (o_fieldRd _ rfl fa40_3 rfl) rfl ?_
                    refine AHead.call (o_loadRd _ rfl Tryz.sizeOf3 Tryz.isAgg3 rfl rfl rfl) rfl ?_
                    refine AHead.call (o_move _ rfl rfl) rfl ?_
                    refine AHead.call (o_move _ rfl rfl) rfl ?_
                    refine AHead.call (o_index _ _ Tryz.underlying25 Tryz.sizeOf40 rfl rfl (by omega) (by assumption) rfl rfl) rfl ?_
                    refine AHead.call (o_fieldRd _ rfl fa40_3 rfl) rfl ?_
                    refine AHead.call (o_loadRd _ rfl Tryz.sizeOf3 Tryz.isAgg3 rfl rfl rfl) rfl ?_
                    refine AHead.call (o_bin _ _ rfl rfl (fun _ => rfl) rfl) rfl ?_
                    refine AHead.call (o_move _ rfl rfl) rfl ?_
                    refine AHead.split rfl rfl rfl (fun h71 => ?_) (fun h71 => ?_)
                    · skip
                      refine AHead.go rfl rfl rfl h71 (o_move _ rfl rfl) rfl ?_
                      refine AHead.go rfl rfl rfl h71 (o_move _ rfl rfl) rfl ?_
                      refine AHead.go rfl rfl rfl h71 (o_index _ _ Tryz.underlying25 Tryz.sizeOf40 rfl rfl (by omega) (by assumption) rfl rfl) rfl ?_
                      refine AHead.go rfl rfl rfl h71 (o_fieldRd _ rfl fa40_3 rfl) rfl ?_
                      refine AHead.go rfl rfl rfl h71 (o_loadRd _ rfl Tryz.sizeOf3 Tryz.isAgg3 rfl rfl rfl) rfl ?_
                      refine AHead.go rfl rfl rfl h71 (o_move _ rfl rfl) rfl ?_
                      refine AHead.go rfl rfl rfl h71 (o_move _ rfl rfl) rfl ?_
                      refine AHead.go rfl rfl rfl h71 (o_index _ _ Tryz.underlying25 Tryz.sizeOf40 rfl rfl (by omega) (by assumption) rfl rfl) rfl ?_
                      refine AHead.go rfl rfl rfl h71 (o_fieldRd _ rfl fa40_3 rfl) rfl ?_
                      refine AHead.go rfl rfl rfl h71 (o_loadRd _ rfl Tryz.sizeOf3 Tryz.isAgg3 rfl rfl rfl) rfl ?_
                      refine AHead.go rfl rfl rfl h71 (o_bin _ _ rfl rfl (fun _ => rfl) rfl) rfl ?_
                      refine AHead.go rfl rfl rfl h71 (o_move _ rfl rfl) rfl ?_
                      refine AHead.split rfl rfl rfl (fun h81 => ?_) (fun h81 => ?_)
                      · skip
                        refine AHead.go rfl rfl rfl h81 (o_move _ rfl rfl) rfl ?_
                        refine AHead.go rfl rfl rfl h81 (o_move _ rfl rfl) rfl ?_
                        refine AHead.go rfl rfl rfl h81 (o_bin _ _ rfl rfl (fun _ => rfl) rfl) rfl ?_
                        refine AHead.go rfl rfl rfl h71 (o_pickT _ _ _ rfl h81 rfl rfl) rfl ?_
                        refine AHead.call (o_pickF _ _ _ rfl h71 rfl rfl) rfl ?_
                        refine AHead.nil ?_
                        refine AOps.nil ?_
                        refine AWP.cond _ rfl (fun h83 => ?_) (fun h83 => ?_)
                        · skip
                          refine AWP.region ?_
                          refine AOps.call (o_assign _ rfl rfl) ?_
                          refine AOps.nil ?_
                          refine AWP.region ?_
                          refine AOps.call (o_move _ rfl rfl) ?_
                          refine AOps.call (o_add _ _ rfl rfl ⟨by (try dsimp only); omega, by (try dsimp only); omega⟩ rfl) ?_
                          refine AOps.call (o_assign _ rfl rfl) ?_
                          refine AOps.nil ?_
                          refine ⟨(u + 1, _), ?_, (Weak.mk' rfl ⟨⟨.refl rfl, rfl⟩, ⟨⟨.refl rfl, rfl⟩, ⟨⟨.refl rfl, rfl⟩, ⟨⟨.refl rfl, rfl⟩, ⟨⟨.refl rfl, rfl⟩, ⟨⟨.refl rfl, rfl⟩, ⟨⟨.refl rfl, rfl⟩, trivial⟩⟩⟩⟩⟩⟩⟩ trivial ⟨⟨rfl, rfl⟩, trivial⟩)⟩
                          refine ⟨⟨by omega, ?_⟩, by omega⟩
                          rw [← hinv, anyF_at hlt2]
                          cases hov : overB l[j] j k l[u] u with
                          | true =>
                            first
                            | (simp; done)
                            | (exfalso; unfold overB at hov; simp_all; done)
                            | (exfalso; unfold overB at hov; simp_all; omega)
                            | (exfalso; unfold overB at hov; simp at *; omega)
                          | false =>
                            first
                            | (simp; done)
                            | (exfalso; unfold overB at hov; simp_all; done)
                            | (exfalso; unfold overB at hov; simp_all; omega)
                            | (exfalso; unfold overB at hov; simp at *; omega)
                        · skip
                          refine AWP.skip ?_
                          refine AWP.region ?_
                          refine AOps.call (o_move _ rfl rfl) ?_
                          refine AOps.call (o_add _ _ rfl rfl ⟨by (try dsimp only); omega, by (try dsimp only); omega⟩ rfl) ?_
                          refine AOps.call (o_assign _ rfl rfl) ?_
                          refine AOps.nil ?_
                          refine ⟨(u + 1, _), ?_, (Weak.mk' rfl ⟨⟨.refl rfl, rfl⟩, ⟨⟨.refl rfl, rfl⟩, ⟨⟨.refl rfl, rfl⟩, ⟨⟨.refl rfl, rfl⟩, ⟨⟨.refl rfl, rfl⟩, ⟨⟨.refl rfl, rfl⟩, ⟨⟨.refl rfl, rfl⟩, trivial⟩⟩⟩⟩⟩⟩⟩ trivial ⟨⟨rfl, rfl⟩, trivial⟩)⟩
                          refine ⟨⟨by omega, ?_⟩, by omega⟩
                          rw [← hinv, anyF_at hlt2]
                          cases hov : overB l[j] j k l[u] u with
                          | true =>
                            first
                            | (simp; done)
                            | (exfalso; unfold overB at hov; simp_all; done)
                            | (exfalso; unfold overB at hov; simp_all; omega)
                            | (exfalso; unfold overB at hov; simp at *; omega)
                          | false =>
                            first
                            | (simp; done)
                            | (exfalso; unfold overB at hov; simp_all; done)
                            | (exfalso; unfold overB at hov; simp_all; omega)
                            | (exfalso; unfold overB at hov; simp at *; omega)
                      · skip
                        refine AHead.pass rfl rfl rfl h81 rfl ?_
                        refine AHead.pass rfl rfl rfl h81 rfl ?_
                        refine AHead.pass rfl rfl rfl h81 rfl ?_
                        refine AHead.go rfl rfl rfl h71 (o_pickF _ _ _ rfl h81 rfl rfl) rfl ?_
                        refine AHead.call (o_pickF _ _ _ rfl h71 rfl rfl) rfl ?_
                        refine AHead.nil ?_
                        refine AOps.nil ?_
                        refine AWP.condF rfl ?_
                        refine AWP.skip ?_
                        refine AWP.region ?_
                        refine AOps.call (o_move _ rfl rfl) ?_
                        refine AOps.call (o_add _ _ rfl rfl ⟨by (try dsimp only); omega, by (try dsimp only); omega⟩ rfl) ?_
                        refine AOps.call (o_assign _ rfl rfl) ?_
                        refine AOps.nil ?_
                        refine ⟨(u + 1, _), ?_, (Weak.mk' rfl ⟨⟨.refl rfl, rfl⟩, ⟨⟨.refl rfl, rfl⟩, ⟨⟨.refl rfl, rfl⟩, ⟨⟨.refl rfl, rfl⟩, ⟨⟨.refl rfl, rfl⟩, ⟨⟨.refl rfl, rfl⟩, ⟨⟨.refl rfl, rfl⟩, trivial⟩⟩⟩⟩⟩⟩⟩ trivial ⟨⟨rfl, rfl⟩, trivial⟩)⟩
                        refine ⟨⟨by omega, ?_⟩, by omega⟩
                        rw [← hinv, anyF_at hlt2]
                        cases hov : overB l[j] j k l[u] u with
                        | true =>
                          first
                          | (simp; done)
                          | (exfalso; unfold overB at hov; simp_all; done)
                          | (exfalso; unfold overB at hov; simp_all; omega)
                          | (exfalso; unfold overB at hov; simp at *; omega)
                        | false =>
                          first
                          | (simp; done)
                          | (exfalso; unfold overB at hov; simp_all; done)
                          | (exfalso; unfold overB at hov; simp_all; omega)
                          | (exfalso; unfold overB at hov; simp at *; omega)
                    · skip
                      refine AHead.pass rfl rfl rfl h71 rfl ?_
                      refine AHead.pass rfl rfl rfl h71 rfl ?_
                      refine AHead.pass rfl rfl rfl h71 rfl ?_
                      refine AHead.pass rfl rfl rfl h71 rfl ?_
                      refine AHead.pass rfl rfl rfl h71 rfl ?_
                      refine AHead.pass rfl rfl rfl h71 rfl ?_
                      refine AHead.pass rfl rfl rfl h71 rfl ?_
                      refine AHead.pass rfl rfl rfl h71 rfl ?_
                      refine AHead.pass rfl rfl rfl h71 rfl ?_
                      refine AHead.pass rfl rfl rfl h71 rfl ?_
                      refine AHead.pass rfl rfl rfl h71 rfl ?_
                      refine AHead.pass rfl rfl rfl h71 rfl ?_
                      refine AHead.passU rfl rfl rfl rfl ?_
                      refine AHead.passU rfl rfl rfl rfl ?_
                      refine AHead.passU rfl rfl rfl rfl ?_
                      refine AHead.pass rfl rfl rfl h71 rfl ?_
                      refine AHead.call (o_pickT _ _ _ rfl h71 rfl rfl) rfl ?_
                      refine AHead.nil ?_
                      refine AOps.nil ?_
                      refine AWP.condT rfl ?_
                      refine AWP.region ?_
                      refine AOps.call (o_assign _ rfl rfl) ?_
                      refine AOps.nil ?_
                      refine AWP.region ?_
                      refine AOps.call (o_move _ rfl rfl) ?_
                      refine AOps.call (o_add _ _ rfl rfl ⟨by (try dsimp only); omega, by (try dsimp only); omega⟩ rfl) ?_
                      refine AOps.call (o_assign _ rfl rfl) ?_
                      refine AOps.nil ?_
                      refine ⟨(u + 1, _), ?_, (Weak.mk' rfl ⟨⟨.refl rfl, rfl⟩, ⟨⟨.refl rfl, rfl⟩, ⟨⟨.refl rfl, rfl⟩, ⟨⟨.refl rfl, rfl⟩, ⟨⟨.refl rfl, rfl⟩, ⟨⟨.refl rfl, rfl⟩, ⟨⟨.refl rfl, rfl⟩, trivial⟩⟩⟩⟩⟩⟩⟩ trivial ⟨⟨rfl, rfl⟩, trivial⟩)⟩
                      refine ⟨⟨by omega, ?_⟩, by omega⟩
                      rw [← hinv, anyF_at hlt2]
                      cases hov : overB l[j] j k l[u] u with
                      | true =>
                        first
                        | (simp; done)
                        | (exfalso; unfold overB at hov; simp_all; done)
                        | (exfalso; unfold overB at hov; simp_all; omega)
                        | (exfalso; unfold overB at hov; simp at *; omega)
                      | false =>
                        first
                        | (simp; done)
                        | (exfalso; unfold overB at hov; simp_all; done)
                        | (exfalso; unfold overB at hov; simp_all; omega)
                        | (exfalso; unfold overB at hov; simp at *; omega)
                · skip
                  refine AHead.pass rfl rfl rfl h53 rfl ?_
                  refine AHead.pass rfl rfl rfl h53 rfl ?_
                  refine AHead.pass rfl rfl rfl h53 rfl ?_
                  refine AHead.pass rfl rfl rfl h53 rfl ?_
                  refine AHead.pass rfl rfl rfl h53 rfl ?_
                  refine AHead.pass rfl rfl rfl h53 rfl ?_
                  refine AHead.pass rfl rfl rfl h53 rfl ?_
                  refine AHead.call (o_pickT _ _ _ rfl h53 rfl rfl) rfl ?_
                  refine AHead.nil ?_
                  refine AOps.nil ?_
                  refine AWP.condT rfl ?_
                  refine AWP.exit ?_
                  refine AWP.region ?_
                  refine AOps.call (o_move _ rfl rfl) ?_
                  refine AOps.call (o_add _ _ rfl rfl ⟨by (try dsimp only); omega, by (try dsimp only); omega⟩ rfl) ?_
                  refine AOps.call (o_assign _ rfl rfl) ?_
                  refine AOps.nil ?_
                  refine ⟨(u + 1, _), ?_, (Weak.mk' rfl ⟨⟨.refl rfl, rfl⟩, ⟨⟨.refl rfl, rfl⟩, ⟨⟨.refl rfl, rfl⟩, ⟨⟨.refl rfl, rfl⟩, ⟨⟨.refl rfl, rfl⟩, ⟨⟨.refl rfl, rfl⟩, ⟨⟨.refl rfl, rfl⟩, trivial⟩⟩⟩⟩⟩⟩⟩ trivial ⟨⟨rfl, rfl⟩, trivial⟩)⟩
                  refine ⟨⟨by omega, ?_⟩, by omega⟩
                  rw [← hinv, anyF_at hlt2]
                  cases hov : overB l[j] j k l[u] u with
                  | true =>
                    first
                    | (simp; done)
                    | (exfalso; unfold overB at hov; simp_all; done)
                    | (exfalso; unfold overB at hov; simp_all; omega)
                    | (exfalso; unfold overB at hov; simp at *; omega)
                  | false =>
                    first
                    | (simp; done)
                    | (exfalso; unfold overB at hov; simp_all; done)
                    | (exfalso; unfold overB at hov; simp_all; omega)
                    | (exfalso; unfold overB at hov; simp at *; omega)
              · skip
                have hul : u = l.length := by simp [shts_len] at h43; omega
                have hlast : last = !anyF (overB l[j] j k) l 0 := by rw [← hinv, hul, List.drop_length]; simp [anyF]
                refine AWP.exit ?_
                refine AWP.seq ?_
                refine AWP.region ?_
                refine AOps.call (o_move _ rfl rfl) ?_
                refine AOps.nil ?_
                refine AWP.cond _ rfl (fun h90 => ?_) (fun h90 => ?_)
                · skip
                  refine AWP.region ?_
                  refine AOps.call (o_move _ rfl rfl) ?_
                  refine AOps.call (o_move _ rfl rfl) ?_
                  refine AOps.call (o_lit Tryz.underlying26 Tryz.sizeOf3 Tryz.zeroValue3 rfl rfl rfl rfl rfl rfl rfl) ?_
                  refine AOps.cons (o_append _ _ Tryz.underlying26 info3 rfl rfl rfl rfl rfl rfl rfl rfl (fun c hc => by simp at hc; subst hc; rfl) ints_z (by
                      rw [ints_len]; simp only [List.length_cons, List.length_nil, Nat.zero_add]; unfold Tryz.t3; simp only []; omega) rfl (ints_snoc acc _) rfl) ?_
                  refine AOps.call (o_assign _ rfl rfl) ?_
                  refine AOps.nil ?_
                  refine AWP.region ?_
                  refine AOps.call (o_move _ rfl rfl) ?_
                  refine AOps.call (o_add _ _ rfl rfl ⟨by (try dsimp only); omega, by (try dsimp only); omega⟩ rfl) ?_
                  refine AOps.call (o_assign _ rfl rfl) ?_
                  refine AOps.nil ?_
                  refine ⟨(j + 1, _), ?_, (Weak.mk' rfl ⟨⟨.refl rfl, rfl⟩, ⟨⟨.refl rfl, rfl⟩, ⟨⟨.refl rfl, rfl⟩, ⟨⟨.refl rfl, rfl⟩, ⟨⟨.refl rfl, rfl⟩, trivial⟩⟩⟩⟩⟩ trivial ⟨⟨rfl, rfl⟩, trivial⟩)⟩
                  refine ⟨⟨by omega, ?_⟩, by omega⟩
                  rw [pickL_succ, ← hacc]
                  cases hp : okS l wd k j with
                  | true =>
                    first
                    | rfl
                    | (exfalso; rw [okS_at hlt] at hp; simp_all [standB]; done)
                    | (exfalso; rw [okS_at hlt] at hp; simp_all [standB]; omega)
                  | false =>
                    first
                    | exact (List.append_nil _).symm
                    | (exfalso; rw [okS_at hlt] at hp; simp_all [standB]; done)
                    | (exfalso; rw [okS_at hlt] at hp; simp_all [standB]; omega)
                · skip
                  refine AWP.skip ?_
                  refine AWP.region ?_
                  refine AOps.call (o_move _ rfl rfl) ?_
                  refine AOps.call (o_add _ _ rfl rfl ⟨by (try dsimp only); omega, by (try dsimp only); omega⟩ rfl) ?_
                  refine AOps.call (o_assign _ rfl rfl) ?_
                  refine AOps.nil ?_
                  refine ⟨(j + 1, _), ?_, (Weak.mk' rfl ⟨⟨.refl rfl, rfl⟩, ⟨⟨.refl rfl, rfl⟩, ⟨⟨.refl rfl, rfl⟩, ⟨⟨.refl rfl, rfl⟩, ⟨⟨.refl rfl, rfl⟩, trivial⟩⟩⟩⟩⟩ trivial ⟨⟨rfl, rfl⟩, trivial⟩)⟩
                  refine ⟨⟨by omega, ?_⟩, by omega⟩
                  rw [pickL_succ, ← hacc]
                  cases hp : okS l wd k j with
                  | true =>
                    first
                    | rfl
                    | (exfalso; rw [okS_at hlt] at hp; simp_all [standB]; done)
                    | (exfalso; rw [okS_at hlt] at hp; simp_all [standB]; omega)
                  | false =>
                    first
                    | exact (List.append_nil _).symm
                    | (exfalso; rw [okS_at hlt] at hp; simp_all [standB]; done)
                    | (exfalso; rw [okS_at hlt] at hp; simp_all [standB]; omega)
          · skip
            refine AOps.pass rfl rfl rfl h30 rfl ?_
            refine AOps.pass rfl rfl rfl h30 rfl ?_
            refine AOps.pass rfl rfl rfl h30 rfl ?_
            refine AOps.pass rfl rfl rfl h30 rfl ?_
            refine AOps.pass rfl rfl rfl h30 rfl ?_
            refine AOps.pass rfl rfl rfl h30 rfl ?_
            refine AOps.pass rfl rfl rfl h30 rfl ?_
            refine AOps.call (o_pickT _ _ _ rfl h30 rfl rfl) ?_
            refine AOps.nil ?_
            refine AWP.condT rfl ?_
            refine AWP.exit ?_
            refine AWP.region ?_
            refine AOps.call (o_move _ rfl rfl) ?_
            refine AOps.call (o_add _ _ rfl rfl ⟨by (try dsimp only); omega, by (try dsimp only); omega⟩ rfl) ?_
            refine AOps.call (o_assign _ rfl rfl) ?_
            refine AOps.nil ?_
            refine ⟨(j + 1, _), ?_, (Weak.mk' rfl ⟨⟨.refl rfl, rfl⟩, ⟨⟨.refl rfl, rfl⟩, ⟨⟨.refl rfl, rfl⟩, ⟨⟨.refl rfl, rfl⟩, ⟨⟨.refl rfl, rfl⟩, trivial⟩⟩⟩⟩⟩ trivial ⟨⟨rfl, rfl⟩, trivial⟩)⟩
            refine ⟨⟨by omega, ?_⟩, by omega⟩
            rw [pickL_succ, ← hacc]
            cases hp : okS l wd k j with
            | true =>
              first
              | rfl
              | (exfalso; rw [okS_at hlt] at hp; simp_all [standB]; done)
              | (exfalso; rw [okS_at hlt] at hp; simp_all [standB]; omega)
            | false =>
              first
              | exact (List.append_nil _).symm
              | (exfalso; rw [okS_at hlt] at hp; simp_all [standB]; done)
              | (exfalso; rw [okS_at hlt] at hp; simp_all [standB]; omega)
        · skip
          have hkl : j = l.length := by simp [shts_len] at h23; omega
          refine AWP.exit ?_
          refine AWP.seq ?_
          refine AWP.region ?_
          refine AOps.call (o_move _ rfl rfl) ?_
          refine AOps.call (o_assign _ rfl rfl) ?_
          refine AOps.call (o_assign _ rfl rfl) ?_
          refine AOps.nil ?_
          refine AWP.ret ?_
          refine postQ.ret2 Tryz.results8 rfl rfl ?_
          first
          | (rw [if_neg hz, hE]; rfl)
          | (rw [if_pos hE]; unfold standL; rw [← hkl, ← hacc]; rfl)
    · skip
      refine AOps.pass rfl rfl rfl h13 rfl ?_
      refine AOps.pass rfl rfl rfl h13 rfl ?_
      refine AOps.call (o_pickT _ _ _ rfl h13 rfl rfl) ?_
      refine AOps.nil ?_
      refine AWP.condT rfl ?_
      have hE : standE l wd k = 1 := by
        unfold standE
        rw [if_pos hq, if_neg (by simp_all)]
      have hz : ¬ standE l wd k = 0 := by rw [hE]; decide
      refine AWP.seq ?_
      refine AWP.region ?_
      refine AOps.call (o_nil (z := 1) (e := 3) rfl) ?_
      refine AOps.call (o_assign _ rfl rfl) ?_
      refine AOps.nil ?_
      refine AWP.ret ?_
      refine postQ.ret2 Tryz.results8 rfl rfl ?_
      first
      | (rw [if_neg hz, hE]; rfl)
      | (rw [if_pos hE]; unfold standL; rw [← hkl, ← hacc]; rfl)

set_option maxRecDepth 20000 in
theorem rCorrected_s (c : Scl) (l : List Sht) (b a : Int) (hl : l.length ≤ 1000000) : FSpec Tryz.prog 10 [.agg (eS c), .sl (shts l), I b, I a] (if corE c l b a = 0 then .tup [.sl (ints (corL c l b a)), I 0] else .tup [.sl [], I (corE c l b a)]) (none) := by
  refine FSpec.of_body Tryz.func10 rfl (leB rfl) fun w0 M0 => ?_
  refine AWP.seq ?_
  refine AWP.region ?_
  refine AOps.call (o_box _ rfl rfl rfl) ?_
  refine AOps.call (o_nil (z := 1) (e := 3) rfl) ?_
  refine AOps.call (o_assign _ rfl rfl) ?_
  refine AOps.nil ?_
  refine AWP.seq ?_
  refine AWP.region ?_
  refine AOps.call (o_loadRef _ rfl rfl Tryz.sizeOf24 Tryz.isAgg24 rfl rfl rfl) ?_
  refine AOps.call (o_call (rCheckScale_s c) Tryz.call44 rfl rfl) ?_
  refine AOps.call (o_assign _ rfl rfl) ?_
  refine AOps.nil ?_
  refine AWP.seq ?_
  refine AWP.seq ?_
  refine AWP.region ?_
  refine AOps.call (o_move _ rfl rfl) ?_
  refine AOps.call (o_bin _ _ rfl rfl (fun _ => rfl) rfl) ?_
  refine AOps.nil ?_
  refine AWP.cond _ rfl (fun h7 => ?_) (fun h7 => ?_)
  · skip
    have hz : ¬ corE c l b a = 0 := by
      unfold corE
      have h1 : ¬ scaleE c = 0 := by simpa using h7
      rw [if_neg h1]; exact h1
    have hE : corE c l b a = scaleE c := by
      unfold corE
      rw [if_neg (by simpa using h7)]
    refine AWP.seq ?_
    refine AWP.region ?_
    refine AOps.call (o_move _ rfl rfl) ?_
    refine AOps.call (o_nil (z := 1) (e := 3) rfl) ?_
    refine AOps.call (o_assign _ rfl rfl) ?_
    refine AOps.nil ?_
    refine AWP.ret ?_
    refine postQ.ret2 Tryz.results10 rfl rfl ?_
    first
    | (rw [if_neg hz, hE]; rfl)
    | (rw [if_pos hE]; unfold corL; rw [← hkl, ← hacc]; rfl)
  · skip
    have hq0 : scaleE c = 0 := by simpa using h7
    refine AWP.skip ?_
    refine AWP.seq ?_
    refine AWP.region ?_
    refine AOps.call (o_move _ rfl rfl) ?_
    refine AOps.call (o_call (rsheets_s l hl) Tryz.call38 rfl rfl) ?_
    refine AOps.call (o_assign _ rfl rfl) ?_
    refine AOps.nil ?_
    refine AWP.seq ?_
    refine AWP.seq ?_
    refine AWP.region ?_
    refine AOps.call (o_move _ rfl rfl) ?_
    refine AOps.call (o_bin _ _ rfl rfl (fun _ => rfl) rfl) ?_
    refine AOps.nil ?_
    refine AWP.cond _ rfl (fun h12 => ?_) (fun h12 => ?_)
    · skip
      have hz : ¬ corE c l b a = 0 := by
        unfold corE
        have h1 : ¬ sheetsE l = 0 := by simpa using h12
        rw [if_pos hq0, if_neg h1]; exact h1
      have hE : corE c l b a = sheetsE l := by
        unfold corE
        rw [if_pos hq0, if_neg (by simpa using h12)]
      refine AWP.seq ?_
      refine AWP.region ?_
      refine AOps.call (o_move _ rfl rfl) ?_
      refine AOps.call (o_nil (z := 1) (e := 3) rfl) ?_
      refine AOps.call (o_assign _ rfl rfl) ?_
      refine AOps.nil ?_
      refine AWP.ret ?_
      refine postQ.ret2 Tryz.results10 rfl rfl ?_
      first
      | (rw [if_neg hz, hE]; rfl)
      | (rw [if_pos hE]; unfold corL; rw [← hkl, ← hacc]; rfl)
    · skip
      have hq : sheetsE l = 0 := by simpa using h12
      refine AWP.skip ?_
      refine AWP.seq ?_
      refine AWP.region ?_
      refine AOps.call (o_move _ rfl rfl) ?_
      refine AOps.call (o_call (rDay_s _) Tryz.call40 rfl rfl) ?_
      refine AOps.call (o_assign _ rfl rfl) ?_
      refine AOps.nil ?_
      refine AWP.seq ?_
      refine AWP.region ?_
      refine AOps.call (o_move _ rfl rfl) ?_
      refine AOps.call (o_call (rDay_s _) Tryz.call40 rfl rfl) ?_
      refine AOps.call (o_assign _ rfl rfl) ?_
      refine AOps.nil ?_
      refine AWP.seq ?_
      refine AWP.seq ?_
      refine AWP.region ?_
      refine AOps.call (o_move _ rfl rfl) ?_
      refine AOps.call (o_un _ rfl (fun _ => rfl) rfl) ?_
      refine AOps.call (o_move _ rfl rfl) ?_
      refine AOps.split rfl rfl rfl (fun h19 => ?_) (fun h19 => ?_)
      · skip
        refine AOps.go rfl rfl rfl h19 (o_move _ rfl rfl) ?_
        refine AOps.go rfl rfl rfl h19 (o_un _ rfl (fun _ => rfl) rfl) ?_
        refine AOps.call (o_pickF _ _ _ rfl h19 rfl rfl) ?_
        refine AOps.nil ?_
        refine AWP.cond _ rfl (fun h21 => ?_) (fun h21 => ?_)
        · skip
          have hE : corE c l b a = 1 := by
            unfold corE
            rw [if_pos hq0, if_pos hq, if_neg (by simp_all)]
          have hz : ¬ corE c l b a = 0 := by rw [hE]; decide
          refine AWP.seq ?_
          refine AWP.region ?_
          refine AOps.call (o_nil (z := 1) (e := 3) rfl) ?_
          refine AOps.call (o_assign _ rfl rfl) ?_
          refine AOps.nil ?_
          refine AWP.ret ?_
          refine postQ.ret2 Tryz.results10 rfl rfl ?_
          first
          | (rw [if_neg hz, hE]; rfl)
          | (rw [if_pos hE]; unfold corL; rw [← hkl, ← hacc]; rfl)
        · skip
          have hE : corE c l b a = 0 := by
            unfold corE
            rw [if_pos hq0, if_pos hq, if_pos (by simp_all)]
          have hl256 := sheetsE_len hq
          refine AWP.skip ?_
          refine AWP.seq ?_
          refine AWP.region ?_
          refine AOps.call (o_nil (z := 1) (e := 3) rfl) ?_
          refine AOps.nil ?_
          refine AWP.seq ?_
          refine AWP.seq ?_
          refine AWP.region ?_
          refine AOps.call (o_assign _ rfl rfl) ?_
          refine AOps.nil ?_
          refine AWP.block ?_
          refine AWP.loop (ι := Nat × List Int) (fun i => AS.mk' 86 [(1, .sl (shts l)), (2, I b), (3, I a), (4, .ref (4, 0) 0), (13, .own (13, 0) (ints i.2)), (14, I i.1)] [((4, 0), eS c)] [((13, 0), ((ints i.2).length, 1, 3))] [(4, 1), (13, 1)]) (fun i => i.1 ≤ l.length ∧ i.2 = pickL (okC c l b a) i.1) (fun i => l.length - i.1) (0, []) (Weak.mk' rfl ⟨⟨.refl rfl, rfl⟩, ⟨⟨.refl rfl, rfl⟩, ⟨⟨.refl rfl, rfl⟩, ⟨⟨.refl rfl, rfl⟩, ⟨⟨.refl rfl, rfl⟩, ⟨⟨.refl rfl, rfl⟩, trivial⟩⟩⟩⟩⟩⟩ ⟨⟨rfl, rfl, rfl⟩, trivial⟩ ⟨⟨rfl, rfl⟩, trivial⟩) (⟨Nat.zero_le _, rfl⟩) ?_
          rintro ⟨j, acc⟩ ⟨hk, hacc⟩
          try dsimp only at *
          refine AWP.seq ?_
          refine AWP.seq ?_
          refine AWP.region ?_
          refine AOps.call (o_move _ rfl rfl) ?_
          refine AOps.call (o_move _ rfl rfl) ?_
          refine AOps.call (o_len _ Tryz.underlying25 rfl rfl) ?_
          refine AOps.call (o_bin _ _ rfl rfl (fun _ => rfl) rfl) ?_
          refine AOps.nil ?_
          refine AWP.cond _ rfl (fun h29 => ?_) (fun h29 => ?_)
          · skip
            have hlt : j < l.length := by simp [shts_len] at h29; omega
            have hel := shts_get hlt
            have hal : acc.length ≤ j := by rw [hacc]; exact pickL_len _ _
            refine AWP.skip ?_
            refine AWP.seq ?_
            refine AWP.block ?_
            refine AWP.seq ?_
            refine AWP.seq ?_
            refine AWP.drawn 8 mixed (by kernel_rfl) ?_
            refine AHead.call (o_move _ rfl rfl) rfl ?_
            refine AHead.call (o_move _ rfl rfl) rfl ?_
            refine AHead.call (o_index _ _ Tryz.underlying25 Tryz.sizeOf40 rfl rfl (by omega) (by assumption) rfl rfl) rfl ?_
            refine AHead.call (o_fieldRd _ rfl fa40_4 rfl) rfl ?_
            refine AHead.call (o_loadRd _ rfl Tryz.sizeOf3 Tryz.isAgg3 rfl rfl rfl) rfl ?_
            refine AHead.call (o_fieldRef _ rfl fa24_0 rfl rfl) rfl ?_
            refine AHead.call (o_loadRef _ rfl rfl Tryz.sizeOf3 Tryz.isAgg3 rfl rfl rfl) rfl ?_
            refine AHead.call (o_bin _ _ rfl rfl (fun _ => rfl) rfl) rfl ?_
            refine AHead.nil ?_
            refine AOps.nil ?_
            refine AWP.cond _ rfl (fun h37 => ?_) (fun h37 => ?_)
            · skip
              refine AWP.exit ?_
              refine AWP.region ?_
              refine AOps.call (o_move _ rfl rfl) ?_
              refine AOps.call (o_add _ _ rfl rfl ⟨by (try dsimp only); omega, by (try dsimp only); omega⟩ rfl) ?_
              refine AOps.call (o_assign _ rfl rfl) ?_
              refine AOps.nil ?_
              refine ⟨(j + 1, _), ?_, (Weak.mk' rfl ⟨⟨.refl rfl, rfl⟩, ⟨⟨.refl rfl, rfl⟩, ⟨⟨.refl rfl, rfl⟩, ⟨⟨.refl rfl, rfl⟩, ⟨⟨.refl rfl, rfl⟩, ⟨⟨.refl rfl, rfl⟩, trivial⟩⟩⟩⟩⟩⟩ ⟨⟨rfl, rfl, rfl⟩, trivial⟩ ⟨⟨rfl, rfl⟩, trivial⟩)⟩
              refine ⟨⟨by omega, ?_⟩, by omega⟩
              rw [pickL_succ, ← hacc]
              cases hp : okC c l b a j with
              | true =>
                first
                | rfl
                | (exfalso; rw [okC_at hlt] at hp; simp_all [difB, spn_dec]; done)
                | (exfalso; rw [okC_at hlt] at hp; simp_all [difB, spn_dec]; omega)
              | false =>
                first
                | exact (List.append_nil _).symm
                | (exfalso; rw [okC_at hlt] at hp; simp_all [difB, spn_dec]; done)
                | (exfalso; rw [okC_at hlt] at hp; simp_all [difB, spn_dec]; omega)
            · skip
              refine AWP.skip ?_
              refine AWP.seq ?_
              refine AWP.drawnS 11 (fun i => Nat.beq i 9) (15, 0) mixed (by kernel_rfl) ?_
              refine AHeadS.call (o_loadRef _ rfl rfl Tryz.sizeOf24 Tryz.isAgg24 rfl rfl rfl) rfl rfl ?_
              refine AHeadS.call (o_move _ rfl rfl) rfl rfl ?_
              refine AHeadS.call (o_move _ rfl rfl) rfl rfl ?_
              refine AHeadS.call (o_index _ _ Tryz.underlying25 Tryz.sizeOf40 rfl rfl (by omega) (by assumption) rfl rfl) rfl rfl ?_
              refine AHeadS.call (o_loadRd _ rfl Tryz.sizeOf40 Tryz.isAgg40 rfl rfl rfl) rfl rfl ?_
              refine AHeadS.call (o_move _ rfl rfl) rfl rfl ?_
              refine AHeadS.call (o_call (rCourse_s c l[j] b) Tryz.call45 rfl rfl) rfl rfl ?_
              refine AHeadS.call (o_move _ rfl rfl) rfl rfl ?_
              refine AHeadS.call (o_extract _ rfl rfl rfl rfl) rfl rfl ?_
              refine AHeadS.callL (o_extract _ rfl rfl rfl rfl) rfl ?_
              refine AHeadS.call (o_alloc ze51 rfl rfl) rfl rfl ?_
              refine AHeadS.nil ⟨_, _, rfl, ok_storeAny _ _ rfl rfl Tryz.sizeOf51 rfl rfl rfl rfl rfl, ?_⟩
              refine AOps.call (o_assign _ rfl rfl) ?_
              refine AOps.nil ?_
              refine AWP.seq ?_
              refine AWP.drawnS 11 (fun i => Nat.beq i 9) (17, 0) mixed (by kernel_rfl) ?_
              refine AHeadS.call (o_loadRef _ rfl rfl Tryz.sizeOf24 Tryz.isAgg24 rfl rfl rfl) rfl rfl ?_
              refine AHeadS.call (o_move _ rfl rfl) rfl rfl ?_
              refine AHeadS.call (o_move _ rfl rfl) rfl rfl ?_
              refine AHeadS.call (o_index _ _ Tryz.underlying25 Tryz.sizeOf40 rfl rfl (by omega) (by assumption) rfl rfl) rfl rfl ?_
              refine AHeadS.call (o_loadRd _ rfl Tryz.sizeOf40 Tryz.isAgg40 rfl rfl rfl) rfl rfl ?_
              refine AHeadS.call (o_move _ rfl rfl) rfl rfl ?_
              refine AHeadS.call (o_call (rCourse_s c l[j] a) Tryz.call45 rfl rfl) rfl rfl ?_
              refine AHeadS.call (o_move _ rfl rfl) rfl rfl ?_
              refine AHeadS.call (o_extract _ rfl rfl rfl rfl) rfl rfl ?_
              refine AHeadS.callL (o_extract _ rfl rfl rfl rfl) rfl ?_
              refine AHeadS.call (o_alloc ze51 rfl rfl) rfl rfl ?_
              refine AHeadS.nil ⟨_, _, rfl, ok_storeAny _ _ rfl rfl Tryz.sizeOf51 rfl rfl rfl rfl rfl, ?_⟩
              refine AOps.call (o_assign _ rfl rfl) ?_
              refine AOps.nil ?_
              refine AWP.seq ?_
              refine AWP.region ?_
              refine AOps.call (o_loadRef _ rfl rfl Tryz.sizeOf51 Tryz.isAgg51 rfl rfl rfl) ?_
              refine AOps.call (o_loadRef _ rfl rfl Tryz.sizeOf51 Tryz.isAgg51 rfl rfl rfl) ?_
              refine AOps.call (o_bin _ _ rfl rfl (spanNe _ _ _ _ _ _) rfl) ?_
              refine AOps.call (o_move _ rfl rfl) ?_
              refine AOps.split rfl rfl rfl (fun h60 => ?_) (fun h60 => ?_)
              · skip
                refine AOps.go rfl rfl rfl h60 (o_move _ rfl rfl) ?_
                refine AOps.go rfl rfl rfl h60 (o_move _ rfl rfl) ?_
                refine AOps.go rfl rfl rfl h60 (o_bin _ _ rfl rfl (fun _ => rfl) rfl) ?_
                refine AOps.call (o_pickF _ _ _ rfl h60 rfl rfl) ?_
                refine AOps.nil ?_
                refine AWP.cond _ rfl (fun h62 => ?_) (fun h62 => ?_)
                · skip
                  refine AWP.region ?_
                  refine AOps.call (o_move _ rfl rfl) ?_
                  refine AOps.call (o_move _ rfl rfl) ?_
                  refine AOps.call (o_lit Tryz.underlying26 Tryz.sizeOf3 Tryz.zeroValue3 rfl rfl rfl rfl rfl rfl rfl) ?_
                  refine AOps.cons (o_append _ _ Tryz.underlying26 info3 rfl rfl rfl rfl rfl rfl rfl rfl (fun c hc => by simp at hc; subst hc; rfl) ints_z (by
                      rw [ints_len]; simp only [List.length_cons, List.length_nil, Nat.zero_add]; unfold Tryz.t3; simp only []; omega) rfl (ints_snoc acc _) rfl) ?_
                  refine AOps.call (o_assign _ rfl rfl) ?_
                  refine AOps.nil ?_
                  refine AWP.region ?_
                  refine AOps.call (o_move _ rfl rfl) ?_
                  refine AOps.call (o_add _ _ rfl rfl ⟨by (try dsimp only); omega, by (try dsimp only); omega⟩ rfl) ?_
                  refine AOps.call (o_assign _ rfl rfl) ?_
                  refine AOps.nil ?_
                  refine ⟨(j + 1, _), ?_, (Weak.mk' rfl ⟨⟨.refl rfl, rfl⟩, ⟨⟨.refl rfl, rfl⟩, ⟨⟨.refl rfl, rfl⟩, ⟨⟨.refl rfl, rfl⟩, ⟨⟨.refl rfl, rfl⟩, ⟨⟨.refl rfl, rfl⟩, trivial⟩⟩⟩⟩⟩⟩ ⟨⟨rfl, rfl, rfl⟩, trivial⟩ ⟨⟨rfl, rfl⟩, trivial⟩)⟩
                  refine ⟨⟨by omega, ?_⟩, by omega⟩
                  rw [pickL_succ, ← hacc]
                  cases hp : okC c l b a j with
                  | true =>
                    first
                    | rfl
                    | (exfalso; rw [okC_at hlt] at hp; simp_all [difB, spn_dec]; done)
                    | (exfalso; rw [okC_at hlt] at hp; simp_all [difB, spn_dec]; omega)
                  | false =>
                    first
                    | exact (List.append_nil _).symm
                    | (exfalso; rw [okC_at hlt] at hp; simp_all [difB, spn_dec]; done)
                    | (exfalso; rw [okC_at hlt] at hp; simp_all [difB, spn_dec]; omega)
                · skip
                  refine AWP.skip ?_
                  refine AWP.region ?_
                  refine AOps.call (o_move _ rfl rfl) ?_
                  refine AOps.call (o_add _ _ rfl rfl ⟨by (try dsimp only); omega, by (try dsimp only); omega⟩ rfl) ?_
                  refine AOps.call (o_assign _ rfl rfl) ?_
                  refine AOps.nil ?_
                  refine ⟨(j + 1, _), ?_, (Weak.mk' rfl ⟨⟨.refl rfl, rfl⟩, ⟨⟨.refl rfl, rfl⟩, ⟨⟨.refl rfl, rfl⟩, ⟨⟨.refl rfl, rfl⟩, ⟨⟨.refl rfl, rfl⟩, ⟨⟨.refl rfl, rfl⟩, trivial⟩⟩⟩⟩⟩⟩ ⟨⟨rfl, rfl, rfl⟩, trivial⟩ ⟨⟨rfl, rfl⟩, trivial⟩)⟩
                  refine ⟨⟨by omega, ?_⟩, by omega⟩
                  rw [pickL_succ, ← hacc]
                  cases hp : okC c l b a j with
                  | true =>
                    first
                    | rfl
                    | (exfalso; rw [okC_at hlt] at hp; simp_all [difB, spn_dec]; done)
                    | (exfalso; rw [okC_at hlt] at hp; simp_all [difB, spn_dec]; omega)
                  | false =>
                    first
                    | exact (List.append_nil _).symm
                    | (exfalso; rw [okC_at hlt] at hp; simp_all [difB, spn_dec]; done)
                    | (exfalso; rw [okC_at hlt] at hp; simp_all [difB, spn_dec]; omega)
              · skip
                refine AOps.pass rfl rfl rfl h60 rfl ?_
                refine AOps.pass rfl rfl rfl h60 rfl ?_
                refine AOps.pass rfl rfl rfl h60 rfl ?_
                refine AOps.call (o_pickT _ _ _ rfl h60 rfl rfl) ?_
                refine AOps.nil ?_
                refine AWP.condT rfl ?_
                refine AWP.region ?_
                refine AOps.call (o_move _ rfl rfl) ?_
                refine AOps.call (o_move _ rfl rfl) ?_
                refine AOps.call (o_lit Tryz.underlying26 Tryz.sizeOf3 Tryz.zeroValue3 rfl rfl rfl rfl rfl rfl rfl) ?_
                refine AOps.cons (o_append _ _ Tryz.underlying26 info3 rfl rfl rfl rfl rfl rfl rfl rfl (fun c hc => by simp at hc; subst hc; rfl) ints_z (by
                    rw [ints_len]; simp only [List.length_cons, List.length_nil, Nat.zero_add]; unfold Tryz.t3; simp only []; omega) rfl (ints_snoc acc _) rfl) ?_
                refine AOps.call (o_assign _ rfl rfl) ?_
                refine AOps.nil ?_
                refine AWP.region ?_
                refine AOps.call (o_move _ rfl rfl) ?_
                refine AOps.call (o_add _ _ rfl rfl ⟨by (try dsimp only); omega, by (try dsimp only); omega⟩ rfl) ?_
                refine AOps.call (o_assign _ rfl rfl) ?_
                refine AOps.nil ?_
                refine ⟨(j + 1, _), ?_, (Weak.mk' rfl ⟨⟨.refl rfl, rfl⟩, ⟨⟨.refl rfl, rfl⟩, ⟨⟨.refl rfl, rfl⟩, ⟨⟨.refl rfl, rfl⟩, ⟨⟨.refl rfl, rfl⟩, ⟨⟨.refl rfl, rfl⟩, trivial⟩⟩⟩⟩⟩⟩ ⟨⟨rfl, rfl, rfl⟩, trivial⟩ ⟨⟨rfl, rfl⟩, trivial⟩)⟩
                refine ⟨⟨by omega, ?_⟩, by omega⟩
                rw [pickL_succ, ← hacc]
                cases hp : okC c l b a j with
                | true =>
                  first
                  | rfl
                  | (exfalso; rw [okC_at hlt] at hp; simp_all [difB, spn_dec]; done)
                  | (exfalso; rw [okC_at hlt] at hp; simp_all [difB, spn_dec]; omega)
                | false =>
                  first
                  | exact (List.append_nil _).symm
                  | (exfalso; rw [okC_at hlt] at hp; simp_all [difB, spn_dec]; done)
                  | (exfalso; rw [okC_at hlt] at hp; simp_all [difB, spn_dec]; omega)
          · skip
            have hkl : j = l.length := by simp [shts_len] at h29; omega
            refine AWP.exit ?_
            refine AWP.seq ?_
            refine AWP.region ?_
            refine AOps.call (o_move _ rfl rfl) ?_
            refine AOps.call (o_assign _ rfl rfl) ?_
            refine AOps.call (o_assign _ rfl rfl) ?_
            refine AOps.nil ?_
            refine AWP.ret ?_
            refine postQ.ret2 Tryz.results10 rfl rfl ?_
            first
            | (rw [if_neg hz, hE]; rfl)
            | (rw [if_pos hE]; unfold corL; rw [← hkl, ← hacc]; rfl)
      · skip
        refine AOps.pass rfl rfl rfl h19 rfl ?_
        refine AOps.pass rfl rfl rfl h19 rfl ?_
        refine AOps.call (o_pickT _ _ _ rfl h19 rfl rfl) ?_
        refine AOps.nil ?_
        refine AWP.condT rfl ?_
        have hE : corE c l b a = 1 := by
          unfold corE
          rw [if_pos hq0, if_pos hq, if_neg (by simp_all)]
        have hz : ¬ corE c l b a = 0 := by rw [hE]; decide
        refine AWP.seq ?_
        refine AWP.region ?_
        refine AOps.call (o_nil (z := 1) (e := 3) rfl) ?_
        refine AOps.call (o_assign _ rfl rfl) ?_
        refine AOps.nil ?_
        refine AWP.ret ?_
        refine postQ.ret2 Tryz.results10 rfl rfl ?_
        first
        | (rw [if_neg hz, hE]; rfl)
        | (rw [if_pos hE]; unfold corL; rw [← hkl, ← hacc]; rfl)

end Go.Proofs.YtphoomnonenalaaGreatDoor
