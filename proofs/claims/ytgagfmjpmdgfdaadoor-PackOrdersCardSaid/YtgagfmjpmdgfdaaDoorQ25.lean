import Derived.Test.YtgagfmjpmdgfdaaDoorQ24
set_option linter.unusedSimpArgs false
set_option linter.unusedVariables false
namespace Go.Proofs.YtgagfmjpmdgfdaaDoor
open Go.Ab

theorem thin_at {L P R : List Lay} {a b : Lay} {t : Nat} (e1 : L = P ++ a :: b :: R) (e2 : P.length = t) :
    (lays L)[((t : Nat) : Int).toNat]? = some (eL a) ∧ (lays L)[(((t : Nat) : Int) + 1).toNat]? = some (eL b) ∧ L.take t = P ∧ L.drop (t + 2) = R := by
  subst e1 e2
  refine ⟨?_, ?_, by simp, ?_⟩
  · rw [lays_at (by simp)]; simp
  · rw [show ((P.length : Nat) : Int) + 1 = ((P.length + 1 : Nat) : Int) by omega, lays_at (by simp)]; simp
  · rw [← List.drop_drop, List.drop_left]; rfl

set_option maxRecDepth 20000 in
theorem rjoin_s (a b : Lay) (ha : (0 ≤ a.ice ∧ a.ice ≤ 65536) ∧ (0 ≤ a.wet ∧ a.wet ≤ 65536) ∧ (0 ≤ a.cold ∧ a.cold ≤ 65536)) (hb : (0 ≤ b.ice ∧ b.ice ≤ 65536) ∧ (0 ≤ b.wet ∧ b.wet ≤ 65536) ∧ (0 ≤ b.cold ∧ b.cold ≤ 65536)) : FSpec Tryd.prog 85 [.agg (eL a), .agg (eL b)] (.agg (eL (joinF a b))) (none) := by
  refine FSpec.of_body Tryd.func85 rfl (leB rfl) fun w0 M0 => ?_
  refine AWP.seq ?_
  refine AWP.region ?_
  refine AOps.call (o_box _ rfl rfl rfl) ?_
  refine AOps.call (o_box _ rfl rfl rfl) ?_
  refine AOps.call (o_alloc ze28 rfl rfl) ?_
  refine AOps.nil ?_
  refine AWP.seq ?_
  refine AWP.region ?_
  refine AOps.call (o_fieldRef _ rfl fa28_0 rfl rfl) ?_
  refine AOps.call (o_loadRef _ rfl rfl Tryd.sizeOf3 Tryd.isAgg3 rfl rfl rfl) ?_
  refine AOps.call (o_fieldRef _ rfl fa28_0 rfl rfl) ?_
  refine AOps.call (o_loadRef _ rfl rfl Tryd.sizeOf3 Tryd.isAgg3 rfl rfl rfl) ?_
  refine AOps.call (o_add _ _ rfl rfl ⟨by (try dsimp only); omega, by (try dsimp only); omega⟩ rfl) ?_
  refine AOps.call (o_fieldRef _ rfl fa28_1 rfl rfl) ?_
  refine AOps.call (o_loadRef _ rfl rfl Tryd.sizeOf3 Tryd.isAgg3 rfl rfl rfl) ?_
  refine AOps.call (o_fieldRef _ rfl fa28_1 rfl rfl) ?_
  refine AOps.call (o_loadRef _ rfl rfl Tryd.sizeOf3 Tryd.isAgg3 rfl rfl rfl) ?_
  refine AOps.call (o_add _ _ rfl rfl ⟨by (try dsimp only); omega, by (try dsimp only); omega⟩ rfl) ?_
  refine AOps.call (o_fieldRef _ rfl fa28_2 rfl rfl) ?_
  refine AOps.call (o_loadRef _ rfl rfl Tryd.sizeOf3 Tryd.isAgg3 rfl rfl rfl) ?_
  refine AOps.call (o_fieldRef _ rfl fa28_2 rfl rfl) ?_
  refine AOps.call (o_loadRef _ rfl rfl Tryd.sizeOf3 Tryd.isAgg3 rfl rfl rfl) ?_
  refine AOps.call (o_add _ _ rfl rfl ⟨by (try dsimp only); omega, by (try dsimp only); omega⟩ rfl) ?_
  refine AOps.call (o_build bu28 rfl rfl rfl) ?_
  refine AOps.call (o_alloc ze28 rfl rfl) ?_
  refine AOps.cons (o_store _ _ rfl rfl Tryd.sizeOf28 rfl rfl rfl rfl rfl) ?_
  refine AOps.nil ?_
  refine AWP.seq ?_
  refine AWP.region ?_
  refine AOps.call (o_fieldRef _ rfl fa28_1 rfl rfl) ?_
  refine AOps.call (o_loadRef _ rfl rfl Tryd.sizeOf3 Tryd.isAgg3 rfl rfl rfl) ?_
  refine AOps.call (o_fieldRef _ rfl fa28_2 rfl rfl) ?_
  refine AOps.call (o_loadRef _ rfl rfl Tryd.sizeOf3 Tryd.isAgg3 rfl rfl rfl) ?_
  refine AOps.call (o_minZ _ _ rfl rfl rfl) ?_
  refine AOps.call (o_assign _ rfl rfl) ?_
  refine AOps.nil ?_
  refine AWP.seq ?_
  refine AWP.region ?_
  refine AOps.call (o_fieldRef _ rfl fa28_0 rfl rfl) ?_
  refine AOps.call (o_loadRef _ rfl rfl Tryd.sizeOf3 Tryd.isAgg3 rfl rfl rfl) ?_
  refine AOps.call (o_move _ rfl rfl) ?_
  refine AOps.call (o_add _ _ rfl rfl ⟨by (try dsimp only); omega, by (try dsimp only); omega⟩ rfl) ?_
  refine AOps.call (o_fieldRef _ rfl fa28_1 rfl rfl) ?_
  refine AOps.call (o_loadRef _ rfl rfl Tryd.sizeOf3 Tryd.isAgg3 rfl rfl rfl) ?_
  refine AOps.call (o_move _ rfl rfl) ?_
  refine AOps.call (o_sub _ _ rfl rfl ⟨by (try dsimp only); omega, by (try dsimp only); omega⟩ rfl) ?_
  refine AOps.call (o_fieldRef _ rfl fa28_2 rfl rfl) ?_
  refine AOps.call (o_loadRef _ rfl rfl Tryd.sizeOf3 Tryd.isAgg3 rfl rfl rfl) ?_
  refine AOps.call (o_move _ rfl rfl) ?_
  refine AOps.call (o_sub _ _ rfl rfl ⟨by (try dsimp only); omega, by (try dsimp only); omega⟩ rfl) ?_
  refine AOps.call (o_build bu28 rfl rfl rfl) ?_
  refine AOps.cons (o_store _ _ rfl rfl Tryd.sizeOf28 rfl rfl rfl rfl rfl) ?_
  refine AOps.nil ?_
  refine AWP.ret ?_
  exact postQ.retC Tryd.results85 rfl rfl Tryd.sizeOf28 Tryd.isAgg28 rfl rfl

set_option maxHeartbeats 4000000 in
set_option maxRecDepth 20000 in
theorem rJoined_s (p : List Lay) (n : Int) : FSpec Tryd.prog 53 [.agg (eK p), I n] (.tup [.agg (eK (joiM p n).1), I (joiM p n).2]) (none) := by
  refine FSpec.of_body Tryd.func53 rfl (leB rfl) fun w0 M0 => ?_
  have hpl := lays_len p
  refine AWP.seq ?_
  refine AWP.region ?_
  refine AOps.call (o_box _ rfl rfl rfl) ?_
  refine AOps.call (o_alloc ze24 rfl rfl) ?_
  refine AOps.call (o_assign _ rfl rfl) ?_
  refine AOps.nil ?_
  refine AWP.seq ?_
  refine AWP.region ?_
  refine AOps.call (o_loadRef _ rfl rfl Tryd.sizeOf24 Tryd.isAgg24 rfl rfl rfl) ?_
  refine AOps.call (o_call (rCheck_s _) Tryd.call27 rfl rfl) ?_
  refine AOps.call (o_assign _ rfl rfl) ?_
  refine AOps.nil ?_
  refine AWP.seq ?_
  refine AWP.seq ?_
  refine AWP.region ?_
  refine AOps.call (o_move _ rfl rfl) ?_
  refine AOps.call (o_bin _ _ rfl rfl (fun _ => rfl) rfl) ?_
  refine AOps.nil ?_
  refine AWP.cond _ rfl (fun h7 => ?_) (fun h7 => ?_)
  · skip
    have hp : ¬ packE p = 0 := by simpa using h7
    have hp20 := packE_20 hp
    have hE : (joiM p n) = ([], packE p) := by unfold joiM; rw [if_neg hp, hp20]
    refine AWP.seq ?_
    refine AWP.region ?_
    refine AOps.call (o_noPack rfl) ?_
    refine AOps.call (o_move _ rfl rfl) ?_
    refine AOps.cons (o_store _ _ rfl rfl Tryd.sizeOf24 rfl rfl rfl rfl rfl) ?_
    refine AOps.call (o_assign _ rfl rfl) ?_
    refine AOps.nil ?_
    refine AWP.ret ?_
    refine postQ.retC1 Tryd.results53 rfl rfl Tryd.sizeOf24 Tryd.isAgg24 rfl rfl ?_
    rw [hE]
    rfl
  · skip
    have hp : packE p = 0 := by simpa using h7
    have hpn := (packE_0.1 hp).1
    refine AWP.skip ?_
    refine AWP.seq ?_
    refine AWP.seq ?_
    refine AWP.region ?_
    refine AOps.call (o_move _ rfl rfl) ?_
    refine AOps.call (o_call (rwithin_s n 1 64) Tryd.call68 rfl rfl) ?_
    refine AOps.call (o_un _ rfl (fun _ => rfl) rfl) ?_
    refine AOps.nil ?_
    refine AWP.cond _ rfl (fun h12 => ?_) (fun h12 => ?_)
    · skip
      have hn : ¬ (1 ≤ n ∧ n ≤ 64) := by have hq := h12; simp [winB] at hq; omega
      have hE : (joiM p n) = ([], 1) := by unfold joiM; rw [if_pos hp, if_neg hn]
      refine AWP.seq ?_
      refine AWP.region ?_
      refine AOps.call (o_noPack rfl) ?_
      refine AOps.cons (o_store _ _ rfl rfl Tryd.sizeOf24 rfl rfl rfl rfl rfl) ?_
      refine AOps.call (o_assign _ rfl rfl) ?_
      refine AOps.nil ?_
      refine AWP.ret ?_
      refine postQ.retC1 Tryd.results53 rfl rfl Tryd.sizeOf24 Tryd.isAgg24 rfl rfl ?_
      rw [hE]
      rfl
    · skip
      have hn : 1 ≤ n ∧ n ≤ 64 := by have hq := h12; simp [winB] at hq; omega
      refine AWP.skip ?_
      refine AWP.seq ?_
      refine AWP.region ?_
      refine AOps.call (o_lit Tryd.underlying22 Tryd.sizeOf28 Tryd.zeroValue28 rfl rfl rfl rfl rfl rfl rfl) ?_
      refine AOps.call (o_fieldRef _ rfl fa24_0 rfl rfl) ?_
      refine AOps.call (o_loadRef _ rfl rfl Tryd.sizeOf22 Tryd.isAgg22 rfl rfl rfl) ?_
      refine AOps.cons (o_append _ _ Tryd.underlying22 info28 rfl rfl rfl rfl rfl rfl rfl rfl lays_z (fun c h => by cases h) (by unfold Tryd.t28; simp only [lays_len, List.length_append, List.length_cons, List.length_nil, List.length_take, List.length_drop]; omega) rfl (List.nil_append _) rfl) ?_
      refine AOps.call (o_assign _ rfl rfl) ?_
      refine AOps.nil ?_
      refine AWP.seq ?_
      refine AWP.block ?_
      refine AWP.loop (ι := List Lay) (fun i => AS.mk' 88 [(1, I n), (4, .ref (4, 0) 0), (7, .sl (lays i))] [((4, 0), [.sc (.slice none 0 0)])] [] [(4, 1)]) (fun i => i.length ≤ 64 ∧ joinOk i ∧ joinN p.length p n.toNat = joinN i.length i n.toNat) (fun i => i.length) (p) (Weak.mk' rfl ⟨⟨.refl rfl, rfl⟩, ⟨⟨.refl rfl, rfl⟩, ⟨⟨.sl rfl, rfl⟩, trivial⟩⟩⟩ ⟨⟨rfl, rfl, rfl⟩, trivial⟩ trivial) (⟨hpn, joinOk_of hp, rfl⟩) ?_
      rintro L ⟨hlen, hok, heq⟩
      try dsimp only at *
      refine AWP.seq ?_
      refine AWP.seq ?_
      refine AWP.region ?_
      refine AOps.call (o_move _ rfl rfl) ?_
      refine AOps.call (o_len _ Tryd.underlying22 rfl rfl) ?_
      refine AOps.call (o_move _ rfl rfl) ?_
      refine AOps.call (o_bin _ _ rfl rfl (fun _ => rfl) rfl) ?_
      refine AOps.nil ?_
      refine AWP.cond _ rfl (fun h22 => ?_) (fun h22 => ?_)
      · skip
        have hll := lays_len L
        have hgt : n < L.length := by have hq := of_decide_eq_true h22; omega
        have h2 : 2 ≤ L.length := by omega
        have hj1 := join1_ok hok h2
        have hbd := joinOk_bd hok
        have ht1 : thA L 1 = 0 := by simp [thA]
        refine AWP.skip ?_
        refine AWP.block ?_
        refine AWP.seq ?_
        refine AWP.region ?_
        refine AOps.call (o_assign _ rfl rfl) ?_
        refine AOps.nil ?_
        refine AWP.seq ?_
        refine AWP.seq ?_
        refine AWP.region ?_
        refine AOps.call (o_assign _ rfl rfl) ?_
        refine AOps.nil ?_
        refine AWP.block ?_
        refine AWP.loop (ι := Nat) (fun i => AS.mk' 88 [(1, I n), (4, .ref (4, 0) 0), (7, .sl (lays L)), (8, I (thA L i : Nat)), (9, I i)] [((4, 0), [.sc (.slice none 0 0)])] [] [(4, 1)]) (fun i => 1 ≤ i ∧ i ≤ L.length - 1) (fun i => L.length - i) (1) (Weak.mk' rfl ⟨⟨.refl rfl, rfl⟩, ⟨⟨.refl rfl, rfl⟩, ⟨⟨.refl rfl, rfl⟩, ⟨⟨.refl (by rw [ht1]; rfl), rfl⟩, ⟨⟨.refl rfl, rfl⟩, trivial⟩⟩⟩⟩⟩ ⟨⟨rfl, rfl, rfl⟩, trivial⟩ trivial) (⟨Nat.le_refl _, by omega⟩) ?_
        rintro k ⟨hk1, hk⟩
        try dsimp only at *
        refine AWP.seq ?_
        refine AWP.seq ?_
        refine AWP.region ?_
        refine AOps.call (o_move _ rfl rfl) ?_
        refine AOps.call (o_add _ _ rfl rfl ⟨by (try dsimp only); omega, by (try dsimp only); omega⟩ rfl) ?_
        refine AOps.call (o_move _ rfl rfl) ?_
        refine AOps.call (o_len _ Tryd.underlying22 rfl rfl) ?_
        refine AOps.call (o_bin _ _ rfl rfl (fun _ => rfl) rfl) ?_
        refine AOps.nil ?_
        refine AWP.cond _ rfl (fun h29 => ?_) (fun h29 => ?_)
        · skip
          have hlt : k + 1 < L.length := by have hq := of_decide_eq_true h29; omega
          have htl := thA_lt L k (by omega)
          have e1 := lays_at (show k < L.length by omega)
          have e2 : (lays L)[(((k : Nat) : Int) + 1).toNat]? = some (eL L[k + 1]) := by rw [show ((k : Nat) : Int) + 1 = ((k + 1 : Nat) : Int) by omega]; exact lays_at hlt
          have e3 := lays_at (show (thA L k) < L.length by omega)
          have e4 : (lays L)[((((thA L k) : Nat)) : Int).toNat + 1]? = some (eL L[(thA L k) + 1]) := by have := lays_at (l := L) (k := (thA L k) + 1) (by omega); simpa using this
          have e4 : (lays L)[(((((thA L k) : Nat)) : Int) + 1).toNat]? = some (eL L[(thA L k) + 1]) := by rw [show (((thA L k) : Nat) : Int) + 1 = (((thA L k) + 1 : Nat) : Int) by omega]; exact lays_at (by omega)
          have g1 := (hbd _ (List.getElem_mem (show k < L.length by omega))).1
          have g2 := (hbd _ (List.getElem_mem hlt)).1
          have g3 := (hbd _ (List.getElem_mem (show (thA L k) < L.length by omega))).1
          have g4 := (hbd _ (List.getElem_mem (show (thA L k) + 1 < L.length by omega))).1
          have hgd : ∀ (j : Nat) (h : j < L.length), L.getD j zLay = L[j] := fun j h => by simp [h]
          have hs1 : sumI L k = L[k].ice + L[k + 1].ice := by unfold sumI; rw [hgd k (by omega), hgd (k + 1) hlt]
          have hs2 : sumI L (thA L k) = L[(thA L k)].ice + L[(thA L k) + 1].ice := by unfold sumI; rw [hgd _ (show (thA L k) < L.length by omega), hgd _ (show (thA L k) + 1 < L.length by omega)]
          refine AWP.skip ?_
          refine AWP.seq ?_
          refine AWP.block ?_
          refine AWP.seq ?_
          refine AWP.drawn 25 mixed (by kernel_rfl) ?_
          refine AHead.call (o_move _ rfl rfl) rfl ?_
          refine AHead.call (o_move _ rfl rfl) rfl ?_
          refine AHead.call (o_index _ _ Tryd.underlying22 Tryd.sizeOf28 rfl rfl (by omega) e1 rfl rfl) rfl ?_
          refine AHead.call (o_fieldRd _ rfl fa28_0 rfl) rfl ?_
          refine AHead.call (o_loadRd _ rfl Tryd.sizeOf3 Tryd.isAgg3 rfl rfl rfl) rfl ?_
          refine AHead.call (o_move _ rfl rfl) rfl ?_
          refine AHead.call (o_move _ rfl rfl) rfl ?_
          refine AHead.call (o_add _ _ rfl rfl ⟨by (try dsimp only); omega, by (try dsimp only); omega⟩ rfl) rfl ?_
          refine AHead.call (o_index _ _ Tryd.underlying22 Tryd.sizeOf28 rfl rfl (by omega) e2 rfl rfl) rfl ?_
          refine AHead.call (o_fieldRd _ rfl fa28_0 rfl) rfl ?_
          refine AHead.call (o_loadRd _ rfl Tryd.sizeOf3 Tryd.isAgg3 rfl rfl rfl) rfl ?_
          refine AHead.call (o_add _ _ rfl rfl ⟨by (try dsimp only); omega, by (try dsimp only); omega⟩ rfl) rfl ?_
          refine AHead.call (o_move _ rfl rfl) rfl ?_
          refine AHead.call (o_move _ rfl rfl) rfl ?_
          refine AHead.call (o_index _ _ Tryd.underlying22 Tryd.sizeOf28 rfl rfl (by omega) e3 rfl rfl) rfl ?_
          refine AHead.call (o_fieldRd _ rfl fa28_0 rfl) rfl ?_
          refine AHead.call (o_loadRd _ rfl Tryd.sizeOf3 Tryd.isAgg3 rfl rfl rfl) rfl ?_
          refine AHead.call (o_move _ rfl rfl) rfl ?_
          refine AHead.call (o_move _ rfl rfl) rfl ?_
          refine AHead.call (o_add _ _ rfl rfl ⟨by (try dsimp only); omega, by (try dsimp only); omega⟩ rfl) rfl ?_
          refine AHead.call (o_index _ _ Tryd.underlying22 Tryd.sizeOf28 rfl rfl (by omega) e4 rfl rfl) rfl ?_
          refine AHead.call (o_fieldRd _ rfl fa28_0 rfl) rfl ?_
          refine AHead.call (o_loadRd _ rfl Tryd.sizeOf3 Tryd.isAgg3 rfl rfl rfl) rfl ?_
          refine AHead.call (o_add _ _ rfl rfl ⟨by (try dsimp only); omega, by (try dsimp only); omega⟩ rfl) rfl ?_
          refine AHead.call (o_bin _ _ rfl rfl (fun _ => rfl) rfl) rfl ?_
          refine AHead.nil ?_
          refine AOps.nil ?_
          refine AWP.cond _ rfl (fun h51 => ?_) (fun h51 => ?_)
          · skip
            have hnx : thA L (k + 1) = k := by rw [thA, if_pos (by rw [hs1, hs2]; exact of_decide_eq_true h51)]
            refine AWP.region ?_
            refine AOps.call (o_move _ rfl rfl) ?_
            refine AOps.call (o_assign _ rfl rfl) ?_
            refine AOps.nil ?_
            refine AWP.region ?_
            refine AOps.call (o_move _ rfl rfl) ?_
            refine AOps.call (o_add _ _ rfl rfl ⟨by (try dsimp only); omega, by (try dsimp only); omega⟩ rfl) ?_
            refine AOps.call (o_assign _ rfl rfl) ?_
            refine AOps.nil ?_
            refine ⟨k + 1, ?_, (Weak.mk' rfl ⟨⟨.refl rfl, rfl⟩, ⟨⟨.refl rfl, rfl⟩, ⟨⟨.refl rfl, rfl⟩, ⟨⟨.refl (by rw [hnx]; rfl), rfl⟩, ⟨⟨.refl rfl, rfl⟩, trivial⟩⟩⟩⟩⟩ ⟨⟨rfl, rfl, rfl⟩, trivial⟩ trivial)⟩
            exact ⟨⟨by omega, by omega⟩, by omega⟩
          · skip
            have hnx : thA L (k + 1) = (thA L k) := by rw [thA, if_neg (by rw [hs1, hs2]; exact of_decide_eq_false h51)]
            refine AWP.skip ?_
            refine AWP.region ?_
            refine AOps.call (o_move _ rfl rfl) ?_
            refine AOps.call (o_add _ _ rfl rfl ⟨by (try dsimp only); omega, by (try dsimp only); omega⟩ rfl) ?_
            refine AOps.call (o_assign _ rfl rfl) ?_
            refine AOps.nil ?_
            refine ⟨k + 1, ?_, (Weak.mk' rfl ⟨⟨.refl rfl, rfl⟩, ⟨⟨.refl rfl, rfl⟩, ⟨⟨.refl rfl, rfl⟩, ⟨⟨.refl (by rw [hnx]; rfl), rfl⟩, ⟨⟨.refl rfl, rfl⟩, trivial⟩⟩⟩⟩⟩ ⟨⟨rfl, rfl, rfl⟩, trivial⟩ trivial)⟩
            exact ⟨⟨by omega, by omega⟩, by omega⟩
        · skip
          have hkl : k = L.length - 1 := by have hq := of_decide_eq_false h29; omega
          subst hkl
          have htl := thA_lt L (L.length - 1) (by omega)
          have hth : thA L (L.length - 1) = thin L := rfl
          rw [hth] at htl ⊢
          obtain ⟨P_, a, b, R_, e1, e2, e3⟩ := thin_split h2
          have hma : a ∈ L := by rw [e1]; simp
          have hmb : b ∈ L := by rw [e1]; simp
          obtain ⟨f1, f2, f3, f4⟩ := thin_at e1 e2
          have hJ : lays (L.take (thin L)) ++ [eL (joinF a b)] ++ lays (L.drop ((thin L) + 2)) = lays (join1 L) := by rw [f3, f4, e3]; simp [lays]
          refine AWP.exit ?_
          refine AWP.seq ?_
          refine AWP.region ?_
          refine AOps.call (o_lit Tryd.underlying22 Tryd.sizeOf28 Tryd.zeroValue28 rfl rfl rfl rfl rfl rfl rfl) ?_
          refine AOps.call (o_move _ rfl rfl) ?_
          refine AOps.call (o_move _ rfl rfl) ?_
          refine AOps.call (o_sliceE (l := 0) (hh := (thin L)) (rs := lays (L.take (thin L))) _ _ _ Tryd.underlying22 Tryd.sizeOf28 rfl rfl (boundA_some rfl (by omega) (by omega)) (by omega) (by omega) lays_z (by unfold lays; rw [List.drop_zero, Nat.sub_zero, List.map_take]) rfl) ?_
          refine AOps.cons (o_append _ _ Tryd.underlying22 info28 rfl rfl rfl rfl rfl rfl rfl rfl lays_z (fun c h => by cases h) (by unfold Tryd.t28; simp only [lays_len, List.length_append, List.length_cons, List.length_nil, List.length_take, List.length_drop]; omega) rfl (List.nil_append _) rfl) ?_
          refine AOps.call (o_assign _ rfl rfl) ?_
          refine AOps.nil ?_
          refine AWP.seq ?_
          refine AWP.drawn 12 mixed (by kernel_rfl) ?_
          refine AHead.call (o_move _ rfl rfl) rfl ?_
          refine AHead.call (o_move _ rfl rfl) rfl ?_
          refine AHead.call (o_move _ rfl rfl) rfl ?_
          refine AHead.call (o_index _ _ Tryd.underlying22 Tryd.sizeOf28 rfl rfl (by omega) f1 rfl rfl) rfl ?_
          refine AHead.call (o_loadRd _ rfl Tryd.sizeOf28 Tryd.isAgg28 rfl rfl rfl) rfl ?_
          refine AHead.call (o_move _ rfl rfl) rfl ?_
          refine AHead.call (o_move _ rfl rfl) rfl ?_
          refine AHead.call (o_add _ _ rfl rfl ⟨by (try dsimp only); omega, by (try dsimp only); omega⟩ rfl) rfl ?_
          refine AHead.call (o_index _ _ Tryd.underlying22 Tryd.sizeOf28 rfl rfl (by omega) f2 rfl rfl) rfl ?_
          refine AHead.call (o_loadRd _ rfl Tryd.sizeOf28 Tryd.isAgg28 rfl rfl rfl) rfl ?_
          refine AHead.call (o_call (rjoin_s a b (hbd a hma) (hbd b hmb)) Tryd.call85 rfl rfl) rfl ?_
          refine AHead.call (o_lit Tryd.underlying22 Tryd.sizeOf28 Tryd.zeroValue28 rfl rfl rfl rfl rfl rfl rfl) rfl ?_
          refine AHead.nil ?_
          refine AOps.cons (o_append _ _ Tryd.underlying22 info28 rfl rfl rfl rfl rfl rfl rfl rfl (fun c h => by simp at h; subst h; rfl) lays_z (by unfold Tryd.t28; simp only [lays_len, List.length_append, List.length_cons, List.length_nil, List.length_take, List.length_drop]; omega) rfl rfl rfl) ?_
          refine AOps.call (o_assign _ rfl rfl) ?_
          refine AOps.nil ?_
          refine AWP.region ?_
          refine AOps.call (o_move _ rfl rfl) ?_
          refine AOps.call (o_move _ rfl rfl) ?_
          refine AOps.call (o_move _ rfl rfl) ?_
          refine AOps.call (o_add _ _ rfl rfl ⟨by (try dsimp only); omega, by (try dsimp only); omega⟩ rfl) ?_
          refine AOps.call (o_sliceE (l := (thin L) + 2) (hh := (lays L).length) (rs := lays (L.drop ((thin L) + 2))) _ _ _ Tryd.underlying22 Tryd.sizeOf28 rfl (boundA_some rfl (by omega) (by omega)) rfl (by omega) (by omega) lays_z (by unfold lays; rw [← List.map_drop, List.take_of_length_le (by simp)]) rfl) ?_
          refine AOps.cons (o_append _ _ Tryd.underlying22 info28 rfl rfl rfl rfl rfl rfl rfl rfl lays_z (fun c h => by rcases List.mem_append.1 h with h | h; exact lays_z c h; simp at h; subst h; rfl) (by unfold Tryd.t28; simp only [lays_len, List.length_append, List.length_cons, List.length_nil, List.length_take, List.length_drop]; omega) rfl hJ rfl) ?_
          refine AOps.call (o_assign _ rfl rfl) ?_
          refine AOps.nil ?_
          refine ⟨join1 L, ?_, (Weak.mk' rfl ⟨⟨.refl rfl, rfl⟩, ⟨⟨.refl rfl, rfl⟩, ⟨⟨.sl rfl, rfl⟩, trivial⟩⟩⟩ ⟨⟨rfl, rfl, rfl⟩, trivial⟩ trivial)⟩
          exact ⟨⟨by omega, hj1.1, by rw [heq, joinN_go (by omega) h2 hj1.2.1]⟩, by omega⟩
      · skip
        have hll := lays_len L
        have hle : ¬ n.toNat < L.length := by have hq := of_decide_eq_false h22; omega
        have hE : (joiM p n) = (L, 0) := by unfold joiM; rw [if_pos hp, if_pos hn, heq, joinN_end hle]
        refine AWP.exit ?_
        refine AWP.seq ?_
        refine AWP.region ?_
        refine AOps.call (o_move _ rfl rfl) ?_
        refine AOps.call (o_build bu24 rfl rfl rfl) ?_
        refine AOps.cons (o_store _ _ rfl rfl Tryd.sizeOf24 rfl rfl rfl rfl rfl) ?_
        refine AOps.call (o_assign _ rfl rfl) ?_
        refine AOps.nil ?_
        refine AWP.ret ?_
        refine postQ.retC1 Tryd.results53 rfl rfl Tryd.sizeOf24 Tryd.isAgg24 rfl rfl ?_
        rw [hE]
        rfl

set_option maxRecDepth 20000 in
theorem rLess_s (p q : List Lay) : FSpec Tryd.prog 51 [.agg (eK p), .agg (eK q)] (.tup [B (lesM p q).1, I (lesM p q).2]) (none) := by
  refine FSpec.of_body Tryd.func51 rfl (leB rfl) fun w0 M0 => ?_
  have hpl := lays_len p
  have hql := lays_len q
  refine AWP.seq ?_
  refine AWP.region ?_
  refine AOps.call (o_box _ rfl rfl rfl) ?_
  refine AOps.call (o_box _ rfl rfl rfl) ?_
  refine AOps.call (o_assign _ rfl rfl) ?_
  refine AOps.call (o_assign _ rfl rfl) ?_
  refine AOps.nil ?_
  refine AWP.seq ?_
  refine AWP.seq ?_
  refine AWP.region ?_
  refine AOps.call (o_loadRef _ rfl rfl Tryd.sizeOf24 Tryd.isAgg24 rfl rfl rfl) ?_
  refine AOps.call (o_call (rCheck_s p) Tryd.call27 rfl rfl) ?_
  refine AOps.call (o_bin _ _ rfl rfl (fun _ => rfl) rfl) ?_
  refine AOps.call (o_move _ rfl rfl) ?_
  refine AOps.split rfl rfl rfl (fun h7 => ?_) (fun h7 => ?_)
  · skip
    have hp : packE p = 0 := by simpa using h7
    refine AOps.go rfl rfl rfl h7 (o_loadRef _ rfl rfl Tryd.sizeOf24 Tryd.isAgg24 rfl rfl rfl) ?_
    refine AOps.go rfl rfl rfl h7 (o_call (rCheck_s q) Tryd.call27 rfl rfl) ?_
    refine AOps.go rfl rfl rfl h7 (o_bin _ _ rfl rfl (fun _ => rfl) rfl) ?_
    refine AOps.call (o_pickF _ _ _ rfl h7 rfl rfl) ?_
    refine AOps.nil ?_
    refine AWP.cond _ rfl (fun h11 => ?_) (fun h11 => ?_)
    · skip
      have hq_ : ¬ packE q = 0 := by simpa using h11
      have hE : (lesM p q) = (false, 20) := by unfold lesM; rw [if_neg (fun h => hq_ h.2)]
      refine AWP.seq ?_
      refine AWP.region ?_
      refine AOps.call (o_assign _ rfl rfl) ?_
      refine AOps.call (o_assign _ rfl rfl) ?_
      refine AOps.nil ?_
      refine AWP.ret ?_
      refine postQ.ret2 Tryd.results51 rfl rfl ?_
      rw [hE]
      rfl
    · skip
      have hq_ : packE q = 0 := by simpa using h11
      have hpn := (packE_0.1 hp).1
      have hqn := (packE_0.1 hq_).1
      have hE0 : (lesM p q) = (lessB p q, 0) := by unfold lesM; rw [if_pos ⟨hp, hq_⟩]
      refine AWP.skip ?_
      refine AWP.seq ?_
      refine AWP.region ?_
      refine AOps.call (o_fieldRef _ rfl fa24_0 rfl rfl) ?_
      refine AOps.call (o_loadRef _ rfl rfl Tryd.sizeOf22 Tryd.isAgg22 rfl rfl rfl) ?_
      refine AOps.call (o_len _ Tryd.underlying22 rfl rfl) ?_
      refine AOps.call (o_fieldRef _ rfl fa24_0 rfl rfl) ?_
      refine AOps.call (o_loadRef _ rfl rfl Tryd.sizeOf22 Tryd.isAgg22 rfl rfl rfl) ?_
      refine AOps.call (o_len _ Tryd.underlying22 rfl rfl) ?_
      refine AOps.call (o_sub _ _ rfl rfl ⟨by (try dsimp only); omega, by (try dsimp only); omega⟩ rfl) ?_
      refine AOps.call (o_assign _ rfl rfl) ?_
      refine AOps.nil ?_
      refine AWP.seq ?_
      refine AWP.seq ?_
      refine AWP.region ?_
      refine AOps.call (o_move _ rfl rfl) ?_
      refine AOps.call (o_bin _ _ rfl rfl (fun _ => rfl) rfl) ?_
      refine AOps.nil ?_
      refine AWP.cond _ rfl (fun h21 => ?_) (fun h21 => ?_)
      · skip
        have hE : (lesM p q) = (false, 0) := by rw [hE0, lessB_short (by have hq := of_decide_eq_true h21; omega)]
        refine AWP.seq ?_
        refine AWP.region ?_
        refine AOps.call (o_assign _ rfl rfl) ?_
        refine AOps.call (o_assign _ rfl rfl) ?_
        refine AOps.nil ?_
        refine AWP.ret ?_
        refine postQ.ret2 Tryd.results51 rfl rfl ?_
        rw [hE]
        rfl
      · skip
        have hle0 : p.length ≤ q.length := by have hq := of_decide_eq_false h21; omega
        refine AWP.skip ?_
        refine AWP.seq ?_
        refine AWP.seq ?_
        refine AWP.region ?_
        refine AOps.call (o_assign _ rfl rfl) ?_
        refine AOps.nil ?_
        refine AWP.block ?_
        refine AWP.loop (ι := Nat) (fun i => AS.mk' 65 [(2, .ref (2, 0) 0), (3, .ref (3, 0) 0), (6, I ((q.length : Int) - p.length)), (7, I i)] [((2, 0), eK p), ((3, 0), eK q)] [] [(2, 1), (3, 1)]) (fun i => i ≤ p.length ∧ ∀ (j : Nat) (h1 : j < p.length) (h2 : q.length - p.length + j < q.length), j < i → leL p[j] q[q.length - p.length + j] = true) (fun i => p.length - i) (0) (Weak.mk' rfl ⟨⟨.refl rfl, rfl⟩, ⟨⟨.refl rfl, rfl⟩, ⟨⟨.refl (by rw [hpl, hql]; rfl), rfl⟩, ⟨⟨.refl rfl, rfl⟩, trivial⟩⟩⟩⟩ ⟨⟨rfl, rfl, rfl⟩, ⟨⟨rfl, rfl, rfl⟩, trivial⟩⟩ trivial) (⟨Nat.zero_le _, fun _ _ _ h => absurd h (Nat.not_lt_zero _)⟩) ?_
        rintro k ⟨hk, hv⟩
        try dsimp only at *
        refine AWP.seq ?_
        refine AWP.seq ?_
        refine AWP.region ?_
        refine AOps.call (o_move _ rfl rfl) ?_
        refine AOps.call (o_fieldRef _ rfl fa24_0 rfl rfl) ?_
        refine AOps.call (o_loadRef _ rfl rfl Tryd.sizeOf22 Tryd.isAgg22 rfl rfl rfl) ?_
        refine AOps.call (o_len _ Tryd.underlying22 rfl rfl) ?_
        refine AOps.call (o_bin _ _ rfl rfl (fun _ => rfl) rfl) ?_
        refine AOps.nil ?_
        refine AWP.cond _ rfl (fun h28 => ?_) (fun h28 => ?_)
        · skip
          have hlt : k < p.length := by have hq := of_decide_eq_true h28; omega
          have hel := lays_at hlt
          have hl2 : q.length - p.length + k < q.length := by omega
          have hel2 : (lays q)[(((q.length : Int) - p.length) + (k : Nat)).toNat]? = some (eL q[q.length - p.length + k]) := by rw [show (((q.length : Int) - p.length) + (k : Nat)).toNat = (((q.length - p.length + k : Nat)) : Int).toNat by omega]; exact lays_at hl2
          refine AWP.skip ?_
          refine AWP.seq ?_
          refine AWP.block ?_
          refine AWP.seq ?_
          refine AWP.region ?_
          refine AOps.call (o_fieldRef _ rfl fa24_0 rfl rfl) ?_
          refine AOps.call (o_loadRef _ rfl rfl Tryd.sizeOf22 Tryd.isAgg22 rfl rfl rfl) ?_
          refine AOps.call (o_move _ rfl rfl) ?_
          refine AOps.call (o_index _ _ Tryd.underlying22 Tryd.sizeOf28 rfl rfl (by omega) hel rfl rfl) ?_
          refine AOps.call (o_loadRd _ rfl Tryd.sizeOf28 Tryd.isAgg28 rfl rfl rfl) ?_
          refine AOps.call (o_alloc ze28 rfl rfl) ?_
          refine AOps.cons (o_store _ _ rfl rfl Tryd.sizeOf28 rfl rfl rfl rfl rfl) ?_
          refine AOps.nil ?_
          refine AWP.seq ?_
          refine AWP.region ?_
          refine AOps.call (o_fieldRef _ rfl fa24_0 rfl rfl) ?_
          refine AOps.call (o_loadRef _ rfl rfl Tryd.sizeOf22 Tryd.isAgg22 rfl rfl rfl) ?_
          refine AOps.call (o_move _ rfl rfl) ?_
          refine AOps.call (o_move _ rfl rfl) ?_
          refine AOps.call (o_add _ _ rfl rfl ⟨by (try dsimp only); omega, by (try dsimp only); omega⟩ rfl) ?_
          refine AOps.call (o_index _ _ Tryd.underlying22 Tryd.sizeOf28 rfl rfl (by omega) hel2 rfl rfl) ?_
          refine AOps.call (o_loadRd _ rfl Tryd.sizeOf28 Tryd.isAgg28 rfl rfl rfl) ?_
          refine AOps.call (o_alloc ze28 rfl rfl) ?_
          refine AOps.cons (o_store _ _ rfl rfl Tryd.sizeOf28 rfl rfl rfl rfl rfl) ?_
          refine AOps.nil ?_
          refine AWP.seq ?_
          refine AWP.region ?_
          refine AOps.call (o_fieldRef _ rfl fa28_0 rfl rfl) ?_
          refine AOps.call (o_loadRef _ rfl rfl Tryd.sizeOf3 Tryd.isAgg3 rfl rfl rfl) ?_
          refine AOps.call (o_fieldRef _ rfl fa28_0 rfl rfl) ?_
          refine AOps.call (o_loadRef _ rfl rfl Tryd.sizeOf3 Tryd.isAgg3 rfl rfl rfl) ?_
          refine AOps.call (o_bin _ _ rfl rfl (fun _ => rfl) rfl) ?_
          refine AOps.call (o_move _ rfl rfl) ?_
          refine AOps.split rfl rfl rfl (fun h45 => ?_) (fun h45 => ?_)
          · skip
            have c1 := of_decide_eq_false h45
            refine AOps.go rfl rfl rfl h45 (o_fieldRef _ rfl fa28_1 rfl rfl) ?_
            refine AOps.go rfl rfl rfl h45 (o_loadRef _ rfl rfl Tryd.sizeOf3 Tryd.isAgg3 rfl rfl rfl) ?_
            refine AOps.go rfl rfl rfl h45 (o_fieldRef _ rfl fa28_1 rfl rfl) ?_
            refine AOps.go rfl rfl rfl h45 (o_loadRef _ rfl rfl Tryd.sizeOf3 Tryd.isAgg3 rfl rfl rfl) ?_
            refine AOps.go rfl rfl rfl h45 (o_bin _ _ rfl rfl (fun _ => rfl) rfl) ?_
            refine AOps.call (o_pickF _ _ _ rfl h45 rfl rfl) ?_
            refine AOps.call (o_move _ rfl rfl) ?_
            refine AOps.split rfl rfl rfl (fun h51 => ?_) (fun h51 => ?_)
            · skip
              have c2 := of_decide_eq_false h51
              refine AOps.go rfl rfl rfl h51 (o_fieldRef _ rfl fa28_2 rfl rfl) ?_
              refine AOps.go rfl rfl rfl h51 (o_loadRef _ rfl rfl Tryd.sizeOf3 Tryd.isAgg3 rfl rfl rfl) ?_
              refine AOps.go rfl rfl rfl h51 (o_fieldRef _ rfl fa28_2 rfl rfl) ?_
              refine AOps.go rfl rfl rfl h51 (o_loadRef _ rfl rfl Tryd.sizeOf3 Tryd.isAgg3 rfl rfl rfl) ?_
              refine AOps.go rfl rfl rfl h51 (o_bin _ _ rfl rfl (fun _ => rfl) rfl) ?_
              refine AOps.call (o_pickF _ _ _ rfl h51 rfl rfl) ?_
              refine AOps.nil ?_
              refine AWP.cond _ rfl (fun h57 => ?_) (fun h57 => ?_)
              · skip
                have hE : (lesM p q) = (false, 0) := by rw [hE0, lessB_no hlt hl2 (leL_ff (by have hq := of_decide_eq_true h57; omega))]
                refine AWP.seq ?_
                refine AWP.region ?_
                refine AOps.call (o_assign _ rfl rfl) ?_
                refine AOps.call (o_assign _ rfl rfl) ?_
                refine AOps.nil ?_
                refine AWP.ret ?_
                refine postQ.ret2 Tryd.results51 rfl rfl ?_
                rw [hE]
                rfl
              · skip
                have c3 := of_decide_eq_false h57
                have hle : leL p[k] q[q.length - p.length + k] = true := leL_iff.2 ⟨by omega, by omega, by omega⟩
                refine AWP.skip ?_
                refine AWP.region ?_
                refine AOps.call (o_move _ rfl rfl) ?_
                refine AOps.call (o_add _ _ rfl rfl ⟨by (try dsimp only); omega, by (try dsimp only); omega⟩ rfl) ?_
                refine AOps.call (o_assign _ rfl rfl) ?_
                refine AOps.nil ?_
                refine ⟨k + 1, ?_, (Weak.mk' rfl ⟨⟨.refl rfl, rfl⟩, ⟨⟨.refl rfl, rfl⟩, ⟨⟨.refl rfl, rfl⟩, ⟨⟨.refl rfl, rfl⟩, trivial⟩⟩⟩⟩ ⟨⟨rfl, rfl, rfl⟩, ⟨⟨rfl, rfl, rfl⟩, trivial⟩⟩ trivial)⟩
                exact ⟨⟨by omega, fun j h1 h2 hjk => by
                  by_cases h : j < k
                  · exact hv j h1 h2 h
                  · obtain rfl : j = k := by omega
                    exact hle⟩, by omega⟩
            · skip
              have hE : (lesM p q) = (false, 0) := by rw [hE0, lessB_no hlt hl2 (leL_ff (by have hq := of_decide_eq_true h51; omega))]
              refine AOps.pass rfl rfl rfl h51 rfl ?_
              refine AOps.pass rfl rfl rfl h51 rfl ?_
              refine AOps.pass rfl rfl rfl h51 rfl ?_
              refine AOps.pass rfl rfl rfl h51 rfl ?_
              refine AOps.pass rfl rfl rfl h51 rfl ?_
              refine AOps.call (o_pickT _ _ _ rfl h51 rfl rfl) ?_
              refine AOps.nil ?_
              refine AWP.condT rfl ?_
              refine AWP.seq ?_
              refine AWP.region ?_
              refine AOps.call (o_assign _ rfl rfl) ?_
              refine AOps.call (o_assign _ rfl rfl) ?_
              refine AOps.nil ?_
              refine AWP.ret ?_
              refine postQ.ret2 Tryd.results51 rfl rfl ?_
              rw [hE]
              rfl
          · skip
            have hE : (lesM p q) = (false, 0) := by rw [hE0, lessB_no hlt hl2 (leL_ff (by have hq := of_decide_eq_true h45; omega))]
            refine AOps.pass rfl rfl rfl h45 rfl ?_
            refine AOps.pass rfl rfl rfl h45 rfl ?_
            refine AOps.pass rfl rfl rfl h45 rfl ?_
            refine AOps.pass rfl rfl rfl h45 rfl ?_
            refine AOps.pass rfl rfl rfl h45 rfl ?_
            refine AOps.call (o_pickT _ _ _ rfl h45 rfl rfl) ?_
            refine AOps.call (o_move _ rfl rfl) ?_
            refine AOps.pass rfl rfl rfl rfl rfl ?_
            refine AOps.pass rfl rfl rfl rfl rfl ?_
            refine AOps.pass rfl rfl rfl rfl rfl ?_
            refine AOps.pass rfl rfl rfl rfl rfl ?_
            refine AOps.pass rfl rfl rfl rfl rfl ?_
            refine AOps.call (o_pickT _ _ _ rfl rfl rfl rfl) ?_
            refine AOps.nil ?_
            refine AWP.condT rfl ?_
            refine AWP.seq ?_
            refine AWP.region ?_
            refine AOps.call (o_assign _ rfl rfl) ?_
            refine AOps.call (o_assign _ rfl rfl) ?_
            refine AOps.nil ?_
            refine AWP.ret ?_
            refine postQ.ret2 Tryd.results51 rfl rfl ?_
            rw [hE]
            rfl
        · skip
          have hE : (lesM p q) = (true, 0) := by rw [hE0, lessB_yes hle0 (fun j h1 h2 => hv j h1 h2 (by have hq := of_decide_eq_false h28; omega))]
          refine AWP.exit ?_
          refine AWP.seq ?_
          refine AWP.region ?_
          refine AOps.call (o_assign _ rfl rfl) ?_
          refine AOps.call (o_assign _ rfl rfl) ?_
          refine AOps.nil ?_
          refine AWP.ret ?_
          refine postQ.ret2 Tryd.results51 rfl rfl ?_
          rw [hE]
          rfl
  · skip
    have hp : ¬ packE p = 0 := by simpa using h7
    have hE : (lesM p q) = (false, 20) := by unfold lesM; rw [if_neg (fun h => hp h.1)]
    refine AOps.pass rfl rfl rfl h7 rfl ?_
    refine AOps.pass rfl rfl rfl h7 rfl ?_
    refine AOps.pass rfl rfl rfl h7 rfl ?_
    refine AOps.call (o_pickT _ _ _ rfl h7 rfl rfl) ?_
    refine AOps.nil ?_
    refine AWP.condT rfl ?_
    refine AWP.seq ?_
    refine AWP.region ?_
    refine AOps.call (o_assign _ rfl rfl) ?_
    refine AOps.call (o_assign _ rfl rfl) ?_
    refine AOps.nil ?_
    refine AWP.ret ?_
    refine postQ.ret2 Tryd.results51 rfl rfl ?_
    rw [hE]
    rfl

set_option maxRecDepth 20000 in
theorem rDrift_s (p q : List Lay) (m : Int) : FSpec Tryd.prog 55 [.agg (eK p), .agg (eK q), I m] (.tup [.agg (eK (drfM p q m).1), .agg (eK (drfM p q m).2.1), I (drfM p q m).2.2]) (none) := by
  refine FSpec.of_body Tryd.func55 rfl (leB rfl) fun w0 M0 => ?_
  refine AWP.seq ?_
  refine AWP.region ?_
  refine AOps.call (o_box _ rfl rfl rfl) ?_
  refine AOps.call (o_box _ rfl rfl rfl) ?_
  refine AOps.call (o_alloc ze24 rfl rfl) ?_
  refine AOps.call (o_alloc ze24 rfl rfl) ?_
  refine AOps.call (o_assign _ rfl rfl) ?_
  refine AOps.nil ?_
  refine AWP.seq ?_
  refine AWP.seq ?_
  refine AWP.region ?_
  refine AOps.call (o_loadRef _ rfl rfl Tryd.sizeOf24 Tryd.isAgg24 rfl rfl rfl) ?_
  refine AOps.call (o_call (rCheck_s p) Tryd.call27 rfl rfl) ?_
  refine AOps.call (o_bin _ _ rfl rfl (fun _ => rfl) rfl) ?_
  refine AOps.call (o_move _ rfl rfl) ?_
  refine AOps.split rfl rfl rfl (fun h9 => ?_) (fun h9 => ?_)
  · skip
    have hp : packE p = 0 := by simpa using h9
    refine AOps.go rfl rfl rfl h9 (o_loadRef _ rfl rfl Tryd.sizeOf24 Tryd.isAgg24 rfl rfl rfl) ?_
    refine AOps.go rfl rfl rfl h9 (o_call (rCheck_s q) Tryd.call27 rfl rfl) ?_
    refine AOps.go rfl rfl rfl h9 (o_bin _ _ rfl rfl (fun _ => rfl) rfl) ?_
    refine AOps.call (o_pickF _ _ _ rfl h9 rfl rfl) ?_
    refine AOps.nil ?_
    refine AWP.cond _ rfl (fun h13 => ?_) (fun h13 => ?_)
    · skip
      have hq_ : ¬ packE q = 0 := by simpa using h13
      have hE : (drfM p q m) = ([], [], 20) := by rw [← rdr_eq]; unfold rdrM; rw [if_neg (fun h => hq_ h.2)]
      refine AWP.seq ?_
      refine AWP.region ?_
      refine AOps.call (o_noPack rfl) ?_
      refine AOps.call (o_noPack rfl) ?_
      refine AOps.cons (o_store _ _ rfl rfl Tryd.sizeOf24 rfl rfl rfl rfl rfl) ?_
      refine AOps.cons (o_store _ _ rfl rfl Tryd.sizeOf24 rfl rfl rfl rfl rfl) ?_
      refine AOps.call (o_assign _ rfl rfl) ?_
      refine AOps.nil ?_
      refine AWP.ret ?_
      refine postQ.retCC1 Tryd.results55 rfl rfl Tryd.sizeOf24 Tryd.isAgg24 rfl rfl rfl Tryd.sizeOf24 Tryd.isAgg24 rfl rfl ?_
      rw [hE]
      rfl
    · skip
      have hq_ : packE q = 0 := by simpa using h13
      refine AWP.skip ?_
      refine AWP.seq ?_
      refine AWP.seq ?_
      refine AWP.region ?_
      refine AOps.call (o_move _ rfl rfl) ?_
      refine AOps.call (o_call (rwithin_s m 0 65536) Tryd.call68 rfl rfl) ?_
      refine AOps.call (o_un _ rfl (fun _ => rfl) rfl) ?_
      refine AOps.nil ?_
      refine AWP.cond _ rfl (fun h20 => ?_) (fun h20 => ?_)
      · skip
        have hm : ¬ (0 ≤ m ∧ m ≤ 65536) := by have hq := h20; simp [winB] at hq; omega
        have hE : (drfM p q m) = ([], [], 1) := by rw [← rdr_eq]; unfold rdrM; rw [if_pos ⟨hp, hq_⟩, if_neg hm]
        refine AWP.seq ?_
        refine AWP.region ?_
        refine AOps.call (o_noPack rfl) ?_
        refine AOps.call (o_noPack rfl) ?_
        refine AOps.cons (o_store _ _ rfl rfl Tryd.sizeOf24 rfl rfl rfl rfl rfl) ?_
        refine AOps.cons (o_store _ _ rfl rfl Tryd.sizeOf24 rfl rfl rfl rfl rfl) ?_
        refine AOps.call (o_assign _ rfl rfl) ?_
        refine AOps.nil ?_
        refine AWP.ret ?_
        refine postQ.retCC1 Tryd.results55 rfl rfl Tryd.sizeOf24 Tryd.isAgg24 rfl rfl rfl Tryd.sizeOf24 Tryd.isAgg24 rfl rfl ?_
        rw [hE]
        rfl
      · skip
        have hm : 0 ≤ m ∧ m ≤ 65536 := by have hq := h20; simp [winB] at hq; omega
        have hs6 : stepE ⟨6, m, 0⟩ = 0 := stepE_0.2 ⟨⟨by dsimp only; decide, by dsimp only; decide, hm.1, hm.2, by dsimp only; decide, by dsimp only; decide⟩, .inr rfl⟩
        have htb := take_E (pre := []) hp hm.1
        have htk : (tknM p ⟨6, m, 0⟩) = (take [] p m 0 0).2.2.1 := by unfold tknM; rw [if_neg (by simp)]
        have hs1 : stepE ⟨1, (tknM p ⟨6, m, 0⟩), 0⟩ = 0 := stepE_0.2 ⟨⟨by dsimp only; decide, by dsimp only; decide, by dsimp only; omega, by dsimp only; omega, by dsimp only; decide, by dsimp only; decide⟩, .inl rfl⟩
        refine AWP.skip ?_
        refine AWP.seq ?_
        refine AWP.region ?_
        refine AOps.call (o_fieldRef _ rfl fa24_0 rfl rfl) ?_
        refine AOps.call (o_loadRef _ rfl rfl Tryd.sizeOf22 Tryd.isAgg22 rfl rfl rfl) ?_
        refine AOps.call (o_move _ rfl rfl) ?_
        refine AOps.call (o_build bu26 rfl rfl rfl) ?_
        refine AOps.call (o_call (rDo_s p ⟨6, m, 0⟩ hp hs6) Tryd.call72 rfl rfl) ?_
        refine AOps.call (o_move _ rfl rfl) ?_
        refine AOps.call (o_extract _ rfl rfl rfl rfl) ?_
        refine AOps.call (o_extract _ rfl rfl rfl rfl) ?_
        refine AOps.call (o_extract _ rfl rfl rfl rfl) ?_
        refine AOps.call (o_assign _ rfl rfl) ?_
        refine AOps.call (o_assign _ rfl rfl) ?_
        refine AOps.call (o_assign _ rfl rfl) ?_
        refine AOps.nil ?_
        refine AWP.seq ?_
        refine AWP.region ?_
        refine AOps.call (o_fieldRef _ rfl fa24_0 rfl rfl) ?_
        refine AOps.call (o_loadRef _ rfl rfl Tryd.sizeOf22 Tryd.isAgg22 rfl rfl rfl) ?_
        refine AOps.call (o_move _ rfl rfl) ?_
        refine AOps.call (o_build bu26 rfl rfl rfl) ?_
        refine AOps.call (o_call (rDo_s q ⟨1, (tknM p ⟨6, m, 0⟩), 0⟩ hq_ hs1) Tryd.call72 rfl rfl) ?_
        refine AOps.call (o_move _ rfl rfl) ?_
        refine AOps.call (o_extract _ rfl rfl rfl rfl) ?_
        refine AOps.call (o_extract _ rfl rfl rfl rfl) ?_
        refine AOps.call (o_extract _ rfl rfl rfl rfl) ?_
        refine AOps.call (o_assign _ rfl rfl) ?_
        refine AOps.call (o_assign _ rfl rfl) ?_
        refine AOps.call (o_assign _ rfl rfl) ?_
        refine AOps.nil ?_
        refine AWP.seq ?_
        refine AWP.region ?_
        refine AOps.call (o_move _ rfl rfl) ?_
        refine AOps.call (o_build bu24 rfl rfl rfl) ?_
        refine AOps.call (o_alloc ze24 rfl rfl) ?_
        refine AOps.cons (o_store _ _ rfl rfl Tryd.sizeOf24 rfl rfl rfl rfl rfl) ?_
        refine AOps.nil ?_
        refine AWP.seq ?_
        refine AWP.region ?_
        refine AOps.call (o_move _ rfl rfl) ?_
        refine AOps.call (o_build bu24 rfl rfl rfl) ?_
        refine AOps.call (o_alloc ze24 rfl rfl) ?_
        refine AOps.cons (o_store _ _ rfl rfl Tryd.sizeOf24 rfl rfl rfl rfl rfl) ?_
        refine AOps.nil ?_
        refine AWP.seq ?_
        refine AWP.seq ?_
        refine AWP.region ?_
        refine AOps.call (o_loadRef _ rfl rfl Tryd.sizeOf24 Tryd.isAgg24 rfl rfl rfl) ?_
        refine AOps.call (o_call (rCheck_s (doM p ⟨6, m, 0⟩).1) Tryd.call27 rfl rfl) ?_
        refine AOps.call (o_bin _ _ rfl rfl (fun _ => rfl) rfl) ?_
        refine AOps.call (o_move _ rfl rfl) ?_
        refine AOps.split rfl rfl rfl (fun h46 => ?_) (fun h46 => ?_)
        · skip
          have h5 : packE (doM p ⟨6, m, 0⟩).1 = 0 := by simpa using h46
          refine AOps.go rfl rfl rfl h46 (o_loadRef _ rfl rfl Tryd.sizeOf24 Tryd.isAgg24 rfl rfl rfl) ?_
          refine AOps.go rfl rfl rfl h46 (o_call (rCheck_s (doM q ⟨1, (tknM p ⟨6, m, 0⟩), 0⟩).1) Tryd.call27 rfl rfl) ?_
          refine AOps.go rfl rfl rfl h46 (o_bin _ _ rfl rfl (fun _ => rfl) rfl) ?_
          refine AOps.call (o_pickF _ _ _ rfl h46 rfl rfl) ?_
          refine AOps.nil ?_
          refine AWP.cond _ rfl (fun h50 => ?_) (fun h50 => ?_)
          · skip
            have h6 : ¬ packE (doM q ⟨1, (tknM p ⟨6, m, 0⟩), 0⟩).1 = 0 := by simpa using h50
            have hE : (drfM p q m) = ([], [], 2) := by rw [← rdr_eq]; unfold rdrM; rw [if_pos ⟨hp, hq_⟩, if_pos hm, if_neg (fun h => h6 h.2)]
            refine AWP.seq ?_
            refine AWP.region ?_
            refine AOps.call (o_noPack rfl) ?_
            refine AOps.call (o_noPack rfl) ?_
            refine AOps.cons (o_store _ _ rfl rfl Tryd.sizeOf24 rfl rfl rfl rfl rfl) ?_
            refine AOps.cons (o_store _ _ rfl rfl Tryd.sizeOf24 rfl rfl rfl rfl rfl) ?_
            refine AOps.call (o_assign _ rfl rfl) ?_
            refine AOps.nil ?_
            refine AWP.ret ?_
            refine postQ.retCC1 Tryd.results55 rfl rfl Tryd.sizeOf24 Tryd.isAgg24 rfl rfl rfl Tryd.sizeOf24 Tryd.isAgg24 rfl rfl ?_
            rw [hE]
            rfl
          · skip
            have h6 : packE (doM q ⟨1, (tknM p ⟨6, m, 0⟩), 0⟩).1 = 0 := by simpa using h50
            have hE : (drfM p q m) = ((doM p ⟨6, m, 0⟩).1, (doM q ⟨1, (tknM p ⟨6, m, 0⟩), 0⟩).1, 0) := by rw [← rdr_eq]; unfold rdrM; rw [if_pos ⟨hp, hq_⟩, if_pos hm, if_pos ⟨h5, h6⟩]
            refine AWP.skip ?_
            refine AWP.seq ?_
            refine AWP.drawnS 2 (fun i => Nat.beq i 1) (6, 0) mixed (by kernel_rfl) ?_
            refine AHeadS.call (o_loadRef _ rfl rfl Tryd.sizeOf24 Tryd.isAgg24 rfl rfl rfl) rfl rfl ?_
            refine AHeadS.callL (o_loadRef _ rfl rfl Tryd.sizeOf24 Tryd.isAgg24 rfl rfl rfl) rfl ?_
            refine AHeadS.nil ⟨_, _, rfl, ok_storeAny _ _ rfl rfl Tryd.sizeOf24 rfl rfl rfl rfl rfl, ?_⟩
            refine AOps.cons (o_store _ _ rfl rfl Tryd.sizeOf24 rfl rfl rfl rfl rfl) ?_
            refine AOps.call (o_assign _ rfl rfl) ?_
            refine AOps.nil ?_
            refine AWP.ret ?_
            refine postQ.retCC1 Tryd.results55 rfl rfl Tryd.sizeOf24 Tryd.isAgg24 rfl rfl rfl Tryd.sizeOf24 Tryd.isAgg24 rfl rfl ?_
            rw [hE]
            rfl
        · skip
          have h5 : ¬ packE (doM p ⟨6, m, 0⟩).1 = 0 := by simpa using h46
          have hE : (drfM p q m) = ([], [], 2) := by rw [← rdr_eq]; unfold rdrM; rw [if_pos ⟨hp, hq_⟩, if_pos hm, if_neg (fun h => h5 h.1)]
          refine AOps.pass rfl rfl rfl h46 rfl ?_
          refine AOps.pass rfl rfl rfl h46 rfl ?_
          refine AOps.pass rfl rfl rfl h46 rfl ?_
          refine AOps.call (o_pickT _ _ _ rfl h46 rfl rfl) ?_
          refine AOps.nil ?_
          refine AWP.condT rfl ?_
          refine AWP.seq ?_
          refine AWP.region ?_
          refine AOps.call (o_noPack rfl) ?_
          refine AOps.call (o_noPack rfl) ?_
          refine AOps.cons (o_store _ _ rfl rfl Tryd.sizeOf24 rfl rfl rfl rfl rfl) ?_
          refine AOps.cons (o_store _ _ rfl rfl Tryd.sizeOf24 rfl rfl rfl rfl rfl) ?_
          refine AOps.call (o_assign _ rfl rfl) ?_
          refine AOps.nil ?_
          refine AWP.ret ?_
          refine postQ.retCC1 Tryd.results55 rfl rfl Tryd.sizeOf24 Tryd.isAgg24 rfl rfl rfl Tryd.sizeOf24 Tryd.isAgg24 rfl rfl ?_
          rw [hE]
          rfl
  · skip
    have hp : ¬ packE p = 0 := by simpa using h9
    have hE : (drfM p q m) = ([], [], 20) := by rw [← rdr_eq]; unfold rdrM; rw [if_neg (fun h => hp h.1)]
    refine AOps.pass rfl rfl rfl h9 rfl ?_
    refine AOps.pass rfl rfl rfl h9 rfl ?_
    refine AOps.pass rfl rfl rfl h9 rfl ?_
    refine AOps.call (o_pickT _ _ _ rfl h9 rfl rfl) ?_
    refine AOps.nil ?_
    refine AWP.condT rfl ?_
    refine AWP.seq ?_
    refine AWP.region ?_
    refine AOps.call (o_noPack rfl) ?_
    refine AOps.call (o_noPack rfl) ?_
    refine AOps.cons (o_store _ _ rfl rfl Tryd.sizeOf24 rfl rfl rfl rfl rfl) ?_
    refine AOps.cons (o_store _ _ rfl rfl Tryd.sizeOf24 rfl rfl rfl rfl rfl) ?_
    refine AOps.call (o_assign _ rfl rfl) ?_
    refine AOps.nil ?_
    refine AWP.ret ?_
    refine postQ.retCC1 Tryd.results55 rfl rfl Tryd.sizeOf24 Tryd.isAgg24 rfl rfl rfl Tryd.sizeOf24 Tryd.isAgg24 rfl rfl ?_
    rw [hE]
    rfl

end Go.Proofs.YtgagfmjpmdgfdaaDoor
