/- Y3. -/
import Derived.Test.YtelenedgaoglaaaGreatDoorY2
import Derived.Test.YtelenedgaoglaaaGreatDoorR12
set_option linter.unusedSimpArgs false
set_option linter.unusedVariables false
namespace Go.Proofs.YtelenedgaoglaaaGreatDoor
open Go.Ab
open Go.Pil Go.RowKit
theorem sps_lo {L : List Sp} {k : Nat} (h : k < L.length) : partA false 1 ((sps L).flatten.drop (k * 2)) = some (I L[k].lo) := by
  rw [flat_drop _ _ sps_z, show (sps L).drop k = eN L[k] :: (sps L).drop (k + 1) by rw [List.drop_eq_getElem_cons (by rw [sps_len]; exact h)]; simp [sps]]
  rfl
theorem sps_hi {L : List Sp} {k : Nat} (h : k < L.length) : partA false 1 ((sps L).flatten.drop (k * 2 + 1)) = some (I L[k].hi) := by
  rw [← List.drop_drop, flat_drop _ _ sps_z, show (sps L).drop k = eN L[k] :: (sps L).drop (k + 1) by rw [List.drop_eq_getElem_cons (by rw [sps_len]; exact h)]; simp [sps]]
  rfl
theorem fsp_at {p w l} {k i : Nat} (h : k < l.length) : (fsp p w l i)[k]'(by rw [fsp_len]; exact h) = if k < i then Fp p w l k else ⟨0, 0⟩ := by simp [fsp]
theorem F_zero {p : Plw} {w : List Sp} {l : List Int} (h : 0 < l.length) : p.allow 0 l[0] = Fp p w l 0 := by
  have h2 := reach_F (p := p) (w := w) h
  unfold reachP at h2
  rw [if_pos (by rfl)] at h2
  exact h2
theorem F_next {p : Plw} {w : List Sp} {l : List Int} {k : Nat} (h : k < l.length) (h0 : 0 < k) : (p.allow k l[k]).meet ((Fp p w l (k - 1)).plus (wf w (k - 1))) = Fp p w l k := by
  have h2 := reach_F (p := p) (w := w) h
  unfold reachP hereF at h2
  rw [if_neg (by omega), if_neg (by omega)] at h2
  exact h2
set_option maxHeartbeats 4000000 in
set_option maxRecDepth 20000 in
theorem ends_s (p : Plw) (w : List Sp) (l : List Int) (hp : OkP p) (hw : okW p w = true) (hll : l.length = p.log.length) : FSpec Tryz.prog 71 [.agg (eP p), .sl (sps w), .sl (ints l)] (.tup [.sl (sps (if aliveP p w l then endsP p w l else [])), B (decide (aliveP p w l))]) (none) := by
  refine FSpec.of_body Tryz.func71 rfl (leB rfl) fun w0 M0 => ?_
  have hil := ints_len l
  have h32 := hp.len
  have hsl := sps_len w
  have hb := okW_WB hw
  have hwl : w.length = p.log.length - 1 := by simp only [okW, Bool.and_eq_true, decide_eq_true_eq] at hw; exact hw.1
  refine AWP.seq ?_
  refine AWP.region ?_
  refine AOps.call (o_box _ rfl rfl rfl) ?_
  refine AOps.call (o_nil (z := 2) (e := 54) rfl) ?_
  refine AOps.call (o_assign _ rfl rfl) ?_
  refine AOps.nil ?_
  refine AWP.seq ?_
  refine AWP.region ?_
  refine AOps.call (o_move _ rfl rfl) ?_
  refine AOps.call (o_len _ Tryz.underlying25 rfl rfl) ?_
  refine AOps.mkarr (n := l.length) (zs := [.int .i64 0, .int .i64 0]) (cs := (sps (fsp p w l 0)).flatten) _ _ Tryz.underlying38 info54 rfl rfl rfl rfl rfl rfl rfl rfl rfl (by rw [hil]) (by omega) rfl rfl (fsp_zero p w l) ?_
  refine AOps.call (o_assign _ rfl rfl) ?_
  refine AOps.nil ?_
  refine AWP.seq ?_
  refine AWP.seq ?_
  refine AWP.region ?_
  refine AOps.call (o_assign _ rfl rfl) ?_
  refine AOps.nil ?_
  refine AWP.block ?_
  refine AWP.loop (ι := Nat) (fun i => AS.mk' 119 [(1, .sl (sps w)), (2, .sl (ints l)), (3, .ref (3, 0) 0), (8, .arr (13, 0) 0 l.length l.length), (9, I i)] [((3, 0), eP p), ((13, 0), (sps (fsp p w l i)).flatten)] [] [(3, 1), (13, 1)]) (fun i => i ≤ l.length ∧ ∀ k, k < i → (Fp p w l k).Ne) (fun i => l.length - i) (0) (Weak.mk' rfl ⟨⟨.refl rfl, rfl⟩, ⟨⟨.refl rfl, rfl⟩, ⟨⟨.refl rfl, rfl⟩, ⟨⟨.refl rfl, rfl⟩, ⟨⟨.refl rfl, rfl⟩, trivial⟩⟩⟩⟩⟩ ⟨⟨rfl, rfl, rfl⟩, ⟨⟨rfl, lowL_sc _ _ (sps_scs _), rfl⟩, trivial⟩⟩ trivial) (⟨Nat.zero_le _, fun k hk => absurd hk (Nat.not_lt_zero _)⟩) ?_
  rintro k ⟨hk, hne⟩
  try dsimp only at *
  refine AWP.seq ?_
  refine AWP.seq ?_
  refine AWP.region ?_
  refine AOps.call (o_move _ rfl rfl) ?_
  refine AOps.call (o_move _ rfl rfl) ?_
  refine AOps.call (o_len _ Tryz.underlying25 rfl rfl) ?_
  refine AOps.call (o_bin _ _ rfl rfl (fun _ => rfl) rfl) ?_
  refine AOps.nil ?_
  refine AWP.cond _ rfl (fun h10 => ?_) (fun h10 => ?_)
  · skip
    have hlt : k < l.length := by simpa [ints] using h10
    have hel := ints_at hlt
    have hen : ((k : Nat) : Int).toNat = k := Int.toNat_natCast k
    have hFk := pbF_small hp w l k
    have hp8l := sps_lo (L := fsp p w l (k + 1)) (k := k) (by rw [fsp_len]; exact hlt)
    have hp8h := sps_hi (L := fsp p w l (k + 1)) (k := k) (by rw [fsp_len]; exact hlt)
    rw [fsp_at hlt, if_pos (by omega)] at hp8l hp8h
    refine AWP.skip ?_
    refine AWP.seq ?_
    refine AWP.block ?_
    refine AWP.seq ?_
    refine AWP.drawn 10 mixed (by kernel_rfl) ?_
    refine AHead.call (o_move _ rfl rfl) rfl ?_
    refine AHead.call (o_move _ rfl rfl) rfl ?_
    refine AHead.call (o_loadRef _ rfl rfl Tryz.sizeOf24 Tryz.isAgg24 rfl rfl rfl) rfl ?_
    refine AHead.call (o_move _ rfl rfl) rfl ?_
    refine AHead.call (o_move _ rfl rfl) rfl ?_
    refine AHead.call (o_index _ _ Tryz.underlying25 Tryz.sizeOf3 rfl rfl (by omega) hel rfl rfl) rfl ?_
    refine AHead.call (o_loadRd _ rfl Tryz.sizeOf3 Tryz.isAgg3 rfl rfl rfl) rfl ?_
    refine AHead.call (o_move _ rfl rfl) rfl ?_
    refine AHead.call (o_call (allowedR_s p hp l[k] ((k : Nat) : Int) (by omega) (by omega)) Tryz.call73 rfl rfl) rfl ?_
    refine AHead.call (o_indexArr (o := k * 2) _ _ Tryz.underlying38 Tryz.sizeOf54 rfl rfl (by omega) (by omega) (by omega) rfl) rfl ?_
    refine AHead.nil ?_
    refine AOps.cons (o_storeE _ _ rfl rfl Tryz.sizeOf54 rfl rfl (by rw [sps_flen, fsp_len]; omega) (sps_set (by rw [fsp_len]; exact hlt)) rfl) ?_
    refine AOps.nil ?_
    refine AWP.seq ?_
    refine AWP.seq ?_
    refine AWP.region ?_
    refine AOps.call (o_move _ rfl rfl) ?_
    refine AOps.call (o_bin _ _ rfl rfl (fun _ => rfl) rfl) ?_
    refine AOps.nil ?_
    refine AWP.cond _ rfl (fun h18 => ?_) (fun h18 => ?_)
    · skip
      have hk0 : 0 < k := by have := of_decide_eq_true h18; omega
      have hbk := hb (k - 1)
      have hF1 := pbF_small hp w l (k - 1)
      have hF2 := hne (k - 1) (by omega)
      simp only [Sp.Ne] at hF2
      have hew : (sps w)[(((k : Nat) : Int) - 1).toNat]? = some (eN (wf w (k - 1))) := sps_gD (by omega) (by omega)
      have hp7 := sps_part (L := (fsp p w l k).set k (p.allow k l[k])) (k := k) (by rw [List.length_set, fsp_len]; exact hlt)
      rw [List.getElem_set_self] at hp7
      have hp7l := sps_lo (L := (fsp p w l k).set k (p.allow k l[k])) (k := k - 1) (by rw [List.length_set, fsp_len]; omega)
      have hp7h := sps_hi (L := (fsp p w l k).set k (p.allow k l[k])) (k := k - 1) (by rw [List.length_set, fsp_len]; omega)
      rw [List.getElem_set_ne (by omega), fsp_at (by omega), if_pos (by omega)] at hp7l hp7h
      refine AWP.drawn 35 mixed (by kernel_rfl) ?_
      refine AHead.call (o_move _ rfl rfl) rfl ?_
      refine AHead.call (o_move _ rfl rfl) rfl ?_
      refine AHead.call (o_move _ rfl rfl) rfl ?_
      refine AHead.call (o_move _ rfl rfl) rfl ?_
      refine AHead.call (o_indexArr (o := k * 2) _ _ Tryz.underlying38 Tryz.sizeOf54 rfl rfl (by omega) (by omega) (by omega) rfl) rfl ?_
      refine AHead.call (o_loadRefE (v := .agg (eN (p.allow k l[k]))) _ rfl rfl Tryz.sizeOf54 Tryz.isAgg54 hp7 rfl) rfl ?_
      refine AHead.call (o_move _ rfl rfl) rfl ?_
      refine AHead.call (o_move _ rfl rfl) rfl ?_
      refine AHead.call (o_sub _ _ rfl rfl ⟨by (try dsimp only); omega, by (try dsimp only); omega⟩ rfl) rfl ?_
      refine AHead.call (o_indexArr (o := (k - 1) * 2) _ _ Tryz.underlying38 Tryz.sizeOf54 rfl rfl (by omega) (by omega) (by omega) rfl) rfl ?_
      refine AHead.call (o_fieldRef _ rfl fa54_0 rfl rfl) rfl ?_
      refine AHead.call (o_loadRefE (v := I (Fp p w l (k - 1)).lo) _ rfl rfl Tryz.sizeOf3 Tryz.isAgg3 hp7l rfl) rfl ?_
      refine AHead.call (o_move _ rfl rfl) rfl ?_
      refine AHead.call (o_move _ rfl rfl) rfl ?_
      refine AHead.call (o_sub _ _ rfl rfl ⟨by (try dsimp only); omega, by (try dsimp only); omega⟩ rfl) rfl ?_
      refine AHead.call (o_index _ _ Tryz.underlying38 Tryz.sizeOf54 rfl rfl (by omega) hew rfl rfl) rfl ?_
      refine AHead.call (o_fieldRd _ rfl fa54_0 rfl) rfl ?_
      refine AHead.call (o_loadRd _ rfl Tryz.sizeOf3 Tryz.isAgg3 rfl rfl rfl) rfl ?_
      refine AHead.call (o_add _ _ rfl rfl ⟨by (try dsimp only); omega, by (try dsimp only); omega⟩ rfl) rfl ?_
      refine AHead.call (o_move _ rfl rfl) rfl ?_
      refine AHead.call (o_move _ rfl rfl) rfl ?_
      refine AHead.call (o_sub _ _ rfl rfl ⟨by (try dsimp only); omega, by (try dsimp only); omega⟩ rfl) rfl ?_
      refine AHead.call (o_indexArr (o := (k - 1) * 2) _ _ Tryz.underlying38 Tryz.sizeOf54 rfl rfl (by omega) (by omega) (by omega) rfl) rfl ?_
      refine AHead.call (o_fieldRef _ rfl fa54_1 rfl rfl) rfl ?_
      refine AHead.call (o_loadRefE (v := I (Fp p w l (k - 1)).hi) _ rfl rfl Tryz.sizeOf3 Tryz.isAgg3 hp7h rfl) rfl ?_
      refine AHead.call (o_move _ rfl rfl) rfl ?_
      refine AHead.call (o_move _ rfl rfl) rfl ?_
      refine AHead.call (o_sub _ _ rfl rfl ⟨by (try dsimp only); omega, by (try dsimp only); omega⟩ rfl) rfl ?_
      refine AHead.call (o_index _ _ Tryz.underlying38 Tryz.sizeOf54 rfl rfl (by omega) hew rfl rfl) rfl ?_
      refine AHead.call (o_fieldRd _ rfl fa54_1 rfl) rfl ?_
      refine AHead.call (o_loadRd _ rfl Tryz.sizeOf3 Tryz.isAgg3 rfl rfl rfl) rfl ?_
      refine AHead.call (o_add _ _ rfl rfl ⟨by (try dsimp only); omega, by (try dsimp only); omega⟩ rfl) rfl ?_
      refine AHead.call (o_build bu54 rfl rfl rfl) rfl ?_
      refine AHead.call (o_call (meetR_s (p.allow k l[k]) ((Fp p w l (k - 1)).plus (wf w (k - 1)))) Tryz.call99 rfl rfl) rfl ?_
      refine AHead.call (o_indexArr (o := k * 2) _ _ Tryz.underlying38 Tryz.sizeOf54 rfl rfl (by omega) (by omega) (by omega) rfl) rfl ?_
      refine AHead.nil ?_
      refine AOps.cons (o_storeE _ _ rfl rfl Tryz.sizeOf54 rfl rfl (by rw [sps_flen, List.length_set, fsp_len]; omega) ((sps_set (by rw [List.length_set, fsp_len]; exact hlt)).trans (by rw [List.set_set, F_next hlt hk0, fsp_step hlt])) rfl) ?_
      refine AOps.nil ?_
      refine AWP.seq ?_
      refine AWP.drawn 11 mixed (by kernel_rfl) ?_
      refine AHead.call (o_move _ rfl rfl) rfl ?_
      refine AHead.call (o_move _ rfl rfl) rfl ?_
      refine AHead.call (o_indexArr (o := k * 2) _ _ Tryz.underlying38 Tryz.sizeOf54 rfl rfl (by omega) (by omega) (by omega) rfl) rfl ?_
      refine AHead.call (o_fieldRef _ rfl fa54_0 rfl rfl) rfl ?_
      refine AHead.call (o_loadRefE (v := I (Fp p w l k).lo) _ rfl rfl Tryz.sizeOf3 Tryz.isAgg3 hp8l rfl) rfl ?_
      refine AHead.call (o_move _ rfl rfl) rfl ?_
      refine AHead.call (o_move _ rfl rfl) rfl ?_
      refine AHead.call (o_indexArr (o := k * 2) _ _ Tryz.underlying38 Tryz.sizeOf54 rfl rfl (by omega) (by omega) (by omega) rfl) rfl ?_
      refine AHead.call (o_fieldRef _ rfl fa54_1 rfl rfl) rfl ?_
      refine AHead.call (o_loadRefE (v := I (Fp p w l k).hi) _ rfl rfl Tryz.sizeOf3 Tryz.isAgg3 hp8h rfl) rfl ?_
      refine AHead.call (o_bin _ _ rfl rfl (fun _ => rfl) rfl) rfl ?_
      refine AHead.nil ?_
      refine AOps.nil ?_
      refine AWP.cond _ rfl (fun h51 => ?_) (fun h51 => ?_)
      · skip
        have hE : ¬ aliveP p w l := fun ha => by
          have h1 := ha k hlt
          have h2 := of_decide_eq_true h51
          simp only [Sp.Ne] at h1
          unfold Fp at h2
          omega
        refine AWP.seq ?_
        refine AWP.region ?_
        refine AOps.call (o_nil (z := 2) (e := 54) rfl) ?_
        refine AOps.call (o_assign _ rfl rfl) ?_
        refine AOps.nil ?_
        refine AWP.ret ?_
        refine postQ.ret2 Tryz.results71 rfl rfl ?_
        first
        | (rw [if_neg hE, decide_eq_false hE]; rfl)
        | (rw [if_pos hal, decide_eq_true hal]; rfl)
      · skip
        have hnk : (Fp p w l k).Ne := by
          have h2 := of_decide_eq_false h51
          simp only [Sp.Ne]
          omega
        refine AWP.skip ?_
        refine AWP.region ?_
        refine AOps.call (o_move _ rfl rfl) ?_
        refine AOps.call (o_add _ _ rfl rfl ⟨by (try dsimp only); omega, by (try dsimp only); omega⟩ rfl) ?_
        refine AOps.call (o_assign _ rfl rfl) ?_
        refine AOps.nil ?_
        refine ⟨k + 1, ?_, (Weak.mk' rfl ⟨⟨.refl rfl, rfl⟩, ⟨⟨.refl rfl, rfl⟩, ⟨⟨.refl rfl, rfl⟩, ⟨⟨.refl rfl, rfl⟩, ⟨⟨.refl rfl, rfl⟩, trivial⟩⟩⟩⟩⟩ ⟨⟨rfl, rfl, rfl⟩, ⟨⟨rfl, lowL_sc _ _ (sps_scs _), rfl⟩, trivial⟩⟩ trivial)⟩
        refine ⟨⟨by omega, fun j hj => ?_⟩, by omega⟩
        by_cases e : j = k
        · subst e; exact hnk
        · exact hne j (by omega)
    · skip
      have hk0 : k = 0 := by have := of_decide_eq_false h18; omega
      have h0e : (fsp p w l k).set k (p.allow k l[k]) = fsp p w l (k + 1) := by
        have h1 := fsp_step (p := p) (w := w) hlt
        rw [← h1]
        congr 1
        subst hk0
        exact F_zero hlt
      have h0n : (fsp p w l k).set k (p.allow ((k : Nat) : Int).toNat l[k]) = fsp p w l (k + 1) := by rw [hen]; exact h0e
      rw [h0n]
      refine AWP.skip ?_
      refine AWP.seq ?_
      refine AWP.drawn 11 mixed (by kernel_rfl) ?_
      refine AHead.call (o_move _ rfl rfl) rfl ?_
      refine AHead.call (o_move _ rfl rfl) rfl ?_
      refine AHead.call (o_indexArr (o := k * 2) _ _ Tryz.underlying38 Tryz.sizeOf54 rfl rfl (by omega) (by omega) (by omega) rfl) rfl ?_
      refine AHead.call (o_fieldRef _ rfl fa54_0 rfl rfl) rfl ?_
      refine AHead.call (o_loadRefE (v := I (Fp p w l k).lo) _ rfl rfl Tryz.sizeOf3 Tryz.isAgg3 hp8l rfl) rfl ?_
      refine AHead.call (o_move _ rfl rfl) rfl ?_
      refine AHead.call (o_move _ rfl rfl) rfl ?_
      refine AHead.call (o_indexArr (o := k * 2) _ _ Tryz.underlying38 Tryz.sizeOf54 rfl rfl (by omega) (by omega) (by omega) rfl) rfl ?_
      refine AHead.call (o_fieldRef _ rfl fa54_1 rfl rfl) rfl ?_
      refine AHead.call (o_loadRefE (v := I (Fp p w l k).hi) _ rfl rfl Tryz.sizeOf3 Tryz.isAgg3 hp8h rfl) rfl ?_
      refine AHead.call (o_bin _ _ rfl rfl (fun _ => rfl) rfl) rfl ?_
      refine AHead.nil ?_
      refine AOps.nil ?_
      refine AWP.cond _ rfl (fun h61 => ?_) (fun h61 => ?_)
      · skip
        have hE : ¬ aliveP p w l := fun ha => by
          have h1 := ha k hlt
          have h2 := of_decide_eq_true h61
          simp only [Sp.Ne] at h1
          unfold Fp at h2
          omega
        refine AWP.seq ?_
        refine AWP.region ?_
        refine AOps.call (o_nil (z := 2) (e := 54) rfl) ?_
        refine AOps.call (o_assign _ rfl rfl) ?_
        refine AOps.nil ?_
        refine AWP.ret ?_
        refine postQ.ret2 Tryz.results71 rfl rfl ?_
        first
        | (rw [if_neg hE, decide_eq_false hE]; rfl)
        | (rw [if_pos hal, decide_eq_true hal]; rfl)
      · skip
        have hnk : (Fp p w l k).Ne := by
          have h2 := of_decide_eq_false h61
          simp only [Sp.Ne]
          omega
        refine AWP.skip ?_
        refine AWP.region ?_
        refine AOps.call (o_move _ rfl rfl) ?_
        refine AOps.call (o_add _ _ rfl rfl ⟨by (try dsimp only); omega, by (try dsimp only); omega⟩ rfl) ?_
        refine AOps.call (o_assign _ rfl rfl) ?_
        refine AOps.nil ?_
        refine ⟨k + 1, ?_, (Weak.mk' rfl ⟨⟨.refl rfl, rfl⟩, ⟨⟨.refl rfl, rfl⟩, ⟨⟨.refl rfl, rfl⟩, ⟨⟨.refl rfl, rfl⟩, ⟨⟨.refl rfl, rfl⟩, trivial⟩⟩⟩⟩⟩ ⟨⟨rfl, rfl, rfl⟩, ⟨⟨rfl, lowL_sc _ _ (sps_scs _), rfl⟩, trivial⟩⟩ trivial)⟩
        refine ⟨⟨by omega, fun j hj => ?_⟩, by omega⟩
        by_cases e : j = k
        · subst e; exact hnk
        · exact hne j (by omega)
  · skip
    have hkl : k = l.length := by have := of_decide_eq_false h10; omega
    subst hkl
    have hal : aliveP p w l := fun j hj => hne j hj
    refine AWP.exit ?_
    refine AWP.seq ?_
    refine AWP.seq ?_
    refine AWP.region ?_
    refine AOps.call (o_move _ rfl rfl) ?_
    refine AOps.call (o_len _ Tryz.underlying25 rfl rfl) ?_
    refine AOps.call (o_sub _ _ rfl rfl ⟨by (try dsimp only); omega, by (try dsimp only); omega⟩ rfl) ?_
    refine AOps.call (o_assign _ rfl rfl) ?_
    refine AOps.nil ?_
    refine AWP.block ?_
    refine AWP.loop (ι := Nat) (fun i => AS.mk' 119 [(1, .sl (sps w)), (2, .sl (ints l)), (3, .ref (3, 0) 0), (8, .arr (13, 0) 0 l.length l.length), (10, I ((l.length : Int) - 2 - i))] [((3, 0), eP p), ((13, 0), (sps (gsp p w l (i + 1))).flatten)] [] [(3, 1), (13, 1)]) (fun i => i ≤ l.length) (fun i => l.length - i) (0) (Weak.mk' rfl ⟨⟨.refl rfl, rfl⟩, ⟨⟨.refl rfl, rfl⟩, ⟨⟨.refl rfl, rfl⟩, ⟨⟨.refl rfl, rfl⟩, ⟨⟨.refl (congrArg I (by (try dsimp only); omega)), rfl⟩, trivial⟩⟩⟩⟩⟩ ⟨⟨rfl, rfl, rfl⟩, ⟨⟨(by rw [fsp_gsp]; rfl), lowL_sc _ _ (sps_scs _), rfl⟩, trivial⟩⟩ trivial) (Nat.zero_le _) ?_
    rintro k hk
    try dsimp only at *
    refine AWP.seq ?_
    refine AWP.seq ?_
    refine AWP.region ?_
    refine AOps.call (o_move _ rfl rfl) ?_
    refine AOps.call (o_bin _ _ rfl rfl (fun _ => rfl) rfl) ?_
    refine AOps.nil ?_
    refine AWP.cond _ rfl (fun h68 => ?_) (fun h68 => ?_)
    · skip
      have hk0 : (0 : Int) ≤ (l.length : Int) - 2 - k := of_decide_eq_true h68
      obtain ⟨kk, hkk⟩ : ∃ kk : Nat, (kk : Int) = (l.length : Int) - 2 - k := ⟨((l.length : Int) - 2 - k).toNat, by omega⟩
      have hew : (sps w)[((l.length : Int) - 2 - k).toNat]? = some (eN (wf w kk)) := sps_gD (by omega) (by omega)
      have hp1 : partA true 2 ((sps (gsp p w l (k + 1))).flatten.drop (kk * 2)) = some (.agg (eN (Fp p w l kk))) := by
        rw [sps_part (by rw [gsp_len]; omega), gsp_at (by omega), if_neg (by omega)]
      have hp2l : partA false 1 ((sps (gsp p w l (k + 1))).flatten.drop ((kk + 1) * 2)) = some (I (endP p w l (kk + 1)).lo) := by
        rw [sps_lo (by rw [gsp_len]; omega), gsp_at (by omega), if_pos (by omega)]
      have hp2h : partA false 1 ((sps (gsp p w l (k + 1))).flatten.drop ((kk + 1) * 2 + 1)) = some (I (endP p w l (kk + 1)).hi) := by
        rw [sps_hi (by rw [gsp_len]; omega), gsp_at (by omega), if_pos (by omega)]
      have hEk : endP p w l kk = (Fp p w l kk).meet ((endP p w l (kk + 1)).minus (wf w kk)) := En_succ (by omega)
      have hst : splice (sps (gsp p w l (k + 1))).flatten (eN ((Fp p w l kk).meet ((endP p w l (kk + 1)).minus (wf w kk)))) (kk * 2) = (sps (gsp p w l (k + 1 + 1))).flatten := by
        rw [sps_set (by rw [gsp_len]; omega), ← hEk, gsp_step (by omega)]
      have hmi : inI64 ((endP p w l (kk + 1)).lo - (wf w kk).hi) ∧ inI64 ((endP p w l (kk + 1)).hi - (wf w kk).lo) := by
        have h1 : (endP p w l (kk + 1)).In ((p.pb w).a l (kk + 1)) := En_in
        have h2 : 0 ≤ ((p.pb w).a l (kk + 1)).lo ∧ ((p.pb w).a l (kk + 1)).hi ≤ 65536 := hp.allow_in _ _
        have h3 : (endP p w l (kk + 1)).Ne := En_ne (fun j _ => (hb j).2.2) hal (by omega)
        have h4 := hb kk
        simp only [Sp.In, Sp.Ne] at h1 h3
        simp only [okRange]
        omega
      refine AWP.skip ?_
      refine AWP.seq ?_
      refine AWP.block ?_
      refine AWP.drawn 33 mixed (by kernel_rfl) ?_
      refine AHead.call (o_move _ rfl rfl) rfl ?_
      refine AHead.call (o_move _ rfl rfl) rfl ?_
      refine AHead.call (o_move _ rfl rfl) rfl ?_
      refine AHead.call (o_move _ rfl rfl) rfl ?_
      refine AHead.call (o_indexArr (o := kk * 2) _ _ Tryz.underlying38 Tryz.sizeOf54 rfl rfl (by omega) (by omega) (by omega) rfl) rfl ?_
      refine AHead.call (o_loadRefE (v := .agg (eN (Fp p w l kk))) _ rfl rfl Tryz.sizeOf54 Tryz.isAgg54 hp1 rfl) rfl ?_
      refine AHead.call (o_move _ rfl rfl) rfl ?_
      refine AHead.call (o_move _ rfl rfl) rfl ?_
      refine AHead.call (o_add _ _ rfl rfl ⟨by (try dsimp only); omega, by (try dsimp only); omega⟩ rfl) rfl ?_
      refine AHead.call (o_indexArr (o := (kk + 1) * 2) _ _ Tryz.underlying38 Tryz.sizeOf54 rfl rfl (by omega) (by omega) (by omega) rfl) rfl ?_
      refine AHead.call (o_fieldRef _ rfl fa54_0 rfl rfl) rfl ?_
      refine AHead.call (o_loadRefE (v := I (endP p w l (kk + 1)).lo) _ rfl rfl Tryz.sizeOf3 Tryz.isAgg3 hp2l rfl) rfl ?_
      refine AHead.call (o_move _ rfl rfl) rfl ?_
      refine AHead.call (o_move _ rfl rfl) rfl ?_
      refine AHead.call (o_index _ _ Tryz.underlying38 Tryz.sizeOf54 rfl rfl (by omega) hew rfl rfl) rfl ?_
      refine AHead.call (o_fieldRd _ rfl fa54_1 rfl) rfl ?_
      refine AHead.call (o_loadRd _ rfl Tryz.sizeOf3 Tryz.isAgg3 rfl rfl rfl) rfl ?_
      refine AHead.call (o_sub _ _ rfl rfl hmi.1 rfl) rfl ?_
      refine AHead.call (o_move _ rfl rfl) rfl ?_
      refine AHead.call (o_move _ rfl rfl) rfl ?_
      refine AHead.call (o_add _ _ rfl rfl ⟨by (try dsimp only); omega, by (try dsimp only); omega⟩ rfl) rfl ?_
      refine AHead.call (o_indexArr (o := (kk + 1) * 2) _ _ Tryz.underlying38 Tryz.sizeOf54 rfl rfl (by omega) (by omega) (by omega) rfl) rfl ?_
      refine AHead.call (o_fieldRef _ rfl fa54_1 rfl rfl) rfl ?_
      refine AHead.call (o_loadRefE (v := I (endP p w l (kk + 1)).hi) _ rfl rfl Tryz.sizeOf3 Tryz.isAgg3 hp2h rfl) rfl ?_
      refine AHead.call (o_move _ rfl rfl) rfl ?_
      refine AHead.call (o_move _ rfl rfl) rfl ?_
      refine AHead.call (o_index _ _ Tryz.underlying38 Tryz.sizeOf54 rfl rfl (by omega) hew rfl rfl) rfl ?_
      refine AHead.call (o_fieldRd _ rfl fa54_0 rfl) rfl ?_
      refine AHead.call (o_loadRd _ rfl Tryz.sizeOf3 Tryz.isAgg3 rfl rfl rfl) rfl ?_
      refine AHead.call (o_sub _ _ rfl rfl hmi.2 rfl) rfl ?_
      refine AHead.call (o_build bu54 rfl rfl rfl) rfl ?_
      refine AHead.call (o_call (meetR_s (Fp p w l kk) ((endP p w l (kk + 1)).minus (wf w kk))) Tryz.call99 rfl rfl) rfl ?_
      refine AHead.call (o_indexArr (o := kk * 2) _ _ Tryz.underlying38 Tryz.sizeOf54 rfl rfl (by omega) (by omega) (by omega) rfl) rfl ?_
      refine AHead.nil ?_
      refine AOps.cons (o_storeE _ _ rfl rfl Tryz.sizeOf54 rfl rfl (by rw [sps_flen, gsp_len]; omega) hst rfl) ?_
      refine AOps.nil ?_
      refine AWP.region ?_
      refine AOps.call (o_move _ rfl rfl) ?_
      refine AOps.call (o_sub _ _ rfl rfl ⟨by (try dsimp only); omega, by (try dsimp only); omega⟩ rfl) ?_
      refine AOps.call (o_assign _ rfl rfl) ?_
      refine AOps.nil ?_
      refine ⟨k + 1, ?_, (Weak.mk' rfl ⟨⟨.refl rfl, rfl⟩, ⟨⟨.refl rfl, rfl⟩, ⟨⟨.refl rfl, rfl⟩, ⟨⟨.refl rfl, rfl⟩, ⟨⟨.refl (congrArg I (by (try dsimp only); omega)), rfl⟩, trivial⟩⟩⟩⟩⟩ ⟨⟨rfl, rfl, rfl⟩, ⟨⟨rfl, lowL_sc _ _ (sps_scs _), rfl⟩, trivial⟩⟩ trivial)⟩
      exact ⟨by omega, by omega⟩
    · skip
      have hk0 : ¬ (0 : Int) ≤ (l.length : Int) - 2 - k := of_decide_eq_false h68
      refine AWP.weak (Weak.frz (id := (13, 0)) (t := 8) (z := 2) (es := sps (endsP p w l)) (cs' := (sps (endsP p w l)).flatten) rfl rfl (by rw [gsp_all (by omega)]; exact closeL_self _ (sc_self (sps_scs _))) rfl sps_z (by rw [sps_len]; simp [endsP])) ?_
      refine AWP.exit ?_
      refine AWP.seq ?_
      refine AWP.region ?_
      refine AOps.call (o_move _ rfl rfl) ?_
      refine AOps.call (o_assign _ rfl rfl) ?_
      refine AOps.call (o_assign _ rfl rfl) ?_
      refine AOps.nil ?_
      refine AWP.ret ?_
      refine postQ.ret2 Tryz.results71 rfl rfl ?_
      first
      | (rw [if_neg hE, decide_eq_false hE]; rfl)
      | (rw [if_pos hal, decide_eq_true hal]; rfl)
end Go.Proofs.YtelenedgaoglaaaGreatDoor
