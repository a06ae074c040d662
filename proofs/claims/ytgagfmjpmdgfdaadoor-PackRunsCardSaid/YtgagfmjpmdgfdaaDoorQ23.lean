import Derived.Test.YtgagfmjpmdgfdaaDoorX15
set_option linter.unusedSimpArgs false
set_option linter.unusedVariables false
namespace Go.Proofs.YtgagfmjpmdgfdaaDoor
open Go.Ab

set_option maxHeartbeats 4000000 in
set_option maxRecDepth 20000 in
theorem rDo_a (p : List Lay) (s : Stp) (hp : packE p = 0) (hs : stepE s = 0) (h0 : 0 < p.length) : FSpec Tryd.prog 72 [.sl (lays p), .agg (eT s)] (.tup [.sl (lays (doM p s).1), I (doM p s).2, I (tknM p s)]) (none) := by
  refine FSpec.of_body Tryd.func72 rfl (leB rfl) fun w0 M0 => ?_
  have hpl := lays_len p
  have hs1 := (stepE_0.1 hs).1
  have hpn := (packE_0.1 hp).1
  have hbp := packE_bd hp
  refine AWP.seq ?_
  refine AWP.region ?_
  refine AOps.call (o_box _ rfl rfl rfl) ?_
  refine AOps.call (o_nil (z := 3) (e := 28) rfl) ?_
  refine AOps.call (o_assign _ rfl rfl) ?_
  refine AOps.call (o_assign _ rfl rfl) ?_
  refine AOps.nil ?_
  refine AWP.seq ?_
  refine AWP.region ?_
  refine AOps.call (o_assign _ rfl rfl) ?_
  refine AOps.nil ?_
  refine AWP.seq ?_
  refine AWP.region ?_
  refine AOps.call (o_assign _ rfl rfl) ?_
  refine AOps.nil ?_
  refine AWP.seq ?_
  refine AWP.seq ?_
  refine AWP.region ?_
  refine AOps.call (o_fieldRef _ rfl fa26_0 rfl rfl) ?_
  refine AOps.call (o_loadRef _ rfl rfl Tryd.sizeOf3 Tryd.isAgg3 rfl rfl rfl) ?_
  refine AOps.call (o_bin _ _ rfl rfl (fun _ => rfl) rfl) ?_
  refine AOps.call (o_move _ rfl rfl) ?_
  refine AOps.split rfl rfl rfl (fun h10 => ?_) (fun h10 => ?_)
  · skip
    have k1 : s.kind = 1 := by simpa using h10
    refine AOps.go rfl rfl rfl h10 (o_fieldRef _ rfl fa26_1 rfl rfl) ?_
    refine AOps.go rfl rfl rfl h10 (o_loadRef _ rfl rfl Tryd.sizeOf3 Tryd.isAgg3 rfl rfl rfl) ?_
    refine AOps.go rfl rfl rfl h10 (o_bin _ _ rfl rfl (fun _ => rfl) rfl) ?_
    refine AOps.call (o_pickT _ _ _ rfl h10 rfl rfl) ?_
    refine AOps.nil ?_
    refine AWP.cond _ rfl (fun h14 => ?_) (fun h14 => ?_)
    · skip
      have hE : (doM p s) = (⟨s.much, 0, s.cold⟩ :: p, 0) := by unfold doM; rw [if_pos ⟨k1, of_decide_eq_true h14⟩]
      have hT : tknM p s = 0 := by unfold tknM; rw [if_pos (by omega)]
      refine AWP.seq ?_
      refine AWP.region ?_
      refine AOps.call (o_fieldRef _ rfl fa26_1 rfl rfl) ?_
      refine AOps.call (o_loadRef _ rfl rfl Tryd.sizeOf3 Tryd.isAgg3 rfl rfl rfl) ?_
      refine AOps.call (o_fieldRef _ rfl fa26_2 rfl rfl) ?_
      refine AOps.call (o_loadRef _ rfl rfl Tryd.sizeOf3 Tryd.isAgg3 rfl rfl rfl) ?_
      refine AOps.call (o_build bu28 rfl rfl rfl) ?_
      refine AOps.call (o_lit Tryd.underlying22 Tryd.sizeOf28 Tryd.zeroValue28 rfl rfl rfl rfl rfl rfl rfl) ?_
      refine AOps.call (o_move _ rfl rfl) ?_
      refine AOps.cons (o_append _ _ Tryd.underlying22 info28 rfl rfl rfl rfl rfl rfl rfl rfl lays_z (fun c h => by simp at h; subst h; rfl) (by unfold Tryd.t28; simp only [List.length_cons, List.length_nil]; omega) rfl (show _ = lays (⟨s.much, 0, s.cold⟩ :: p) from rfl) rfl) ?_
      refine AOps.call (o_assign _ rfl rfl) ?_
      refine AOps.call (o_assign _ rfl rfl) ?_
      refine AOps.call (o_assign _ rfl rfl) ?_
      refine AOps.nil ?_
      refine AWP.ret ?_
      refine postQ.ret3 Tryd.results72 rfl rfl rfl ?_
      rw [hE, hT]
      rfl
    · skip
      have hk : s.kind = 1 → s.much ≤ 0 := fun _ => by have hq := of_decide_eq_false h14; omega
      have hn1 : ¬ (s.kind = 1 ∧ 0 < s.much) := fun h => by have := hk h.1; omega
      refine AWP.skip ?_
      refine AWP.seq ?_
      refine AWP.seq ?_
      refine AWP.region ?_
      refine AOps.call (o_fieldRef _ rfl fa26_0 rfl rfl) ?_
      refine AOps.call (o_loadRef _ rfl rfl Tryd.sizeOf3 Tryd.isAgg3 rfl rfl rfl) ?_
      refine AOps.call (o_bin _ _ rfl rfl (fun _ => rfl) rfl) ?_
      refine AOps.nil ?_
      refine AWP.cond _ rfl (fun h28 => ?_) (fun h28 => ?_)
      · skip
        have k2 : s.kind = 2 := by simpa using h28
        have hE : (doM p s) = ((pourL s.much p).2, (pourL s.much p).1) := by
          have h3 := pourL_it s.much.toNat (colOk_flo (colOk_of hp))
          rw [Int.toNat_of_nonneg (by omega)] at h3
          unfold doM; rw [if_neg hn1, if_pos k2, h3]
        have hT : tknM p s = 0 := by unfold tknM; rw [if_pos (by omega)]
        refine AWP.seq ?_
        refine AWP.region ?_
        refine AOps.call (o_move _ rfl rfl) ?_
        refine AOps.call (o_fieldRef _ rfl fa26_1 rfl rfl) ?_
        refine AOps.call (o_loadRef _ rfl rfl Tryd.sizeOf3 Tryd.isAgg3 rfl rfl rfl) ?_
        refine AOps.callW (rflow_s p s.much (colOk_flo (colOk_of hp)) (by omega) ⟨by omega, by omega⟩) Tryd.call92 rfl rfl ?_
        refine AOps.call (o_move _ rfl rfl) ?_
        refine AOps.call (o_extract _ rfl rfl rfl rfl) ?_
        refine AOps.call (o_extract _ rfl rfl rfl rfl) ?_
        refine AOps.call (o_assign _ rfl rfl) ?_
        refine AOps.call (o_assign _ rfl rfl) ?_
        refine AOps.nil ?_
        refine AWP.seq ?_
        refine AWP.region ?_
        refine AOps.weak (Weak.frzP (id := (40, 0)) (t := 9) (z := 3) (es := lays (pourL s.much p).2) (cs' := rowC (pourL s.much p).2) rfl rfl (row_close _) (fun j c h => h) lays_z rfl) ?_
        refine AOps.call (o_move _ rfl rfl) ?_
        refine AOps.call (o_move _ rfl rfl) ?_
        refine AOps.call (o_assign _ rfl rfl) ?_
        refine AOps.call (o_assign _ rfl rfl) ?_
        refine AOps.call (o_assign _ rfl rfl) ?_
        refine AOps.nil ?_
        refine AWP.ret ?_
        refine postQ.ret3 Tryd.results72 rfl rfl rfl ?_
        rw [hE, hT]
        rfl
      · skip
        have k2 : ¬ s.kind = 2 := by simpa using h28
        refine AWP.skip ?_
        refine AWP.seq ?_
        refine AWP.region ?_
        refine AOps.call (o_lit Tryd.underlying22 Tryd.sizeOf28 Tryd.zeroValue28 rfl rfl rfl rfl rfl rfl rfl) ?_
        refine AOps.call (o_move _ rfl rfl) ?_
        refine AOps.appArr _ _ Tryd.underlying22 info28 rfl rfl rfl rfl rfl rfl rfl rfl lays_z (by omega) (by unfold Tryd.t28; simp only []; omega) rfl rfl ?_
        refine AOps.call (o_assign _ rfl rfl) ?_
        refine AOps.nil ?_
        refine AWP.seq ?_
        refine AWP.seq ?_
        refine AWP.region ?_
        refine AOps.call (o_fieldRef _ rfl fa26_0 rfl rfl) ?_
        refine AOps.call (o_loadRef _ rfl rfl Tryd.sizeOf3 Tryd.isAgg3 rfl rfl rfl) ?_
        refine AOps.call (o_bin _ _ rfl rfl (fun _ => rfl) rfl) ?_
        refine AOps.nil ?_
        refine AWP.cond _ rfl (fun h42 => ?_) (fun h42 => ?_)
        · skip
          have k4 : s.kind = 4 := by simpa using h42
          have hT : tknM p s = 0 := by unfold tknM; rw [if_pos (by omega)]
          refine AWP.seq ?_
          refine AWP.region ?_
          refine AOps.call (o_fieldRef _ rfl fa26_1 rfl rfl) ?_
          refine AOps.call (o_loadRef _ rfl rfl Tryd.sizeOf3 Tryd.isAgg3 rfl rfl rfl) ?_
          refine AOps.call (o_assign _ rfl rfl) ?_
          refine AOps.nil ?_
          refine AWP.seq ?_
          refine AWP.seq ?_
          refine AWP.region ?_
          refine AOps.call (o_assign _ rfl rfl) ?_
          refine AOps.nil ?_
          refine AWP.block ?_
          refine AWP.loop (ι := List Lay × List Lay × Int) (fun i => AS.mk' 153 [(3, .ref (3, 0) 0), (11, .arr (47, 0) 0 (lays p).length (lays p).length), (12, I i.2.2), (13, I (i.1.length : Nat))] [((3, 0), eT s), ((47, 0), rowC (i.1 ++ i.2.1))] [] [(3, 1), (47, 1)]) (fun i => i.1.length + i.2.1.length = p.length ∧ frzL s.much p = ((frzL i.2.2 i.2.1).1, i.1 ++ (frzL i.2.2 i.2.1).2) ∧ (∀ x ∈ i.2.1, flo x) ∧ (0 ≤ i.2.2 ∧ i.2.2 ≤ s.much)) (fun i => i.2.1.length) ([], p, s.much) (Weak.mk' rfl ⟨⟨.refl rfl, rfl⟩, ⟨⟨.refl rfl, rfl⟩, ⟨⟨.refl rfl, rfl⟩, ⟨⟨.refl rfl, rfl⟩, trivial⟩⟩⟩⟩ ⟨⟨rfl, rfl, rfl⟩, ⟨⟨rfl, lowL_sc _ _ (lays_scs _), rfl⟩, trivial⟩⟩ trivial) (⟨by simp, rfl, colOk_flo (colOk_of hp), by (try dsimp only); omega, Int.le_refl _⟩) ?_
          rintro ⟨done, rest, left⟩ ⟨hlen, hfz, hfl, hlf⟩
          try dsimp only at *
          refine AWP.seq ?_
          refine AWP.seq ?_
          refine AWP.region ?_
          refine AOps.call (o_move _ rfl rfl) ?_
          refine AOps.call (o_move _ rfl rfl) ?_
          refine AOps.call (o_lenArr _ Tryd.underlying22 rfl rfl) ?_
          refine AOps.call (o_bin _ _ rfl rfl (fun _ => rfl) rfl) ?_
          refine AOps.nil ?_
          refine AWP.cond _ rfl (fun h49 => ?_) (fun h49 => ?_)
          · skip
            have hlt : done.length < p.length := by have hq := of_decide_eq_true h49; omega
            obtain ⟨l, r, rfl⟩ : ∃ l r, rest = l :: r := by
              cases rest with
              | nil => simp at hlen; omega
              | cons a b => exact ⟨a, b, rfl⟩
            have hfl0 := hfl l (by simp)
            unfold flo at hfl0
            refine AWP.skip ?_
            refine AWP.seq ?_
            refine AWP.block ?_
            refine AWP.seq ?_
            refine AWP.region ?_
            refine AOps.call (o_move _ rfl rfl) ?_
            refine AOps.call (o_move _ rfl rfl) ?_
            refine AOps.call (o_move _ rfl rfl) ?_
            refine AOps.call (o_indexArr (o := done.length * 3) _ _ Tryd.underlying22 Tryd.sizeOf28 rfl rfl (by omega) (by rw [lays_len]; simp only [List.length_cons] at hlen; omega) (by omega) rfl) ?_
            refine AOps.call (o_fieldRef _ rfl fa28_1 rfl rfl) ?_
            refine AOps.call (o_loadRefE _ rfl rfl Tryd.sizeOf3 Tryd.isAgg3 (rm_wet (by omega)) rfl) ?_
            refine AOps.call (o_minZ _ _ rfl rfl rfl) ?_
            refine AOps.call (o_assign _ rfl rfl) ?_
            refine AOps.nil ?_
            refine AWP.seq ?_
            refine AWP.region ?_
            refine AOps.call (o_move _ rfl rfl) ?_
            refine AOps.call (o_move _ rfl rfl) ?_
            refine AOps.call (o_move _ rfl rfl) ?_
            refine AOps.call (o_move _ rfl rfl) ?_
            refine AOps.call (o_indexArr (o := done.length * 3) _ _ Tryd.underlying22 Tryd.sizeOf28 rfl rfl (by omega) (by rw [lays_len]; simp only [List.length_cons] at hlen; omega) (by omega) rfl) ?_
            refine AOps.call (o_fieldRef _ rfl fa28_1 rfl rfl) ?_
            refine AOps.call (o_loadRefE _ rfl rfl Tryd.sizeOf3 Tryd.isAgg3 (rm_wet (by omega)) rfl) ?_
            refine AOps.call (o_move _ rfl rfl) ?_
            refine AOps.call (o_sub _ _ rfl rfl ⟨by (try dsimp only); omega, by (try dsimp only); omega⟩ rfl) ?_
            refine AOps.call (o_indexArr (o := done.length * 3) _ _ Tryd.underlying22 Tryd.sizeOf28 rfl rfl (by omega) (by rw [lays_len]; simp only [List.length_cons] at hlen; omega) (by omega) rfl) ?_
            refine AOps.call (o_fieldRef _ rfl fa28_1 rfl rfl) ?_
            refine AOps.cons (o_storeE _ _ rfl rfl Tryd.sizeOf3 rfl rfl (by rw [row_len]; simp only [List.length_append, List.length_cons]; omega) (rm_set (j := 1) (m := ⟨l.ice, l.wet - min left l.wet, l.cold⟩) (by omega) rfl (by omega)) rfl) ?_
            refine AOps.nil ?_
            refine AWP.seq ?_
            refine AWP.region ?_
            refine AOps.call (o_move _ rfl rfl) ?_
            refine AOps.call (o_move _ rfl rfl) ?_
            refine AOps.call (o_move _ rfl rfl) ?_
            refine AOps.call (o_move _ rfl rfl) ?_
            refine AOps.call (o_indexArr (o := done.length * 3) _ _ Tryd.underlying22 Tryd.sizeOf28 rfl rfl (by omega) (by rw [lays_len]; simp only [List.length_cons] at hlen; omega) (by omega) rfl) ?_
            refine AOps.call (o_fieldRef _ rfl fa28_0 rfl rfl) ?_
            refine AOps.call (o_loadRefE _ rfl rfl Tryd.sizeOf3 Tryd.isAgg3 (rm_ice (by omega)) rfl) ?_
            refine AOps.call (o_move _ rfl rfl) ?_
            refine AOps.call (o_add _ _ rfl rfl ⟨by (try dsimp only); omega, by (try dsimp only); omega⟩ rfl) ?_
            refine AOps.call (o_indexArr (o := done.length * 3) _ _ Tryd.underlying22 Tryd.sizeOf28 rfl rfl (by omega) (by rw [lays_len]; simp only [List.length_cons] at hlen; omega) (by omega) rfl) ?_
            refine AOps.call (o_fieldRef _ rfl fa28_0 rfl rfl) ?_
            refine AOps.cons (o_storeE _ _ rfl rfl Tryd.sizeOf3 rfl rfl (by rw [row_len]; simp only [List.length_append, List.length_cons]; omega) (rm_set (j := 0) (m := (frzF left l).2) (by omega) rfl (by omega)) rfl) ?_
            refine AOps.nil ?_
            refine AWP.region ?_
            refine AOps.call (o_move _ rfl rfl) ?_
            refine AOps.call (o_move _ rfl rfl) ?_
            refine AOps.call (o_sub _ _ rfl rfl ⟨by (try dsimp only); omega, by (try dsimp only); omega⟩ rfl) ?_
            refine AOps.call (o_assign _ rfl rfl) ?_
            refine AOps.nil ?_
            refine AWP.region ?_
            refine AOps.call (o_move _ rfl rfl) ?_
            refine AOps.call (o_add _ _ rfl rfl ⟨by (try dsimp only); omega, by (try dsimp only); omega⟩ rfl) ?_
            refine AOps.call (o_assign _ rfl rfl) ?_
            refine AOps.nil ?_
            refine ⟨(done ++ [(frzF left l).2], r, (frzF left l).1), ?_, (Weak.mk' rfl ⟨⟨.refl rfl, rfl⟩, ⟨⟨.refl rfl, rfl⟩, ⟨⟨.refl (by rfl), rfl⟩, ⟨⟨.refl (by show I ((done.length : Int) + 1) = _; simp only [List.length_append, List.length_cons, List.length_nil]; rfl), rfl⟩, trivial⟩⟩⟩⟩ ⟨⟨rfl, rfl, rfl⟩, ⟨⟨(by rw [List.append_assoc]; rfl), lowL_sc _ _ (lays_scs _), rfl⟩, trivial⟩⟩ trivial)⟩
            exact ⟨⟨by simp only [List.length_append, List.length_cons, List.length_nil] at hlen ⊢; omega, frz_app hfz rfl, fun x hx => hfl x (by simp [hx]), by simp only [frzF]; omega, by simp only [frzF]; omega⟩, by simp⟩
          · skip
            obtain rfl : rest = [] := List.eq_nil_of_length_eq_zero (by have hq := of_decide_eq_false h49; omega)
            obtain ⟨d0, dr, rfl⟩ : ∃ l r, done = l :: r := by
              cases done with
              | nil => simp at hlen; omega
              | cons a b => exact ⟨a, b, rfl⟩
            have hfz2 : frzL s.much p = (left, d0 :: dr) := by rw [hfz]; simp [frzL]
            have hcd := (frzL_ok (colOk_flo (colOk_of hp)) (show 0 ≤ s.much by omega)).2.2 d0 (by rw [hfz2]; simp)
            have hLp : (lays p).length = (lays (d0 :: dr)).length := by rw [lays_len, lays_len]; simp at hlen ⊢; omega
            have hA0 : d0 :: dr ++ [] = d0 :: dr := List.append_nil _
            refine AWP.weak (Weak.mk' (n := 153) (tm := [(3, .ref (3, 0) 0), (11, .arr (47, 0) 0 (lays (d0 :: dr)).length (lays (d0 :: dr)).length), (12, I left), (13, I ((d0 :: dr).length : Nat))]) (va := [((3, 0), eT s), ((47, 0), rowC (d0 :: dr))]) (gr := []) (gen := [(3, 1), (47, 1)]) rfl ⟨⟨.refl rfl, rfl⟩, ⟨.refl (by rw [hLp]; rfl), rfl⟩, ⟨.refl rfl, rfl⟩, ⟨.refl rfl, rfl⟩, trivial⟩ ⟨⟨rfl, rfl, rfl⟩, ⟨by rw [hA0]; rfl, lowL_sc _ _ (lays_scs _), rfl⟩, trivial⟩ trivial) ?_
            refine AWP.exit ?_
            refine AWP.seq ?_
            refine AWP.seq ?_
            refine AWP.region ?_
            refine AOps.call (o_move _ rfl rfl) ?_
            refine AOps.call (o_lenArr _ Tryd.underlying22 rfl rfl) ?_
            refine AOps.call (o_bin _ _ rfl rfl (fun _ => rfl) rfl) ?_
            refine AOps.nil ?_
            refine AWP.cond _ rfl (fun h78 => ?_) (fun h78 => ?_)
            · skip
              have hE : (doM p s) = (⟨d0.ice, d0.wet, d0.cold + left⟩ :: dr, 0) := by unfold doM; rw [if_neg hn1, if_neg k2, if_pos k4]; unfold frzK; rw [hfz2]; rfl
              refine AWP.region ?_
              refine AOps.call (o_move _ rfl rfl) ?_
              refine AOps.call (o_move _ rfl rfl) ?_
              refine AOps.call (o_indexArr (o := 0) _ _ Tryd.underlying22 Tryd.sizeOf28 rfl rfl (by omega) (by simp [lays]) (by omega) rfl) ?_
              refine AOps.call (o_fieldRef _ rfl fa28_2 rfl rfl) ?_
              refine AOps.call (o_loadRefE _ rfl rfl Tryd.sizeOf3 Tryd.isAgg3 (rm_cold (P := []) (by simp)) rfl) ?_
              refine AOps.call (o_move _ rfl rfl) ?_
              refine AOps.call (o_add _ _ rfl rfl ⟨by (try dsimp only); omega, by (try dsimp only); omega⟩ rfl) ?_
              refine AOps.call (o_indexArr (o := 0) _ _ Tryd.underlying22 Tryd.sizeOf28 rfl rfl (by omega) (by simp [lays]) (by omega) rfl) ?_
              refine AOps.call (o_fieldRef _ rfl fa28_2 rfl rfl) ?_
              refine AOps.cons (o_storeE _ _ rfl rfl Tryd.sizeOf3 rfl rfl (by rw [row_len]; simp; omega) (rm_set (P := []) (j := 2) (m := ⟨d0.ice, d0.wet, d0.cold + left⟩) (by omega) rfl (by simp)) rfl) ?_
              refine AOps.nil ?_
              refine AWP.seq ?_
              refine AWP.region ?_
              refine AOps.weak (Weak.frzP (id := (47, 0)) (t := 11) (z := 3) (es := lays (⟨d0.ice, d0.wet, d0.cold + left⟩ :: dr)) (cs' := rowC (⟨d0.ice, d0.wet, d0.cold + left⟩ :: dr)) rfl rfl (row_close _) (fun j c h => h) lays_z rfl) ?_
              refine AOps.call (o_move _ rfl rfl) ?_
              refine AOps.call (o_assign _ rfl rfl) ?_
              refine AOps.call (o_assign _ rfl rfl) ?_
              refine AOps.call (o_assign _ rfl rfl) ?_
              refine AOps.nil ?_
              refine AWP.ret ?_
              refine postQ.ret3 Tryd.results72 rfl rfl rfl ?_
              rw [hE, hT]
              rfl
            · skip
              exfalso
              have hq := of_decide_eq_false h78
              simp [lays] at hq
        · skip
          have k4 : ¬ s.kind = 4 := by simpa using h42
          have hdl := do_loop (p := p) hn1 k2 k4 (by omega)
          refine AWP.skip ?_
          refine AWP.seq ?_
          refine AWP.seq ?_
          refine AWP.region ?_
          refine AOps.call (o_assign _ rfl rfl) ?_
          refine AOps.nil ?_
          refine AWP.block ?_
          refine AWP.loop (ι := List Lay × Int × Nat) (fun i => AS.mk' 153 [(3, .ref (3, 0) 0), (7, I i.2.1), (8, I (tkI s i.2.2)), (11, .arr (47, 0) 0 (lays i.1).length (lays i.1).length), (15, I i.2.2)] [((3, 0), eT s), ((47, 0), rowC i.1)] [] [(3, 1), (47, 1)]) (fun i => itM (stF s) i.2.2 p = (i.1, i.2.1) ∧ i.2.2 ≤ s.much.toNat ∧ tkInv p i.1 s i.2.2) (fun i => s.much.toNat - i.2.2) (p, 0, 0) (Weak.mk' rfl ⟨⟨.refl rfl, rfl⟩, ⟨⟨.refl rfl, rfl⟩, ⟨⟨.refl (by rw [show tkI s 0 = 0 from by unfold tkI; split <;> rfl]; rfl), rfl⟩, ⟨⟨.refl rfl, rfl⟩, ⟨⟨.refl rfl, rfl⟩, trivial⟩⟩⟩⟩⟩ ⟨⟨rfl, rfl, rfl⟩, ⟨⟨rfl, lowL_sc _ _ (lays_scs _), rfl⟩, trivial⟩⟩ trivial) (⟨rfl, Nat.zero_le _, tk_0 p s⟩) ?_
          rintro ⟨out, ran, n⟩ ⟨hit, hn, htk⟩
          try dsimp only at *
          refine AWP.seq ?_
          refine AWP.seq ?_
          refine AWP.region ?_
          refine AOps.call (o_move _ rfl rfl) ?_
          refine AOps.call (o_fieldRef _ rfl fa26_1 rfl rfl) ?_
          refine AOps.call (o_loadRef _ rfl rfl Tryd.sizeOf3 Tryd.isAgg3 rfl rfl rfl) ?_
          refine AOps.call (o_bin _ _ rfl rfl (fun _ => rfl) rfl) ?_
          refine AOps.call (o_move _ rfl rfl) ?_
          refine AOps.split rfl rfl rfl (fun h93 => ?_) (fun h93 => ?_)
          · skip
            have hlt : (n : Int) < s.much := of_decide_eq_true h93
            refine AOps.go rfl rfl rfl h93 (o_move _ rfl rfl) ?_
            refine AOps.go rfl rfl rfl h93 (o_lenArr _ Tryd.underlying22 rfl rfl) ?_
            refine AOps.go rfl rfl rfl h93 (o_bin _ _ rfl rfl (fun _ => rfl) rfl) ?_
            refine AOps.call (o_pickT _ _ _ rfl h93 rfl rfl) ?_
            refine AOps.call (o_move _ rfl rfl) ?_
            refine AOps.split rfl rfl rfl (fun h96 => ?_) (fun h96 => ?_)
            · skip
              obtain ⟨l, r, rfl⟩ : ∃ l r, out = l :: r := by
                cases out with
                | nil => exact absurd h96 (by decide)
                | cons a b => exact ⟨a, b, rfl⟩
              have hEo := stF_E s hp n
              rw [hit] at hEo
              have hbo := packE_bd hEo.1
              have hco := hbo.2.2.1
              have hbl := hbo.1
              simp only [List.length_cons] at hbl
              have hl0 := (hco l (by simp)).1
              unfold flo at hl0
              have htb := tkI_bd s n
              refine AOps.go rfl rfl rfl h96 (o_fieldRef _ rfl fa26_0 rfl rfl) ?_
              refine AOps.go rfl rfl rfl h96 (o_loadRef _ rfl rfl Tryd.sizeOf3 Tryd.isAgg3 rfl rfl rfl) ?_
              refine AOps.go rfl rfl rfl h96 (o_bin _ _ rfl rfl (fun _ => rfl) rfl) ?_
              refine AOps.call (o_pickT _ _ _ rfl h96 rfl rfl) ?_
              refine AOps.nil ?_
              refine AWP.cond _ rfl (fun h100 => ?_) (fun h100 => ?_)
              · skip
                refine AWP.skip ?_
                refine AWP.seq ?_
                refine AWP.block ?_
                refine AWP.seq ?_
                refine AWP.region ?_
                refine AOps.call (o_assign _ rfl rfl) ?_
                refine AOps.nil ?_
                refine AWP.seq ?_
                refine AWP.seq ?_
                refine AWP.region ?_
                refine AOps.call (o_fieldRef _ rfl fa26_0 rfl rfl) ?_
                refine AOps.call (o_loadRef _ rfl rfl Tryd.sizeOf3 Tryd.isAgg3 rfl rfl rfl) ?_
                refine AOps.call (o_bin _ _ rfl rfl (fun _ => rfl) rfl) ?_
                refine AOps.nil ?_
                refine AWP.cond _ rfl (fun h105 => ?_) (fun h105 => ?_)
                · skip
                  have k3 : ¬ s.kind = 3 := by simpa using h105
                  have hstf : stF s = take1 := by unfold stF; rw [if_neg k3]
                  have htk2 : tkI s (n + 1) = tkI s n + 1 := by unfold tkI; rw [if_neg k3, if_neg k3]; omega
                  have hb2 := (stF_E s hp (n + 1)).2
                  rw [itM_snoc, hit, hstf] at hb2
                  simp only [take1] at hb2
                  refine AWP.seq ?_
                  refine AWP.region ?_
                  refine AOps.weak (Weak.frzP (id := (47, 0)) (t := 11) (z := 3) (es := lays (l :: r)) (cs' := rowC (l :: r)) rfl rfl (row_close _) (fun j c h => h) lays_z rfl) ?_
                  refine AOps.call (o_move _ rfl rfl) ?_
                  refine AOps.callW (rlose_s l r 0 hco (by omega) ⟨by omega, by omega⟩) Tryd.call93 rfl rfl ?_
                  refine AOps.call (o_move _ rfl rfl) ?_
                  refine AOps.call (o_extract _ rfl rfl rfl rfl) ?_
                  refine AOps.call (o_extract _ rfl rfl rfl rfl) ?_
                  refine AOps.call (o_assign _ rfl rfl) ?_
                  refine AOps.call (o_assign _ rfl rfl) ?_
                  refine AOps.nil ?_
                  refine AWP.region ?_
                  refine AOps.call (o_move _ rfl rfl) ?_
                  refine AOps.call (o_add _ _ rfl rfl ⟨by (try dsimp only); omega, by (try dsimp only); omega⟩ rfl) ?_
                  refine AOps.call (o_assign _ rfl rfl) ?_
                  refine AOps.nil ?_
                  refine AWP.region ?_
                  refine AOps.call (o_move _ rfl rfl) ?_
                  refine AOps.call (o_move _ rfl rfl) ?_
                  refine AOps.call (o_add _ _ rfl rfl ⟨by (try dsimp only); omega, by (try dsimp only); omega⟩ rfl) ?_
                  refine AOps.call (o_assign _ rfl rfl) ?_
                  refine AOps.nil ?_
                  refine AWP.region ?_
                  refine AOps.call (o_move _ rfl rfl) ?_
                  refine AOps.call (o_add _ _ rfl rfl ⟨by (try dsimp only); omega, by (try dsimp only); omega⟩ rfl) ?_
                  refine AOps.call (o_assign _ rfl rfl) ?_
                  refine AOps.nil ?_
                  refine ⟨((losK [] l r 1 0).2.1, ran + (losK [] l r 1 0).2.2, n + 1), ?_, (Weak.trans (Weak.mk' (σ := _) (n := 153) (tm := [(3, .ref (3, 0) 0), (7, I (ran + (losK [] l r 1 0).2.2)), (8, I (tkI s (n + 1))), (11, .arr (125, 0) 0 (lays (losK [] l r 1 0).2.1).length (lays (losK [] l r 1 0).2.1).length), (15, I ((n : Int) + 1))]) (va := [((3, 0), eT s), ((125, 0), rowC (losK [] l r 1 0).2.1)]) (gr := []) (gen := [(3, 1), (125, 1)]) rfl ⟨⟨.refl rfl, rfl⟩, ⟨⟨.refl rfl, rfl⟩, ⟨⟨.refl (by rw [htk2]; rfl), rfl⟩, ⟨⟨.refl rfl, rfl⟩, ⟨⟨.refl rfl, rfl⟩, trivial⟩⟩⟩⟩⟩ ⟨⟨rfl, rfl, rfl⟩, ⟨rfl, lowL_sc _ _ (lays_scs _), rfl⟩, trivial⟩ trivial) (Weak.trans (Weak.alias (47, 0) 11 (id := (125, 0)) (off := 0) (n := (lays (losK [] l r 1 0).2.1).length) (c := (lays (losK [] l r 1 0).2.1).length) (cs := rowC (losK [] l r 1 0).2.1) rfl rfl rfl rfl) (Weak.mk' rfl ⟨⟨.refl rfl, rfl⟩, ⟨⟨.refl rfl, rfl⟩, ⟨⟨.refl rfl, rfl⟩, ⟨⟨.refl rfl, rfl⟩, ⟨⟨.refl rfl, rfl⟩, trivial⟩⟩⟩⟩⟩ ⟨⟨rfl, rfl, rfl⟩, ⟨rfl, lowL_sc _ _ (lays_scs _), rfl⟩, trivial⟩ trivial)))⟩
                  exact ⟨⟨by rw [itM_snoc, hit, hstf]; rfl, by simp only []; omega, tk_step hco hlt htk⟩, by simp only []; omega⟩
                · skip
                  have k3 : s.kind = 3 := by simpa using h105
                  have hstf : stF s = melt1 := by unfold stF; rw [if_pos k3]
                  have htk2 : tkI s (n + 1) = tkI s n := by unfold tkI; rw [if_pos k3, if_pos k3]
                  have hb2 := (stF_E s hp (n + 1)).2
                  rw [itM_snoc, hit, hstf] at hb2
                  refine AWP.seq ?_
                  refine AWP.region ?_
                  refine AOps.call (o_move _ rfl rfl) ?_
                  refine AOps.call (o_indexArr (o := 0) _ _ Tryd.underlying22 Tryd.sizeOf28 rfl rfl (by omega) (by simp [lays]) (by omega) rfl) ?_
                  refine AOps.call (o_fieldRef _ rfl fa28_2 rfl rfl) ?_
                  refine AOps.call (o_loadRefE _ rfl rfl Tryd.sizeOf3 Tryd.isAgg3 (rm_cold (P := []) (by simp)) rfl) ?_
                  refine AOps.call (o_bin _ _ rfl rfl (fun _ => rfl) rfl) ?_
                  refine AOps.nil ?_
                  refine AWP.cond _ rfl (fun h119 => ?_) (fun h119 => ?_)
                  · skip
                    have hc : 0 < l.cold := of_decide_eq_true h119
                    refine AWP.region ?_
                    refine AOps.call (o_move _ rfl rfl) ?_
                    refine AOps.call (o_indexArr (o := 0) _ _ Tryd.underlying22 Tryd.sizeOf28 rfl rfl (by omega) (by simp [lays]) (by omega) rfl) ?_
                    refine AOps.call (o_fieldRef _ rfl fa28_2 rfl rfl) ?_
                    refine AOps.call (o_loadRefE _ rfl rfl Tryd.sizeOf3 Tryd.isAgg3 (rm_cold (P := []) (by simp)) rfl) ?_
                    refine AOps.call (o_sub _ _ rfl rfl ⟨by (try dsimp only); omega, by (try dsimp only); omega⟩ rfl) ?_
                    refine AOps.call (o_indexArr (o := 0) _ _ Tryd.underlying22 Tryd.sizeOf28 rfl rfl (by omega) (by simp [lays]) (by omega) rfl) ?_
                    refine AOps.call (o_fieldRef _ rfl fa28_2 rfl rfl) ?_
                    refine AOps.cons (o_storeE _ _ rfl rfl Tryd.sizeOf3 rfl rfl (by rw [row_len]; simp; omega) (rm_set (P := []) (j := 2) (m := ⟨l.ice, l.wet, l.cold - 1⟩) (by omega) rfl (by simp)) rfl) ?_
                    refine AOps.nil ?_
                    refine AWP.region ?_
                    refine AOps.call (o_move _ rfl rfl) ?_
                    refine AOps.call (o_move _ rfl rfl) ?_
                    refine AOps.call (o_add _ _ rfl rfl ⟨by (try dsimp only); omega, by (try dsimp only); omega⟩ rfl) ?_
                    refine AOps.call (o_assign _ rfl rfl) ?_
                    refine AOps.nil ?_
                    refine AWP.region ?_
                    refine AOps.call (o_move _ rfl rfl) ?_
                    refine AOps.call (o_add _ _ rfl rfl ⟨by (try dsimp only); omega, by (try dsimp only); omega⟩ rfl) ?_
                    refine AOps.call (o_assign _ rfl rfl) ?_
                    refine AOps.nil ?_
                    refine ⟨((⟨l.ice, l.wet, l.cold - 1⟩ :: r), ran + 0, n + 1), ?_, (Weak.mk' rfl ⟨⟨.refl rfl, rfl⟩, ⟨⟨.refl rfl, rfl⟩, ⟨⟨.refl (by rw [htk2]; rfl), rfl⟩, ⟨⟨.refl rfl, rfl⟩, ⟨⟨.refl (by rfl), rfl⟩, trivial⟩⟩⟩⟩⟩ ⟨⟨rfl, rfl, rfl⟩, ⟨rfl, lowL_sc _ _ (lays_scs _), rfl⟩, trivial⟩ trivial)⟩
                    exact ⟨⟨by rw [itM_snoc, hit, hstf]; simp only [melt1, if_pos hc], by simp only []; omega, fun h => by omega⟩, by simp only []; omega⟩
                  · skip
                    have hc : ¬ 0 < l.cold := of_decide_eq_false h119
                    simp only [melt1, if_neg hc] at hb2
                    refine AWP.region ?_
                    refine AOps.weak (Weak.frzP (id := (47, 0)) (t := 11) (z := 3) (es := lays (l :: r)) (cs' := rowC (l :: r)) rfl rfl (row_close _) (fun j c h => h) lays_z rfl) ?_
                    refine AOps.call (o_move _ rfl rfl) ?_
                    refine AOps.callW (rlose_s l r 1 hco (by omega) ⟨by omega, by omega⟩) Tryd.call93 rfl rfl ?_
                    refine AOps.call (o_move _ rfl rfl) ?_
                    refine AOps.call (o_extract _ rfl rfl rfl rfl) ?_
                    refine AOps.call (o_extract _ rfl rfl rfl rfl) ?_
                    refine AOps.call (o_assign _ rfl rfl) ?_
                    refine AOps.call (o_assign _ rfl rfl) ?_
                    refine AOps.nil ?_
                    refine AWP.region ?_
                    refine AOps.call (o_move _ rfl rfl) ?_
                    refine AOps.call (o_move _ rfl rfl) ?_
                    refine AOps.call (o_add _ _ rfl rfl ⟨by (try dsimp only); omega, by (try dsimp only); omega⟩ rfl) ?_
                    refine AOps.call (o_assign _ rfl rfl) ?_
                    refine AOps.nil ?_
                    refine AWP.region ?_
                    refine AOps.call (o_move _ rfl rfl) ?_
                    refine AOps.call (o_add _ _ rfl rfl ⟨by (try dsimp only); omega, by (try dsimp only); omega⟩ rfl) ?_
                    refine AOps.call (o_assign _ rfl rfl) ?_
                    refine AOps.nil ?_
                    refine ⟨((losK [] l r 1 1).2.1, ran + (losK [] l r 1 1).2.2, n + 1), ?_, (Weak.trans (Weak.mk' (σ := _) (n := 153) (tm := [(3, .ref (3, 0) 0), (7, I (ran + (losK [] l r 1 1).2.2)), (8, I (tkI s (n + 1))), (11, .arr (144, 0) 0 (lays (losK [] l r 1 1).2.1).length (lays (losK [] l r 1 1).2.1).length), (15, I ((n : Int) + 1))]) (va := [((3, 0), eT s), ((144, 0), rowC (losK [] l r 1 1).2.1)]) (gr := []) (gen := [(3, 1), (144, 1)]) rfl ⟨⟨.refl rfl, rfl⟩, ⟨⟨.refl rfl, rfl⟩, ⟨⟨.refl (by rw [htk2]; rfl), rfl⟩, ⟨⟨.refl rfl, rfl⟩, ⟨⟨.refl rfl, rfl⟩, trivial⟩⟩⟩⟩⟩ ⟨⟨rfl, rfl, rfl⟩, ⟨rfl, lowL_sc _ _ (lays_scs _), rfl⟩, trivial⟩ trivial) (Weak.trans (Weak.alias (47, 0) 11 (id := (144, 0)) (off := 0) (n := (lays (losK [] l r 1 1).2.1).length) (c := (lays (losK [] l r 1 1).2.1).length) (cs := rowC (losK [] l r 1 1).2.1) rfl rfl rfl rfl) (Weak.mk' rfl ⟨⟨.refl rfl, rfl⟩, ⟨⟨.refl rfl, rfl⟩, ⟨⟨.refl rfl, rfl⟩, ⟨⟨.refl rfl, rfl⟩, ⟨⟨.refl rfl, rfl⟩, trivial⟩⟩⟩⟩⟩ ⟨⟨rfl, rfl, rfl⟩, ⟨rfl, lowL_sc _ _ (lays_scs _), rfl⟩, trivial⟩ trivial)))⟩
                    exact ⟨⟨by rw [itM_snoc, hit, hstf]; simp only [melt1, if_neg hc], by simp only []; omega, fun h => by omega⟩, by simp only []; omega⟩
              · skip
                exfalso
                have k1 : s.kind = 1 := by simpa using h100
                have := hk k1
                omega
            · skip
              have hz : out = [] := List.eq_nil_of_length_eq_zero (by have hq := of_decide_eq_false h96; rw [lays_len] at hq; omega)
              have hfin : itM (stF s) s.much.toNat p = (out, ran) := by rw [hz] at hit ⊢; exact it_stop (stF_nil s) hit hn
              have hE : (doM p s) = (out, ran) := by rw [hdl]; exact hfin
              have hT : tknM p s = tkI s n := tk_end htk (fun k1 => by have := hk k1; omega) k2 k4 (by omega) (.inr hz)
              refine AOps.pass rfl rfl rfl h96 rfl ?_
              refine AOps.pass rfl rfl rfl h96 rfl ?_
              refine AOps.pass rfl rfl rfl h96 rfl ?_
              refine AOps.call (o_pickF _ _ _ rfl h96 rfl rfl) ?_
              refine AOps.nil ?_
              refine AWP.condF rfl ?_
              refine AWP.exit ?_
              refine AWP.seq ?_
              refine AWP.region ?_
              refine AOps.weak (Weak.frzP (id := (47, 0)) (t := 11) (z := 3) (es := lays out) (cs' := rowC out) rfl rfl (row_close _) (fun j c h => h) lays_z rfl) ?_
              refine AOps.call (o_move _ rfl rfl) ?_
              refine AOps.call (o_move _ rfl rfl) ?_
              refine AOps.call (o_move _ rfl rfl) ?_
              refine AOps.call (o_assign _ rfl rfl) ?_
              refine AOps.call (o_assign _ rfl rfl) ?_
              refine AOps.call (o_assign _ rfl rfl) ?_
              refine AOps.nil ?_
              refine AWP.ret ?_
              refine postQ.ret3 Tryd.results72 rfl rfl rfl ?_
              rw [hE, hT]
              rfl
          · skip
            have hge : ¬ (n : Int) < s.much := of_decide_eq_false h93
            have hfin : itM (stF s) s.much.toNat p = (out, ran) := by rw [show s.much.toNat = n by omega]; exact hit
            have hE : (doM p s) = (out, ran) := by rw [hdl]; exact hfin
            have hT : tknM p s = tkI s n := tk_end htk (fun k1 => by have := hk k1; omega) k2 k4 (by omega) (.inl (by omega))
            refine AOps.pass rfl rfl rfl h93 rfl ?_
            refine AOps.pass rfl rfl rfl h93 rfl ?_
            refine AOps.pass rfl rfl rfl h93 rfl ?_
            refine AOps.call (o_pickF _ _ _ rfl h93 rfl rfl) ?_
            refine AOps.call (o_move _ rfl rfl) ?_
            refine AOps.pass rfl rfl rfl rfl rfl ?_
            refine AOps.pass rfl rfl rfl rfl rfl ?_
            refine AOps.pass rfl rfl rfl rfl rfl ?_
            refine AOps.call (o_pickF _ _ _ rfl rfl rfl rfl) ?_
            refine AOps.nil ?_
            refine AWP.condF rfl ?_
            refine AWP.exit ?_
            refine AWP.seq ?_
            refine AWP.region ?_
            refine AOps.weak (Weak.frzP (id := (47, 0)) (t := 11) (z := 3) (es := lays out) (cs' := rowC out) rfl rfl (row_close _) (fun j c h => h) lays_z rfl) ?_
            refine AOps.call (o_move _ rfl rfl) ?_
            refine AOps.call (o_move _ rfl rfl) ?_
            refine AOps.call (o_move _ rfl rfl) ?_
            refine AOps.call (o_assign _ rfl rfl) ?_
            refine AOps.call (o_assign _ rfl rfl) ?_
            refine AOps.call (o_assign _ rfl rfl) ?_
            refine AOps.nil ?_
            refine AWP.ret ?_
            refine postQ.ret3 Tryd.results72 rfl rfl rfl ?_
            rw [hE, hT]
            rfl
  · skip
    have hk : s.kind = 1 → s.much ≤ 0 := fun h => absurd h (by simpa using h10)
    have hn1 : ¬ (s.kind = 1 ∧ 0 < s.much) := fun h => by have := hk h.1; omega
    refine AOps.pass rfl rfl rfl h10 rfl ?_
    refine AOps.pass rfl rfl rfl h10 rfl ?_
    refine AOps.pass rfl rfl rfl h10 rfl ?_
    refine AOps.call (o_pickF _ _ _ rfl h10 rfl rfl) ?_
    refine AOps.nil ?_
    refine AWP.condF rfl ?_
    refine AWP.skip ?_
    refine AWP.seq ?_
    refine AWP.seq ?_
    refine AWP.region ?_
    refine AOps.call (o_fieldRef _ rfl fa26_0 rfl rfl) ?_
    refine AOps.call (o_loadRef _ rfl rfl Tryd.sizeOf3 Tryd.isAgg3 rfl rfl rfl) ?_
    refine AOps.call (o_bin _ _ rfl rfl (fun _ => rfl) rfl) ?_
    refine AOps.nil ?_
    refine AWP.cond _ rfl (fun h144 => ?_) (fun h144 => ?_)
    · skip
      have k2 : s.kind = 2 := by simpa using h144
      have hE : (doM p s) = ((pourL s.much p).2, (pourL s.much p).1) := by
        have h3 := pourL_it s.much.toNat (colOk_flo (colOk_of hp))
        rw [Int.toNat_of_nonneg (by omega)] at h3
        unfold doM; rw [if_neg hn1, if_pos k2, h3]
      have hT : tknM p s = 0 := by unfold tknM; rw [if_pos (by omega)]
      refine AWP.seq ?_
      refine AWP.region ?_
      refine AOps.call (o_move _ rfl rfl) ?_
      refine AOps.call (o_fieldRef _ rfl fa26_1 rfl rfl) ?_
      refine AOps.call (o_loadRef _ rfl rfl Tryd.sizeOf3 Tryd.isAgg3 rfl rfl rfl) ?_
      refine AOps.callW (rflow_s p s.much (colOk_flo (colOk_of hp)) (by omega) ⟨by omega, by omega⟩) Tryd.call92 rfl rfl ?_
      refine AOps.call (o_move _ rfl rfl) ?_
      refine AOps.call (o_extract _ rfl rfl rfl rfl) ?_
      refine AOps.call (o_extract _ rfl rfl rfl rfl) ?_
      refine AOps.call (o_assign _ rfl rfl) ?_
      refine AOps.call (o_assign _ rfl rfl) ?_
      refine AOps.nil ?_
      refine AWP.seq ?_
      refine AWP.region ?_
      refine AOps.weak (Weak.frzP (id := (40, 0)) (t := 9) (z := 3) (es := lays (pourL s.much p).2) (cs' := rowC (pourL s.much p).2) rfl rfl (row_close _) (fun j c h => h) lays_z rfl) ?_
      refine AOps.call (o_move _ rfl rfl) ?_
      refine AOps.call (o_move _ rfl rfl) ?_
      refine AOps.call (o_assign _ rfl rfl) ?_
      refine AOps.call (o_assign _ rfl rfl) ?_
      refine AOps.call (o_assign _ rfl rfl) ?_
      refine AOps.nil ?_
      refine AWP.ret ?_
      refine postQ.ret3 Tryd.results72 rfl rfl rfl ?_
      rw [hE, hT]
      rfl
    · skip
      have k2 : ¬ s.kind = 2 := by simpa using h144
      refine AWP.skip ?_
      refine AWP.seq ?_
      refine AWP.region ?_
      refine AOps.call (o_lit Tryd.underlying22 Tryd.sizeOf28 Tryd.zeroValue28 rfl rfl rfl rfl rfl rfl rfl) ?_
      refine AOps.call (o_move _ rfl rfl) ?_
      refine AOps.appArr _ _ Tryd.underlying22 info28 rfl rfl rfl rfl rfl rfl rfl rfl lays_z (by omega) (by unfold Tryd.t28; simp only []; omega) rfl rfl ?_
      refine AOps.call (o_assign _ rfl rfl) ?_
      refine AOps.nil ?_
      refine AWP.seq ?_
      refine AWP.seq ?_
      refine AWP.region ?_
      refine AOps.call (o_fieldRef _ rfl fa26_0 rfl rfl) ?_
      refine AOps.call (o_loadRef _ rfl rfl Tryd.sizeOf3 Tryd.isAgg3 rfl rfl rfl) ?_
      refine AOps.call (o_bin _ _ rfl rfl (fun _ => rfl) rfl) ?_
      refine AOps.nil ?_
      refine AWP.cond _ rfl (fun h158 => ?_) (fun h158 => ?_)
      · skip
        have k4 : s.kind = 4 := by simpa using h158
        have hT : tknM p s = 0 := by unfold tknM; rw [if_pos (by omega)]
        refine AWP.seq ?_
        refine AWP.region ?_
        refine AOps.call (o_fieldRef _ rfl fa26_1 rfl rfl) ?_
        refine AOps.call (o_loadRef _ rfl rfl Tryd.sizeOf3 Tryd.isAgg3 rfl rfl rfl) ?_
        refine AOps.call (o_assign _ rfl rfl) ?_
        refine AOps.nil ?_
        refine AWP.seq ?_
        refine AWP.seq ?_
        refine AWP.region ?_
        refine AOps.call (o_assign _ rfl rfl) ?_
        refine AOps.nil ?_
        refine AWP.block ?_
        refine AWP.loop (ι := List Lay × List Lay × Int) (fun i => AS.mk' 153 [(3, .ref (3, 0) 0), (11, .arr (47, 0) 0 (lays p).length (lays p).length), (12, I i.2.2), (13, I (i.1.length : Nat))] [((3, 0), eT s), ((47, 0), rowC (i.1 ++ i.2.1))] [] [(3, 1), (47, 1)]) (fun i => i.1.length + i.2.1.length = p.length ∧ frzL s.much p = ((frzL i.2.2 i.2.1).1, i.1 ++ (frzL i.2.2 i.2.1).2) ∧ (∀ x ∈ i.2.1, flo x) ∧ (0 ≤ i.2.2 ∧ i.2.2 ≤ s.much)) (fun i => i.2.1.length) ([], p, s.much) (Weak.mk' rfl ⟨⟨.refl rfl, rfl⟩, ⟨⟨.refl rfl, rfl⟩, ⟨⟨.refl rfl, rfl⟩, ⟨⟨.refl rfl, rfl⟩, trivial⟩⟩⟩⟩ ⟨⟨rfl, rfl, rfl⟩, ⟨⟨rfl, lowL_sc _ _ (lays_scs _), rfl⟩, trivial⟩⟩ trivial) (⟨by simp, rfl, colOk_flo (colOk_of hp), by (try dsimp only); omega, Int.le_refl _⟩) ?_
        rintro ⟨done, rest, left⟩ ⟨hlen, hfz, hfl, hlf⟩
        try dsimp only at *
        refine AWP.seq ?_
        refine AWP.seq ?_
        refine AWP.region ?_
        refine AOps.call (o_move _ rfl rfl) ?_
        refine AOps.call (o_move _ rfl rfl) ?_
        refine AOps.call (o_lenArr _ Tryd.underlying22 rfl rfl) ?_
        refine AOps.call (o_bin _ _ rfl rfl (fun _ => rfl) rfl) ?_
        refine AOps.nil ?_
        refine AWP.cond _ rfl (fun h165 => ?_) (fun h165 => ?_)
        · skip
          have hlt : done.length < p.length := by have hq := of_decide_eq_true h165; omega
          obtain ⟨l, r, rfl⟩ : ∃ l r, rest = l :: r := by
            cases rest with
            | nil => simp at hlen; omega
            | cons a b => exact ⟨a, b, rfl⟩
          have hfl0 := hfl l (by simp)
          unfold flo at hfl0
          refine AWP.skip ?_
          refine AWP.seq ?_
          refine AWP.block ?_
          refine AWP.seq ?_
          refine AWP.region ?_
          refine AOps.call (o_move _ rfl rfl) ?_
          refine AOps.call (o_move _ rfl rfl) ?_
          refine AOps.call (o_move _ rfl rfl) ?_
          refine AOps.call (o_indexArr (o := done.length * 3) _ _ Tryd.underlying22 Tryd.sizeOf28 rfl rfl (by omega) (by rw [lays_len]; simp only [List.length_cons] at hlen; omega) (by omega) rfl) ?_
          refine AOps.call (o_fieldRef _ rfl fa28_1 rfl rfl) ?_
          refine AOps.call (o_loadRefE _ rfl rfl Tryd.sizeOf3 Tryd.isAgg3 (rm_wet (by omega)) rfl) ?_
          refine AOps.call (o_minZ _ _ rfl rfl rfl) ?_
          refine AOps.call (o_assign _ rfl rfl) ?_
          refine AOps.nil ?_
          refine AWP.seq ?_
          refine AWP.region ?_
          refine AOps.call (o_move _ rfl rfl) ?_
          refine AOps.call (o_move _ rfl rfl) ?_
          refine AOps.call (o_move _ rfl rfl) ?_
          refine AOps.call (o_move _ rfl rfl) ?_
          refine AOps.call (o_indexArr (o := done.length * 3) _ _ Tryd.underlying22 Tryd.sizeOf28 rfl rfl (by omega) (by rw [lays_len]; simp only [List.length_cons] at hlen; omega) (by omega) rfl) ?_
          refine AOps.call (o_fieldRef _ rfl fa28_1 rfl rfl) ?_
          refine AOps.call (o_loadRefE _ rfl rfl Tryd.sizeOf3 Tryd.isAgg3 (rm_wet (by omega)) rfl) ?_
          refine AOps.call (o_move _ rfl rfl) ?_
          refine AOps.call (o_sub _ _ rfl rfl ⟨by (try dsimp only); omega, by (try dsimp only); omega⟩ rfl) ?_
          refine AOps.call (o_indexArr (o := done.length * 3) _ _ Tryd.underlying22 Tryd.sizeOf28 rfl rfl (by omega) (by rw [lays_len]; simp only [List.length_cons] at hlen; omega) (by omega) rfl) ?_
          refine AOps.call (o_fieldRef _ rfl fa28_1 rfl rfl) ?_
          refine AOps.cons (o_storeE _ _ rfl rfl Tryd.sizeOf3 rfl rfl (by rw [row_len]; simp only [List.length_append, List.length_cons]; omega) (rm_set (j := 1) (m := ⟨l.ice, l.wet - min left l.wet, l.cold⟩) (by omega) rfl (by omega)) rfl) ?_
          refine AOps.nil ?_
          refine AWP.seq ?_
          refine AWP.region ?_
          refine AOps.call (o_move _ rfl rfl) ?_
          refine AOps.call (o_move _ rfl rfl) ?_
          refine AOps.call (o_move _ rfl rfl) ?_
          refine AOps.call (o_move _ rfl rfl) ?_
          refine AOps.call (o_indexArr (o := done.length * 3) _ _ Tryd.underlying22 Tryd.sizeOf28 rfl rfl (by omega) (by rw [lays_len]; simp only [List.length_cons] at hlen; omega) (by omega) rfl) ?_
          refine AOps.call (o_fieldRef _ rfl fa28_0 rfl rfl) ?_
          refine AOps.call (o_loadRefE _ rfl rfl Tryd.sizeOf3 Tryd.isAgg3 (rm_ice (by omega)) rfl) ?_
          refine AOps.call (o_move _ rfl rfl) ?_
          refine AOps.call (o_add _ _ rfl rfl ⟨by (try dsimp only); omega, by (try dsimp only); omega⟩ rfl) ?_
          refine AOps.call (o_indexArr (o := done.length * 3) _ _ Tryd.underlying22 Tryd.sizeOf28 rfl rfl (by omega) (by rw [lays_len]; simp only [List.length_cons] at hlen; omega) (by omega) rfl) ?_
          refine AOps.call (o_fieldRef _ rfl fa28_0 rfl rfl) ?_
          refine AOps.cons (o_storeE _ _ rfl rfl Tryd.sizeOf3 rfl rfl (by rw [row_len]; simp only [List.length_append, List.length_cons]; omega) (rm_set (j := 0) (m := (frzF left l).2) (by omega) rfl (by omega)) rfl) ?_
          refine AOps.nil ?_
          refine AWP.region ?_
          refine AOps.call (o_move _ rfl rfl) ?_
          refine AOps.call (o_move _ rfl rfl) ?_
          refine AOps.call (o_sub _ _ rfl rfl ⟨by (try dsimp only); omega, by (try dsimp only); omega⟩ rfl) ?_
          refine AOps.call (o_assign _ rfl rfl) ?_
          refine AOps.nil ?_
          refine AWP.region ?_
          refine AOps.call (o_move _ rfl rfl) ?_
          refine AOps.call (o_add _ _ rfl rfl ⟨by (try dsimp only); omega, by (try dsimp only); omega⟩ rfl) ?_
          refine AOps.call (o_assign _ rfl rfl) ?_
          refine AOps.nil ?_
          refine ⟨(done ++ [(frzF left l).2], r, (frzF left l).1), ?_, (Weak.mk' rfl ⟨⟨.refl rfl, rfl⟩, ⟨⟨.refl rfl, rfl⟩, ⟨⟨.refl (by rfl), rfl⟩, ⟨⟨.refl (by show I ((done.length : Int) + 1) = _; simp only [List.length_append, List.length_cons, List.length_nil]; rfl), rfl⟩, trivial⟩⟩⟩⟩ ⟨⟨rfl, rfl, rfl⟩, ⟨⟨(by rw [List.append_assoc]; rfl), lowL_sc _ _ (lays_scs _), rfl⟩, trivial⟩⟩ trivial)⟩
          exact ⟨⟨by simp only [List.length_append, List.length_cons, List.length_nil] at hlen ⊢; omega, frz_app hfz rfl, fun x hx => hfl x (by simp [hx]), by simp only [frzF]; omega, by simp only [frzF]; omega⟩, by simp⟩
        · skip
          obtain rfl : rest = [] := List.eq_nil_of_length_eq_zero (by have hq := of_decide_eq_false h165; omega)
          obtain ⟨d0, dr, rfl⟩ : ∃ l r, done = l :: r := by
            cases done with
            | nil => simp at hlen; omega
            | cons a b => exact ⟨a, b, rfl⟩
          have hfz2 : frzL s.much p = (left, d0 :: dr) := by rw [hfz]; simp [frzL]
          have hcd := (frzL_ok (colOk_flo (colOk_of hp)) (show 0 ≤ s.much by omega)).2.2 d0 (by rw [hfz2]; simp)
          have hLp : (lays p).length = (lays (d0 :: dr)).length := by rw [lays_len, lays_len]; simp at hlen ⊢; omega
          have hA0 : d0 :: dr ++ [] = d0 :: dr := List.append_nil _
          refine AWP.weak (Weak.mk' (n := 153) (tm := [(3, .ref (3, 0) 0), (11, .arr (47, 0) 0 (lays (d0 :: dr)).length (lays (d0 :: dr)).length), (12, I left), (13, I ((d0 :: dr).length : Nat))]) (va := [((3, 0), eT s), ((47, 0), rowC (d0 :: dr))]) (gr := []) (gen := [(3, 1), (47, 1)]) rfl ⟨⟨.refl rfl, rfl⟩, ⟨.refl (by rw [hLp]; rfl), rfl⟩, ⟨.refl rfl, rfl⟩, ⟨.refl rfl, rfl⟩, trivial⟩ ⟨⟨rfl, rfl, rfl⟩, ⟨by rw [hA0]; rfl, lowL_sc _ _ (lays_scs _), rfl⟩, trivial⟩ trivial) ?_
          refine AWP.exit ?_
          refine AWP.seq ?_
          refine AWP.seq ?_
          refine AWP.region ?_
          refine AOps.call (o_move _ rfl rfl) ?_
          refine AOps.call (o_lenArr _ Tryd.underlying22 rfl rfl) ?_
          refine AOps.call (o_bin _ _ rfl rfl (fun _ => rfl) rfl) ?_
          refine AOps.nil ?_
          refine AWP.cond _ rfl (fun h194 => ?_) (fun h194 => ?_)
          · skip
            have hE : (doM p s) = (⟨d0.ice, d0.wet, d0.cold + left⟩ :: dr, 0) := by unfold doM; rw [if_neg hn1, if_neg k2, if_pos k4]; unfold frzK; rw [hfz2]; rfl
            refine AWP.region ?_
            refine AOps.call (o_move _ rfl rfl) ?_
            refine AOps.call (o_move _ rfl rfl) ?_
            refine AOps.call (o_indexArr (o := 0) _ _ Tryd.underlying22 Tryd.sizeOf28 rfl rfl (by omega) (by simp [lays]) (by omega) rfl) ?_
            refine AOps.call (o_fieldRef _ rfl fa28_2 rfl rfl) ?_
            refine AOps.call (o_loadRefE _ rfl rfl Tryd.sizeOf3 Tryd.isAgg3 (rm_cold (P := []) (by simp)) rfl) ?_
            refine AOps.call (o_move _ rfl rfl) ?_
            refine AOps.call (o_add _ _ rfl rfl ⟨by (try dsimp only); omega, by (try dsimp only); omega⟩ rfl) ?_
            refine AOps.call (o_indexArr (o := 0) _ _ Tryd.underlying22 Tryd.sizeOf28 rfl rfl (by omega) (by simp [lays]) (by omega) rfl) ?_
            refine AOps.call (o_fieldRef _ rfl fa28_2 rfl rfl) ?_
            refine AOps.cons (o_storeE _ _ rfl rfl Tryd.sizeOf3 rfl rfl (by rw [row_len]; simp; omega) (rm_set (P := []) (j := 2) (m := ⟨d0.ice, d0.wet, d0.cold + left⟩) (by omega) rfl (by simp)) rfl) ?_
            refine AOps.nil ?_
            refine AWP.seq ?_
            refine AWP.region ?_
            refine AOps.weak (Weak.frzP (id := (47, 0)) (t := 11) (z := 3) (es := lays (⟨d0.ice, d0.wet, d0.cold + left⟩ :: dr)) (cs' := rowC (⟨d0.ice, d0.wet, d0.cold + left⟩ :: dr)) rfl rfl (row_close _) (fun j c h => h) lays_z rfl) ?_
            refine AOps.call (o_move _ rfl rfl) ?_
            refine AOps.call (o_assign _ rfl rfl) ?_
            refine AOps.call (o_assign _ rfl rfl) ?_
            refine AOps.call (o_assign _ rfl rfl) ?_
            refine AOps.nil ?_
            refine AWP.ret ?_
            refine postQ.ret3 Tryd.results72 rfl rfl rfl ?_
            rw [hE, hT]
            rfl
          · skip
            exfalso
            have hq := of_decide_eq_false h194
            simp [lays] at hq
      · skip
        have k4 : ¬ s.kind = 4 := by simpa using h158
        have hdl := do_loop (p := p) hn1 k2 k4 (by omega)
        refine AWP.skip ?_
        refine AWP.seq ?_
        refine AWP.seq ?_
        refine AWP.region ?_
        refine AOps.call (o_assign _ rfl rfl) ?_
        refine AOps.nil ?_
        refine AWP.block ?_
        refine AWP.loop (ι := List Lay × Int × Nat) (fun i => AS.mk' 153 [(3, .ref (3, 0) 0), (7, I i.2.1), (8, I (tkI s i.2.2)), (11, .arr (47, 0) 0 (lays i.1).length (lays i.1).length), (15, I i.2.2)] [((3, 0), eT s), ((47, 0), rowC i.1)] [] [(3, 1), (47, 1)]) (fun i => itM (stF s) i.2.2 p = (i.1, i.2.1) ∧ i.2.2 ≤ s.much.toNat ∧ tkInv p i.1 s i.2.2) (fun i => s.much.toNat - i.2.2) (p, 0, 0) (Weak.mk' rfl ⟨⟨.refl rfl, rfl⟩, ⟨⟨.refl rfl, rfl⟩, ⟨⟨.refl (by rw [show tkI s 0 = 0 from by unfold tkI; split <;> rfl]; rfl), rfl⟩, ⟨⟨.refl rfl, rfl⟩, ⟨⟨.refl rfl, rfl⟩, trivial⟩⟩⟩⟩⟩ ⟨⟨rfl, rfl, rfl⟩, ⟨⟨rfl, lowL_sc _ _ (lays_scs _), rfl⟩, trivial⟩⟩ trivial) (⟨rfl, Nat.zero_le _, tk_0 p s⟩) ?_
        rintro ⟨out, ran, n⟩ ⟨hit, hn, htk⟩
        try dsimp only at *
        refine AWP.seq ?_
        refine AWP.seq ?_
        refine AWP.region ?_
        refine AOps.call (o_move _ rfl rfl) ?_
        refine AOps.call (o_fieldRef _ rfl fa26_1 rfl rfl) ?_
        refine AOps.call (o_loadRef _ rfl rfl Tryd.sizeOf3 Tryd.isAgg3 rfl rfl rfl) ?_
        refine AOps.call (o_bin _ _ rfl rfl (fun _ => rfl) rfl) ?_
        refine AOps.call (o_move _ rfl rfl) ?_
        refine AOps.split rfl rfl rfl (fun h209 => ?_) (fun h209 => ?_)
        · skip
          have hlt : (n : Int) < s.much := of_decide_eq_true h209
          refine AOps.go rfl rfl rfl h209 (o_move _ rfl rfl) ?_
          refine AOps.go rfl rfl rfl h209 (o_lenArr _ Tryd.underlying22 rfl rfl) ?_
          refine AOps.go rfl rfl rfl h209 (o_bin _ _ rfl rfl (fun _ => rfl) rfl) ?_
          refine AOps.call (o_pickT _ _ _ rfl h209 rfl rfl) ?_
          refine AOps.call (o_move _ rfl rfl) ?_
          refine AOps.split rfl rfl rfl (fun h212 => ?_) (fun h212 => ?_)
          · skip
            obtain ⟨l, r, rfl⟩ : ∃ l r, out = l :: r := by
              cases out with
              | nil => exact absurd h212 (by decide)
              | cons a b => exact ⟨a, b, rfl⟩
            have hEo := stF_E s hp n
            rw [hit] at hEo
            have hbo := packE_bd hEo.1
            have hco := hbo.2.2.1
            have hbl := hbo.1
            simp only [List.length_cons] at hbl
            have hl0 := (hco l (by simp)).1
            unfold flo at hl0
            have htb := tkI_bd s n
            refine AOps.go rfl rfl rfl h212 (o_fieldRef _ rfl fa26_0 rfl rfl) ?_
            refine AOps.go rfl rfl rfl h212 (o_loadRef _ rfl rfl Tryd.sizeOf3 Tryd.isAgg3 rfl rfl rfl) ?_
            refine AOps.go rfl rfl rfl h212 (o_bin _ _ rfl rfl (fun _ => rfl) rfl) ?_
            refine AOps.call (o_pickT _ _ _ rfl h212 rfl rfl) ?_
            refine AOps.nil ?_
            refine AWP.cond _ rfl (fun h216 => ?_) (fun h216 => ?_)
            · skip
              refine AWP.skip ?_
              refine AWP.seq ?_
              refine AWP.block ?_
              refine AWP.seq ?_
              refine AWP.region ?_
              refine AOps.call (o_assign _ rfl rfl) ?_
              refine AOps.nil ?_
              refine AWP.seq ?_
              refine AWP.seq ?_
              refine AWP.region ?_
              refine AOps.call (o_fieldRef _ rfl fa26_0 rfl rfl) ?_
              refine AOps.call (o_loadRef _ rfl rfl Tryd.sizeOf3 Tryd.isAgg3 rfl rfl rfl) ?_
              refine AOps.call (o_bin _ _ rfl rfl (fun _ => rfl) rfl) ?_
              refine AOps.nil ?_
              refine AWP.cond _ rfl (fun h221 => ?_) (fun h221 => ?_)
              · skip
                have k3 : ¬ s.kind = 3 := by simpa using h221
                have hstf : stF s = take1 := by unfold stF; rw [if_neg k3]
                have htk2 : tkI s (n + 1) = tkI s n + 1 := by unfold tkI; rw [if_neg k3, if_neg k3]; omega
                have hb2 := (stF_E s hp (n + 1)).2
                rw [itM_snoc, hit, hstf] at hb2
                simp only [take1] at hb2
                refine AWP.seq ?_
                refine AWP.region ?_
                refine AOps.weak (Weak.frzP (id := (47, 0)) (t := 11) (z := 3) (es := lays (l :: r)) (cs' := rowC (l :: r)) rfl rfl (row_close _) (fun j c h => h) lays_z rfl) ?_
                refine AOps.call (o_move _ rfl rfl) ?_
                refine AOps.callW (rlose_s l r 0 hco (by omega) ⟨by omega, by omega⟩) Tryd.call93 rfl rfl ?_
                refine AOps.call (o_move _ rfl rfl) ?_
                refine AOps.call (o_extract _ rfl rfl rfl rfl) ?_
                refine AOps.call (o_extract _ rfl rfl rfl rfl) ?_
                refine AOps.call (o_assign _ rfl rfl) ?_
                refine AOps.call (o_assign _ rfl rfl) ?_
                refine AOps.nil ?_
                refine AWP.region ?_
                refine AOps.call (o_move _ rfl rfl) ?_
                refine AOps.call (o_add _ _ rfl rfl ⟨by (try dsimp only); omega, by (try dsimp only); omega⟩ rfl) ?_
                refine AOps.call (o_assign _ rfl rfl) ?_
                refine AOps.nil ?_
                refine AWP.region ?_
                refine AOps.call (o_move _ rfl rfl) ?_
                refine AOps.call (o_move _ rfl rfl) ?_
                refine AOps.call (o_add _ _ rfl rfl ⟨by (try dsimp only); omega, by (try dsimp only); omega⟩ rfl) ?_
                refine AOps.call (o_assign _ rfl rfl) ?_
                refine AOps.nil ?_
                refine AWP.region ?_
                refine AOps.call (o_move _ rfl rfl) ?_
                refine AOps.call (o_add _ _ rfl rfl ⟨by (try dsimp only); omega, by (try dsimp only); omega⟩ rfl) ?_
                refine AOps.call (o_assign _ rfl rfl) ?_
                refine AOps.nil ?_
                refine ⟨((losK [] l r 1 0).2.1, ran + (losK [] l r 1 0).2.2, n + 1), ?_, (Weak.trans (Weak.mk' (σ := _) (n := 153) (tm := [(3, .ref (3, 0) 0), (7, I (ran + (losK [] l r 1 0).2.2)), (8, I (tkI s (n + 1))), (11, .arr (125, 0) 0 (lays (losK [] l r 1 0).2.1).length (lays (losK [] l r 1 0).2.1).length), (15, I ((n : Int) + 1))]) (va := [((3, 0), eT s), ((125, 0), rowC (losK [] l r 1 0).2.1)]) (gr := []) (gen := [(3, 1), (125, 1)]) rfl ⟨⟨.refl rfl, rfl⟩, ⟨⟨.refl rfl, rfl⟩, ⟨⟨.refl (by rw [htk2]; rfl), rfl⟩, ⟨⟨.refl rfl, rfl⟩, ⟨⟨.refl rfl, rfl⟩, trivial⟩⟩⟩⟩⟩ ⟨⟨rfl, rfl, rfl⟩, ⟨rfl, lowL_sc _ _ (lays_scs _), rfl⟩, trivial⟩ trivial) (Weak.trans (Weak.alias (47, 0) 11 (id := (125, 0)) (off := 0) (n := (lays (losK [] l r 1 0).2.1).length) (c := (lays (losK [] l r 1 0).2.1).length) (cs := rowC (losK [] l r 1 0).2.1) rfl rfl rfl rfl) (Weak.mk' rfl ⟨⟨.refl rfl, rfl⟩, ⟨⟨.refl rfl, rfl⟩, ⟨⟨.refl rfl, rfl⟩, ⟨⟨.refl rfl, rfl⟩, ⟨⟨.refl rfl, rfl⟩, trivial⟩⟩⟩⟩⟩ ⟨⟨rfl, rfl, rfl⟩, ⟨rfl, lowL_sc _ _ (lays_scs _), rfl⟩, trivial⟩ trivial)))⟩
                exact ⟨⟨by rw [itM_snoc, hit, hstf]; rfl, by simp only []; omega, tk_step hco hlt htk⟩, by simp only []; omega⟩
              · skip
                have k3 : s.kind = 3 := by simpa using h221
                have hstf : stF s = melt1 := by unfold stF; rw [if_pos k3]
                have htk2 : tkI s (n + 1) = tkI s n := by unfold tkI; rw [if_pos k3, if_pos k3]
                have hb2 := (stF_E s hp (n + 1)).2
                rw [itM_snoc, hit, hstf] at hb2
                refine AWP.seq ?_
                refine AWP.region ?_
                refine AOps.call (o_move _ rfl rfl) ?_
                refine AOps.call (o_indexArr (o := 0) _ _ Tryd.underlying22 Tryd.sizeOf28 rfl rfl (by omega) (by simp [lays]) (by omega) rfl) ?_
                refine AOps.call (o_fieldRef _ rfl fa28_2 rfl rfl) ?_
                refine AOps.call (o_loadRefE _ rfl rfl Tryd.sizeOf3 Tryd.isAgg3 (rm_cold (P := []) (by simp)) rfl) ?_
                refine AOps.call (o_bin _ _ rfl rfl (fun _ => rfl) rfl) ?_
                refine AOps.nil ?_
                refine AWP.cond _ rfl (fun h235 => ?_) (fun h235 => ?_)
                · skip
                  have hc : 0 < l.cold := of_decide_eq_true h235
                  refine AWP.region ?_
                  refine AOps.call (o_move _ rfl rfl) ?_
                  refine AOps.call (o_indexArr (o := 0) _ _ Tryd.underlying22 Tryd.sizeOf28 rfl rfl (by omega) (by simp [lays]) (by omega) rfl) ?_
                  refine AOps.call (o_fieldRef _ rfl fa28_2 rfl rfl) ?_
                  refine AOps.call (o_loadRefE _ rfl rfl Tryd.sizeOf3 Tryd.isAgg3 (rm_cold (P := []) (by simp)) rfl) ?_
                  refine AOps.call (o_sub _ _ rfl rfl ⟨by (try dsimp only); omega, by (try dsimp only); omega⟩ rfl) ?_
                  refine AOps.call (o_indexArr (o := 0) _ _ Tryd.underlying22 Tryd.sizeOf28 rfl rfl (by omega) (by simp [lays]) (by omega) rfl) ?_
                  refine AOps.call (o_fieldRef _ rfl fa28_2 rfl rfl) ?_
                  refine AOps.cons (o_storeE _ _ rfl rfl Tryd.sizeOf3 rfl rfl (by rw [row_len]; simp; omega) (rm_set (P := []) (j := 2) (m := ⟨l.ice, l.wet, l.cold - 1⟩) (by omega) rfl (by simp)) rfl) ?_
                  refine AOps.nil ?_
                  refine AWP.region ?_
                  refine AOps.call (o_move _ rfl rfl) ?_
                  refine AOps.call (o_move _ rfl rfl) ?_
                  refine AOps.call (o_add _ _ rfl rfl ⟨by (try dsimp only); omega, by (try dsimp only); omega⟩ rfl) ?_
                  refine AOps.call (o_assign _ rfl rfl) ?_
                  refine AOps.nil ?_
                  refine AWP.region ?_
                  refine AOps.call (o_move _ rfl rfl) ?_
                  refine AOps.call (o_add _ _ rfl rfl ⟨by (try dsimp only); omega, by (try dsimp only); omega⟩ rfl) ?_
                  refine AOps.call (o_assign _ rfl rfl) ?_
                  refine AOps.nil ?_
                  refine ⟨((⟨l.ice, l.wet, l.cold - 1⟩ :: r), ran + 0, n + 1), ?_, (Weak.mk' rfl ⟨⟨.refl rfl, rfl⟩, ⟨⟨.refl rfl, rfl⟩, ⟨⟨.refl (by rw [htk2]; rfl), rfl⟩, ⟨⟨.refl rfl, rfl⟩, ⟨⟨.refl (by rfl), rfl⟩, trivial⟩⟩⟩⟩⟩ ⟨⟨rfl, rfl, rfl⟩, ⟨rfl, lowL_sc _ _ (lays_scs _), rfl⟩, trivial⟩ trivial)⟩
                  exact ⟨⟨by rw [itM_snoc, hit, hstf]; simp only [melt1, if_pos hc], by simp only []; omega, fun h => by omega⟩, by simp only []; omega⟩
                · skip
                  have hc : ¬ 0 < l.cold := of_decide_eq_false h235
                  simp only [melt1, if_neg hc] at hb2
                  refine AWP.region ?_
                  refine AOps.weak (Weak.frzP (id := (47, 0)) (t := 11) (z := 3) (es := lays (l :: r)) (cs' := rowC (l :: r)) rfl rfl (row_close _) (fun j c h => h) lays_z rfl) ?_
                  refine AOps.call (o_move _ rfl rfl) ?_
                  refine AOps.callW (rlose_s l r 1 hco (by omega) ⟨by omega, by omega⟩) Tryd.call93 rfl rfl ?_
                  refine AOps.call (o_move _ rfl rfl) ?_
                  refine AOps.call (o_extract _ rfl rfl rfl rfl) ?_
                  refine AOps.call (o_extract _ rfl rfl rfl rfl) ?_
                  refine AOps.call (o_assign _ rfl rfl) ?_
                  refine AOps.call (o_assign _ rfl rfl) ?_
                  refine AOps.nil ?_
                  refine AWP.region ?_
                  refine AOps.call (o_move _ rfl rfl) ?_
                  refine AOps.call (o_move _ rfl rfl) ?_
                  refine AOps.call (o_add _ _ rfl rfl ⟨by (try dsimp only); omega, by (try dsimp only); omega⟩ rfl) ?_
                  refine AOps.call (o_assign _ rfl rfl) ?_
                  refine AOps.nil ?_
                  refine AWP.region ?_
                  refine AOps.call (o_move _ rfl rfl) ?_
                  refine AOps.call (o_add _ _ rfl rfl ⟨by (try dsimp only); omega, by (try dsimp only); omega⟩ rfl) ?_
                  refine AOps.call (o_assign _ rfl rfl) ?_
                  refine AOps.nil ?_
                  refine ⟨((losK [] l r 1 1).2.1, ran + (losK [] l r 1 1).2.2, n + 1), ?_, (Weak.trans (Weak.mk' (σ := _) (n := 153) (tm := [(3, .ref (3, 0) 0), (7, I (ran + (losK [] l r 1 1).2.2)), (8, I (tkI s (n + 1))), (11, .arr (144, 0) 0 (lays (losK [] l r 1 1).2.1).length (lays (losK [] l r 1 1).2.1).length), (15, I ((n : Int) + 1))]) (va := [((3, 0), eT s), ((144, 0), rowC (losK [] l r 1 1).2.1)]) (gr := []) (gen := [(3, 1), (144, 1)]) rfl ⟨⟨.refl rfl, rfl⟩, ⟨⟨.refl rfl, rfl⟩, ⟨⟨.refl (by rw [htk2]; rfl), rfl⟩, ⟨⟨.refl rfl, rfl⟩, ⟨⟨.refl rfl, rfl⟩, trivial⟩⟩⟩⟩⟩ ⟨⟨rfl, rfl, rfl⟩, ⟨rfl, lowL_sc _ _ (lays_scs _), rfl⟩, trivial⟩ trivial) (Weak.trans (Weak.alias (47, 0) 11 (id := (144, 0)) (off := 0) (n := (lays (losK [] l r 1 1).2.1).length) (c := (lays (losK [] l r 1 1).2.1).length) (cs := rowC (losK [] l r 1 1).2.1) rfl rfl rfl rfl) (Weak.mk' rfl ⟨⟨.refl rfl, rfl⟩, ⟨⟨.refl rfl, rfl⟩, ⟨⟨.refl rfl, rfl⟩, ⟨⟨.refl rfl, rfl⟩, ⟨⟨.refl rfl, rfl⟩, trivial⟩⟩⟩⟩⟩ ⟨⟨rfl, rfl, rfl⟩, ⟨rfl, lowL_sc _ _ (lays_scs _), rfl⟩, trivial⟩ trivial)))⟩
                  exact ⟨⟨by rw [itM_snoc, hit, hstf]; simp only [melt1, if_neg hc], by simp only []; omega, fun h => by omega⟩, by simp only []; omega⟩
            · skip
              exfalso
              have k1 : s.kind = 1 := by simpa using h216
              have := hk k1
              omega
          · skip
            have hz : out = [] := List.eq_nil_of_length_eq_zero (by have hq := of_decide_eq_false h212; rw [lays_len] at hq; omega)
            have hfin : itM (stF s) s.much.toNat p = (out, ran) := by rw [hz] at hit ⊢; exact it_stop (stF_nil s) hit hn
            have hE : (doM p s) = (out, ran) := by rw [hdl]; exact hfin
            have hT : tknM p s = tkI s n := tk_end htk (fun k1 => by have := hk k1; omega) k2 k4 (by omega) (.inr hz)
            refine AOps.pass rfl rfl rfl h212 rfl ?_
            refine AOps.pass rfl rfl rfl h212 rfl ?_
            refine AOps.pass rfl rfl rfl h212 rfl ?_
            refine AOps.call (o_pickF _ _ _ rfl h212 rfl rfl) ?_
            refine AOps.nil ?_
            refine AWP.condF rfl ?_
            refine AWP.exit ?_
            refine AWP.seq ?_
            refine AWP.region ?_
            refine AOps.weak (Weak.frzP (id := (47, 0)) (t := 11) (z := 3) (es := lays out) (cs' := rowC out) rfl rfl (row_close _) (fun j c h => h) lays_z rfl) ?_
            refine AOps.call (o_move _ rfl rfl) ?_
            refine AOps.call (o_move _ rfl rfl) ?_
            refine AOps.call (o_move _ rfl rfl) ?_
            refine AOps.call (o_assign _ rfl rfl) ?_
            refine AOps.call (o_assign _ rfl rfl) ?_
            refine AOps.call (o_assign _ rfl rfl) ?_
            refine AOps.nil ?_
            refine AWP.ret ?_
            refine postQ.ret3 Tryd.results72 rfl rfl rfl ?_
            rw [hE, hT]
            rfl
        · skip
          have hge : ¬ (n : Int) < s.much := of_decide_eq_false h209
          have hfin : itM (stF s) s.much.toNat p = (out, ran) := by rw [show s.much.toNat = n by omega]; exact hit
          have hE : (doM p s) = (out, ran) := by rw [hdl]; exact hfin
          have hT : tknM p s = tkI s n := tk_end htk (fun k1 => by have := hk k1; omega) k2 k4 (by omega) (.inl (by omega))
          refine AOps.pass rfl rfl rfl h209 rfl ?_
          refine AOps.pass rfl rfl rfl h209 rfl ?_
          refine AOps.pass rfl rfl rfl h209 rfl ?_
          refine AOps.call (o_pickF _ _ _ rfl h209 rfl rfl) ?_
          refine AOps.call (o_move _ rfl rfl) ?_
          refine AOps.pass rfl rfl rfl rfl rfl ?_
          refine AOps.pass rfl rfl rfl rfl rfl ?_
          refine AOps.pass rfl rfl rfl rfl rfl ?_
          refine AOps.call (o_pickF _ _ _ rfl rfl rfl rfl) ?_
          refine AOps.nil ?_
          refine AWP.condF rfl ?_
          refine AWP.exit ?_
          refine AWP.seq ?_
          refine AWP.region ?_
          refine AOps.weak (Weak.frzP (id := (47, 0)) (t := 11) (z := 3) (es := lays out) (cs' := rowC out) rfl rfl (row_close _) (fun j c h => h) lays_z rfl) ?_
          refine AOps.call (o_move _ rfl rfl) ?_
          refine AOps.call (o_move _ rfl rfl) ?_
          refine AOps.call (o_move _ rfl rfl) ?_
          refine AOps.call (o_assign _ rfl rfl) ?_
          refine AOps.call (o_assign _ rfl rfl) ?_
          refine AOps.call (o_assign _ rfl rfl) ?_
          refine AOps.nil ?_
          refine AWP.ret ?_
          refine postQ.ret3 Tryd.results72 rfl rfl rfl ?_
          rw [hE, hT]
          rfl

set_option maxHeartbeats 4000000 in
set_option maxRecDepth 20000 in
theorem rDo_b (s : Stp) (hp : packE ([] : List Lay) = 0) (hs : stepE s = 0) : FSpec Tryd.prog 72 [.sl (lays ([] : List Lay)), .agg (eT s)] (.tup [.sl (lays (doM ([] : List Lay) s).1), I (doM ([] : List Lay) s).2, I (tknM ([] : List Lay) s)]) (none) := by
  refine FSpec.of_body Tryd.func72 rfl (leB rfl) fun w0 M0 => ?_
  have hpl := lays_len ([] : List Lay)
  have hs1 := (stepE_0.1 hs).1
  have hpn := (packE_0.1 hp).1
  have hbp := packE_bd hp
  refine AWP.seq ?_
  refine AWP.region ?_
  refine AOps.call (o_box _ rfl rfl rfl) ?_
  refine AOps.call (o_nil (z := 3) (e := 28) rfl) ?_
  refine AOps.call (o_assign _ rfl rfl) ?_
  refine AOps.call (o_assign _ rfl rfl) ?_
  refine AOps.nil ?_
  refine AWP.seq ?_
  refine AWP.region ?_
  refine AOps.call (o_assign _ rfl rfl) ?_
  refine AOps.nil ?_
  refine AWP.seq ?_
  refine AWP.region ?_
  refine AOps.call (o_assign _ rfl rfl) ?_
  refine AOps.nil ?_
  refine AWP.seq ?_
  refine AWP.seq ?_
  refine AWP.region ?_
  refine AOps.call (o_fieldRef _ rfl fa26_0 rfl rfl) ?_
  refine AOps.call (o_loadRef _ rfl rfl Tryd.sizeOf3 Tryd.isAgg3 rfl rfl rfl) ?_
  refine AOps.call (o_bin _ _ rfl rfl (fun _ => rfl) rfl) ?_
  refine AOps.call (o_move _ rfl rfl) ?_
  refine AOps.split rfl rfl rfl (fun h10 => ?_) (fun h10 => ?_)
  · skip
    have k1 : s.kind = 1 := by simpa using h10
    refine AOps.go rfl rfl rfl h10 (o_fieldRef _ rfl fa26_1 rfl rfl) ?_
    refine AOps.go rfl rfl rfl h10 (o_loadRef _ rfl rfl Tryd.sizeOf3 Tryd.isAgg3 rfl rfl rfl) ?_
    refine AOps.go rfl rfl rfl h10 (o_bin _ _ rfl rfl (fun _ => rfl) rfl) ?_
    refine AOps.call (o_pickT _ _ _ rfl h10 rfl rfl) ?_
    refine AOps.nil ?_
    refine AWP.cond _ rfl (fun h14 => ?_) (fun h14 => ?_)
    · skip
      have hE : (doM ([] : List Lay) s) = (⟨s.much, 0, s.cold⟩ :: ([] : List Lay), 0) := by unfold doM; rw [if_pos ⟨k1, of_decide_eq_true h14⟩]
      have hT : tknM ([] : List Lay) s = 0 := by unfold tknM; rw [if_pos (by omega)]
      refine AWP.seq ?_
      refine AWP.region ?_
      refine AOps.call (o_fieldRef _ rfl fa26_1 rfl rfl) ?_
      refine AOps.call (o_loadRef _ rfl rfl Tryd.sizeOf3 Tryd.isAgg3 rfl rfl rfl) ?_
      refine AOps.call (o_fieldRef _ rfl fa26_2 rfl rfl) ?_
      refine AOps.call (o_loadRef _ rfl rfl Tryd.sizeOf3 Tryd.isAgg3 rfl rfl rfl) ?_
      refine AOps.call (o_build bu28 rfl rfl rfl) ?_
      refine AOps.call (o_lit Tryd.underlying22 Tryd.sizeOf28 Tryd.zeroValue28 rfl rfl rfl rfl rfl rfl rfl) ?_
      refine AOps.call (o_move _ rfl rfl) ?_
      refine AOps.cons (o_append _ _ Tryd.underlying22 info28 rfl rfl rfl rfl rfl rfl rfl rfl lays_z (fun c h => by simp at h; subst h; rfl) (by unfold Tryd.t28; simp only [List.length_cons, List.length_nil]; omega) rfl (show _ = lays (⟨s.much, 0, s.cold⟩ :: ([] : List Lay)) from rfl) rfl) ?_
      refine AOps.call (o_assign _ rfl rfl) ?_
      refine AOps.call (o_assign _ rfl rfl) ?_
      refine AOps.call (o_assign _ rfl rfl) ?_
      refine AOps.nil ?_
      refine AWP.ret ?_
      refine postQ.ret3 Tryd.results72 rfl rfl rfl ?_
      rw [hE, hT]
      rfl
    · skip
      have hk : s.kind = 1 → s.much ≤ 0 := fun _ => by have hq := of_decide_eq_false h14; omega
      have hn1 : ¬ (s.kind = 1 ∧ 0 < s.much) := fun h => by have := hk h.1; omega
      refine AWP.skip ?_
      refine AWP.seq ?_
      refine AWP.seq ?_
      refine AWP.region ?_
      refine AOps.call (o_fieldRef _ rfl fa26_0 rfl rfl) ?_
      refine AOps.call (o_loadRef _ rfl rfl Tryd.sizeOf3 Tryd.isAgg3 rfl rfl rfl) ?_
      refine AOps.call (o_bin _ _ rfl rfl (fun _ => rfl) rfl) ?_
      refine AOps.nil ?_
      refine AWP.cond _ rfl (fun h28 => ?_) (fun h28 => ?_)
      · skip
        have k2 : s.kind = 2 := by simpa using h28
        have hE : (doM ([] : List Lay) s) = ((pourL s.much ([] : List Lay)).2, (pourL s.much ([] : List Lay)).1) := by
          have h3 := pourL_it s.much.toNat (colOk_flo (colOk_of hp))
          rw [Int.toNat_of_nonneg (by omega)] at h3
          unfold doM; rw [if_neg hn1, if_pos k2, h3]
        have hT : tknM ([] : List Lay) s = 0 := by unfold tknM; rw [if_pos (by omega)]
        refine AWP.seq ?_
        refine AWP.region ?_
        refine AOps.call (o_move _ rfl rfl) ?_
        refine AOps.call (o_fieldRef _ rfl fa26_1 rfl rfl) ?_
        refine AOps.call (o_loadRef _ rfl rfl Tryd.sizeOf3 Tryd.isAgg3 rfl rfl rfl) ?_
        refine AOps.callW (rflow_s ([] : List Lay) s.much (colOk_flo (colOk_of hp)) (by omega) ⟨by omega, by omega⟩) Tryd.call92 rfl rfl ?_
        refine AOps.call (o_move _ rfl rfl) ?_
        refine AOps.call (o_extract _ rfl rfl rfl rfl) ?_
        refine AOps.call (o_extract _ rfl rfl rfl rfl) ?_
        refine AOps.call (o_assign _ rfl rfl) ?_
        refine AOps.call (o_assign _ rfl rfl) ?_
        refine AOps.nil ?_
        refine AWP.seq ?_
        refine AWP.region ?_
        refine AOps.weak (Weak.frzP (id := (40, 0)) (t := 9) (z := 3) (es := lays (pourL s.much ([] : List Lay)).2) (cs' := rowC (pourL s.much ([] : List Lay)).2) rfl rfl (row_close _) (fun j c h => h) lays_z rfl) ?_
        refine AOps.call (o_move _ rfl rfl) ?_
        refine AOps.call (o_move _ rfl rfl) ?_
        refine AOps.call (o_assign _ rfl rfl) ?_
        refine AOps.call (o_assign _ rfl rfl) ?_
        refine AOps.call (o_assign _ rfl rfl) ?_
        refine AOps.nil ?_
        refine AWP.ret ?_
        refine postQ.ret3 Tryd.results72 rfl rfl rfl ?_
        rw [hE, hT]
        rfl
      · skip
        have k2 : ¬ s.kind = 2 := by simpa using h28
        refine AWP.skip ?_
        refine AWP.seq ?_
        refine AWP.region ?_
        refine AOps.call (o_litA0 Tryd.underlying22 Tryd.sizeOf28 Tryd.zeroValue28 rfl) ?_
        refine AOps.call (o_move _ rfl rfl) ?_
        refine AOps.call (o_appendA0 _ _ Tryd.underlying22 Tryd.sizeOf28 rfl rfl rfl) ?_
        refine AOps.call (o_assign _ rfl rfl) ?_
        refine AOps.nil ?_
        refine AWP.seq ?_
        refine AWP.seq ?_
        refine AWP.region ?_
        refine AOps.call (o_fieldRef _ rfl fa26_0 rfl rfl) ?_
        refine AOps.call (o_loadRef _ rfl rfl Tryd.sizeOf3 Tryd.isAgg3 rfl rfl rfl) ?_
        refine AOps.call (o_bin _ _ rfl rfl (fun _ => rfl) rfl) ?_
        refine AOps.nil ?_
        refine AWP.cond _ rfl (fun h42 => ?_) (fun h42 => ?_)
        · skip
          have k4 : s.kind = 4 := by simpa using h42
          have hT : tknM ([] : List Lay) s = 0 := by unfold tknM; rw [if_pos (by omega)]
          refine AWP.seq ?_
          refine AWP.region ?_
          refine AOps.call (o_fieldRef _ rfl fa26_1 rfl rfl) ?_
          refine AOps.call (o_loadRef _ rfl rfl Tryd.sizeOf3 Tryd.isAgg3 rfl rfl rfl) ?_
          refine AOps.call (o_assign _ rfl rfl) ?_
          refine AOps.nil ?_
          refine AWP.seq ?_
          refine AWP.seq ?_
          refine AWP.region ?_
          refine AOps.call (o_assign _ rfl rfl) ?_
          refine AOps.nil ?_
          refine AWP.block ?_
          refine AWP.loop (ι := Unit) (fun i => AS.mk' 153 [(3, .ref (3, 0) 0), (11, .arr (45, 0) 0 0 0), (12, I s.much), (13, I 0)] [((3, 0), eT s), ((45, 0), [])] [] [(3, 1), (45, 1)]) (fun i => True) (fun i => 0) (()) (Weak.mk' rfl ⟨⟨.refl rfl, rfl⟩, ⟨⟨.refl rfl, rfl⟩, ⟨⟨.refl rfl, rfl⟩, ⟨⟨.refl rfl, rfl⟩, trivial⟩⟩⟩⟩ ⟨⟨rfl, rfl, rfl⟩, ⟨⟨rfl, rfl, rfl⟩, trivial⟩⟩ trivial) (trivial) ?_
          rintro _ _
          try dsimp only at *
          refine AWP.seq ?_
          refine AWP.seq ?_
          refine AWP.region ?_
          refine AOps.call (o_move _ rfl rfl) ?_
          refine AOps.call (o_move _ rfl rfl) ?_
          refine AOps.call (o_lenArr _ Tryd.underlying22 rfl rfl) ?_
          refine AOps.call (o_bin _ _ rfl rfl (fun _ => rfl) rfl) ?_
          refine AOps.nil ?_
          refine AWP.cond _ rfl (fun h48 => ?_) (fun h48 => ?_)
          · skip
            exfalso
            exact absurd h48 (by decide)
          · skip
            have hE : (doM ([] : List Lay) s) = ([], 0) := by unfold doM; rw [if_neg hn1, if_neg k2, if_pos k4]; rfl
            refine AWP.exit ?_
            refine AWP.seq ?_
            refine AWP.seq ?_
            refine AWP.region ?_
            refine AOps.call (o_move _ rfl rfl) ?_
            refine AOps.call (o_lenArr _ Tryd.underlying22 rfl rfl) ?_
            refine AOps.call (o_bin _ _ rfl rfl (fun _ => rfl) rfl) ?_
            refine AOps.nil ?_
            refine AWP.cond _ rfl (fun h51 => ?_) (fun h51 => ?_)
            · skip
              exfalso
              exact absurd h51 (by decide)
            · skip
              refine AWP.skip ?_
              refine AWP.seq ?_
              refine AWP.region ?_
              refine AOps.weak (Weak.frzP (id := (45, 0)) (t := 11) (z := 3) (es := []) (cs' := []) rfl rfl rfl (fun j c h => h) (fun _ h => by cases h) rfl) ?_
              refine AOps.call (o_move _ rfl rfl) ?_
              refine AOps.call (o_assign _ rfl rfl) ?_
              refine AOps.call (o_assign _ rfl rfl) ?_
              refine AOps.call (o_assign _ rfl rfl) ?_
              refine AOps.nil ?_
              refine AWP.ret ?_
              refine postQ.ret3 Tryd.results72 rfl rfl rfl ?_
              rw [hE, hT]
              rfl
        · skip
          have k4 : ¬ s.kind = 4 := by simpa using h42
          have hdl := do_loop (p := []) hn1 k2 k4 (by omega)
          refine AWP.skip ?_
          refine AWP.seq ?_
          refine AWP.seq ?_
          refine AWP.region ?_
          refine AOps.call (o_assign _ rfl rfl) ?_
          refine AOps.nil ?_
          refine AWP.block ?_
          refine AWP.loop (ι := Unit) (fun i => AS.mk' 153 [(3, .ref (3, 0) 0), (7, I 0), (8, I 0), (11, .arr (45, 0) 0 0 0), (15, I 0)] [((3, 0), eT s), ((45, 0), [])] [] [(3, 1), (45, 1)]) (fun i => True) (fun i => 0) (()) (Weak.mk' rfl ⟨⟨.refl rfl, rfl⟩, ⟨⟨.refl rfl, rfl⟩, ⟨⟨.refl rfl, rfl⟩, ⟨⟨.refl rfl, rfl⟩, ⟨⟨.refl rfl, rfl⟩, trivial⟩⟩⟩⟩⟩ ⟨⟨rfl, rfl, rfl⟩, ⟨⟨rfl, rfl, rfl⟩, trivial⟩⟩ trivial) (trivial) ?_
          rintro _ _
          try dsimp only at *
          refine AWP.seq ?_
          refine AWP.seq ?_
          refine AWP.region ?_
          refine AOps.call (o_move _ rfl rfl) ?_
          refine AOps.call (o_fieldRef _ rfl fa26_1 rfl rfl) ?_
          refine AOps.call (o_loadRef _ rfl rfl Tryd.sizeOf3 Tryd.isAgg3 rfl rfl rfl) ?_
          refine AOps.call (o_bin _ _ rfl rfl (fun _ => rfl) rfl) ?_
          refine AOps.call (o_move _ rfl rfl) ?_
          refine AOps.split rfl rfl rfl (fun h58 => ?_) (fun h58 => ?_)
          · skip
            refine AOps.go rfl rfl rfl h58 (o_move _ rfl rfl) ?_
            refine AOps.go rfl rfl rfl h58 (o_lenArr _ Tryd.underlying22 rfl rfl) ?_
            refine AOps.go rfl rfl rfl h58 (o_bin _ _ rfl rfl (fun _ => rfl) rfl) ?_
            refine AOps.call (o_pickT _ _ _ rfl h58 rfl rfl) ?_
            refine AOps.call (o_move _ rfl rfl) ?_
            refine AOps.split rfl rfl rfl (fun h61 => ?_) (fun h61 => ?_)
            · skip
              exfalso
              exact absurd h61 (by decide)
            · skip
              have hE : (doM ([] : List Lay) s) = ([], 0) := by rw [hdl, itM_nil (stF_nil s)]
              have hT : tknM ([] : List Lay) s = 0 := by unfold tknM; split; rfl; rw [take_end (.inr rfl)]
              refine AOps.pass rfl rfl rfl h61 rfl ?_
              refine AOps.pass rfl rfl rfl h61 rfl ?_
              refine AOps.pass rfl rfl rfl h61 rfl ?_
              refine AOps.call (o_pickF _ _ _ rfl h61 rfl rfl) ?_
              refine AOps.nil ?_
              refine AWP.condF rfl ?_
              refine AWP.exit ?_
              refine AWP.seq ?_
              refine AWP.region ?_
              refine AOps.weak (Weak.frzP (id := (45, 0)) (t := 11) (z := 3) (es := []) (cs' := []) rfl rfl rfl (fun j c h => h) (fun _ h => by cases h) rfl) ?_
              refine AOps.call (o_move _ rfl rfl) ?_
              refine AOps.call (o_move _ rfl rfl) ?_
              refine AOps.call (o_move _ rfl rfl) ?_
              refine AOps.call (o_assign _ rfl rfl) ?_
              refine AOps.call (o_assign _ rfl rfl) ?_
              refine AOps.call (o_assign _ rfl rfl) ?_
              refine AOps.nil ?_
              refine AWP.ret ?_
              refine postQ.ret3 Tryd.results72 rfl rfl rfl ?_
              rw [hE, hT]
              rfl
          · skip
            have hE : (doM ([] : List Lay) s) = ([], 0) := by rw [hdl, itM_nil (stF_nil s)]
            have hT : tknM ([] : List Lay) s = 0 := by unfold tknM; split; rfl; rw [take_end (.inr rfl)]
            refine AOps.pass rfl rfl rfl h58 rfl ?_
            refine AOps.pass rfl rfl rfl h58 rfl ?_
            refine AOps.pass rfl rfl rfl h58 rfl ?_
            refine AOps.call (o_pickF _ _ _ rfl h58 rfl rfl) ?_
            refine AOps.call (o_move _ rfl rfl) ?_
            refine AOps.pass rfl rfl rfl rfl rfl ?_
            refine AOps.pass rfl rfl rfl rfl rfl ?_
            refine AOps.pass rfl rfl rfl rfl rfl ?_
            refine AOps.call (o_pickF _ _ _ rfl rfl rfl rfl) ?_
            refine AOps.nil ?_
            refine AWP.condF rfl ?_
            refine AWP.exit ?_
            refine AWP.seq ?_
            refine AWP.region ?_
            refine AOps.weak (Weak.frzP (id := (45, 0)) (t := 11) (z := 3) (es := []) (cs' := []) rfl rfl rfl (fun j c h => h) (fun _ h => by cases h) rfl) ?_
            refine AOps.call (o_move _ rfl rfl) ?_
            refine AOps.call (o_move _ rfl rfl) ?_
            refine AOps.call (o_move _ rfl rfl) ?_
            refine AOps.call (o_assign _ rfl rfl) ?_
            refine AOps.call (o_assign _ rfl rfl) ?_
            refine AOps.call (o_assign _ rfl rfl) ?_
            refine AOps.nil ?_
            refine AWP.ret ?_
            refine postQ.ret3 Tryd.results72 rfl rfl rfl ?_
            rw [hE, hT]
            rfl
  · skip
    have hk : s.kind = 1 → s.much ≤ 0 := fun h => absurd h (by simpa using h10)
    have hn1 : ¬ (s.kind = 1 ∧ 0 < s.much) := fun h => by have := hk h.1; omega
    refine AOps.pass rfl rfl rfl h10 rfl ?_
    refine AOps.pass rfl rfl rfl h10 rfl ?_
    refine AOps.pass rfl rfl rfl h10 rfl ?_
    refine AOps.call (o_pickF _ _ _ rfl h10 rfl rfl) ?_
    refine AOps.nil ?_
    refine AWP.condF rfl ?_
    refine AWP.skip ?_
    refine AWP.seq ?_
    refine AWP.seq ?_
    refine AWP.region ?_
    refine AOps.call (o_fieldRef _ rfl fa26_0 rfl rfl) ?_
    refine AOps.call (o_loadRef _ rfl rfl Tryd.sizeOf3 Tryd.isAgg3 rfl rfl rfl) ?_
    refine AOps.call (o_bin _ _ rfl rfl (fun _ => rfl) rfl) ?_
    refine AOps.nil ?_
    refine AWP.cond _ rfl (fun h65 => ?_) (fun h65 => ?_)
    · skip
      have k2 : s.kind = 2 := by simpa using h65
      have hE : (doM ([] : List Lay) s) = ((pourL s.much ([] : List Lay)).2, (pourL s.much ([] : List Lay)).1) := by
        have h3 := pourL_it s.much.toNat (colOk_flo (colOk_of hp))
        rw [Int.toNat_of_nonneg (by omega)] at h3
        unfold doM; rw [if_neg hn1, if_pos k2, h3]
      have hT : tknM ([] : List Lay) s = 0 := by unfold tknM; rw [if_pos (by omega)]
      refine AWP.seq ?_
      refine AWP.region ?_
      refine AOps.call (o_move _ rfl rfl) ?_
      refine AOps.call (o_fieldRef _ rfl fa26_1 rfl rfl) ?_
      refine AOps.call (o_loadRef _ rfl rfl Tryd.sizeOf3 Tryd.isAgg3 rfl rfl rfl) ?_
      refine AOps.callW (rflow_s ([] : List Lay) s.much (colOk_flo (colOk_of hp)) (by omega) ⟨by omega, by omega⟩) Tryd.call92 rfl rfl ?_
      refine AOps.call (o_move _ rfl rfl) ?_
      refine AOps.call (o_extract _ rfl rfl rfl rfl) ?_
      refine AOps.call (o_extract _ rfl rfl rfl rfl) ?_
      refine AOps.call (o_assign _ rfl rfl) ?_
      refine AOps.call (o_assign _ rfl rfl) ?_
      refine AOps.nil ?_
      refine AWP.seq ?_
      refine AWP.region ?_
      refine AOps.weak (Weak.frzP (id := (40, 0)) (t := 9) (z := 3) (es := lays (pourL s.much ([] : List Lay)).2) (cs' := rowC (pourL s.much ([] : List Lay)).2) rfl rfl (row_close _) (fun j c h => h) lays_z rfl) ?_
      refine AOps.call (o_move _ rfl rfl) ?_
      refine AOps.call (o_move _ rfl rfl) ?_
      refine AOps.call (o_assign _ rfl rfl) ?_
      refine AOps.call (o_assign _ rfl rfl) ?_
      refine AOps.call (o_assign _ rfl rfl) ?_
      refine AOps.nil ?_
      refine AWP.ret ?_
      refine postQ.ret3 Tryd.results72 rfl rfl rfl ?_
      rw [hE, hT]
      rfl
    · skip
      have k2 : ¬ s.kind = 2 := by simpa using h65
      refine AWP.skip ?_
      refine AWP.seq ?_
      refine AWP.region ?_
      refine AOps.call (o_litA0 Tryd.underlying22 Tryd.sizeOf28 Tryd.zeroValue28 rfl) ?_
      refine AOps.call (o_move _ rfl rfl) ?_
      refine AOps.call (o_appendA0 _ _ Tryd.underlying22 Tryd.sizeOf28 rfl rfl rfl) ?_
      refine AOps.call (o_assign _ rfl rfl) ?_
      refine AOps.nil ?_
      refine AWP.seq ?_
      refine AWP.seq ?_
      refine AWP.region ?_
      refine AOps.call (o_fieldRef _ rfl fa26_0 rfl rfl) ?_
      refine AOps.call (o_loadRef _ rfl rfl Tryd.sizeOf3 Tryd.isAgg3 rfl rfl rfl) ?_
      refine AOps.call (o_bin _ _ rfl rfl (fun _ => rfl) rfl) ?_
      refine AOps.nil ?_
      refine AWP.cond _ rfl (fun h79 => ?_) (fun h79 => ?_)
      · skip
        have k4 : s.kind = 4 := by simpa using h79
        have hT : tknM ([] : List Lay) s = 0 := by unfold tknM; rw [if_pos (by omega)]
        refine AWP.seq ?_
        refine AWP.region ?_
        refine AOps.call (o_fieldRef _ rfl fa26_1 rfl rfl) ?_
        refine AOps.call (o_loadRef _ rfl rfl Tryd.sizeOf3 Tryd.isAgg3 rfl rfl rfl) ?_
        refine AOps.call (o_assign _ rfl rfl) ?_
        refine AOps.nil ?_
        refine AWP.seq ?_
        refine AWP.seq ?_
        refine AWP.region ?_
        refine AOps.call (o_assign _ rfl rfl) ?_
        refine AOps.nil ?_
        refine AWP.block ?_
        refine AWP.loop (ι := Unit) (fun i => AS.mk' 153 [(3, .ref (3, 0) 0), (11, .arr (45, 0) 0 0 0), (12, I s.much), (13, I 0)] [((3, 0), eT s), ((45, 0), [])] [] [(3, 1), (45, 1)]) (fun i => True) (fun i => 0) (()) (Weak.mk' rfl ⟨⟨.refl rfl, rfl⟩, ⟨⟨.refl rfl, rfl⟩, ⟨⟨.refl rfl, rfl⟩, ⟨⟨.refl rfl, rfl⟩, trivial⟩⟩⟩⟩ ⟨⟨rfl, rfl, rfl⟩, ⟨⟨rfl, rfl, rfl⟩, trivial⟩⟩ trivial) (trivial) ?_
        rintro _ _
        try dsimp only at *
        refine AWP.seq ?_
        refine AWP.seq ?_
        refine AWP.region ?_
        refine AOps.call (o_move _ rfl rfl) ?_
        refine AOps.call (o_move _ rfl rfl) ?_
        refine AOps.call (o_lenArr _ Tryd.underlying22 rfl rfl) ?_
        refine AOps.call (o_bin _ _ rfl rfl (fun _ => rfl) rfl) ?_
        refine AOps.nil ?_
        refine AWP.cond _ rfl (fun h85 => ?_) (fun h85 => ?_)
        · skip
          exfalso
          exact absurd h85 (by decide)
        · skip
          have hE : (doM ([] : List Lay) s) = ([], 0) := by unfold doM; rw [if_neg hn1, if_neg k2, if_pos k4]; rfl
          refine AWP.exit ?_
          refine AWP.seq ?_
          refine AWP.seq ?_
          refine AWP.region ?_
          refine AOps.call (o_move _ rfl rfl) ?_
          refine AOps.call (o_lenArr _ Tryd.underlying22 rfl rfl) ?_
          refine AOps.call (o_bin _ _ rfl rfl (fun _ => rfl) rfl) ?_
          refine AOps.nil ?_
          refine AWP.cond _ rfl (fun h88 => ?_) (fun h88 => ?_)
          · skip
            exfalso
            exact absurd h88 (by decide)
          · skip
            refine AWP.skip ?_
            refine AWP.seq ?_
            refine AWP.region ?_
            refine AOps.weak (Weak.frzP (id := (45, 0)) (t := 11) (z := 3) (es := []) (cs' := []) rfl rfl rfl (fun j c h => h) (fun _ h => by cases h) rfl) ?_
            refine AOps.call (o_move _ rfl rfl) ?_
            refine AOps.call (o_assign _ rfl rfl) ?_
            refine AOps.call (o_assign _ rfl rfl) ?_
            refine AOps.call (o_assign _ rfl rfl) ?_
            refine AOps.nil ?_
            refine AWP.ret ?_
            refine postQ.ret3 Tryd.results72 rfl rfl rfl ?_
            rw [hE, hT]
            rfl
      · skip
        have k4 : ¬ s.kind = 4 := by simpa using h79
        have hdl := do_loop (p := []) hn1 k2 k4 (by omega)
        refine AWP.skip ?_
        refine AWP.seq ?_
        refine AWP.seq ?_
        refine AWP.region ?_
        refine AOps.call (o_assign _ rfl rfl) ?_
        refine AOps.nil ?_
        refine AWP.block ?_
        refine AWP.loop (ι := Unit) (fun i => AS.mk' 153 [(3, .ref (3, 0) 0), (7, I 0), (8, I 0), (11, .arr (45, 0) 0 0 0), (15, I 0)] [((3, 0), eT s), ((45, 0), [])] [] [(3, 1), (45, 1)]) (fun i => True) (fun i => 0) (()) (Weak.mk' rfl ⟨⟨.refl rfl, rfl⟩, ⟨⟨.refl rfl, rfl⟩, ⟨⟨.refl rfl, rfl⟩, ⟨⟨.refl rfl, rfl⟩, ⟨⟨.refl rfl, rfl⟩, trivial⟩⟩⟩⟩⟩ ⟨⟨rfl, rfl, rfl⟩, ⟨⟨rfl, rfl, rfl⟩, trivial⟩⟩ trivial) (trivial) ?_
        rintro _ _
        try dsimp only at *
        refine AWP.seq ?_
        refine AWP.seq ?_
        refine AWP.region ?_
        refine AOps.call (o_move _ rfl rfl) ?_
        refine AOps.call (o_fieldRef _ rfl fa26_1 rfl rfl) ?_
        refine AOps.call (o_loadRef _ rfl rfl Tryd.sizeOf3 Tryd.isAgg3 rfl rfl rfl) ?_
        refine AOps.call (o_bin _ _ rfl rfl (fun _ => rfl) rfl) ?_
        refine AOps.call (o_move _ rfl rfl) ?_
        refine AOps.split rfl rfl rfl (fun h95 => ?_) (fun h95 => ?_)
        · skip
          refine AOps.go rfl rfl rfl h95 (o_move _ rfl rfl) ?_
          refine AOps.go rfl rfl rfl h95 (o_lenArr _ Tryd.underlying22 rfl rfl) ?_
          refine AOps.go rfl rfl rfl h95 (o_bin _ _ rfl rfl (fun _ => rfl) rfl) ?_
          refine AOps.call (o_pickT _ _ _ rfl h95 rfl rfl) ?_
          refine AOps.call (o_move _ rfl rfl) ?_
          refine AOps.split rfl rfl rfl (fun h98 => ?_) (fun h98 => ?_)
          · skip
            exfalso
            exact absurd h98 (by decide)
          · skip
            have hE : (doM ([] : List Lay) s) = ([], 0) := by rw [hdl, itM_nil (stF_nil s)]
            have hT : tknM ([] : List Lay) s = 0 := by unfold tknM; split; rfl; rw [take_end (.inr rfl)]
            refine AOps.pass rfl rfl rfl h98 rfl ?_
            refine AOps.pass rfl rfl rfl h98 rfl ?_
            refine AOps.pass rfl rfl rfl h98 rfl ?_
            refine AOps.call (o_pickF _ _ _ rfl h98 rfl rfl) ?_
            refine AOps.nil ?_
            refine AWP.condF rfl ?_
            refine AWP.exit ?_
            refine AWP.seq ?_
            refine AWP.region ?_
            refine AOps.weak (Weak.frzP (id := (45, 0)) (t := 11) (z := 3) (es := []) (cs' := []) rfl rfl rfl (fun j c h => h) (fun _ h => by cases h) rfl) ?_
            refine AOps.call (o_move _ rfl rfl) ?_
            refine AOps.call (o_move _ rfl rfl) ?_
            refine AOps.call (o_move _ rfl rfl) ?_
            refine AOps.call (o_assign _ rfl rfl) ?_
            refine AOps.call (o_assign _ rfl rfl) ?_
            refine AOps.call (o_assign _ rfl rfl) ?_
            refine AOps.nil ?_
            refine AWP.ret ?_
            refine postQ.ret3 Tryd.results72 rfl rfl rfl ?_
            rw [hE, hT]
            rfl
        · skip
          have hE : (doM ([] : List Lay) s) = ([], 0) := by rw [hdl, itM_nil (stF_nil s)]
          have hT : tknM ([] : List Lay) s = 0 := by unfold tknM; split; rfl; rw [take_end (.inr rfl)]
          refine AOps.pass rfl rfl rfl h95 rfl ?_
          refine AOps.pass rfl rfl rfl h95 rfl ?_
          refine AOps.pass rfl rfl rfl h95 rfl ?_
          refine AOps.call (o_pickF _ _ _ rfl h95 rfl rfl) ?_
          refine AOps.call (o_move _ rfl rfl) ?_
          refine AOps.pass rfl rfl rfl rfl rfl ?_
          refine AOps.pass rfl rfl rfl rfl rfl ?_
          refine AOps.pass rfl rfl rfl rfl rfl ?_
          refine AOps.call (o_pickF _ _ _ rfl rfl rfl rfl) ?_
          refine AOps.nil ?_
          refine AWP.condF rfl ?_
          refine AWP.exit ?_
          refine AWP.seq ?_
          refine AWP.region ?_
          refine AOps.weak (Weak.frzP (id := (45, 0)) (t := 11) (z := 3) (es := []) (cs' := []) rfl rfl rfl (fun j c h => h) (fun _ h => by cases h) rfl) ?_
          refine AOps.call (o_move _ rfl rfl) ?_
          refine AOps.call (o_move _ rfl rfl) ?_
          refine AOps.call (o_move _ rfl rfl) ?_
          refine AOps.call (o_assign _ rfl rfl) ?_
          refine AOps.call (o_assign _ rfl rfl) ?_
          refine AOps.call (o_assign _ rfl rfl) ?_
          refine AOps.nil ?_
          refine AWP.ret ?_
          refine postQ.ret3 Tryd.results72 rfl rfl rfl ?_
          rw [hE, hT]
          rfl

theorem rDo_s (p : List Lay) (s : Stp) (hp : packE p = 0) (hs : stepE s = 0) : FSpec Tryd.prog 72 [.sl (lays p), .agg (eT s)] (.tup [.sl (lays (doM p s).1), I (doM p s).2, I (tknM p s)]) none := by
  rcases Nat.eq_zero_or_pos p.length with h | h
  · obtain rfl := List.eq_nil_of_length_eq_zero h; exact rDo_b s hp hs
  · exact rDo_a p s hp hs h

end Go.Proofs.YtgagfmjpmdgfdaaDoor
