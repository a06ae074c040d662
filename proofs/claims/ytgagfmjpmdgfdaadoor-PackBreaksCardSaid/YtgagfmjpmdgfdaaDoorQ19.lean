import Derived.Test.YtgagfmjpmdgfdaaDoorX12
import Derived.Test.YtgagfmjpmdgfdaaDoorQ16
set_option linter.unusedSimpArgs false
set_option linter.unusedVariables false
namespace Go.Proofs.YtgagfmjpmdgfdaaDoor
open Go.Ab

theorem layAll {p : List Lay} (hp : packE p = 0) : (∀ x ∈ p, layB x = true) ∧ p.length ≤ 64 := ⟨(packE_0.1 hp).2.1, (packE_0.1 hp).1⟩
theorem burd_at {p : List Lay} {k : Nat} (hk : k < p.length) : (burd p 0).getD k (0, 0) = (watL (p.take k), strn p[k]) := by
  have hb : k < (burd p 0).length := by rw [burd_len]; exact hk
  rw [getD_at hb, burd_get hk hb]; simp
theorem burd_bd {p : List Lay} (hp : packE p = 0) {k : Nat} (hk : k < p.length) : (0 ≤ watL (p.take k) ∧ watL (p.take k) ≤ 65536) ∧ (1 ≤ strn p[k] ∧ strn p[k] ≤ 800000) := by
  have hb : k < (burd p 0).length := by rw [burd_len]; exact hk
  have h := burd_ok hp _ (List.getElem_mem hb)
  rw [burd_get hk hb] at h
  unfold burB at h
  simp only [] at h
  omega
theorem brkB_at {p : List Lay} {k : Nat} (hk : k < p.length) (hb : k < (burd p 0).length) (s : Int) : brkB (burd p 0)[k] s = decide (watL (p.take k) * (s - 25) > 3 * strn p[k]) := by
  rw [burd_get hk hb]; simp [brkB]

set_option maxRecDepth 20000 in
theorem rLoad_s (l : List Lay) (k : Nat) (hl : ∀ x ∈ l, layB x = true) (hn : l.length ≤ 64) (hk : k ≤ l.length) : FSpec Tryd.prog 78 [.sl (lays l), I k] (I (watL (l.take k))) (none) := by
  refine FSpec.of_body Tryd.func78 rfl (leB rfl) fun w0 M0 => ?_
  have hpl := lays_len l
  refine AWP.seq ?_
  refine AWP.region ?_
  refine AOps.call (o_assign _ rfl rfl) ?_
  refine AOps.nil ?_
  refine AWP.seq ?_
  refine AWP.region ?_
  refine AOps.call (o_move _ rfl rfl) ?_
  refine AOps.call (o_move _ rfl rfl) ?_
  refine AOps.call (o_sliceE (l := 0) (hh := k) (rs := lays (l.take k)) _ _ _ Tryd.underlying22 Tryd.sizeOf28 rfl rfl (boundA_some rfl (by omega) (by omega)) (by omega) (by omega) lays_z (by unfold lays; rw [List.drop_zero, Nat.sub_zero, List.map_take]) rfl) ?_
  refine AOps.call (o_call (rwater_s (l.take k) (all_take hl) (by rw [List.length_take]; omega)) Tryd.call64 rfl rfl) ?_
  refine AOps.call (o_assign _ rfl rfl) ?_
  refine AOps.nil ?_
  refine AWP.ret ?_
  exact postQ.ret1 Tryd.results78 rfl rfl

set_option maxRecDepth 20000 in
theorem rbreaks_s (p : List Lay) (s : Int) (hp : packE p = 0) (hs : 0 ≤ s ∧ s ≤ 60) : FSpec Tryd.prog 80 [.sl (lays p), I s] (B (brkA (burd p 0) s)) (none) := by
  refine FSpec.of_body Tryd.func80 rfl (leB rfl) fun w0 M0 => ?_
  have hpl := lays_len p
  have hdl := burd_len p 0
  have hA := layAll hp
  refine AWP.seq ?_
  refine AWP.region ?_
  refine AOps.call (o_assign _ rfl rfl) ?_
  refine AOps.nil ?_
  refine AWP.seq ?_
  refine AWP.seq ?_
  refine AWP.region ?_
  refine AOps.call (o_assign _ rfl rfl) ?_
  refine AOps.nil ?_
  refine AWP.block ?_
  refine AWP.loop (ι := Nat) (fun i => AS.mk' 25 [(0, .sl (lays p)), (1, I s), (5, I i)] [] [] []) (fun i => i ≤ p.length ∧ brkA ((burd p 0).take i) s = false) (fun i => p.length - i) (0) (Weak.mk' rfl ⟨⟨.refl rfl, rfl⟩, ⟨⟨.refl rfl, rfl⟩, ⟨⟨.refl rfl, rfl⟩, trivial⟩⟩⟩ trivial trivial) (⟨Nat.zero_le _, rfl⟩) ?_
  rintro k ⟨hk, hinv⟩
  try dsimp only at *
  refine AWP.seq ?_
  refine AWP.seq ?_
  refine AWP.region ?_
  refine AOps.call (o_move _ rfl rfl) ?_
  refine AOps.call (o_move _ rfl rfl) ?_
  refine AOps.call (o_len _ Tryd.underlying22 rfl rfl) ?_
  refine AOps.call (o_bin _ _ rfl rfl (fun _ => rfl) rfl) ?_
  refine AOps.nil ?_
  refine AWP.cond _ rfl (fun h5 => ?_) (fun h5 => ?_)
  · skip
    have hlt : k < p.length := by have hq := of_decide_eq_true h5; omega
    have hlb : k < (burd p 0).length := by omega
    have hel := lays_at hlt
    have hbd := burd_bd hp hlt
    have h5 := mul_in hbd.1.1 hbd.1.2 hs.1 hs.2
    have h6 : watL (p.take k) * (s - 25) = watL (p.take k) * s - watL (p.take k) * 25 := Int.mul_sub _ _ _
    refine AWP.skip ?_
    refine AWP.seq ?_
    refine AWP.block ?_
    refine AWP.seq ?_
    refine AWP.drawn 13 mixed (by kernel_rfl) ?_
    refine AHead.call (o_move _ rfl rfl) rfl ?_
    refine AHead.call (o_move _ rfl rfl) rfl ?_
    refine AHead.call (o_call (rLoad_s p k hA.1 hA.2 (by omega)) Tryd.call78 rfl rfl) rfl ?_
    refine AHead.call (o_move _ rfl rfl) rfl ?_
    refine AHead.call (o_sub _ _ rfl rfl ⟨by (try dsimp only); omega, by (try dsimp only); omega⟩ rfl) rfl ?_
    refine AHead.call (o_mul _ _ rfl rfl ⟨by omega, by omega⟩ rfl) rfl ?_
    refine AHead.call (o_move _ rfl rfl) rfl ?_
    refine AHead.call (o_move _ rfl rfl) rfl ?_
    refine AHead.call (o_index _ _ Tryd.underlying22 Tryd.sizeOf28 rfl rfl (by omega) hel rfl rfl) rfl ?_
    refine AHead.call (o_loadRd _ rfl Tryd.sizeOf28 Tryd.isAgg28 rfl rfl rfl) rfl ?_
    refine AHead.call (o_call (Strength_s p[k] (hA.1 _ (List.getElem_mem hlt))) Tryd.call56 rfl rfl) rfl ?_
    refine AHead.call (o_mul _ _ rfl rfl ⟨by omega, by omega⟩ rfl) rfl ?_
    refine AHead.call (o_bin _ _ rfl rfl (fun _ => rfl) rfl) rfl ?_
    refine AHead.nil ?_
    refine AOps.nil ?_
    refine AWP.cond _ rfl (fun h17 => ?_) (fun h17 => ?_)
    · skip
      have hE := brkA_yes hlb (by rw [brkB_at hlt hlb]; exact h17)
      refine AWP.seq ?_
      refine AWP.region ?_
      refine AOps.call (o_assign _ rfl rfl) ?_
      refine AOps.nil ?_
      refine AWP.ret ?_
      refine postQ.ret1 Tryd.results80 rfl ?_
      rw [hE]
      rfl
    · skip
      have hbb := h17
      refine AWP.skip ?_
      refine AWP.region ?_
      refine AOps.call (o_move _ rfl rfl) ?_
      refine AOps.call (o_add _ _ rfl rfl ⟨by (try dsimp only); omega, by (try dsimp only); omega⟩ rfl) ?_
      refine AOps.call (o_assign _ rfl rfl) ?_
      refine AOps.nil ?_
      refine ⟨k + 1, ?_, (Weak.mk' rfl ⟨⟨.refl rfl, rfl⟩, ⟨⟨.refl rfl, rfl⟩, ⟨⟨.refl rfl, rfl⟩, trivial⟩⟩⟩ trivial trivial)⟩
      exact ⟨⟨by omega, brkA_step hlb hinv (by rw [brkB_at hlt hlb]; exact hbb)⟩, by omega⟩
  · skip
    have hE := brkA_no hinv (by have hq := of_decide_eq_false h5; omega)
    refine AWP.exit ?_
    refine AWP.seq ?_
    refine AWP.region ?_
    refine AOps.call (o_assign _ rfl rfl) ?_
    refine AOps.nil ?_
    refine AWP.ret ?_
    refine postQ.ret1 Tryd.results80 rfl ?_
    rw [hE]
    rfl

set_option maxRecDepth 20000 in
theorem rBreaks_s (p : List Lay) (s : Int) : FSpec Tryd.prog 47 [.agg (eK p), I s] (.tup [B (brkM p s).1, I (brkM p s).2]) (none) := by
  refine FSpec.of_body Tryd.func47 rfl (leB rfl) fun w0 M0 => ?_
  refine AWP.seq ?_
  refine AWP.region ?_
  refine AOps.call (o_box _ rfl rfl rfl) ?_
  refine AOps.call (o_assign _ rfl rfl) ?_
  refine AOps.call (o_assign _ rfl rfl) ?_
  refine AOps.nil ?_
  refine AWP.seq ?_
  refine AWP.region ?_
  refine AOps.call (o_loadRef _ rfl rfl Tryd.sizeOf24 Tryd.isAgg24 rfl rfl rfl) ?_
  refine AOps.call (o_call (rCheck_s _) Tryd.call27 rfl rfl) ?_
  refine AOps.call (o_assign _ rfl rfl) ?_
  refine AOps.nil ?_
  refine AWP.seq ?_
  refine AWP.seq ?_
  refine AWP.region ?_
  refine AOps.call (o_move _ rfl rfl) ?_
  refine AOps.call (o_bin _ _ rfl rfl (fun _ => rfl) rfl) ?_
  refine AOps.nil ?_
  refine AWP.cond _ rfl (fun h6 => ?_) (fun h6 => ?_)
  · skip
    have hp : ¬ packE p = 0 := by simpa using h6
    have hp20 := packE_20 hp
    have hE : (brkM p s) = (false, packE p) := by unfold brkM; rw [if_neg hp, hp20]
    refine AWP.seq ?_
    refine AWP.region ?_
    refine AOps.call (o_move _ rfl rfl) ?_
    refine AOps.call (o_assign _ rfl rfl) ?_
    refine AOps.call (o_assign _ rfl rfl) ?_
    refine AOps.nil ?_
    refine AWP.ret ?_
    refine postQ.ret2 Tryd.results47 rfl rfl ?_
    rw [hE]
    rfl
  · skip
    have hp : packE p = 0 := by simpa using h6
    refine AWP.skip ?_
    refine AWP.seq ?_
    refine AWP.seq ?_
    refine AWP.region ?_
    refine AOps.call (o_move _ rfl rfl) ?_
    refine AOps.call (o_call (rwithin_s s 0 60) Tryd.call68 rfl rfl) ?_
    refine AOps.call (o_un _ rfl (fun _ => rfl) rfl) ?_
    refine AOps.nil ?_
    refine AWP.cond _ rfl (fun h10 => ?_) (fun h10 => ?_)
    · skip
      have hm : ¬ (0 ≤ s ∧ s ≤ 60) := by have hq := h10; simp [winB] at hq; omega
      have hE : (brkM p s) = (false, 1) := by unfold brkM; rw [if_pos hp, if_neg hm]
      refine AWP.seq ?_
      refine AWP.region ?_
      refine AOps.call (o_assign _ rfl rfl) ?_
      refine AOps.call (o_assign _ rfl rfl) ?_
      refine AOps.nil ?_
      refine AWP.ret ?_
      refine postQ.ret2 Tryd.results47 rfl rfl ?_
      rw [hE]
      rfl
    · skip
      have hm : 0 ≤ s ∧ s ≤ 60 := by have hq := h10; simp [winB] at hq; omega
      have hE : (brkM p s) = (brkA (burd p 0) s, 0) := by unfold brkM; rw [if_pos hp, if_pos hm]
      refine AWP.skip ?_
      refine AWP.seq ?_
      refine AWP.region ?_
      refine AOps.call (o_fieldRef _ rfl fa24_0 rfl rfl) ?_
      refine AOps.call (o_loadRef _ rfl rfl Tryd.sizeOf22 Tryd.isAgg22 rfl rfl rfl) ?_
      refine AOps.call (o_move _ rfl rfl) ?_
      refine AOps.call (o_call (rbreaks_s p s hp hm) Tryd.call80 rfl rfl) ?_
      refine AOps.call (o_assign _ rfl rfl) ?_
      refine AOps.call (o_assign _ rfl rfl) ?_
      refine AOps.nil ?_
      refine AWP.ret ?_
      refine postQ.ret2 Tryd.results47 rfl rfl ?_
      rw [hE]
      rfl

set_option maxRecDepth 20000 in
theorem rSteepest_s (p : List Lay) : FSpec Tryd.prog 49 [.agg (eK p)] (.tup [I (stpM p).1, I (stpM p).2]) (none) := by
  refine FSpec.of_body Tryd.func49 rfl (leB rfl) fun w0 M0 => ?_
  refine AWP.seq ?_
  refine AWP.region ?_
  refine AOps.call (o_box _ rfl rfl rfl) ?_
  refine AOps.call (o_assign _ rfl rfl) ?_
  refine AOps.call (o_assign _ rfl rfl) ?_
  refine AOps.nil ?_
  refine AWP.seq ?_
  refine AWP.region ?_
  refine AOps.call (o_loadRef _ rfl rfl Tryd.sizeOf24 Tryd.isAgg24 rfl rfl rfl) ?_
  refine AOps.call (o_call (rCheck_s _) Tryd.call27 rfl rfl) ?_
  refine AOps.call (o_assign _ rfl rfl) ?_
  refine AOps.nil ?_
  refine AWP.seq ?_
  refine AWP.seq ?_
  refine AWP.region ?_
  refine AOps.call (o_move _ rfl rfl) ?_
  refine AOps.call (o_bin _ _ rfl rfl (fun _ => rfl) rfl) ?_
  refine AOps.nil ?_
  refine AWP.cond _ rfl (fun h7 => ?_) (fun h7 => ?_)
  · skip
    have hp : ¬ packE p = 0 := by simpa using h7
    have hp20 := packE_20 hp
    have hE : (stpM p) = (0, packE p) := by unfold stpM; rw [if_neg hp, hp20]
    refine AWP.seq ?_
    refine AWP.region ?_
    refine AOps.call (o_move _ rfl rfl) ?_
    refine AOps.call (o_assign _ rfl rfl) ?_
    refine AOps.call (o_assign _ rfl rfl) ?_
    refine AOps.nil ?_
    refine AWP.ret ?_
    refine postQ.ret2 Tryd.results49 rfl rfl ?_
    rw [hE]
    rfl
  · skip
    have hp : packE p = 0 := by simpa using h7
    have hE0 : (stpM p) = (((dnN (burd p 0) 60 : Nat) : Int), 0) := by unfold stpM; rw [if_pos hp, stp_dn (burd_ok hp)]
    refine AWP.skip ?_
    refine AWP.seq ?_
    refine AWP.region ?_
    refine AOps.call (o_assign _ rfl rfl) ?_
    refine AOps.nil ?_
    refine AWP.seq ?_
    refine AWP.block ?_
    refine AWP.loop (ι := Nat) (fun i => AS.mk' 22 [(1, .ref (1, 0) 0), (5, I i)] [((1, 0), eK p)] [] [(1, 1)]) (fun i => i ≤ 60 ∧ dnN (burd p 0) 60 = dnN (burd p 0) i) (fun i => i) (60) (Weak.mk' rfl ⟨⟨.refl rfl, rfl⟩, ⟨⟨.refl rfl, rfl⟩, trivial⟩⟩ ⟨⟨rfl, rfl, rfl⟩, trivial⟩ trivial) (⟨Nat.le_refl _, rfl⟩) ?_
    rintro k ⟨hk, hinv⟩
    try dsimp only at *
    refine AWP.seq ?_
    refine AWP.seq ?_
    refine AWP.region ?_
    refine AOps.call (o_move _ rfl rfl) ?_
    refine AOps.call (o_bin _ _ rfl rfl (fun _ => rfl) rfl) ?_
    refine AOps.call (o_move _ rfl rfl) ?_
    refine AOps.split rfl rfl rfl (fun h11 => ?_) (fun h11 => ?_)
    · skip
      have g1 := of_decide_eq_true h11
      refine AOps.go rfl rfl rfl h11 (o_fieldRef _ rfl fa24_0 rfl rfl) ?_
      refine AOps.go rfl rfl rfl h11 (o_loadRef _ rfl rfl Tryd.sizeOf22 Tryd.isAgg22 rfl rfl rfl) ?_
      refine AOps.go rfl rfl rfl h11 (o_move _ rfl rfl) ?_
      refine AOps.go rfl rfl rfl h11 (o_call (rbreaks_s p k hp ⟨by omega, by omega⟩) Tryd.call80 rfl rfl) ?_
      refine AOps.call (o_pickT _ _ _ rfl h11 rfl rfl) ?_
      refine AOps.nil ?_
      refine AWP.cond _ rfl (fun h15 => ?_) (fun h15 => ?_)
      · skip
        have hdn : dnN (burd p 0) k = dnN (burd p 0) (k - 1) := by
          obtain ⟨f, hf⟩ : ∃ f, k = f + 1 := ⟨k - 1, by omega⟩
          have hb : brkA (burd p 0) k = true := h15
          subst hf
          rw [dnN, if_pos (by have e : ((f + 1 : Nat) : Int) = (f : Int) + 1 := by omega
                              rw [← e]; exact hb), Nat.add_sub_cancel]
        refine AWP.skip ?_
        refine AWP.block ?_
        refine AWP.region ?_
        refine AOps.call (o_move _ rfl rfl) ?_
        refine AOps.call (o_sub _ _ rfl rfl ⟨by (try dsimp only); omega, by (try dsimp only); omega⟩ rfl) ?_
        refine AOps.call (o_assign _ rfl rfl) ?_
        refine AOps.nil ?_
        refine ⟨k - 1, ?_, (Weak.mk' rfl ⟨⟨.refl rfl, rfl⟩, ⟨⟨.refl (by show I ((k : Int) - 1) = I ((k - 1 : Nat) : Int); congr 1; omega), rfl⟩, trivial⟩⟩ ⟨⟨rfl, rfl, rfl⟩, trivial⟩ trivial)⟩
        exact ⟨⟨by omega, by rw [hinv, hdn]⟩, by omega⟩
      · skip
        have hE : (stpM p) = (((k : Nat) : Int), 0) := by
          rw [hE0, hinv]
          cases k with
          | zero => rfl
          | succ f =>
            have hb : brkA (burd p 0) ((f + 1 : Nat) : Int) = false := h15
            rw [dnN, if_neg (by have e : ((f + 1 : Nat) : Int) = (f : Int) + 1 := by omega
                                rw [← e, hb]; simp)]
        refine AWP.exit ?_
        refine AWP.seq ?_
        refine AWP.region ?_
        refine AOps.call (o_move _ rfl rfl) ?_
        refine AOps.call (o_assign _ rfl rfl) ?_
        refine AOps.call (o_assign _ rfl rfl) ?_
        refine AOps.nil ?_
        refine AWP.ret ?_
        refine postQ.ret2 Tryd.results49 rfl rfl ?_
        rw [hE]
        rfl
    · skip
      have g1 := h11
      refine AOps.pass rfl rfl rfl h11 rfl ?_
      refine AOps.pass rfl rfl rfl h11 rfl ?_
      refine AOps.pass rfl rfl rfl h11 rfl ?_
      refine AOps.pass rfl rfl rfl h11 rfl ?_
      refine AOps.call (o_pickF _ _ _ rfl h11 rfl rfl) ?_
      refine AOps.nil ?_
      refine AWP.condF rfl ?_
      have hk0 : k = 0 := by have hq := of_decide_eq_false g1; omega
      subst hk0
      have hE : (stpM p) = (((0 : Nat) : Int), 0) := by rw [hE0, hinv]; rfl
      refine AWP.exit ?_
      refine AWP.seq ?_
      refine AWP.region ?_
      refine AOps.call (o_move _ rfl rfl) ?_
      refine AOps.call (o_assign _ rfl rfl) ?_
      refine AOps.call (o_assign _ rfl rfl) ?_
      refine AOps.nil ?_
      refine AWP.ret ?_
      refine postQ.ret2 Tryd.results49 rfl rfl ?_
      rw [hE]
      rfl

set_option maxHeartbeats 4000000 in
set_option maxRecDepth 20000 in
theorem rWeakest_s (p : List Lay) : FSpec Tryd.prog 45 [.agg (eK p)] (.tup [I (wkM p).1, I (wkM p).2.1, I (wkM p).2.2]) (none) := by
  refine FSpec.of_body Tryd.func45 rfl (leB rfl) fun w0 M0 => ?_
  have hpl := lays_len p
  have hdl := burd_len p 0
  refine AWP.seq ?_
  refine AWP.region ?_
  refine AOps.call (o_box _ rfl rfl rfl) ?_
  refine AOps.call (o_assign _ rfl rfl) ?_
  refine AOps.call (o_assign _ rfl rfl) ?_
  refine AOps.call (o_assign _ rfl rfl) ?_
  refine AOps.nil ?_
  refine AWP.seq ?_
  refine AWP.region ?_
  refine AOps.call (o_loadRef _ rfl rfl Tryd.sizeOf24 Tryd.isAgg24 rfl rfl rfl) ?_
  refine AOps.call (o_call (rCheck_s _) Tryd.call27 rfl rfl) ?_
  refine AOps.call (o_assign _ rfl rfl) ?_
  refine AOps.nil ?_
  refine AWP.seq ?_
  refine AWP.seq ?_
  refine AWP.region ?_
  refine AOps.call (o_move _ rfl rfl) ?_
  refine AOps.call (o_bin _ _ rfl rfl (fun _ => rfl) rfl) ?_
  refine AOps.nil ?_
  refine AWP.cond _ rfl (fun h8 => ?_) (fun h8 => ?_)
  · skip
    have hp : ¬ packE p = 0 := by simpa using h8
    have hp20 := packE_20 hp
    have hE : (wkM p) = (0, 0, packE p) := by unfold wkM; rw [if_neg hp, hp20]
    refine AWP.seq ?_
    refine AWP.region ?_
    refine AOps.call (o_move _ rfl rfl) ?_
    refine AOps.call (o_assign _ rfl rfl) ?_
    refine AOps.call (o_assign _ rfl rfl) ?_
    refine AOps.call (o_assign _ rfl rfl) ?_
    refine AOps.nil ?_
    refine AWP.ret ?_
    refine postQ.ret3 Tryd.results45 rfl rfl rfl ?_
    rw [hE]
    rfl
  · skip
    have hp : packE p = 0 := by simpa using h8
    have hA := layAll hp
    refine AWP.skip ?_
    refine AWP.seq ?_
    refine AWP.region ?_
    refine AOps.call (o_fieldRef _ rfl fa24_0 rfl rfl) ?_
    refine AOps.call (o_loadRef _ rfl rfl Tryd.sizeOf22 Tryd.isAgg22 rfl rfl rfl) ?_
    refine AOps.call (o_assign _ rfl rfl) ?_
    refine AOps.nil ?_
    refine AWP.seq ?_
    refine AWP.seq ?_
    refine AWP.region ?_
    refine AOps.call (o_move _ rfl rfl) ?_
    refine AOps.call (o_len _ Tryd.underlying22 rfl rfl) ?_
    refine AOps.call (o_bin _ _ rfl rfl (fun _ => rfl) rfl) ?_
    refine AOps.nil ?_
    refine AWP.cond _ rfl (fun h15 => ?_) (fun h15 => ?_)
    · skip
      have h0 : p.length = 0 := by have hq : (((lays p).length : Nat) : Int) = 0 := (by simpa using h15); omega
      have hE : (wkM p) = (0, 0, 4) := by unfold wkM; rw [if_pos hp, if_pos h0]
      refine AWP.seq ?_
      refine AWP.region ?_
      refine AOps.call (o_assign _ rfl rfl) ?_
      refine AOps.call (o_assign _ rfl rfl) ?_
      refine AOps.call (o_assign _ rfl rfl) ?_
      refine AOps.nil ?_
      refine AWP.ret ?_
      refine postQ.ret3 Tryd.results45 rfl rfl rfl ?_
      rw [hE]
      rfl
    · skip
      have h0 : ¬ p.length = 0 := by have hq : ¬ (((lays p).length : Nat) : Int) = 0 := (by simpa using h15); omega
      have hE0 : (wkM p) = (((wkA (burd p 0) p.length : Nat) : Int), ((burd p 0).getD (wkA (burd p 0) p.length) (0, 0)).1, 0) := by unfold wkM; rw [if_pos hp, if_neg h0]
      have hw1 : wkA (burd p 0) 1 = 0 := by simp [wkA]
      refine AWP.skip ?_
      refine AWP.seq ?_
      refine AWP.region ?_
      refine AOps.call (o_assign _ rfl rfl) ?_
      refine AOps.nil ?_
      refine AWP.seq ?_
      refine AWP.seq ?_
      refine AWP.region ?_
      refine AOps.call (o_assign _ rfl rfl) ?_
      refine AOps.nil ?_
      refine AWP.block ?_
      refine AWP.loop (ι := Nat) (fun i => AS.mk' 49 [(6, .sl (lays p)), (7, I (wkA (burd p 0) i : Nat)), (8, I i)] [] [] []) (fun i => 1 ≤ i ∧ i ≤ p.length) (fun i => p.length - i) (1) (Weak.mk' rfl ⟨⟨.refl rfl, rfl⟩, ⟨⟨.refl (by rw [hw1]; rfl), rfl⟩, ⟨⟨.refl rfl, rfl⟩, trivial⟩⟩⟩ trivial trivial) (⟨Nat.le_refl _, by omega⟩) ?_
      rintro k ⟨hk1, hk⟩
      try dsimp only at *
      refine AWP.seq ?_
      refine AWP.seq ?_
      refine AWP.region ?_
      refine AOps.call (o_move _ rfl rfl) ?_
      refine AOps.call (o_move _ rfl rfl) ?_
      refine AOps.call (o_len _ Tryd.underlying22 rfl rfl) ?_
      refine AOps.call (o_bin _ _ rfl rfl (fun _ => rfl) rfl) ?_
      refine AOps.nil ?_
      refine AWP.cond _ rfl (fun h23 => ?_) (fun h23 => ?_)
      · skip
        have hlt : k < p.length := by have hq := of_decide_eq_true h23; omega
        have hwl := wkA_lt (burd p 0) k (by omega)
        have hlw : (wkA (burd p 0) k) < p.length := by omega
        have hel := lays_at hlt
        have hel2 := lays_at hlw
        have b1 := burd_bd hp hlt
        have b2 := burd_bd hp hlw
        have m1 := mul_in b1.1.1 b1.1.2 (Int.le_trans (by omega) b2.2.1) b2.2.2
        have m2 := mul_in b2.1.1 b2.1.2 (Int.le_trans (by omega) b1.2.1) b1.2.2
        have hwk : wkA (burd p 0) (k + 1) = if decide (watL (p.take k) * strn p[(wkA (burd p 0) k)] > watL (p.take (wkA (burd p 0) k)) * strn p[k]) = true then k else (wkA (burd p 0) k) := by rw [wkA, burd_at hlt, burd_at hlw]; rfl
        refine AWP.skip ?_
        refine AWP.seq ?_
        refine AWP.block ?_
        refine AWP.seq ?_
        refine AWP.drawn 19 mixed (by kernel_rfl) ?_
        refine AHead.call (o_move _ rfl rfl) rfl ?_
        refine AHead.call (o_move _ rfl rfl) rfl ?_
        refine AHead.call (o_call (rLoad_s p k hA.1 hA.2 (by omega)) Tryd.call78 rfl rfl) rfl ?_
        refine AHead.call (o_move _ rfl rfl) rfl ?_
        refine AHead.call (o_move _ rfl rfl) rfl ?_
        refine AHead.call (o_index _ _ Tryd.underlying22 Tryd.sizeOf28 rfl rfl (by omega) hel2 rfl rfl) rfl ?_
        refine AHead.call (o_loadRd _ rfl Tryd.sizeOf28 Tryd.isAgg28 rfl rfl rfl) rfl ?_
        refine AHead.call (o_call (Strength_s p[(wkA (burd p 0) k)] (hA.1 _ (List.getElem_mem hlw))) Tryd.call56 rfl rfl) rfl ?_
        refine AHead.call (o_mul _ _ rfl rfl ⟨by omega, by omega⟩ rfl) rfl ?_
        refine AHead.call (o_move _ rfl rfl) rfl ?_
        refine AHead.call (o_move _ rfl rfl) rfl ?_
        refine AHead.call (o_call (rLoad_s p (wkA (burd p 0) k) hA.1 hA.2 (by omega)) Tryd.call78 rfl rfl) rfl ?_
        refine AHead.call (o_move _ rfl rfl) rfl ?_
        refine AHead.call (o_move _ rfl rfl) rfl ?_
        refine AHead.call (o_index _ _ Tryd.underlying22 Tryd.sizeOf28 rfl rfl (by omega) hel rfl rfl) rfl ?_
        refine AHead.call (o_loadRd _ rfl Tryd.sizeOf28 Tryd.isAgg28 rfl rfl rfl) rfl ?_
        refine AHead.call (o_call (Strength_s p[k] (hA.1 _ (List.getElem_mem hlt))) Tryd.call56 rfl rfl) rfl ?_
        refine AHead.call (o_mul _ _ rfl rfl ⟨by omega, by omega⟩ rfl) rfl ?_
        refine AHead.call (o_bin _ _ rfl rfl (fun _ => rfl) rfl) rfl ?_
        refine AHead.nil ?_
        refine AOps.nil ?_
        refine AWP.cond _ rfl (fun h37 => ?_) (fun h37 => ?_)
        · skip
          have hnx : wkA (burd p 0) (k + 1) = k := by rw [hwk, if_pos h37]
          refine AWP.region ?_
          refine AOps.call (o_move _ rfl rfl) ?_
          refine AOps.call (o_assign _ rfl rfl) ?_
          refine AOps.nil ?_
          refine AWP.region ?_
          refine AOps.call (o_move _ rfl rfl) ?_
          refine AOps.call (o_add _ _ rfl rfl ⟨by (try dsimp only); omega, by (try dsimp only); omega⟩ rfl) ?_
          refine AOps.call (o_assign _ rfl rfl) ?_
          refine AOps.nil ?_
          refine ⟨k + 1, ?_, (Weak.mk' rfl ⟨⟨.refl rfl, rfl⟩, ⟨⟨.refl (by rw [hnx]; rfl), rfl⟩, ⟨⟨.refl rfl, rfl⟩, trivial⟩⟩⟩ trivial trivial)⟩
          exact ⟨⟨by omega, by omega⟩, by omega⟩
        · skip
          have hnx : wkA (burd p 0) (k + 1) = (wkA (burd p 0) k) := by rw [hwk, if_neg (by rw [h37]; simp)]
          refine AWP.skip ?_
          refine AWP.region ?_
          refine AOps.call (o_move _ rfl rfl) ?_
          refine AOps.call (o_add _ _ rfl rfl ⟨by (try dsimp only); omega, by (try dsimp only); omega⟩ rfl) ?_
          refine AOps.call (o_assign _ rfl rfl) ?_
          refine AOps.nil ?_
          refine ⟨k + 1, ?_, (Weak.mk' rfl ⟨⟨.refl rfl, rfl⟩, ⟨⟨.refl (by rw [hnx]; rfl), rfl⟩, ⟨⟨.refl rfl, rfl⟩, trivial⟩⟩⟩ trivial trivial)⟩
          exact ⟨⟨by omega, by omega⟩, by omega⟩
      · skip
        have hkl : k = p.length := by have hq := of_decide_eq_false h23; omega
        have hwl := wkA_lt (burd p 0) k (by omega)
        have hE : (wkM p) = ((((wkA (burd p 0) k) : Nat) : Int), watL (p.take (wkA (burd p 0) k)), 0) := by rw [hE0, ← hkl, burd_at (show (wkA (burd p 0) k) < p.length by omega)]
        refine AWP.exit ?_
        refine AWP.seq ?_
        refine AWP.region ?_
        refine AOps.call (o_move _ rfl rfl) ?_
        refine AOps.call (o_move _ rfl rfl) ?_
        refine AOps.call (o_move _ rfl rfl) ?_
        refine AOps.call (o_call (rLoad_s p (wkA (burd p 0) k) hA.1 hA.2 (by omega)) Tryd.call78 rfl rfl) ?_
        refine AOps.call (o_assign _ rfl rfl) ?_
        refine AOps.call (o_assign _ rfl rfl) ?_
        refine AOps.call (o_assign _ rfl rfl) ?_
        refine AOps.nil ?_
        refine AWP.ret ?_
        refine postQ.ret3 Tryd.results45 rfl rfl rfl ?_
        rw [hE]
        rfl

end Go.Proofs.YtgagfmjpmdgfdaaDoor
