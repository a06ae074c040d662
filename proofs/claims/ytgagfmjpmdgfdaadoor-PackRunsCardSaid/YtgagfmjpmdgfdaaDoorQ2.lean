import Derived.Test.YtgagfmjpmdgfdaaDoorQ1
import Derived.Test.YtgagfmjpmdgfdaaDoorP3
set_option linter.unusedSimpArgs false
set_option linter.unusedVariables false
namespace Go.Proofs.YtgagfmjpmdgfdaaDoor
open Go.Ab

set_option maxRecDepth 20000 in
theorem flow_s (P R : List Lay) (l : Lay) (t left : Int) (k : Nat) (hk : P.length = k) (hf : flo l) (h0 : 0 ≤ left ∧ left ≤ 4000000000000000000) : FSpecM Tryd.prog 101 [.ref (1000000, 0) 0, .ref (1000001, 0) (k * 3)] [[I left], colC (P ++ l :: R) t] (.tup []) none [[I (entF left l).1], colC (P ++ (entF left l).2 :: R) t] := by
  refine FSpecM.of_body Tryd.func101 rfl (leB rfl) (leB rfl) rfl fun w0 M0 => ?_
  unfold flo at hf
  have hh : 0 ≤ l.ice + min left l.cold ∧ l.ice + min left l.cold ≤ 9223372036854775807 := by omega
  refine AWP.seq ?_
  refine AWP.drawn 10 mixed (by kernel_rfl) ?_
  refine AHead.call (o_move _ rfl rfl) rfl ?_
  refine AHead.call (o_nilCheck _ rfl rfl) rfl ?_
  refine AHead.call (o_fieldRef _ rfl fa120_0 rfl rfl) rfl ?_
  refine AHead.call (o_loadRef _ rfl rfl Tryd.sizeOf3 Tryd.isAgg3 rfl rfl rfl) rfl ?_
  refine AHead.call (o_move _ rfl rfl) rfl ?_
  refine AHead.call (o_nilCheck _ rfl rfl) rfl ?_
  refine AHead.call (o_fieldRef _ rfl fa28_2 rfl rfl) rfl ?_
  refine AHead.call (o_loadRefE _ rfl rfl Tryd.sizeOf3 Tryd.isAgg3 (c_cold hk) rfl) rfl ?_
  refine AHead.call (o_minZ _ _ rfl rfl rfl) rfl ?_
  refine AHead.call (o_assign _ rfl rfl) rfl ?_
  refine AHead.nil ?_
  refine AOps.nil ?_
  refine AWP.seq ?_
  refine AWP.region ?_
  refine AOps.call (o_move _ rfl rfl) ?_
  refine AOps.call (o_nilCheck _ rfl rfl) ?_
  refine AOps.call (o_fieldRef _ rfl fa28_0 rfl rfl) ?_
  refine AOps.call (o_loadRefE _ rfl rfl Tryd.sizeOf3 Tryd.isAgg3 (c_ice hk) rfl) ?_
  refine AOps.call (o_move _ rfl rfl) ?_
  refine AOps.call (o_add _ _ rfl rfl ⟨by (try dsimp only); omega, by (try dsimp only); omega⟩ rfl) ?_
  refine AOps.call (o_nilCheck _ rfl rfl) ?_
  refine AOps.call (o_fieldRef _ rfl fa28_0 rfl rfl) ?_
  refine AOps.cons (o_storeE _ _ rfl rfl Tryd.sizeOf3 rfl rfl (by rw [c_len]; omega) (c_sice hk) rfl) ?_
  refine AOps.nil ?_
  refine AWP.seq ?_
  refine AWP.region ?_
  refine AOps.call (o_move _ rfl rfl) ?_
  refine AOps.call (o_nilCheck _ rfl rfl) ?_
  refine AOps.call (o_fieldRef _ rfl fa28_2 rfl rfl) ?_
  refine AOps.call (o_loadRefE _ rfl rfl Tryd.sizeOf3 Tryd.isAgg3 (c_cold hk) rfl) ?_
  refine AOps.call (o_move _ rfl rfl) ?_
  refine AOps.call (o_sub _ _ rfl rfl ⟨by (try dsimp only); omega, by (try dsimp only); omega⟩ rfl) ?_
  refine AOps.call (o_nilCheck _ rfl rfl) ?_
  refine AOps.call (o_fieldRef _ rfl fa28_2 rfl rfl) ?_
  refine AOps.cons (o_storeE _ _ rfl rfl Tryd.sizeOf3 rfl rfl (by rw [c_len]; omega) (c_scold hk) rfl) ?_
  refine AOps.nil ?_
  refine AWP.seq ?_
  refine AWP.region ?_
  refine AOps.call (o_move _ rfl rfl) ?_
  refine AOps.call (o_nilCheck _ rfl rfl) ?_
  refine AOps.call (o_fieldRef _ rfl fa120_0 rfl rfl) ?_
  refine AOps.call (o_loadRef _ rfl rfl Tryd.sizeOf3 Tryd.isAgg3 rfl rfl rfl) ?_
  refine AOps.call (o_move _ rfl rfl) ?_
  refine AOps.call (o_sub _ _ rfl rfl ⟨by (try dsimp only); omega, by (try dsimp only); omega⟩ rfl) ?_
  refine AOps.call (o_nilCheck _ rfl rfl) ?_
  refine AOps.call (o_fieldRef _ rfl fa120_0 rfl rfl) ?_
  refine AOps.cons (o_store _ _ rfl rfl Tryd.sizeOf3 rfl rfl rfl rfl rfl) ?_
  refine AOps.nil ?_
  refine AWP.seq ?_
  refine AWP.drawn 16 mixed (by kernel_rfl) ?_
  refine AHead.call (o_move _ rfl rfl) rfl ?_
  refine AHead.call (o_nilCheck _ rfl rfl) rfl ?_
  refine AHead.call (o_fieldRef _ rfl fa120_0 rfl rfl) rfl ?_
  refine AHead.call (o_loadRef _ rfl rfl Tryd.sizeOf3 Tryd.isAgg3 rfl rfl rfl) rfl ?_
  refine AHead.call (o_move _ rfl rfl) rfl ?_
  refine AHead.call (o_nilCheck _ rfl rfl) rfl ?_
  refine AHead.call (o_fieldRef _ rfl fa28_0 rfl rfl) rfl ?_
  refine AHead.call (o_loadRefE _ rfl rfl Tryd.sizeOf3 Tryd.isAgg3 (c_ice hk) rfl) rfl ?_
  refine AHead.call (o_call (hold_s _ hh) Tryd.call60 rfl rfl) rfl ?_
  refine AHead.call (o_move _ rfl rfl) rfl ?_
  refine AHead.call (o_nilCheck _ rfl rfl) rfl ?_
  refine AHead.call (o_fieldRef _ rfl fa28_1 rfl rfl) rfl ?_
  refine AHead.call (o_loadRefE _ rfl rfl Tryd.sizeOf3 Tryd.isAgg3 (c_wet hk) rfl) rfl ?_
  refine AHead.call (o_sub _ _ rfl rfl ⟨by (try dsimp only); omega, by (try dsimp only); omega⟩ rfl) rfl ?_
  refine AHead.call (o_minZ _ _ rfl rfl rfl) rfl ?_
  refine AHead.call (o_assign _ rfl rfl) rfl ?_
  refine AHead.nil ?_
  refine AOps.nil ?_
  refine AWP.seq ?_
  refine AWP.region ?_
  refine AOps.call (o_move _ rfl rfl) ?_
  refine AOps.call (o_nilCheck _ rfl rfl) ?_
  refine AOps.call (o_fieldRef _ rfl fa28_1 rfl rfl) ?_
  refine AOps.call (o_loadRefE _ rfl rfl Tryd.sizeOf3 Tryd.isAgg3 (c_wet hk) rfl) ?_
  refine AOps.call (o_move _ rfl rfl) ?_
  refine AOps.call (o_add _ _ rfl rfl ⟨by (try dsimp only); omega, by (try dsimp only); omega⟩ rfl) ?_
  refine AOps.call (o_nilCheck _ rfl rfl) ?_
  refine AOps.call (o_fieldRef _ rfl fa28_1 rfl rfl) ?_
  refine AOps.cons (o_storeE _ _ rfl rfl Tryd.sizeOf3 rfl rfl (by rw [c_len]; omega) (c_swet hk) rfl) ?_
  refine AOps.nil ?_
  refine AWP.region ?_
  refine AOps.call (o_move _ rfl rfl) ?_
  refine AOps.call (o_nilCheck _ rfl rfl) ?_
  refine AOps.call (o_fieldRef _ rfl fa120_0 rfl rfl) ?_
  refine AOps.call (o_loadRef _ rfl rfl Tryd.sizeOf3 Tryd.isAgg3 rfl rfl rfl) ?_
  refine AOps.call (o_move _ rfl rfl) ?_
  refine AOps.call (o_sub _ _ rfl rfl ⟨by (try dsimp only); omega, by (try dsimp only); omega⟩ rfl) ?_
  refine AOps.call (o_nilCheck _ rfl rfl) ?_
  refine AOps.call (o_fieldRef _ rfl fa120_0 rfl rfl) ?_
  refine AOps.cons (o_store _ _ rfl rfl Tryd.sizeOf3 rfl rfl rfl rfl rfl) ?_
  refine AOps.nil ?_
  exact ⟨⟨[], trivial, rfl⟩, rfl, col_close _ _, trivial⟩

set_option maxRecDepth 20000 in
theorem frost_s (P R : List Lay) (l : Lay) (t left : Int) (k : Nat) (hk : P.length = k) (hf : flo l) (h0 : 0 ≤ left ∧ left ≤ 4000000000000000000) : FSpecM Tryd.prog 102 [.ref (1000000, 0) 0, .ref (1000001, 0) (k * 3)] [[I left], colC (P ++ l :: R) t] (.tup []) none [[I (frzF left l).1], colC (P ++ (frzF left l).2 :: R) t] := by
  refine FSpecM.of_body Tryd.func102 rfl (leB rfl) (leB rfl) rfl fun w0 M0 => ?_
  unfold flo at hf
  refine AWP.seq ?_
  refine AWP.drawn 10 mixed (by kernel_rfl) ?_
  refine AHead.call (o_move _ rfl rfl) rfl ?_
  refine AHead.call (o_nilCheck _ rfl rfl) rfl ?_
  refine AHead.call (o_fieldRef _ rfl fa123_0 rfl rfl) rfl ?_
  refine AHead.call (o_loadRef _ rfl rfl Tryd.sizeOf3 Tryd.isAgg3 rfl rfl rfl) rfl ?_
  refine AHead.call (o_move _ rfl rfl) rfl ?_
  refine AHead.call (o_nilCheck _ rfl rfl) rfl ?_
  refine AHead.call (o_fieldRef _ rfl fa28_1 rfl rfl) rfl ?_
  refine AHead.call (o_loadRefE _ rfl rfl Tryd.sizeOf3 Tryd.isAgg3 (c_wet hk) rfl) rfl ?_
  refine AHead.call (o_minZ _ _ rfl rfl rfl) rfl ?_
  refine AHead.call (o_assign _ rfl rfl) rfl ?_
  refine AHead.nil ?_
  refine AOps.nil ?_
  refine AWP.seq ?_
  refine AWP.region ?_
  refine AOps.call (o_move _ rfl rfl) ?_
  refine AOps.call (o_nilCheck _ rfl rfl) ?_
  refine AOps.call (o_fieldRef _ rfl fa28_1 rfl rfl) ?_
  refine AOps.call (o_loadRefE _ rfl rfl Tryd.sizeOf3 Tryd.isAgg3 (c_wet hk) rfl) ?_
  refine AOps.call (o_move _ rfl rfl) ?_
  refine AOps.call (o_sub _ _ rfl rfl ⟨by (try dsimp only); omega, by (try dsimp only); omega⟩ rfl) ?_
  refine AOps.call (o_nilCheck _ rfl rfl) ?_
  refine AOps.call (o_fieldRef _ rfl fa28_1 rfl rfl) ?_
  refine AOps.cons (o_storeE _ _ rfl rfl Tryd.sizeOf3 rfl rfl (by rw [c_len]; omega) (c_swet hk) rfl) ?_
  refine AOps.nil ?_
  refine AWP.seq ?_
  refine AWP.region ?_
  refine AOps.call (o_move _ rfl rfl) ?_
  refine AOps.call (o_nilCheck _ rfl rfl) ?_
  refine AOps.call (o_fieldRef _ rfl fa28_0 rfl rfl) ?_
  refine AOps.call (o_loadRefE _ rfl rfl Tryd.sizeOf3 Tryd.isAgg3 (c_ice hk) rfl) ?_
  refine AOps.call (o_move _ rfl rfl) ?_
  refine AOps.call (o_add _ _ rfl rfl ⟨by (try dsimp only); omega, by (try dsimp only); omega⟩ rfl) ?_
  refine AOps.call (o_nilCheck _ rfl rfl) ?_
  refine AOps.call (o_fieldRef _ rfl fa28_0 rfl rfl) ?_
  refine AOps.cons (o_storeE _ _ rfl rfl Tryd.sizeOf3 rfl rfl (by rw [c_len]; omega) (c_sice hk) rfl) ?_
  refine AOps.nil ?_
  refine AWP.region ?_
  refine AOps.call (o_move _ rfl rfl) ?_
  refine AOps.call (o_nilCheck _ rfl rfl) ?_
  refine AOps.call (o_fieldRef _ rfl fa123_0 rfl rfl) ?_
  refine AOps.call (o_loadRef _ rfl rfl Tryd.sizeOf3 Tryd.isAgg3 rfl rfl rfl) ?_
  refine AOps.call (o_move _ rfl rfl) ?_
  refine AOps.call (o_sub _ _ rfl rfl ⟨by (try dsimp only); omega, by (try dsimp only); omega⟩ rfl) ?_
  refine AOps.call (o_nilCheck _ rfl rfl) ?_
  refine AOps.call (o_fieldRef _ rfl fa123_0 rfl rfl) ?_
  refine AOps.cons (o_store _ _ rfl rfl Tryd.sizeOf3 rfl rfl rfl rfl rfl) ?_
  refine AOps.nil ?_
  exact ⟨⟨[], trivial, rfl⟩, rfl, col_close _ _, trivial⟩

theorem pour_cons {much : Int} {l : Lay} {r : List Lay} : pourL much (l :: r) = ((pourL (entF much l).1 r).1, (entF much l).2 :: (pourL (entF much l).1 r).2) := rfl
theorem frz_cons {much : Int} {l : Lay} {r : List Lay} : frzL much (l :: r) = ((frzL (frzF much l).1 r).1, (frzF much l).2 :: (frzL (frzF much l).1 r).2) := rfl
theorem frzF_ok {left : Int} {l : Lay} (h : flo l) (h0 : 0 ≤ left) : 0 ≤ (frzF left l).1 ∧ (frzF left l).1 ≤ left := by unfold flo frzF at *; simp only []; omega

set_option maxRecDepth 20000 in
theorem eachFlow_s (P R : List Lay) (t left n : Int) (hn : n = P.length) (hA : (P ++ R).length = 64) (hok : ∀ x ∈ R, flo x) (h0 : 0 ≤ left ∧ left ≤ 4000000000000000000) : FSpecM Tryd.prog 100 [.ref (1000000, 0) 0, I n, .bnd 101 [.ref (1000001, 0) 0]] [colC (P ++ R) t, [I left]] (.tup []) none [colC (P ++ (pourL left R).2) t, [I (pourL left R).1]] := by
  refine FSpecM.of_body Tryd.func100 rfl (leB rfl) (leB rfl) rfl fun w0 M0 => ?_
  subst hn
  refine AWP.seq ?_
  refine AWP.region ?_
  refine AOps.call (o_move _ rfl rfl) ?_
  refine AOps.call (o_assign _ rfl rfl) ?_
  refine AOps.nil ?_
  refine AWP.block ?_
  refine AWP.loop (ι := Nat × List Lay × List Lay × Int) (fun i => AS.mk' 19 [(0, .ref (1000000, 0) 0), (2, .bnd 101 [.ref (1000001, 0) 0]), (6, I i.1)] [((1000000, 0), colC (i.2.1 ++ i.2.2.1) t), ((1000001, 0), [I i.2.2.2])] [] [(1000000, 1), (1000001, 1)]) (fun i => i.2.1.length = i.1 ∧ (i.2.1 ++ i.2.2.1).length = 64 ∧ (∀ x ∈ i.2.2.1, flo x) ∧ (0 ≤ i.2.2.2 ∧ i.2.2.2 ≤ left) ∧ (P ++ (pourL left R).2, (pourL left R).1) = (i.2.1 ++ (pourL i.2.2.2 i.2.2.1).2, (pourL i.2.2.2 i.2.2.1).1)) (fun i => 64 - i.1) (P.length, P, R, left) (Weak.mk' rfl ⟨⟨.refl rfl, rfl⟩, ⟨⟨.refl rfl, rfl⟩, ⟨⟨.refl rfl, rfl⟩, trivial⟩⟩⟩ ⟨⟨rfl, lowL_sc _ _ (col_scs _ _), rfl⟩, ⟨⟨rfl, rfl, rfl⟩, trivial⟩⟩ trivial) (⟨rfl, hA, hok, ⟨h0.1, Int.le_refl _⟩, rfl⟩) ?_
  rintro ⟨k, P2, R2, left2⟩ ⟨hk, hl, hok2, hb, heq⟩
  try dsimp only at *
  refine AWP.seq ?_
  refine AWP.seq ?_
  refine AWP.region ?_
  refine AOps.call (o_move _ rfl rfl) ?_
  refine AOps.call (o_bin _ _ rfl rfl (fun _ => rfl) rfl) ?_
  refine AOps.nil ?_
  refine AWP.cond _ rfl (fun h3 => ?_) (fun h3 => ?_)
  · skip
    have hk64 : k < 64 := by have hq := of_decide_eq_true h3; omega
    obtain ⟨l2, R3, rfl⟩ : ∃ l2 R3, R2 = l2 :: R3 := by
      cases R2 with
      | nil => simp at hl; omega
      | cons a b => exact ⟨a, b, rfl⟩
    have hb2 := entF_ok (hok2 l2 (by simp)) hb.1
    refine AWP.skip ?_
    refine AWP.seq ?_
    refine AWP.block ?_
    refine AWP.region ?_
    refine AOps.call (o_move _ rfl rfl) ?_
    refine AOps.call (o_move _ rfl rfl) ?_
    refine AOps.call (o_move _ rfl rfl) ?_
    refine AOps.call (o_nilCheck _ rfl rfl) ?_
    refine AOps.call (o_fieldRef _ rfl fa102_0 rfl rfl) ?_
    refine AOps.call (o_indexRef (o' := k * 3) _ _ Tryd.underlying100 Tryd.sizeOf28 rfl rfl (by omega) (by omega) (by omega) rfl) ?_
    refine AOps.cons (o_callMB _ rfl [(1000001, 0), (1000000, 0)] (flow_s P2 R3 l2 t left2 k hk (hok2 l2 (by simp)) ⟨hb.1, by omega⟩) Tryd.call101 rfl rfl (lentOf2 rfl (col_close _ _)) rfl rfl rfl) ?_
    refine AOps.nil ?_
    refine AWP.region ?_
    refine AOps.call (o_move _ rfl rfl) ?_
    refine AOps.call (o_add _ _ rfl rfl ⟨by (try dsimp only); omega, by (try dsimp only); omega⟩ rfl) ?_
    refine AOps.call (o_assign _ rfl rfl) ?_
    refine AOps.nil ?_
    refine ⟨(k + 1, P2 ++ [(entF left2 l2).2], R3, (entF left2 l2).1), ?_, (Weak.mk' rfl ⟨⟨.refl rfl, rfl⟩, ⟨⟨.refl rfl, rfl⟩, ⟨⟨.refl rfl, rfl⟩, trivial⟩⟩⟩ ⟨⟨(by rw [List.append_assoc]; rfl), lowL_sc _ _ (col_scs _ _), rfl⟩, ⟨⟨rfl, rfl, rfl⟩, trivial⟩⟩ trivial)⟩
    exact ⟨⟨by simp [hk], by simpa using hl, fun x hx => hok2 x (by simp [hx]), ⟨hb2.1, by simp only []; omega⟩, by rw [heq]; simp [pour_cons]⟩, by simp only []; omega⟩
  · skip
    obtain rfl : R2 = [] := by
      cases R2 with
      | nil => rfl
      | cons a b => exfalso; have hq := of_decide_eq_false h3; simp at hl; omega
    obtain ⟨hP, hL⟩ := Prod.mk.inj heq
    refine AWP.exit ?_
    exact ⟨⟨[], trivial, rfl⟩, by rw [hP]; exact col_close _ _, by rw [hL]; rfl, trivial⟩

set_option maxRecDepth 20000 in
theorem eachFrost_s (P R : List Lay) (t left n : Int) (hn : n = P.length) (hA : (P ++ R).length = 64) (hok : ∀ x ∈ R, flo x) (h0 : 0 ≤ left ∧ left ≤ 4000000000000000000) : FSpecM Tryd.prog 100 [.ref (1000000, 0) 0, I n, .bnd 102 [.ref (1000001, 0) 0]] [colC (P ++ R) t, [I left]] (.tup []) none [colC (P ++ (frzL left R).2) t, [I (frzL left R).1]] := by
  refine FSpecM.of_body Tryd.func100 rfl (leB rfl) (leB rfl) rfl fun w0 M0 => ?_
  subst hn
  refine AWP.seq ?_
  refine AWP.region ?_
  refine AOps.call (o_move _ rfl rfl) ?_
  refine AOps.call (o_assign _ rfl rfl) ?_
  refine AOps.nil ?_
  refine AWP.block ?_
  refine AWP.loop (ι := Nat × List Lay × List Lay × Int) (fun i => AS.mk' 19 [(0, .ref (1000000, 0) 0), (2, .bnd 102 [.ref (1000001, 0) 0]), (6, I i.1)] [((1000000, 0), colC (i.2.1 ++ i.2.2.1) t), ((1000001, 0), [I i.2.2.2])] [] [(1000000, 1), (1000001, 1)]) (fun i => i.2.1.length = i.1 ∧ (i.2.1 ++ i.2.2.1).length = 64 ∧ (∀ x ∈ i.2.2.1, flo x) ∧ (0 ≤ i.2.2.2 ∧ i.2.2.2 ≤ left) ∧ (P ++ (frzL left R).2, (frzL left R).1) = (i.2.1 ++ (frzL i.2.2.2 i.2.2.1).2, (frzL i.2.2.2 i.2.2.1).1)) (fun i => 64 - i.1) (P.length, P, R, left) (Weak.mk' rfl ⟨⟨.refl rfl, rfl⟩, ⟨⟨.refl rfl, rfl⟩, ⟨⟨.refl rfl, rfl⟩, trivial⟩⟩⟩ ⟨⟨rfl, lowL_sc _ _ (col_scs _ _), rfl⟩, ⟨⟨rfl, rfl, rfl⟩, trivial⟩⟩ trivial) (⟨rfl, hA, hok, ⟨h0.1, Int.le_refl _⟩, rfl⟩) ?_
  rintro ⟨k, P2, R2, left2⟩ ⟨hk, hl, hok2, hb, heq⟩
  try dsimp only at *
  refine AWP.seq ?_
  refine AWP.seq ?_
  refine AWP.region ?_
  refine AOps.call (o_move _ rfl rfl) ?_
  refine AOps.call (o_bin _ _ rfl rfl (fun _ => rfl) rfl) ?_
  refine AOps.nil ?_
  refine AWP.cond _ rfl (fun h3 => ?_) (fun h3 => ?_)
  · skip
    have hk64 : k < 64 := by have hq := of_decide_eq_true h3; omega
    obtain ⟨l2, R3, rfl⟩ : ∃ l2 R3, R2 = l2 :: R3 := by
      cases R2 with
      | nil => simp at hl; omega
      | cons a b => exact ⟨a, b, rfl⟩
    have hb2 := frzF_ok (hok2 l2 (by simp)) hb.1
    refine AWP.skip ?_
    refine AWP.seq ?_
    refine AWP.block ?_
    refine AWP.region ?_
    refine AOps.call (o_move _ rfl rfl) ?_
    refine AOps.call (o_move _ rfl rfl) ?_
    refine AOps.call (o_move _ rfl rfl) ?_
    refine AOps.call (o_nilCheck _ rfl rfl) ?_
    refine AOps.call (o_fieldRef _ rfl fa102_0 rfl rfl) ?_
    refine AOps.call (o_indexRef (o' := k * 3) _ _ Tryd.underlying100 Tryd.sizeOf28 rfl rfl (by omega) (by omega) (by omega) rfl) ?_
    refine AOps.cons (o_callMB _ rfl [(1000001, 0), (1000000, 0)] (frost_s P2 R3 l2 t left2 k hk (hok2 l2 (by simp)) ⟨hb.1, by omega⟩) Tryd.call102 rfl rfl (lentOf2 rfl (col_close _ _)) rfl rfl rfl) ?_
    refine AOps.nil ?_
    refine AWP.region ?_
    refine AOps.call (o_move _ rfl rfl) ?_
    refine AOps.call (o_add _ _ rfl rfl ⟨by (try dsimp only); omega, by (try dsimp only); omega⟩ rfl) ?_
    refine AOps.call (o_assign _ rfl rfl) ?_
    refine AOps.nil ?_
    refine ⟨(k + 1, P2 ++ [(frzF left2 l2).2], R3, (frzF left2 l2).1), ?_, (Weak.mk' rfl ⟨⟨.refl rfl, rfl⟩, ⟨⟨.refl rfl, rfl⟩, ⟨⟨.refl rfl, rfl⟩, trivial⟩⟩⟩ ⟨⟨(by rw [List.append_assoc]; rfl), lowL_sc _ _ (col_scs _ _), rfl⟩, ⟨⟨rfl, rfl, rfl⟩, trivial⟩⟩ trivial)⟩
    exact ⟨⟨by simp [hk], by simpa using hl, fun x hx => hok2 x (by simp [hx]), ⟨hb2.1, by simp only []; omega⟩, by rw [heq]; simp [frz_cons]⟩, by simp only []; omega⟩
  · skip
    obtain rfl : R2 = [] := by
      cases R2 with
      | nil => rfl
      | cons a b => exfalso; have hq := of_decide_eq_false h3; simp at hl; omega
    obtain ⟨hP, hL⟩ := Prod.mk.inj heq
    refine AWP.exit ?_
    exact ⟨⟨[], trivial, rfl⟩, by rw [hP]; exact col_close _ _, by rw [hL]; rfl, trivial⟩

set_option maxRecDepth 20000 in
theorem pour_s (P R : List Lay) (t much n : Int) (hn : n = P.length) (hA : (P ++ R).length = 64) (hok : ∀ x ∈ R, flo x) (h0 : 0 ≤ much ∧ much ≤ 4000000000000000000) : FSpecM Tryd.prog 90 [.ref (1000000, 0) 0, I n, I much] [colC (P ++ R) t] (I (pourL much R).1) none [colC (P ++ (pourL much R).2) t] := by
  refine FSpecM.of_body Tryd.func90 rfl (leB rfl) (leB rfl) rfl fun w0 M0 => ?_
  refine AWP.seq ?_
  refine AWP.region ?_
  refine AOps.call (o_assign _ rfl rfl) ?_
  refine AOps.nil ?_
  refine AWP.seq ?_
  refine AWP.region ?_
  refine AOps.call (o_move _ rfl rfl) ?_
  refine AOps.call (o_build bu120 rfl rfl rfl) ?_
  refine AOps.call (o_alloc ze120 rfl rfl) ?_
  refine AOps.cons (o_store _ _ rfl rfl Tryd.sizeOf120 rfl rfl rfl rfl rfl) ?_
  refine AOps.nil ?_
  refine AWP.seq ?_
  refine AWP.region ?_
  refine AOps.call (o_move _ rfl rfl) ?_
  refine AOps.call (o_move _ rfl rfl) ?_
  refine AOps.call (o_makeBnd rfl rfl) ?_
  refine AOps.cons (o_callMC [(1000000, 0), (7, 0)] (eachFlow_s P R t much n hn hA hok h0) Tryd.call100 rfl rfl (lentOf2 (col_close _ _) rfl) rfl rfl rfl) ?_
  refine AOps.nil ?_
  refine AWP.seq ?_
  refine AWP.region ?_
  refine AOps.call (o_fieldRef _ rfl fa120_0 rfl rfl) ?_
  refine AOps.call (o_loadRef _ rfl rfl Tryd.sizeOf3 Tryd.isAgg3 rfl rfl rfl) ?_
  refine AOps.call (o_assign _ rfl rfl) ?_
  refine AOps.nil ?_
  refine AWP.ret ?_
  exact ⟨⟨[I _], ⟨rfl, trivial⟩, rfl⟩, col_close _ _, trivial⟩

set_option maxRecDepth 20000 in
theorem empty_s (A : List Lay) (t : Int) (hA : A.length = 64) : FSpecM Tryd.prog 94 [.ref (1000000, 0) 0] [colC A t] (B (decide (t = 64))) none [colC A t] := by
  refine FSpecM.of_body Tryd.func94 rfl (leB rfl) (leB rfl) rfl fun w0 M0 => ?_
  refine AWP.seq ?_
  refine AWP.region ?_
  refine AOps.call (o_assign _ rfl rfl) ?_
  refine AOps.nil ?_
  refine AWP.seq ?_
  refine AWP.region ?_
  refine AOps.call (o_move _ rfl rfl) ?_
  refine AOps.call (o_nilCheck _ rfl rfl) ?_
  refine AOps.call (o_fieldRef _ rfl fa102_1 rfl rfl) ?_
  refine AOps.call (o_loadRefE _ rfl rfl Tryd.sizeOf3 Tryd.isAgg3 (col_top hA) rfl) ?_
  refine AOps.call (o_bin _ _ rfl rfl (fun _ => rfl) rfl) ?_
  refine AOps.call (o_assign _ rfl rfl) ?_
  refine AOps.nil ?_
  refine AWP.ret ?_
  exact ⟨⟨[B _], ⟨rfl, trivial⟩, rfl⟩, col_close _ _, trivial⟩

set_option maxRecDepth 20000 in
theorem lose_s (pre r : List Lay) (l : Lay) (ice wet : Int) (hA : (pre ++ l :: r).length = 64) (hok : colOk (l :: r)) (hi : 0 ≤ ice ∧ ice ≤ l.ice) (hw : 0 ≤ wet ∧ wet ≤ 4000000000000) : FSpecM Tryd.prog 95 [.ref (1000000, 0) 0, I ice, I wet] [colC (pre ++ l :: r) pre.length] (I (losK pre l r ice wet).2.2) none [colC ((losK pre l r ice wet).1 ++ (losK pre l r ice wet).2.1) (losK pre l r ice wet).1.length] := by
  refine FSpecM.of_body Tryd.func95 rfl (leB rfl) (leB rfl) rfl fun w0 M0 => ?_
  have hl64 : pre.length + (r.length + 1) = 64 := by simpa using hA
  have hf := (hok l (by simp)).1
  unfold flo at hf
  have hokr : ∀ x ∈ r, flo x := fun x hx => (hok x (by simp [hx])).1
  have hA2 : ∀ (x : Lay), (pre ++ x :: r).length = 64 := fun x => by simp; omega
  have hh : 0 ≤ l.ice - ice ∧ l.ice - ice ≤ 9223372036854775807 := by omega
  have hlo : 0 ≤ losO ice wet l ∧ losO ice wet l ≤ 4000000000000000000 := by unfold losO; omega
  have hlo2 := hlo
  unfold losO at hlo2
  have hPour : ∀ (t n : Int) (hn : n = (pre ++ [losF ice wet l]).length), FSpecM Tryd.prog 90 [.ref (1000000, 0) 0, I n, I (losO ice wet l)] [colC ((pre ++ [losF ice wet l]) ++ r) t] (I (pourL (losO ice wet l) r).1) none [colC ((pre ++ [losF ice wet l]) ++ (pourL (losO ice wet l) r).2) t] := fun t n hn =>
    pour_s _ r t _ n hn (by simp; omega) hokr hlo
  refine AWP.seq ?_
  refine AWP.region ?_
  refine AOps.call (o_assign _ rfl rfl) ?_
  refine AOps.nil ?_
  refine AWP.seq ?_
  refine AWP.drawn 9 mixed (by kernel_rfl) ?_
  refine AHead.call (o_move _ rfl rfl) rfl ?_
  refine AHead.call (o_move _ rfl rfl) rfl ?_
  refine AHead.call (o_nilCheck _ rfl rfl) rfl ?_
  refine AHead.call (o_fieldRef _ rfl fa102_1 rfl rfl) rfl ?_
  refine AHead.call (o_loadRefE _ rfl rfl Tryd.sizeOf3 Tryd.isAgg3 (col_top (hA2 _)) rfl) rfl ?_
  refine AHead.call (o_nilCheck _ rfl rfl) rfl ?_
  refine AHead.call (o_fieldRef _ rfl fa102_0 rfl rfl) rfl ?_
  refine AHead.call (o_indexRef (o' := pre.length * 3) _ _ Tryd.underlying100 Tryd.sizeOf28 rfl rfl (by omega) (by omega) (by omega) rfl) rfl ?_
  refine AHead.call (o_assign _ rfl rfl) rfl ?_
  refine AHead.nil ?_
  refine AOps.nil ?_
  refine AWP.seq ?_
  refine AWP.region ?_
  refine AOps.call (o_move _ rfl rfl) ?_
  refine AOps.call (o_nilCheck _ rfl rfl) ?_
  refine AOps.call (o_fieldRef _ rfl fa28_0 rfl rfl) ?_
  refine AOps.call (o_loadRefE _ rfl rfl Tryd.sizeOf3 Tryd.isAgg3 (c_ice rfl) rfl) ?_
  refine AOps.call (o_move _ rfl rfl) ?_
  refine AOps.call (o_sub _ _ rfl rfl ⟨by (try dsimp only); omega, by (try dsimp only); omega⟩ rfl) ?_
  refine AOps.call (o_nilCheck _ rfl rfl) ?_
  refine AOps.call (o_fieldRef _ rfl fa28_0 rfl rfl) ?_
  refine AOps.cons (o_storeE _ _ rfl rfl Tryd.sizeOf3 rfl rfl (by rw [c_len]; omega) (c_sice rfl) rfl) ?_
  refine AOps.nil ?_
  refine AWP.seq ?_
  refine AWP.region ?_
  refine AOps.call (o_move _ rfl rfl) ?_
  refine AOps.call (o_nilCheck _ rfl rfl) ?_
  refine AOps.call (o_fieldRef _ rfl fa28_1 rfl rfl) ?_
  refine AOps.call (o_loadRefE _ rfl rfl Tryd.sizeOf3 Tryd.isAgg3 (c_wet rfl) rfl) ?_
  refine AOps.call (o_move _ rfl rfl) ?_
  refine AOps.call (o_add _ _ rfl rfl ⟨by (try dsimp only); omega, by (try dsimp only); omega⟩ rfl) ?_
  refine AOps.call (o_nilCheck _ rfl rfl) ?_
  refine AOps.call (o_fieldRef _ rfl fa28_1 rfl rfl) ?_
  refine AOps.cons (o_storeE _ _ rfl rfl Tryd.sizeOf3 rfl rfl (by rw [c_len]; omega) (c_swet rfl) rfl) ?_
  refine AOps.nil ?_
  refine AWP.seq ?_
  refine AWP.drawn 12 mixed (by kernel_rfl) ?_
  refine AHead.call (o_move _ rfl rfl) rfl ?_
  refine AHead.call (o_nilCheck _ rfl rfl) rfl ?_
  refine AHead.call (o_fieldRef _ rfl fa28_1 rfl rfl) rfl ?_
  refine AHead.call (o_loadRefE _ rfl rfl Tryd.sizeOf3 Tryd.isAgg3 (c_wet rfl) rfl) rfl ?_
  refine AHead.call (o_move _ rfl rfl) rfl ?_
  refine AHead.call (o_nilCheck _ rfl rfl) rfl ?_
  refine AHead.call (o_fieldRef _ rfl fa28_0 rfl rfl) rfl ?_
  refine AHead.call (o_loadRefE _ rfl rfl Tryd.sizeOf3 Tryd.isAgg3 (c_ice rfl) rfl) rfl ?_
  refine AHead.call (o_call (hold_s _ hh) Tryd.call60 rfl rfl) rfl ?_
  refine AHead.call (o_sub _ _ rfl rfl ⟨by (try dsimp only); omega, by (try dsimp only); omega⟩ rfl) rfl ?_
  refine AHead.call (o_maxZ _ _ rfl rfl rfl) rfl ?_
  refine AHead.call (o_assign _ rfl rfl) rfl ?_
  refine AHead.nil ?_
  refine AOps.nil ?_
  refine AWP.seq ?_
  refine AWP.region ?_
  refine AOps.call (o_move _ rfl rfl) ?_
  refine AOps.call (o_nilCheck _ rfl rfl) ?_
  refine AOps.call (o_fieldRef _ rfl fa28_1 rfl rfl) ?_
  refine AOps.call (o_loadRefE _ rfl rfl Tryd.sizeOf3 Tryd.isAgg3 (c_wet rfl) rfl) ?_
  refine AOps.call (o_move _ rfl rfl) ?_
  refine AOps.call (o_sub _ _ rfl rfl ⟨by (try dsimp only); omega, by (try dsimp only); omega⟩ rfl) ?_
  refine AOps.call (o_nilCheck _ rfl rfl) ?_
  refine AOps.call (o_fieldRef _ rfl fa28_1 rfl rfl) ?_
  refine AOps.cons (o_storeE _ _ rfl rfl Tryd.sizeOf3 rfl rfl (by rw [c_len]; omega) (c_swet rfl) rfl) ?_
  refine AOps.nil ?_
  refine AWP.seq ?_
  refine AWP.region ?_
  refine AOps.call (o_move _ rfl rfl) ?_
  refine AOps.call (o_nilCheck _ rfl rfl) ?_
  refine AOps.call (o_fieldRef _ rfl fa102_1 rfl rfl) ?_
  refine AOps.call (o_loadRefE _ rfl rfl Tryd.sizeOf3 Tryd.isAgg3 (col_top (hA2 _)) rfl) ?_
  refine AOps.call (o_add _ _ rfl rfl ⟨by (try dsimp only); omega, by (try dsimp only); omega⟩ rfl) ?_
  refine AOps.call (o_assign _ rfl rfl) ?_
  refine AOps.nil ?_
  refine AWP.seq ?_
  refine AWP.seq ?_
  refine AWP.region ?_
  refine AOps.call (o_move _ rfl rfl) ?_
  refine AOps.call (o_nilCheck _ rfl rfl) ?_
  refine AOps.call (o_fieldRef _ rfl fa28_0 rfl rfl) ?_
  refine AOps.call (o_loadRefE _ rfl rfl Tryd.sizeOf3 Tryd.isAgg3 (c_ice rfl) rfl) ?_
  refine AOps.call (o_bin _ _ rfl rfl (fun _ => rfl) rfl) ?_
  refine AOps.nil ?_
  refine AWP.cond _ rfl (fun h48 => ?_) (fun h48 => ?_)
  · skip
    have hz : l.ice - ice = 0 := by simpa using h48
    have hL : losK pre l r ice wet = (pre ++ [losF ice wet l], (pourL (losO ice wet l) r).2, (pourL (losO ice wet l) r).1) := if_pos hz
    have hLc : colC ((losK pre l r ice wet).1 ++ (losK pre l r ice wet).2.1) ((losK pre l r ice wet).1.length : Int) = colC ((pre ++ [losF ice wet l]) ++ (pourL (losO ice wet l) r).2) (pre.length + 1) := by rw [hL]; simp
    refine AWP.region ?_
    refine AOps.call (o_move _ rfl rfl) ?_
    refine AOps.call (o_move _ rfl rfl) ?_
    refine AOps.call (o_nilCheck _ rfl rfl) ?_
    refine AOps.call (o_fieldRef _ rfl fa102_1 rfl rfl) ?_
    refine AOps.cons (o_storeE _ _ rfl rfl Tryd.sizeOf3 rfl rfl (by rw [c_len]; omega) (col_setTop (hA2 _)) rfl) ?_
    refine AOps.nil ?_
    refine AWP.seq ?_
    refine AWP.region ?_
    refine AOps.call (o_move _ rfl rfl) ?_
    refine AOps.call (o_move _ rfl rfl) ?_
    refine AOps.call (o_move _ rfl rfl) ?_
    refine AOps.cons (o_callMC [(1000000, 0)] (hPour _ (pre.length + 1) (by simp)) Tryd.call90 rfl rfl (lentOf1 (by rw [List.append_assoc]; exact col_close _ _)) rfl rfl rfl) ?_
    refine AOps.call (o_assign _ rfl rfl) ?_
    refine AOps.nil ?_
    refine AWP.ret ?_
    exact ⟨⟨[I _], ⟨rfl, trivial⟩, by rw [hL]; rfl⟩, (by rw [hLc]; exact col_close _ _), trivial⟩
  · skip
    have hz : ¬ l.ice - ice = 0 := by simpa using h48
    have hL : losK pre l r ice wet = (pre, losF ice wet l :: (pourL (losO ice wet l) r).2, (pourL (losO ice wet l) r).1) := if_neg hz
    have hLc : colC ((losK pre l r ice wet).1 ++ (losK pre l r ice wet).2.1) ((losK pre l r ice wet).1.length : Int) = colC ((pre ++ [losF ice wet l]) ++ (pourL (losO ice wet l) r).2) pre.length := by rw [hL]; simp
    refine AWP.skip ?_
    refine AWP.seq ?_
    refine AWP.region ?_
    refine AOps.call (o_move _ rfl rfl) ?_
    refine AOps.call (o_move _ rfl rfl) ?_
    refine AOps.call (o_move _ rfl rfl) ?_
    refine AOps.cons (o_callMC [(1000000, 0)] (hPour _ (pre.length + 1) (by simp)) Tryd.call90 rfl rfl (lentOf1 (by rw [List.append_assoc]; exact col_close _ _)) rfl rfl rfl) ?_
    refine AOps.call (o_assign _ rfl rfl) ?_
    refine AOps.nil ?_
    refine AWP.ret ?_
    exact ⟨⟨[I _], ⟨rfl, trivial⟩, by rw [hL]; rfl⟩, (by rw [hLc]; exact col_close _ _), trivial⟩

end Go.Proofs.YtgagfmjpmdgfdaaDoor
