import Derived.Test.YtgagfmjpmdgfdaaDoorQ11
import Derived.Test.YtgagfmjpmdgfdaaDoorP7
set_option linter.unusedSimpArgs false
set_option linter.unusedVariables false
namespace Go.Proofs.YtgagfmjpmdgfdaaDoor
open Go.Ab

theorem row_iceD {L J : List Lay} {i : Nat} (h : i < L.length) : partA false 1 ((rowC (L ++ J)).drop (i * 3 + 0)) = some (I (L.getD i zLay).ice) := by
  rw [row_ice (A := L ++ J) (i := i) (by simp; omega) rfl, List.getElem_append_left h]; simp [h]
theorem row_lays (A : List Lay) : ∀ x ∈ rowC A, ∃ v, x = .sc v := lays_scs A
theorem row_app (A B : List Lay) : rowC (A ++ B) = rowC A ++ rowC B := lays_app A B
theorem del_move {P R J : List Lay} {a : Lay} {o1 o2 n : Nat} (h1 : o1 = P.length * 3) (h2 : o2 = (P.length + 1) * 3) (hn : n = R.length * 3) : ∃ x : Lay, splice (rowC (P ++ a :: R ++ J)) (((rowC (P ++ a :: R ++ J)).drop o2).take n) o1 = rowC (P ++ R ++ x :: J) := by
  subst h1 h2 hn
  have e : P ++ a :: R ++ J = (P ++ [a]) ++ (R ++ J) := by simp
  have hd : ((rowC (P ++ a :: R ++ J)).drop ((P.length + 1) * 3)).take (R.length * 3) = rowC R := by
    rw [e, row_app, List.drop_left' (by rw [row_len]; simp), row_app, List.take_left' (row_len R)]
  rw [hd]
  obtain ⟨M, x, hM⟩ : ∃ M x, a :: R = M ++ [x] := ⟨(a :: R).dropLast, (a :: R).getLast (by simp), (List.dropLast_concat_getLast _).symm⟩
  have hMl : M.length = R.length := by have := congrArg List.length hM; simp at this; omega
  refine ⟨x, ?_⟩
  have e2 : P ++ a :: R ++ J = P ++ M ++ (x :: J) := by rw [show P ++ a :: R = P ++ (a :: R) from rfl, hM]; simp
  rw [e2, row_app, row_app, ← row_len P, splice_mid (by rw [row_len, row_len, hMl]), ← row_app, ← row_app]
theorem del_clear {P J : List Lay} {x : Lay} {o : Nat} (ho : o = P.length * 3) : splice (rowC (P ++ x :: J)) (List.replicate 1 ([Value.int .i64 0, .int .i64 0, .int .i64 0].map AV.sc)).flatten o = rowC (P ++ zLay :: J) := by
  subst ho; exact row_set (l := x) (m := zLay) rfl

set_option maxRecDepth 20000 in
theorem join_s (a b : Lay) (ha : (0 ≤ a.ice ∧ a.ice ≤ 65536) ∧ (0 ≤ a.wet ∧ a.wet ≤ 65536) ∧ (0 ≤ a.cold ∧ a.cold ≤ 65536)) (hb : (0 ≤ b.ice ∧ b.ice ≤ 65536) ∧ (0 ≤ b.wet ∧ b.wet ≤ 65536) ∧ (0 ≤ b.cold ∧ b.cold ≤ 65536)) : FSpec Tryd.prog 83 [.agg (eL a), .agg (eL b)] (.agg (eL (joinF a b))) (none) := by
  refine FSpec.of_body Tryd.func83 rfl (leB rfl) fun w0 M0 => ?_
  refine AWP.seq ?_
  refine AWP.region ?_
  refine AOps.call (o_box _ rfl rfl rfl) ?_
  refine AOps.call (o_box _ rfl rfl rfl) ?_
  refine AOps.call (o_alloc ze28 rfl rfl) ?_
  refine AOps.nil ?_
  refine AWP.seq ?_
  refine AWP.region ?_
  refine AOps.call (o_fieldRef _ rfl fa28_0 rfl rfl) ?_
  refine AOps.call (o_loadRef _ rfl rfl Tryd.sizeOf3 Tryd.isAgg3 rfl rfl rfl) ?_
  refine AOps.call (o_fieldRef _ rfl fa28_0 rfl rfl) ?_
  refine AOps.call (o_loadRef _ rfl rfl Tryd.sizeOf3 Tryd.isAgg3 rfl rfl rfl) ?_
  refine AOps.call (o_add _ _ rfl rfl ⟨by (try dsimp only); omega, by (try dsimp only); omega⟩ rfl) ?_
  refine AOps.call (o_fieldRef _ rfl fa28_1 rfl rfl) ?_
  refine AOps.call (o_loadRef _ rfl rfl Tryd.sizeOf3 Tryd.isAgg3 rfl rfl rfl) ?_
  refine AOps.call (o_fieldRef _ rfl fa28_1 rfl rfl) ?_
  refine AOps.call (o_loadRef _ rfl rfl Tryd.sizeOf3 Tryd.isAgg3 rfl rfl rfl) ?_
  refine AOps.call (o_add _ _ rfl rfl ⟨by (try dsimp only); omega, by (try dsimp only); omega⟩ rfl) ?_
  refine AOps.call (o_fieldRef _ rfl fa28_2 rfl rfl) ?_
  refine AOps.call (o_loadRef _ rfl rfl Tryd.sizeOf3 Tryd.isAgg3 rfl rfl rfl) ?_
  refine AOps.call (o_fieldRef _ rfl fa28_2 rfl rfl) ?_
  refine AOps.call (o_loadRef _ rfl rfl Tryd.sizeOf3 Tryd.isAgg3 rfl rfl rfl) ?_
  refine AOps.call (o_add _ _ rfl rfl ⟨by (try dsimp only); omega, by (try dsimp only); omega⟩ rfl) ?_
  refine AOps.call (o_build bu28 rfl rfl rfl) ?_
  refine AOps.call (o_alloc ze28 rfl rfl) ?_
  refine AOps.cons (o_store _ _ rfl rfl Tryd.sizeOf28 rfl rfl rfl rfl rfl) ?_
  refine AOps.nil ?_
  refine AWP.seq ?_
  refine AWP.region ?_
  refine AOps.call (o_fieldRef _ rfl fa28_1 rfl rfl) ?_
  refine AOps.call (o_loadRef _ rfl rfl Tryd.sizeOf3 Tryd.isAgg3 rfl rfl rfl) ?_
  refine AOps.call (o_fieldRef _ rfl fa28_2 rfl rfl) ?_
  refine AOps.call (o_loadRef _ rfl rfl Tryd.sizeOf3 Tryd.isAgg3 rfl rfl rfl) ?_
  refine AOps.call (o_minZ _ _ rfl rfl rfl) ?_
  refine AOps.call (o_assign _ rfl rfl) ?_
  refine AOps.nil ?_
  refine AWP.seq ?_
  refine AWP.region ?_
  refine AOps.call (o_fieldRef _ rfl fa28_1 rfl rfl) ?_
  refine AOps.call (o_loadRef _ rfl rfl Tryd.sizeOf3 Tryd.isAgg3 rfl rfl rfl) ?_
  refine AOps.call (o_move _ rfl rfl) ?_
  refine AOps.call (o_sub _ _ rfl rfl ⟨by (try dsimp only); omega, by (try dsimp only); omega⟩ rfl) ?_
  refine AOps.call (o_fieldRef _ rfl fa28_1 rfl rfl) ?_
  refine AOps.cons (o_store _ _ rfl rfl Tryd.sizeOf3 rfl rfl rfl rfl rfl) ?_
  refine AOps.nil ?_
  refine AWP.seq ?_
  refine AWP.region ?_
  refine AOps.call (o_fieldRef _ rfl fa28_2 rfl rfl) ?_
  refine AOps.call (o_loadRef _ rfl rfl Tryd.sizeOf3 Tryd.isAgg3 rfl rfl rfl) ?_
  refine AOps.call (o_move _ rfl rfl) ?_
  refine AOps.call (o_sub _ _ rfl rfl ⟨by (try dsimp only); omega, by (try dsimp only); omega⟩ rfl) ?_
  refine AOps.call (o_fieldRef _ rfl fa28_2 rfl rfl) ?_
  refine AOps.cons (o_store _ _ rfl rfl Tryd.sizeOf3 rfl rfl rfl rfl rfl) ?_
  refine AOps.nil ?_
  refine AWP.seq ?_
  refine AWP.region ?_
  refine AOps.call (o_fieldRef _ rfl fa28_0 rfl rfl) ?_
  refine AOps.call (o_loadRef _ rfl rfl Tryd.sizeOf3 Tryd.isAgg3 rfl rfl rfl) ?_
  refine AOps.call (o_move _ rfl rfl) ?_
  refine AOps.call (o_add _ _ rfl rfl ⟨by (try dsimp only); omega, by (try dsimp only); omega⟩ rfl) ?_
  refine AOps.call (o_fieldRef _ rfl fa28_0 rfl rfl) ?_
  refine AOps.cons (o_store _ _ rfl rfl Tryd.sizeOf3 rfl rfl rfl rfl rfl) ?_
  refine AOps.nil ?_
  refine AWP.seq ?_
  refine AWP.region ?_
  refine AOps.call (o_loadRef _ rfl rfl Tryd.sizeOf28 Tryd.isAgg28 rfl rfl rfl) ?_
  refine AOps.cons (o_store _ _ rfl rfl Tryd.sizeOf28 rfl rfl rfl rfl rfl) ?_
  refine AOps.nil ?_
  refine AWP.ret ?_
  exact postQ.retC Tryd.results83 rfl rfl Tryd.sizeOf28 Tryd.isAgg28 rfl rfl

set_option maxRecDepth 20000 in
theorem thinnest_s (L J : List Lay) (c : Nat) (h2 : 2 ≤ L.length) (hok : joinOk L) (hl : L.length ≤ 64) : FSpecM Tryd.prog 82 [.arr (1000000, 0) 0 L.length c] [rowC (L ++ J)] (I (thin L : Nat)) none [rowC (L ++ J)] := by
  refine FSpecM.of_body Tryd.func82 rfl (leB rfl) (leB rfl) rfl fun w0 M0 => ?_
  have hbd := joinOk_bd hok
  refine AWP.seq ?_
  refine AWP.region ?_
  refine AOps.call (o_assign _ rfl rfl) ?_
  refine AOps.nil ?_
  refine AWP.seq ?_
  refine AWP.region ?_
  refine AOps.call (o_assign _ rfl rfl) ?_
  refine AOps.nil ?_
  refine AWP.seq ?_
  refine AWP.seq ?_
  refine AWP.region ?_
  refine AOps.call (o_move _ rfl rfl) ?_
  refine AOps.call (o_lenArr _ Tryd.underlying22 rfl rfl) ?_
  refine AOps.call (o_sub _ _ rfl rfl ⟨by (try dsimp only); omega, by (try dsimp only); omega⟩ rfl) ?_
  refine AOps.call (o_move _ rfl rfl) ?_
  refine AOps.nil ?_
  refine AWP.block ?_
  refine AWP.loop (ι := Nat) (fun i => AS.mk' 39 [(0, .arr (1000000, 0) 0 L.length c), (3, I (thA L i : Nat)), (7, I ((L.length : Int) - 1)), (8, I i)] [((1000000, 0), rowC (L ++ J))] [] [(1000000, 1)]) (fun i => i ≤ L.length - 1) (fun i => L.length - 1 - i) (0) (Weak.mk' rfl ⟨⟨.refl rfl, rfl⟩, ⟨⟨.refl rfl, rfl⟩, ⟨⟨.refl rfl, rfl⟩, ⟨⟨.refl rfl, rfl⟩, trivial⟩⟩⟩⟩ ⟨⟨rfl, lowL_sc _ _ (row_lays _), rfl⟩, trivial⟩ trivial) (Nat.zero_le _) ?_
  rintro k hk
  try dsimp only at *
  refine AWP.seq ?_
  refine AWP.region ?_
  refine AOps.call (o_bin _ _ rfl rfl (fun _ => rfl) rfl) ?_
  refine AOps.nil ?_
  refine AWP.seq ?_
  refine AWP.cond _ rfl (fun h8 => ?_) (fun h8 => ?_)
  · skip
    have hlt : k < L.length - 1 := by have hq := of_decide_eq_true h8; omega
    have ht := thA_le L k
    have hk1 : k < L.length := by omega
    have hk2 : k + 1 < L.length := by omega
    have hk3 : thA L k < L.length := by omega
    have hk4 : thA L k + 1 < L.length := by omega
    have hg : ∀ (j : Nat) (h : j < L.length), 0 ≤ (L.getD j zLay).ice ∧ (L.getD j zLay).ice ≤ 65536 := fun j h => by
      have e : L.getD j zLay = L[j] := by simp [h]
      rw [e]; exact (hbd _ (List.getElem_mem h)).1
    have hg1 := hg _ hk1
    have hg2 := hg _ hk2
    have hg3 := hg _ hk3
    have hg4 := hg _ hk4
    refine AWP.skip ?_
    refine AWP.seq ?_
    refine AWP.block ?_
    refine AWP.seq ?_
    refine AWP.region ?_
    refine AOps.call (o_move _ rfl rfl) ?_
    refine AOps.call (o_assign _ rfl rfl) ?_
    refine AOps.nil ?_
    refine AWP.seq ?_
    refine AWP.drawn 25 mixed (by kernel_rfl) ?_
    refine AHead.call (o_move _ rfl rfl) rfl ?_
    refine AHead.call (o_move _ rfl rfl) rfl ?_
    refine AHead.call (o_indexArr (o := k * 3) _ _ Tryd.underlying22 Tryd.sizeOf28 rfl rfl (by omega) (by omega) (by omega) rfl) rfl ?_
    refine AHead.call (o_fieldRef _ rfl fa28_0 rfl rfl) rfl ?_
    refine AHead.call (o_loadRefE _ rfl rfl Tryd.sizeOf3 Tryd.isAgg3 (row_iceD hk1) rfl) rfl ?_
    refine AHead.call (o_move _ rfl rfl) rfl ?_
    refine AHead.call (o_move _ rfl rfl) rfl ?_
    refine AHead.call (o_add _ _ rfl rfl ⟨by (try dsimp only); omega, by (try dsimp only); omega⟩ rfl) rfl ?_
    refine AHead.call (o_indexArr (o := (k + 1) * 3) _ _ Tryd.underlying22 Tryd.sizeOf28 rfl rfl (by omega) (by omega) (by omega) rfl) rfl ?_
    refine AHead.call (o_fieldRef _ rfl fa28_0 rfl rfl) rfl ?_
    refine AHead.call (o_loadRefE _ rfl rfl Tryd.sizeOf3 Tryd.isAgg3 (row_iceD hk2) rfl) rfl ?_
    refine AHead.call (o_add _ _ rfl rfl ⟨by (try dsimp only); omega, by (try dsimp only); omega⟩ rfl) rfl ?_
    refine AHead.call (o_move _ rfl rfl) rfl ?_
    refine AHead.call (o_move _ rfl rfl) rfl ?_
    refine AHead.call (o_indexArr (o := thA L k * 3) _ _ Tryd.underlying22 Tryd.sizeOf28 rfl rfl (by omega) (by omega) (by omega) rfl) rfl ?_
    refine AHead.call (o_fieldRef _ rfl fa28_0 rfl rfl) rfl ?_
    refine AHead.call (o_loadRefE _ rfl rfl Tryd.sizeOf3 Tryd.isAgg3 (row_iceD hk3) rfl) rfl ?_
    refine AHead.call (o_move _ rfl rfl) rfl ?_
    refine AHead.call (o_move _ rfl rfl) rfl ?_
    refine AHead.call (o_add _ _ rfl rfl ⟨by (try dsimp only); omega, by (try dsimp only); omega⟩ rfl) rfl ?_
    refine AHead.call (o_indexArr (o := (thA L k + 1) * 3) _ _ Tryd.underlying22 Tryd.sizeOf28 rfl rfl (by omega) (by omega) (by omega) rfl) rfl ?_
    refine AHead.call (o_fieldRef _ rfl fa28_0 rfl rfl) rfl ?_
    refine AHead.call (o_loadRefE _ rfl rfl Tryd.sizeOf3 Tryd.isAgg3 (row_iceD hk4) rfl) rfl ?_
    refine AHead.call (o_add _ _ rfl rfl ⟨by (try dsimp only); omega, by (try dsimp only); omega⟩ rfl) rfl ?_
    refine AHead.call (o_bin _ _ rfl rfl (fun _ => rfl) rfl) rfl ?_
    refine AHead.nil ?_
    refine AOps.nil ?_
    refine AWP.cond _ rfl (fun h32 => ?_) (fun h32 => ?_)
    · skip
      have hnx : thA L (k + 1) = k := by simp only [thA]; exact if_pos (of_decide_eq_true h32)
      refine AWP.region ?_
      refine AOps.call (o_move _ rfl rfl) ?_
      refine AOps.call (o_assign _ rfl rfl) ?_
      refine AOps.nil ?_
      refine AWP.region ?_
      refine AOps.call (o_add _ _ rfl rfl ⟨by (try dsimp only); omega, by (try dsimp only); omega⟩ rfl) ?_
      refine AOps.call (o_move _ rfl rfl) ?_
      refine AOps.nil ?_
      refine ⟨k + 1, ?_, (Weak.mk' rfl ⟨⟨.refl rfl, rfl⟩, ⟨⟨.refl (by rw [hnx]; rfl), rfl⟩, ⟨⟨.refl rfl, rfl⟩, ⟨⟨.refl rfl, rfl⟩, trivial⟩⟩⟩⟩ ⟨⟨rfl, lowL_sc _ _ (row_lays _), rfl⟩, trivial⟩ trivial)⟩
      exact ⟨by omega, by omega⟩
    · skip
      have hnx : thA L (k + 1) = thA L k := by simp only [thA]; exact if_neg (of_decide_eq_false h32)
      refine AWP.skip ?_
      refine AWP.region ?_
      refine AOps.call (o_add _ _ rfl rfl ⟨by (try dsimp only); omega, by (try dsimp only); omega⟩ rfl) ?_
      refine AOps.call (o_move _ rfl rfl) ?_
      refine AOps.nil ?_
      refine ⟨k + 1, ?_, (Weak.mk' rfl ⟨⟨.refl rfl, rfl⟩, ⟨⟨.refl (by rw [hnx]; rfl), rfl⟩, ⟨⟨.refl rfl, rfl⟩, ⟨⟨.refl rfl, rfl⟩, trivial⟩⟩⟩⟩ ⟨⟨rfl, lowL_sc _ _ (row_lays _), rfl⟩, trivial⟩ trivial)⟩
      exact ⟨by omega, by omega⟩
  · skip
    have hkl : k = L.length - 1 := by have hq := of_decide_eq_false h8; omega
    subst hkl
    refine AWP.exit ?_
    refine AWP.seq ?_
    refine AWP.region ?_
    refine AOps.call (o_move _ rfl rfl) ?_
    refine AOps.call (o_assign _ rfl rfl) ?_
    refine AOps.nil ?_
    refine AWP.ret ?_
    exact ⟨⟨[I _], ⟨rfl, trivial⟩, rfl⟩, row_close _, trivial⟩

set_option maxRecDepth 20000 in
theorem delete_a (P R J : List Lay) (a : Lay) (c : Nat) (hc : (P.length + (R.length + 1)) ≤ c) (hl : (P.length + (R.length + 1)) ≤ 64) (hR : 0 < R.length) : FSpecM Tryd.prog 84 [.arr (1000000, 0) 0 (P.length + (R.length + 1)) c, I (P.length : Nat), I ((P.length : Int) + 1)] [rowC (P ++ a :: R ++ J)] (.arr (1000000, 0) 0 (P.length + (P.length + (R.length + 1) - (P.length + 1))) c) none [rowC (P ++ R ++ zLay :: J)] := by
  refine FSpecM.of_body Tryd.func84 rfl (leB rfl) (leB rfl) rfl fun w0 M0 => ?_
  obtain ⟨x, hx⟩ := del_move (P := P) (R := R) (J := J) (a := a) (o1 := P.length * 3) (o2 := 0 + (P.length + 1) * 3) (n := (P.length + (R.length + 1) - (P.length + 1)) * 3) rfl (by omega) (by omega)
  have hC : splice (rowC (P ++ R ++ x :: J)) (List.replicate (P.length + (R.length + 1) - (P.length + R.length)) ([Value.int .i64 0, .int .i64 0, .int .i64 0].map AV.sc)).flatten (0 + (P.length + R.length) * 3) = rowC (P ++ R ++ zLay :: J) := by rw [show P.length + (R.length + 1) - (P.length + R.length) = 1 by omega]; exact del_clear (P := P ++ R) (by simp)
  refine AWP.seq ?_
  refine AWP.region ?_
  refine AOps.call (o_nil (z := 3) (e := 28) rfl) ?_
  refine AOps.nil ?_
  refine AWP.seq ?_
  refine AWP.region ?_
  refine AOps.call (o_move _ rfl rfl) ?_
  refine AOps.call (o_move _ rfl rfl) ?_
  refine AOps.call (o_move _ rfl rfl) ?_
  refine AOps.call (o_move _ rfl rfl) ?_
  refine AOps.call (o_lenArr _ Tryd.underlying22 rfl rfl) ?_
  refine AOps.call (o_slice3 (l := P.length) (h := P.length + 1) (m := P.length + (R.length + 1)) _ _ _ _ Tryd.underlying22 Tryd.sizeOf28 rfl (boundA_some rfl (by omega) (by omega)) (boundA_some rfl (by omega) (by omega)) (boundA_some rfl (by omega) (by omega)) (by omega) (by omega) (by omega) (by omega) rfl rfl) ?_
  refine AOps.nil ?_
  refine AWP.seq ?_
  refine AWP.seq ?_
  refine AWP.region ?_
  refine AOps.call (o_move _ rfl rfl) ?_
  refine AOps.call (o_move _ rfl rfl) ?_
  refine AOps.call (o_bin _ _ rfl rfl (fun _ => rfl) rfl) ?_
  refine AOps.nil ?_
  refine AWP.cond _ rfl (fun h11 => ?_) (fun h11 => ?_)
  · skip
    exfalso
    have hq : ((P.length : Nat) : Int) = (P.length : Int) + 1 := by simpa using h11
    omega
  · skip
    refine AWP.skip ?_
    refine AWP.seq ?_
    refine AWP.region ?_
    refine AOps.call (o_move _ rfl rfl) ?_
    refine AOps.call (o_lenArr _ Tryd.underlying22 rfl rfl) ?_
    refine AOps.call (o_assign _ rfl rfl) ?_
    refine AOps.nil ?_
    refine AWP.seq ?_
    refine AWP.drawn 6 mixed (by kernel_rfl) ?_
    refine AHead.call (o_move _ rfl rfl) rfl ?_
    refine AHead.call (o_move _ rfl rfl) rfl ?_
    refine AHead.call (o_sliceHi (h := P.length) _ _ Tryd.underlying22 Tryd.sizeOf28 rfl (boundA_some rfl (by omega) (by omega)) (by omega) rfl) rfl ?_
    refine AHead.call (o_move _ rfl rfl) rfl ?_
    refine AHead.call (o_move _ rfl rfl) rfl ?_
    refine AHead.call (o_sliceLo (l := P.length + 1) _ _ Tryd.underlying22 Tryd.sizeOf28 rfl (boundA_some rfl (by omega) (by omega)) (by omega) (by omega) rfl rfl) rfl ?_
    refine AHead.nil ?_
    refine AOps.cons (ok_appendA (z := 3) _ _ Tryd.underlying22 info28 rfl rfl rfl rfl (by omega) (by rw [row_len]; simp; omega) (by rw [row_len]; simp; omega) hx rfl) ?_
    refine AOps.call (o_assign _ rfl rfl) ?_
    refine AOps.nil ?_
    refine AWP.seq ?_
    refine AWP.region ?_
    refine AOps.call (o_move _ rfl rfl) ?_
    refine AOps.call (o_move _ rfl rfl) ?_
    refine AOps.call (o_lenArr _ Tryd.underlying22 rfl rfl) ?_
    refine AOps.call (o_move _ rfl rfl) ?_
    refine AOps.call (o_sliceLH (l := P.length + R.length) (h := P.length + (R.length + 1)) _ _ _ Tryd.underlying22 Tryd.sizeOf28 rfl (boundA_some rfl (by omega) (by omega)) (boundA_some rfl (by omega) (by omega)) (by omega) (by omega) (by omega) rfl rfl) ?_
    refine AOps.cons (ok_clearA (n := P.length + (R.length + 1) - (P.length + R.length)) (zs := [.int .i64 0, .int .i64 0, .int .i64 0]) _ Tryd.underlying22 Tryd.zeroValue28 rfl rfl rfl rfl rfl (by omega) (by rw [row_len]; simp; omega) hC) ?_
    refine AOps.nil ?_
    refine AWP.seq ?_
    refine AWP.region ?_
    refine AOps.call (o_move _ rfl rfl) ?_
    refine AOps.call (o_assign _ rfl rfl) ?_
    refine AOps.nil ?_
    refine AWP.ret ?_
    exact ⟨⟨[_], ⟨rfl, trivial⟩, rfl⟩, row_close _, trivial⟩

set_option maxRecDepth 20000 in
theorem delete_b (P R J : List Lay) (a : Lay) (c : Nat) (hc : (P.length + (R.length + 1)) ≤ c) (hl : (P.length + (R.length + 1)) ≤ 64) (hR : R = []) : FSpecM Tryd.prog 84 [.arr (1000000, 0) 0 (P.length + (R.length + 1)) c, I (P.length : Nat), I ((P.length : Int) + 1)] [rowC (P ++ a :: R ++ J)] (.arr (1000000, 0) 0 P.length c) none [rowC (P ++ R ++ zLay :: J)] := by
  refine FSpecM.of_body Tryd.func84 rfl (leB rfl) (leB rfl) rfl fun w0 M0 => ?_
  have hr0 : R.length = 0 := by rw [hR]; rfl
  have hx : P ++ a :: R ++ J = P ++ R ++ a :: J := by subst hR; simp
  have hC : splice (rowC (P ++ a :: R ++ J)) (List.replicate (P.length + (R.length + 1) - (P.length + R.length)) ([Value.int .i64 0, .int .i64 0, .int .i64 0].map AV.sc)).flatten (0 + (P.length + R.length) * 3) = rowC (P ++ R ++ zLay :: J) := by rw [show P.length + (R.length + 1) - (P.length + R.length) = 1 by omega]; rw [hx]; exact del_clear (P := P ++ R) (by simp)
  refine AWP.seq ?_
  refine AWP.region ?_
  refine AOps.call (o_nil (z := 3) (e := 28) rfl) ?_
  refine AOps.nil ?_
  refine AWP.seq ?_
  refine AWP.region ?_
  refine AOps.call (o_move _ rfl rfl) ?_
  refine AOps.call (o_move _ rfl rfl) ?_
  refine AOps.call (o_move _ rfl rfl) ?_
  refine AOps.call (o_move _ rfl rfl) ?_
  refine AOps.call (o_lenArr _ Tryd.underlying22 rfl rfl) ?_
  refine AOps.call (o_slice3 (l := P.length) (h := P.length + 1) (m := P.length + (R.length + 1)) _ _ _ _ Tryd.underlying22 Tryd.sizeOf28 rfl (boundA_some rfl (by omega) (by omega)) (boundA_some rfl (by omega) (by omega)) (boundA_some rfl (by omega) (by omega)) (by omega) (by omega) (by omega) (by omega) rfl rfl) ?_
  refine AOps.nil ?_
  refine AWP.seq ?_
  refine AWP.seq ?_
  refine AWP.region ?_
  refine AOps.call (o_move _ rfl rfl) ?_
  refine AOps.call (o_move _ rfl rfl) ?_
  refine AOps.call (o_bin _ _ rfl rfl (fun _ => rfl) rfl) ?_
  refine AOps.nil ?_
  refine AWP.cond _ rfl (fun h11 => ?_) (fun h11 => ?_)
  · skip
    exfalso
    have hq : ((P.length : Nat) : Int) = (P.length : Int) + 1 := by simpa using h11
    omega
  · skip
    refine AWP.skip ?_
    refine AWP.seq ?_
    refine AWP.region ?_
    refine AOps.call (o_move _ rfl rfl) ?_
    refine AOps.call (o_lenArr _ Tryd.underlying22 rfl rfl) ?_
    refine AOps.call (o_assign _ rfl rfl) ?_
    refine AOps.nil ?_
    refine AWP.seq ?_
    refine AWP.drawn 6 mixed (by kernel_rfl) ?_
    refine AHead.call (o_move _ rfl rfl) rfl ?_
    refine AHead.call (o_move _ rfl rfl) rfl ?_
    refine AHead.call (o_sliceHi (h := P.length) _ _ Tryd.underlying22 Tryd.sizeOf28 rfl (boundA_some rfl (by omega) (by omega)) (by omega) rfl) rfl ?_
    refine AHead.call (o_move _ rfl rfl) rfl ?_
    refine AHead.call (o_move _ rfl rfl) rfl ?_
    refine AHead.call (o_sliceEnd (l := P.length + 1) _ _ Tryd.underlying22 Tryd.sizeOf28 rfl (boundA_some rfl (by omega) (by omega)) (by omega) rfl) rfl ?_
    refine AHead.nil ?_
    refine AOps.call (o_appendA0 _ _ Tryd.underlying22 Tryd.sizeOf28 rfl rfl rfl) ?_
    refine AOps.call (o_assign _ rfl rfl) ?_
    refine AOps.nil ?_
    refine AWP.seq ?_
    refine AWP.region ?_
    refine AOps.call (o_move _ rfl rfl) ?_
    refine AOps.call (o_move _ rfl rfl) ?_
    refine AOps.call (o_lenArr _ Tryd.underlying22 rfl rfl) ?_
    refine AOps.call (o_move _ rfl rfl) ?_
    refine AOps.call (o_sliceLH (l := P.length + R.length) (h := P.length + (R.length + 1)) _ _ _ Tryd.underlying22 Tryd.sizeOf28 rfl (boundA_some rfl (by omega) (by omega)) (boundA_some rfl (by omega) (by omega)) (by omega) (by omega) (by omega) rfl rfl) ?_
    refine AOps.cons (ok_clearA (n := P.length + (R.length + 1) - (P.length + R.length)) (zs := [.int .i64 0, .int .i64 0, .int .i64 0]) _ Tryd.underlying22 Tryd.zeroValue28 rfl rfl rfl rfl rfl (by omega) (by rw [row_len]; simp; omega) hC) ?_
    refine AOps.nil ?_
    refine AWP.seq ?_
    refine AWP.region ?_
    refine AOps.call (o_move _ rfl rfl) ?_
    refine AOps.call (o_assign _ rfl rfl) ?_
    refine AOps.nil ?_
    refine AWP.ret ?_
    exact ⟨⟨[_], ⟨rfl, trivial⟩, rfl⟩, row_close _, trivial⟩

theorem delete_s (P R J : List Lay) (a : Lay) (c : Nat) (hc : (P.length + (R.length + 1)) ≤ c) (hl : (P.length + (R.length + 1)) ≤ 64) : FSpecM Tryd.prog 84 [.arr (1000000, 0) 0 (P.length + (R.length + 1)) c, I (P.length : Nat), I ((P.length : Int) + 1)] [rowC (P ++ a :: R ++ J)] (.arr (1000000, 0) 0 (P.length + R.length) c) none [rowC (P ++ R ++ zLay :: J)] := by
  rcases Nat.eq_zero_or_pos R.length with h | h
  · have := delete_b P R J a c hc hl (List.eq_nil_of_length_eq_zero h)
    rwa [show P.length + R.length = P.length by omega]
  · have := delete_a P R J a c hc hl h
    rwa [show P.length + (P.length + (R.length + 1) - (P.length + 1)) = P.length + R.length by omega] at this

end Go.Proofs.YtgagfmjpmdgfdaaDoor
