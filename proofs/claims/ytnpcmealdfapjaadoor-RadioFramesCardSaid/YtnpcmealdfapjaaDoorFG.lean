/- Both searches find the same word. -/
import Derived.Test.YtnpcmealdfapjaaDoorFE
set_option linter.unusedVariables false
set_option linter.unusedSimpArgs false
namespace Go.Ex
theorem pS1 (xs : List Nat) (i a j : Nat) : pS xs [(i, a)] j = mulK j a (xs.getD i 0) := by show mulK j a (xs.getD i 0) ^^^ 0 = _; rw [Nat.xor_zero]
theorem pS2 (xs : List Nat) (i a m b j : Nat) : pS xs [(i, a), (m, b)] j = mulK j a (xs.getD i 0) ^^^ mulK j b (xs.getD m 0) := by show mulK j a (xs.getD i 0) ^^^ (mulK j b (xs.getD m 0) ^^^ 0) = _; rw [Nat.xor_zero]
def Ag (v xs : List Nat) (P : List (Nat × Nat)) : Prop := ∀ j, j < 6 → pS xs P j = v.getD j 0
theorem inv_div {c D : Nat} (hc : c < 256) (hD : D < 256) (h0 : 0 < D) : pr (pr c (inv D)) D = c := by
  rw [pr_assoc hc (inv_lt D hD) hD, pr_comm (inv_lt D hD) hD, pr_inv hD h0, pr_one hc]
theorem div_inv {c D : Nat} (hc : c < 256) (hD : D < 256) (h0 : 0 < D) : pr (pr c D) (inv D) = c := by
  rw [pr_assoc hc hD (inv_lt D hD), pr_inv hD h0, pr_one hc]
section
variable {v xs : List Nat} {N : Nat}
theorem z6_of (hv : v.length = 6) (h : ∀ j, j < 6 → v.getD j 0 = 0) : v = z6 :=
  list_ext hv fun k hk => by
    rw [hv] at hk
    rw [h k hk]
    match k, hk with
    | 0, _ => rfl
    | 1, _ => rfl
    | 2, _ => rfl
    | 3, _ => rfl
    | 4, _ => rfl
    | 5, _ => rfl
/-- The step over a pattern of two places. -/
theorem left_two (v8 : all8 v) (hx : Pts xs N) {i m a b : Nat} (ha : a < 256) (hb : b < 256) (h : Ag v xs [(i, a), (m, b)]) {j : Nat} (hj : j < 5) : (left v (xs.getD i 0)).getD j 0 = mulK j (pr b (xs.getD m 0 ^^^ xs.getD i 0)) (xs.getD m 0) := by
  rw [left_at _ _ _ hj, ← h (j + 1) (by omega), ← h j (by omega), pS2, pS2, pr_xorL (mulK_lt _ _ _ ha) (mulK_lt _ _ _ hb), x4, mulK_succ j a, Nat.xor_self, Nat.zero_xor, one_step hb (hx.1 m) (hx.1 i)]
theorem two_sound (v8 : all8 v) (hx : Pts xs N) {i m : Nat} (hi : i < N) (hm : m < N) (hne : m ≠ i) (hg : growF (left v (xs.getD i 0)) (xs.getD m 0) ((left v (xs.getD i 0)).length - 1) 1 = true) :
    Ag v xs [(i, v.getD 0 0 ^^^ pr ((left v (xs.getD i 0)).getD 0 0) (inv (xs.getD m 0 ^^^ xs.getD i 0))), (m, pr ((left v (xs.getD i 0)).getD 0 0) (inv (xs.getD m 0 ^^^ xs.getD i 0)))] := by
  have hD := xor_pos (hx.2.2 m i hm hi hne)
  have hD8 := xor_lt (hx.1 m) (hx.1 i)
  have hl8 := left_8 (xs.getD i 0) v8
  have hg := grow_iff.1 hg
  rw [left_len] at hg
  have hb8 : pr ((left v (xs.getD i 0)).getD 0 0) (inv (xs.getD m 0 ^^^ xs.getD i 0)) < 256 := pr_lt _ _ (hl8 0)
  have hl0 := inv_div (hl8 0) hD8 hD
  generalize pr ((left v (xs.getD i 0)).getD 0 0) (inv (xs.getD m 0 ^^^ xs.getD i 0)) = b at hb8 hl0 ⊢
  have ha8 : v.getD 0 0 ^^^ b < 256 := xor_lt (v8 0) hb8
  intro j
  induction j with
  | zero => intro _; rw [pS2]; show (v.getD 0 0 ^^^ b) ^^^ b = _; rw [Nat.xor_assoc, Nat.xor_self, Nat.xor_zero]
  | succ j ih =>
    intro hj
    have h1 := ih (by omega)
    have h2 := left_at v (xs.getD i 0) j (by omega)
    have h3 := hg j (by omega)
    rw [← hl0, ← one_step hb8 (hx.1 m) (hx.1 i)] at h3
    rw [h3, ← h1, pS2, pr_xorL (mulK_lt _ _ _ ha8) (mulK_lt _ _ _ hb8), ← mulK_succ] at h2
    rw [pS2]
    -- h2 : B ^^^ c = v' ^^^ (A ^^^ c)
    have e : ∀ B c w A : Nat, B ^^^ c = w ^^^ (A ^^^ c) → A ^^^ B = w := fun B c w A hh => by
      have : (B ^^^ c) ^^^ (A ^^^ c) = (w ^^^ (A ^^^ c)) ^^^ (A ^^^ c) := by rw [hh]
      rw [Nat.xor_assoc w, Nat.xor_self, Nat.xor_zero, x4, Nat.xor_self, Nat.xor_zero, Nat.xor_comm] at this
      exact this
    exact e _ _ _ _ h2
theorem one_sound (hv : v.length = 6) {m : Nat} (hg : growF v (xs.getD m 0) (v.length - 1) 1 = true) : Ag v xs [(m, v.getD 0 0)] := fun j hj => by
  rw [pS1]; exact (grow_iff.1 hg j (by omega)).symm
theorem one_nz (hv : v.length = 6) (hx : Pts xs N) (hz : v ≠ z6) {i a : Nat} (h : Ag v xs [(i, a)]) : v.getD 0 0 = a ∧ a ≠ 0 := by
  have h0 : v.getD 0 0 = a := by have := h 0 (by omega); rw [pS1] at this; exact this.symm
  refine ⟨h0, fun e => hz (z6_of hv fun j hj => ?_)⟩
  rw [← h j hj, pS1, e, mulK_zero (hx.1 i)]
theorem one_comp (hv : v.length = 6) (hx : Pts xs N) (hz : v ≠ z6) {i a : Nat} (hi : i < N) (h : Ag v xs [(i, a)]) : oneF v xs N 0 ≠ none := fun hn => by
  obtain ⟨h0, ha⟩ := one_nz hv hx hz h
  refine oneF_none (by rw [h0]; exact ha) N 0 hn i (Nat.zero_le _) (by omega) (grow_iff.2 fun m hm => ?_)
  rw [hv] at hm
  rw [h0, ← h m hm, pS1]
theorem ag_drop1 (hx : Pts xs N) {i m b : Nat} (h : Ag v xs [(i, 0), (m, b)]) : Ag v xs [(m, b)] := fun j hj => by rw [← h j hj, pS1, pS2, mulK_zero (hx.1 i), Nat.zero_xor]
theorem ag_drop2 (hx : Pts xs N) {i m a : Nat} (h : Ag v xs [(i, a), (m, 0)]) : Ag v xs [(i, a)] := fun j hj => by rw [← h j hj, pS1, pS2, mulK_zero (hx.1 m), Nat.xor_zero]
theorem twoF_some : ∀ (k i : Nat) (i' a m b : Nat), twoF v xs k i = some (i', a, m, b) → i ≤ i' ∧ i' < i + k ∧ oneF (left v (xs.getD i' 0)) xs xs.length 0 = some m ∧ m ≠ i' ∧ b = pr ((left v (xs.getD i' 0)).getD 0 0) (inv (xs.getD m 0 ^^^ xs.getD i' 0)) ∧ a = v.getD 0 0 ^^^ b := by
  intro k
  induction k with
  | zero => intro i i' a m b h; cases h
  | succ k ih =>
    intro i i' a m b h
    rw [twoF] at h
    split at h
    · rename_i m' hm
      split at h
      · obtain ⟨h1, h2, h3⟩ := ih _ _ _ _ _ h; exact ⟨by omega, by omega, h3⟩
      · rename_i hne
        simp only [Option.some.injEq, Prod.mk.injEq] at h
        obtain ⟨rfl, h2, rfl, h4⟩ := h
        exact ⟨Nat.le_refl _, by omega, hm, hne, h4.symm, by rw [← h2, h4]⟩
    · obtain ⟨h1, h2, h3⟩ := ih _ _ _ _ _ h; exact ⟨by omega, by omega, h3⟩
theorem twoF_none : ∀ (k i : Nat), twoF v xs k i = none → ∀ m, i ≤ m → m < i + k → oneF (left v (xs.getD m 0)) xs xs.length 0 = none ∨ oneF (left v (xs.getD m 0)) xs xs.length 0 = some m := by
  intro k
  induction k with
  | zero => intro i _ m h1 h2; omega
  | succ k ih =>
    intro i h m h1 h2
    rw [twoF] at h
    split at h
    · rename_i m' hm
      split at h
      · rename_i he
        by_cases hmi : m = i
        · rw [hmi, hm, he]; exact .inr rfl
        · exact ih _ h m (by omega) (by omega)
      · cases h
    · rename_i hm
      by_cases hmi : m = i
      · rw [hmi]; exact .inl hm
      · exact ih _ h m (by omega) (by omega)
theorem two_comp (hv : v.length = 6) (v8 : all8 v) (hx : Pts xs N) (hN : xs.length = N) (hz : v ≠ z6) {i m a b : Nat} (hi : i < N) (hm : m < N) (hne : i ≠ m) (ha8 : a < 256) (hb8 : b < 256) (h1 : oneF v xs N 0 = none) (h : Ag v xs [(i, a), (m, b)]) : twoF v xs N 0 ≠ none := fun hn => by
  have hb : b ≠ 0 := fun e => by subst e; exact one_comp hv hx hz hi (ag_drop2 hx h) h1
  have hD := xor_pos (hx.2.2 m i hm hi (fun e => hne e.symm))
  have hD8 := xor_lt (hx.1 m) (hx.1 i)
  have hl : ∀ j, j < 5 → (left v (xs.getD i 0)).getD j 0 = mulK j (pr b (xs.getD m 0 ^^^ xs.getD i 0)) (xs.getD m 0) := fun j hj => left_two v8 hx ha8 hb8 h hj
  have hl0 : (left v (xs.getD i 0)).getD 0 0 = pr b (xs.getD m 0 ^^^ xs.getD i 0) := hl 0 (by omega)
  have hnz : (left v (xs.getD i 0)).getD 0 0 ≠ 0 := fun e => hb (pr_nz hb8 hD8 hD (hl0.symm.trans e))
  have hgm : growF (left v (xs.getD i 0)) (xs.getD m 0) ((left v (xs.getD i 0)).length - 1) 1 = true := grow_iff.2 fun j hj => by
    rw [left_len] at hj; rw [hl0]; exact hl j hj
  rcases twoF_none N 0 hn i (Nat.zero_le _) (by omega) with h2 | h2
  · exact oneF_none hnz _ 0 h2 m (Nat.zero_le _) (by omega) hgm
  · have hgi := grow_iff.1 (oneF_some _ _ _ h2).2 1 (by rw [left_len]; omega)
    have hgm1 := grow_iff.1 hgm 1 (by rw [left_len]; omega)
    have e : pr ((left v (xs.getD i 0)).getD 0 0) (xs.getD i 0) = pr ((left v (xs.getD i 0)).getD 0 0) (xs.getD m 0) := hgi.symm.trans hgm1
    have e2 : pr ((left v (xs.getD i 0)).getD 0 0) (xs.getD m 0 ^^^ xs.getD i 0) = 0 := by rw [pr_xorR, e, Nat.xor_self]
    exact hnz (pr_nz (left_8 _ v8 0) hD8 hD e2)
theorem pairF_some (i : Nat) : ∀ (k q : Nat) (m a b : Nat), pairF v xs i k q = some (m, a, b) → q ≤ m ∧ m < q + k ∧ agrees v [xs.getD i 0, xs.getD m 0] [a, b] = true ∧ a = aOf v xs i m ∧ b = bOf v xs i m := by
  intro k
  induction k with
  | zero => intro q m a b h; cases h
  | succ k ih =>
    intro q m a b h
    rw [pairF] at h
    split at h
    · rename_i hg
      simp only [Option.some.injEq, Prod.mk.injEq] at h
      obtain ⟨rfl, rfl, rfl⟩ := h
      exact ⟨Nat.le_refl _, by omega, hg, rfl, rfl⟩
    · obtain ⟨h1, h2, h3⟩ := ih _ _ _ _ h; exact ⟨by omega, by omega, h3⟩
theorem pairF_none (i : Nat) : ∀ (k q : Nat), pairF v xs i k q = none → ∀ m, q ≤ m → m < q + k → ¬ agrees v [xs.getD i 0, xs.getD m 0] [aOf v xs i m, bOf v xs i m] = true := by
  intro k
  induction k with
  | zero => intro q _ m h1 h2; omega
  | succ k ih =>
    intro q h m h1 h2
    rw [pairF] at h
    split at h
    · cases h
    · rename_i hg
      by_cases hm : m = q
      · rw [hm]; exact hg
      · exact ih _ h m (by omega) (by omega)
theorem wordF_some (v8 : all8 v) : ∀ (k i : Nat) (fl : List (Nat × Nat)), wordF v xs k i = some fl → (∃ p, p < i + k ∧ fl = [(p, v.getD 0 0)] ∧ Ag v xs fl) ∨ (∃ p a q b, p < q ∧ q < i + k ∧ a < 256 ∧ b < 256 ∧ fl = [(p, a), (q, b)] ∧ Ag v xs fl) := by
  intro k
  induction k with
  | zero => intro i fl h; cases h
  | succ k ih =>
    intro i fl h
    rw [wordF] at h
    split at h
    · rename_i hg
      cases h
      exact .inl ⟨i, by omega, rfl, fun j hj => by rw [pS1]; exact agrees_one.1 hg j hj⟩
    · split at h
      · rename_i m a b hm
        cases h
        obtain ⟨h1, h2, h3, h4, h5⟩ := pairF_some i _ _ _ _ _ hm
        exact .inr ⟨i, a, m, b, by omega, by omega, by rw [h4]; exact aOf_lt i m v8, by rw [h5]; exact bOf_lt i m v8, rfl, fun j hj => by rw [pS2]; exact agrees_two.1 h3 j hj⟩
      · rcases ih _ _ h with ⟨p, h1, h2⟩ | ⟨p, a, q, b, h1, h2, h3⟩
        · exact .inl ⟨p, by omega, h2⟩
        · exact .inr ⟨p, a, q, b, h1, by omega, h3⟩
theorem wordF_none : ∀ (k i : Nat), wordF v xs k i = none → ∀ p, i ≤ p → p < i + k → (¬ agrees v [xs.getD p 0] [v.getD 0 0] = true) ∧ ∀ q, p < q → q < i + k → ¬ agrees v [xs.getD p 0, xs.getD q 0] [aOf v xs p q, bOf v xs p q] = true := by
  intro k
  induction k with
  | zero => intro i _ p h1 h2; omega
  | succ k ih =>
    intro i h p h1 h2
    rw [wordF] at h
    split at h
    · cases h
    · rename_i hg
      split at h
      · cases h
      · rename_i hp
        by_cases hpi : p = i
        · subst hpi
          exact ⟨hg, fun q hq hq2 => pairF_none p _ _ hp q (by omega) (by omega)⟩
        · obtain ⟨h3, h4⟩ := ih _ h p (by omega) (by omega)
          exact ⟨h3, fun q hq hq2 => h4 q hq (by omega)⟩
theorem word_comp1 {m : Nat} (hm : m < N) (h : Ag v xs [(m, v.getD 0 0)]) : wordF v xs N 0 ≠ none := fun hn =>
  (wordF_none N 0 hn m (Nat.zero_le _) (by omega)).1 (agrees_one.2 fun j hj => by rw [← h j hj, pS1])
theorem ag_swap {i m a b : Nat} (h : Ag v xs [(i, a), (m, b)]) : Ag v xs [(m, b), (i, a)] := fun j hj => by rw [← h j hj, pS2, pS2, Nat.xor_comm]
theorem word_comp2 (v8 : all8 v) (hx : Pts xs N) {i m a b : Nat} (him : i < m) (hm : m < N) (ha : a < 256) (hb : b < 256) (h : Ag v xs [(i, a), (m, b)]) : wordF v xs N 0 ≠ none := fun hn => by
  have hD := xor_pos (hx.2.2 m i hm (by omega) (by omega))
  have hD8 := xor_lt (hx.1 m) (hx.1 i)
  have hl0 : v.getD 1 0 ^^^ pr (v.getD 0 0) (xs.getD i 0) = pr b (xs.getD m 0 ^^^ xs.getD i 0) := by
    rw [← left_at v (xs.getD i 0) 0 (by omega)]; exact left_two v8 hx ha hb h (by omega)
  have eb : bOf v xs i m = b := by unfold bOf; rw [hl0, Nat.xor_comm (xs.getD i 0), div_inv hb hD8 hD]
  have ea : aOf v xs i m = a := by
    unfold aOf; rw [eb]
    have := h 0 (by omega)
    rw [pS2] at this
    have e0 : a ^^^ b = v.getD 0 0 := this
    rw [← e0, Nat.xor_assoc, Nat.xor_self, Nat.xor_zero]
  exact (wordF_none N 0 hn i (Nat.zero_le _) (by omega)).2 m him (by omega) (by rw [ea, eb]; exact agrees_two.2 fun j hj => by rw [← h j hj, pS2])
end
end Go.Ex

