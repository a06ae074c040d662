/- What the two searches ask. -/
import Derived.Test.YtnpcmealdfapjaaDoorFD
set_option linter.unusedVariables false
set_option linter.unusedSimpArgs false
namespace Go.Ex
theorem vinF_at : ∀ (k j b : Nat) (l : List Nat) (m : Nat), j + k ≤ l.length → (vinF k j b l).getD m 0 = if j ≤ m ∧ m < j + k then pr (l.getD m 0) (pw m) ^^^ b else l.getD m 0 := by
  intro k
  induction k with
  | zero => intro j b l m h; rw [if_neg (by omega)]; rfl
  | succ k ih =>
    intro j b l m h
    show (vinF k (j + 1) b _).getD m 0 = _
    rw [ih _ _ _ _ (by rw [List.length_set]; omega), getD_set (by omega)]
    by_cases h1 : m = j
    · subst h1
      rw [if_neg (by omega), if_pos rfl, if_pos (by omega)]
    · rw [if_neg h1]
      by_cases h2 : j + 1 ≤ m ∧ m < j + 1 + k
      · rw [if_pos h2, if_pos (by omega)]
      · rw [if_neg h2, if_neg (by omega)]
theorem valF_at : ∀ (s : List UInt8) (r : List Nat) (m : Nat), r.length = 6 → m < 6 → (valF s r).getD m 0 = hvF (pw m) s (r.getD m 0) := by
  intro s
  induction s with
  | nil => intro r m _ _; rfl
  | cons b s ih =>
    intro r m h6 hm
    show (valF s (vinF 6 0 b.toNat r)).getD m 0 = hvF (pw m) s (pr (r.getD m 0) (pw m) ^^^ b.toNat)
    rw [ih _ _ (by rw [vinF_len]; exact h6) hm, vinF_at _ _ _ _ _ (by omega), if_pos (by omega)]
theorem valS_vR (s : List UInt8) : valS s = vR s := by
  refine list_ext (valS_len s) fun k hk => ?_
  rw [valS_len] at hk
  rw [valS, valF_at s z6 k rfl hk, List.getD_eq_getElem?_getD, List.getD_eq_getElem?_getD (l := vR s), vR_at s hk]
  match k, hk with
  | 0, _ => rfl
  | 1, _ => rfl
  | 2, _ => rfl
  | 3, _ => rfl
  | 4, _ => rfl
  | 5, _ => rfl
theorem zB_z6 {v : List Nat} (h : v.length = 6) : zB v 6 0 true = decide (v = z6) := by
  obtain ⟨r0, r1, r2, r3, r4, r5, rfl⟩ := six h
  show (((((true && decide (r0 = 0)) && decide (r1 = 0)) && decide (r2 = 0)) && decide (r3 = 0)) && decide (r4 = 0) && decide (r5 = 0)) = _
  by_cases hz : [r0, r1, r2, r3, r4, r5] = z6
  · rw [decide_eq_true hz]
    simp only [z6, List.cons.injEq, and_true] at hz
    obtain ⟨h0, h1, h2, h3, h4, h5⟩ := hz
    simp [h0, h1, h2, h3, h4, h5]
  · rw [decide_eq_false hz]
    refine Bool.eq_false_iff.2 fun hq => hz ?_
    simp only [Bool.and_eq_true, decide_eq_true_eq, true_and] at hq
    obtain ⟨⟨⟨⟨⟨h0, h1⟩, h2⟩, h3⟩, h4⟩, h5⟩ := hq
    rw [h0, h1, h2, h3, h4, h5]; rfl
theorem agF_iff {vs xs ws : List Nat} : ∀ (k j : Nat), agF vs xs ws k j = true ↔ ∀ i, j ≤ i → i < j + k → sumJ xs ws i xs.length 0 0 = vs.getD i 0 := by
  intro k
  induction k with
  | zero => intro j; exact ⟨fun _ i h1 h2 => by omega, fun _ => rfl⟩
  | succ k ih =>
    intro j
    rw [agF]
    by_cases he : sumJ xs ws j xs.length 0 0 = vs.getD j 0
    · rw [if_pos he, ih]
      exact ⟨fun h i h1 h2 => by
        by_cases hij : i = j
        · rw [hij]; exact he
        · exact h i (by omega) (by omega), fun h i h1 h2 => h i (by omega) (by omega)⟩
    · rw [if_neg he]
      exact ⟨fun h => (by cases h), fun h => absurd (h j (Nat.le_refl _) (by omega)) he⟩
theorem agrees_one {vs : List Nat} {x a : Nat} : agrees vs [x] [a] = true ↔ ∀ j, j < 6 → mulK j a x = vs.getD j 0 := by
  unfold agrees
  rw [agF_iff]
  have e : ∀ i, sumJ [x] [a] i [x].length 0 0 = mulK i a x := fun i => by show 0 ^^^ mulK i a x = _; rw [Nat.zero_xor]
  exact ⟨fun h j hj => by rw [← e]; exact h j (by omega) (by omega), fun h i _ h2 => by rw [e]; exact h i (by omega)⟩
theorem agrees_two {vs : List Nat} {x y a b : Nat} : agrees vs [x, y] [a, b] = true ↔ ∀ j, j < 6 → mulK j a x ^^^ mulK j b y = vs.getD j 0 := by
  unfold agrees
  rw [agF_iff]
  have e : ∀ i, sumJ [x, y] [a, b] i [x, y].length 0 0 = mulK i a x ^^^ mulK i b y := fun i => by show (0 ^^^ mulK i a x) ^^^ mulK i b y = _; rw [Nat.zero_xor]
  exact ⟨fun h j hj => by rw [← e]; exact h j (by omega) (by omega), fun h i _ h2 => by rw [e]; exact h i (by omega)⟩
theorem growF_iff {l : List Nat} {x : Nat} : ∀ (k i : Nat), growF l x k i = true ↔ ∀ m, i ≤ m → m < i + k → l.getD m 0 = pr (l.getD (m - 1) 0) x := by
  intro k
  induction k with
  | zero => intro i; exact ⟨fun _ m h1 h2 => by omega, fun _ => rfl⟩
  | succ k ih =>
    intro i
    rw [growF]
    by_cases he : l.getD i 0 = pr (l.getD (i - 1) 0) x
    · rw [if_pos he, ih]
      exact ⟨fun h m h1 h2 => by
        by_cases hm : m = i
        · rw [hm]; exact he
        · exact h m (by omega) (by omega), fun h m h1 h2 => h m (by omega) (by omega)⟩
    · rw [if_neg he]
      exact ⟨fun h => (by cases h), fun h => absurd (h i (Nat.le_refl _) (by omega)) he⟩
theorem grow_iff {l : List Nat} {x : Nat} : growF l x (l.length - 1) 1 = true ↔ ∀ m, m < l.length → l.getD m 0 = mulK m (l.getD 0 0) x := by
  rw [growF_iff]
  constructor
  · intro h m
    induction m with
    | zero => intro _; rfl
    | succ m ih => intro hm; rw [h (m + 1) (by omega) (by omega), show m + 1 - 1 = m from rfl, ih (by omega), mulK_succ]
  · intro h m h1 h2
    obtain ⟨m, rfl⟩ : ∃ k, m = k + 1 := ⟨m - 1, by omega⟩
    rw [h (m + 1) (by omega), mulK_succ, show m + 1 - 1 = m from rfl, h m (by omega)]
theorem oneF_some {l ps : List Nat} : ∀ (k i m : Nat), oneF l ps k i = some m → l.getD 0 0 ≠ 0 ∧ growF l (ps.getD m 0) (l.length - 1) 1 = true := by
  intro k
  induction k with
  | zero => intro i m h; cases h
  | succ k ih =>
    intro i m h
    rw [oneF] at h
    split at h
    · cases h
    · rename_i h0
      split at h
      · rename_i hg; cases h; exact ⟨h0, hg⟩
      · exact ih _ _ h
theorem oneF_none {l ps : List Nat} (h0 : l.getD 0 0 ≠ 0) : ∀ (k i : Nat), oneF l ps k i = none → ∀ m, i ≤ m → m < i + k → ¬ growF l (ps.getD m 0) (l.length - 1) 1 = true := by
  intro k
  induction k with
  | zero => intro i _ m h1 h2; omega
  | succ k ih =>
    intro i h m h1 h2
    rw [oneF, if_neg h0] at h
    split at h
    · cases h
    · rename_i hg
      by_cases hm : m = i
      · rw [hm]; exact hg
      · exact ih _ h m (by omega) (by omega)
theorem ptsD {N i : Nat} (h : i < N) : (ptsN N).getD i 0 = pw (N - 1 - i) := by rw [List.getD_eq_getElem?_getD, ptsN_at h]; rfl
theorem pts_ok {N : Nat} (hN : N ≤ 42) : Pts (ptsN N) N := by
  have key : ∀ i j : Fin 42, pw i.val = pw j.val → i = j := by decide +kernel
  have pos : ∀ i : Fin 42, 0 < pw i.val := by decide +kernel
  refine ⟨ptsN_8 N, fun k hk => by rw [ptsD hk]; exact pos ⟨N - 1 - k, by omega⟩, fun i k hi hk hik e => ?_⟩
  rw [ptsD hi, ptsD hk] at e
  have := key ⟨N - 1 - i, by omega⟩ ⟨N - 1 - k, by omega⟩ e
  have := congrArg Fin.val this
  simp only at this
  omega
theorem leftF_at : ∀ (k j : Nat) (v : List Nat) (x : Nat) (l : List Nat) (m : Nat), j + k ≤ l.length → (leftF k j v x l).getD m 0 = if j ≤ m ∧ m < j + k then v.getD (m + 1) 0 ^^^ pr (v.getD m 0) x else l.getD m 0 := by
  intro k
  induction k with
  | zero => intro j v x l m h; rw [if_neg (by omega)]; rfl
  | succ k ih =>
    intro j v x l m h
    show (leftF k (j + 1) v x _).getD m 0 = _
    rw [ih _ _ _ _ _ (by rw [List.length_set]; omega), getD_set (by omega)]
    by_cases h1 : m = j
    · subst h1
      rw [if_neg (by omega), if_pos rfl, if_pos (by omega)]
    · rw [if_neg h1]
      by_cases h2 : j + 1 ≤ m ∧ m < j + 1 + k
      · rw [if_pos h2, if_pos (by omega)]
      · rw [if_neg h2, if_neg (by omega)]
theorem left_at (v : List Nat) (x m : Nat) (hm : m < 5) : (left v x).getD m 0 = v.getD (m + 1) 0 ^^^ pr (v.getD m 0) x := by
  unfold left
  rw [leftF_at _ _ _ _ _ _ (by show 5 ≤ 5; omega), if_pos (by omega)]
end Go.Ex

