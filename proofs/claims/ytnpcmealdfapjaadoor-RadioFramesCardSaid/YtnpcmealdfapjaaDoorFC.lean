/- The remainder, taken from the left as the reference does, is what the program shifts. -/
import Derived.Test.YtnpcmealdfapjaaDoorR98
set_option linter.unusedVariables false
set_option linter.unusedSimpArgs false
namespace Go.Ex
def gen7 : List Nat := [1, 63, 1, 218, 32, 227, 38]
def divF : Nat → Nat → Nat → Nat → List Nat → List Nat
  | 0, _, _, _, r => r
  | k + 1, j, i, q, r => divF k (j + 1) i q (r.set (i + j) (r.getD (i + j) 0 ^^^ pr q (gen7.getD j 0)))
def outF : Nat → Nat → List Nat → List Nat
  | 0, _, r => r
  | k + 1, i, r => outF k (i + 1) (divF 7 0 i (r.getD i 0) r)
theorem getD_set {l : List Nat} {i v : Nat} (h : i < l.length) (m : Nat) : (l.set i v).getD m 0 = if m = i then v else l.getD m 0 := by
  simp only [List.getD_eq_getElem?_getD, List.getElem?_set]
  by_cases h1 : i = m
  · subst h1; simp [h]
  · rw [if_neg h1, if_neg (fun e => h1 e.symm)]
theorem divF_len : ∀ (k j i q : Nat) (r : List Nat), (divF k j i q r).length = r.length := by
  intro k
  induction k with
  | zero => intro j i q r; rfl
  | succ k ih => intro j i q r; show (divF k _ _ _ _).length = _; rw [ih, List.length_set]
theorem outF_len : ∀ (k i : Nat) (r : List Nat), (outF k i r).length = r.length := by
  intro k
  induction k with
  | zero => intro i r; rfl
  | succ k ih => intro i r; show (outF k _ _).length = _; rw [ih, divF_len]
theorem divF_at : ∀ (k j i q : Nat) (r : List Nat) (m : Nat), i + j + k ≤ r.length → (divF k j i q r).getD m 0 = if i + j ≤ m ∧ m < i + j + k then r.getD m 0 ^^^ pr q (gen7.getD (m - i) 0) else r.getD m 0 := by
  intro k
  induction k with
  | zero => intro j i q r m h; rw [if_neg (by omega)]; rfl
  | succ k ih =>
    intro j i q r m h
    show (divF k (j + 1) i q _).getD m 0 = _
    rw [ih _ _ _ _ _ (by rw [List.length_set]; omega), getD_set (by omega)]
    by_cases h1 : m = i + j
    · subst h1
      rw [if_neg (by omega), if_pos rfl, if_pos (by omega), show i + j - i = j by omega]
    · rw [if_neg h1]
      by_cases h2 : i + (j + 1) ≤ m ∧ m < i + (j + 1) + k
      · rw [if_pos h2, if_pos (by omega)]
      · rw [if_neg h2, if_neg (by omega)]
theorem inF_at : ∀ (k j f : Nat) (l : List Nat) (m : Nat), j + k ≤ l.length → (inF k j f l).getD m 0 = if j ≤ m ∧ m < j + k then l.getD m 0 ^^^ pr f (gen6.getD m 0) else l.getD m 0 := by
  intro k
  induction k with
  | zero => intro j f l m h; rw [if_neg (by omega)]; rfl
  | succ k ih =>
    intro j f l m h
    show (inF k (j + 1) f _).getD m 0 = _
    rw [ih _ _ _ _ (by rw [List.length_set]; omega), getD_set (by omega)]
    by_cases h1 : m = j
    · subst h1
      rw [if_neg (by omega), if_pos rfl, if_pos (by omega)]
    · rw [if_neg h1]
      by_cases h2 : j + 1 ≤ m ∧ m < j + 1 + k
      · rw [if_pos h2, if_pos (by omega)]
      · rw [if_neg h2, if_neg (by omega)]
def bAt (s : List UInt8) (m : Nat) : Nat := (s.map UInt8.toNat).getD m 0
theorem step_at (r : List Nat) (b m : Nat) (h6 : r.length = 6) : (stepR r b).getD m 0 = if m < 6 then r.getD (m + 1) 0 ^^^ pr (r.getD 0 0 ^^^ b) (gen6.getD m 0) else 0 := by
  have hs : (r.drop 1 ++ [0]).length = 6 := by rw [List.length_append, List.length_drop, h6]; rfl
  have hm : ∀ m, (r.drop 1 ++ [0]).getD m 0 = r.getD (m + 1) 0 := fun m => by
    match r, h6 with
    | [r0, r1, r2, r3, r4, r5], _ =>
      match m with
      | 0 => rfl
      | 1 => rfl
      | 2 => rfl
      | 3 => rfl
      | 4 => rfl
      | 5 => rfl
      | m + 6 => rfl
  unfold stepR
  rw [inF_at _ _ _ _ _ (by omega), hm]
  by_cases h : m < 6
  · rw [if_pos (by omega), if_pos h]
  · rw [if_neg (by omega), if_neg h]
    match r, h6 with
    | [r0, r1, r2, r3, r4, r5], _ =>
      match m, h with
      | m + 6, _ => rfl
      | 0, h => omega
      | 1, h => omega
      | 2, h => omega
      | 3, h => omega
      | 4, h => omega
      | 5, h => omega
theorem gen76 (m : Nat) : gen7.getD (m + 1) 0 = gen6.getD m 0 := rfl
theorem out_chk : ∀ (s : List UInt8) (i : Nat) (R r : List Nat), r.length = 6 → R.length = i + s.length + 6 → all8 r → (∀ m, R.getD (i + m) 0 = bAt s m ^^^ r.getD m 0) → (outF s.length i R).drop (i + s.length) = chk s r := by
  intro s
  induction s with
  | nil =>
    intro i R r h6 hR h8 hm
    show R.drop (i + 0) = r
    refine List.ext_getElem? fun m => ?_
    rw [List.getElem?_drop]
    by_cases h : m < 6
    · have := hm m
      simp only [List.getD_eq_getElem?_getD] at this
      simp only [List.length_nil] at hR
      rw [List.getElem?_eq_getElem (by omega : i + m < R.length), List.getElem?_eq_getElem (by omega : m < r.length)] at this
      have hb : bAt [] m = 0 := rfl
      rw [hb] at this
      simp only [Option.getD_some, Nat.zero_xor] at this
      rw [show i + 0 + m = i + m by omega, List.getElem?_eq_getElem (by omega : i + m < R.length), List.getElem?_eq_getElem (by omega : m < r.length), this]
    · simp only [List.length_nil] at hR
      rw [List.getElem?_eq_none (by omega), List.getElem?_eq_none (by omega)]
  | cons b s ih =>
    intro i R r h6 hR h8 hm
    simp only [List.length_cons] at hR
    have hq : R.getD i 0 = r.getD 0 0 ^^^ b.toNat := by
      have := hm 0
      rw [show i + 0 = i from rfl, show bAt (b :: s) 0 = b.toNat from rfl, Nat.xor_comm] at this
      exact this
    show (outF s.length (i + 1) (divF 7 0 i (R.getD i 0) R)).drop (i + (s.length + 1)) = chk s (stepR r b.toNat)
    rw [show i + (s.length + 1) = i + 1 + s.length by omega]
    refine ih (i + 1) _ _ (by unfold stepR; rw [inF_len, List.length_append, List.length_drop, h6]; rfl) (by rw [divF_len]; omega) (inF_8 _ _ _ _ (xor_lt (h8 0) b.toNat_lt) ?_) fun m => ?_
    · match r, h6 with
      | [r0, r1, r2, r3, r4, r5], _ =>
        intro j
        match j with
        | 0 => exact h8 1
        | 1 => exact h8 2
        | 2 => exact h8 3
        | 3 => exact h8 4
        | 4 => exact h8 5
        | 5 => exact (by decide : 0 < 256)
        | j + 6 => exact (by simp : ([] : List Nat).getD j 0 < 256)
    · rw [divF_at _ _ _ _ _ _ (by omega), step_at _ _ _ h6, hq]
      have h1 := hm (m + 1)
      rw [show i + (m + 1) = i + 1 + m by omega, show bAt (b :: s) (m + 1) = bAt s m from rfl] at h1
      rw [h1]
      by_cases h : m < 6
      · rw [if_pos (by omega), if_pos h, show i + 1 + m - i = m + 1 by omega, gen76, Nat.xor_assoc]
      · rw [if_neg (by omega), if_neg h]
        have : r.getD (m + 1) 0 = 0 := by rw [List.getD_eq_getElem?_getD, List.getElem?_eq_none (by omega)]; rfl
        rw [this]
def rest0 (s : List UInt8) : List Nat := s.map UInt8.toNat ++ [0, 0, 0, 0, 0, 0]
theorem ref_chk (s : List UInt8) : (outF s.length 0 (rest0 s)).drop s.length = chk s [0, 0, 0, 0, 0, 0] := by
  have := out_chk s 0 (rest0 s) [0, 0, 0, 0, 0, 0] rfl (by simp [rest0]) all8z fun m => ?_
  · rw [Nat.zero_add] at this; exact this
  · rw [Nat.zero_add]
    have hz : ∀ m, ([0, 0, 0, 0, 0, 0] : List Nat).getD m 0 = 0 := fun m => by
      match m with
      | 0 => rfl
      | 1 => rfl
      | 2 => rfl
      | 3 => rfl
      | 4 => rfl
      | 5 => rfl
      | m + 6 => rfl
    rw [hz, Nat.xor_zero]
    unfold rest0 bAt
    simp only [List.getD_eq_getElem?_getD, List.getElem?_append]
    split
    · rfl
    · rename_i h
      have h2 := hz (m - (s.map UInt8.toNat).length)
      rw [List.getD_eq_getElem?_getD] at h2
      rw [h2, List.getElem?_eq_none (by omega)]; rfl
end Go.Ex

