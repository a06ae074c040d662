/- What lies on layers, plain. -/
import Derived.Test.YtgagfmjpmdgfdaaDoorP5
set_option linter.unusedVariables false
namespace Go.Proofs.YtgagfmjpmdgfdaaDoor
open Go.Ab
theorem flat_len {α : Type} {e : α → List AV} {z : Nat} (he : ∀ x, (e x).length = z) (l : List α) : (l.map e).flatten.length = l.length * z := by
  induction l with
  | nil => simp
  | cons a l ih => rw [List.map_cons, List.flatten_cons, List.length_append, he, ih, List.length_cons, Nat.add_mul]; omega
/-- A whole element of a flat row is set. -/
theorem flat_set {α : Type} {e : α → List AV} {z o : Nat} (he : ∀ x, (e x).length = z) {P R : List α} {x y : α} (ho : P.length * z = o) :
    splice ((P ++ x :: R).map e).flatten (e y) o = ((P ++ y :: R).map e).flatten := by
  subst ho
  have h1 : ∀ w, ((P ++ w :: R).map e).flatten = (P.map e).flatten ++ e w ++ (R.map e).flatten := fun w => by simp
  rw [h1, h1, ← flat_len he P, splice_mid (by rw [he, he])]
def eB (b : Int × Int) : List AV := [I b.1, I b.2]
def burs (l : List (Int × Int)) : List (List AV) := l.map eB
theorem burs_len (l : List (Int × Int)) : (burs l).length = l.length := by simp [burs]
theorem burs_z {l : List (Int × Int)} : ∀ e ∈ burs l, e.length = 2 := by
  intro e he; obtain ⟨_, _, rfl⟩ := List.mem_map.1 he; rfl
theorem burs_at {l : List (Int × Int)} {k : Nat} (h : k < l.length) : (burs l)[((k : Nat) : Int).toNat]? = some (eB l[k]) := by simp [burs, h]
theorem burs_scs (l : List (Int × Int)) : ∀ x ∈ (burs l).flatten, ∃ v, x = .sc v := by
  intro x hx
  obtain ⟨c, hc, hx⟩ := List.mem_flatten.1 hx
  obtain ⟨k, _, rfl⟩ := List.mem_map.1 hc
  simp only [eB, I, List.mem_cons, List.not_mem_nil, or_false] at hx
  rcases hx with h | h <;> exact ⟨_, h⟩
theorem burd_len (p : List Lay) (a : Int) : (burd p a).length = p.length := by
  induction p generalizing a with
  | nil => rfl
  | cons l r ih => simp [burd, ih]
def strn (l : Lay) : Int := 10 * l.ice + l.cold - 40 * l.wet
theorem burd_get : ∀ {p : List Lay} {a : Int} {k : Nat} (h : k < p.length) (h2 : k < (burd p a).length), (burd p a)[k] = (a + watL (p.take k), strn p[k]) := by
  intro p
  induction p with
  | nil => intro a k h; simp at h
  | cons l r ih =>
    intro a k h h2
    cases k with
    | zero => simp [burd, watL, strn]
    | succ k =>
      simp only [burd, List.getElem_cons_succ]
      rw [ih (by simpa using h)]
      simp [watL]; omega
theorem burd_take {p : List Lay} {k : Nat} (h : k < p.length) : (burd p 0).take (k + 1) = (burd p 0).take k ++ [(watL (p.take k), strn p[k])] := by
  have h2 : k < (burd p 0).length := by rw [burd_len]; exact h
  rw [List.take_succ_eq_append_getElem h2, burd_get h h2, Int.zero_add]
/-- What a burden can be. -/
def burB (b : Int × Int) : Prop := 0 ≤ b.1 ∧ b.1 ≤ 65536 ∧ 1 ≤ b.2 ∧ b.2 ≤ 800000
theorem watL_take_le {p : List Lay} (h : ∀ x ∈ p, layB x = true) (k : Nat) : 0 ≤ watL (p.take k) ∧ watL (p.take k) ≤ watL p := by
  have h1 := watL_append (p.take k) (p.drop k)
  rw [List.take_append_drop] at h1
  have h2 := watL_bd (all_take (n := k) h)
  have h3 := watL_bd (l := p.drop k) fun x hx => h x (List.mem_of_mem_drop hx)
  omega
theorem burd_ok {p : List Lay} (hp : packE p = 0) : ∀ b ∈ burd p 0, burB b := by
  obtain ⟨h1, h2, h3, h4⟩ := packE_0.1 hp
  intro b hb
  obtain ⟨k, hk, rfl⟩ := List.mem_iff_getElem.1 hb
  have hk2 : k < p.length := by rw [burd_len] at hk; exact hk
  rw [burd_get hk2 hk]
  have h5 := watL_take_le h2 k
  have h6 := (layB_iff.1 (h2 _ (List.getElem_mem hk2))).1
  unfold burB strn; simp only []; omega
def weakB (b c : Int × Int) : Bool := decide (b.1 * c.2 > c.1 * b.2)
def brkB (b : Int × Int) (s : Int) : Bool := decide (b.1 * (s - 25) > 3 * b.2)
theorem mul_in {a b A C : Int} (h0 : 0 ≤ a) (h1 : a ≤ A) (h2 : 0 ≤ b) (h3 : b ≤ C) : 0 ≤ a * b ∧ a * b ≤ A * C :=
  ⟨Int.mul_nonneg h0 h2, Int.mul_le_mul h1 h3 h2 (by omega)⟩
def wkA (l : List (Int × Int)) : Nat → Nat
  | 0 => 0
  | n + 1 => if weakB (l.getD n (0, 0)) (l.getD (wkA l n) (0, 0)) = true then n else wkA l n
theorem wkA_lt (l : List (Int × Int)) : ∀ n, 0 < n → wkA l n < n := by
  intro n
  induction n with
  | zero => intro h; omega
  | succ n ih =>
    intro _
    simp only [wkA]
    split
    · omega
    · cases n with
      | zero => simp [wkA]
      | succ n => have := ih (by omega); omega
def brkA (l : List (Int × Int)) (s : Int) : Bool := l.any fun b => brkB b s
def stpN (l : List (Int × Int)) : Nat → Nat → Nat
  | 0, s => s
  | f + 1, s => if brkA l (s + 1) = true then s else stpN l f (s + 1)
end Go.Proofs.YtgagfmjpmdgfdaaDoor
