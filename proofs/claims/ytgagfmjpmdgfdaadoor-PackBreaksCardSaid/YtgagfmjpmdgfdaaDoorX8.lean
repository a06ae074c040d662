/- Yields, plain. -/
import Derived.Test.YtgagfmjpmdgfdaaDoorX7
set_option linter.unusedSimpArgs false
set_option linter.unusedVariables false
namespace Go.Proofs.YtgagfmjpmdgfdaaDoor
open Go.Ab
def yldM (p : List Lay) (m : Int) : Int × Int := if packE p = 0 then if 0 ≤ m ∧ m ≤ 65536 then ((melt (preZ p) p m 0).2.2, 0) else (0, 1) else (0, 20)
theorem melt_mono {p : List Lay} {z : List Lay} {a b : Int} (h : packE p = 0) (ha : 0 ≤ a) (hab : a ≤ b) : (melt z p a 0).2.2 ≤ (melt z p b 0).2.2 := by
  have o1 := colOk_of h
  have a1 := melt_itM (p := z) o1 ha
  have a3 := melt_itM (p := z) (much := b) o1 (by omega)
  have h2 := melt_E (pre := z) h ha
  have a2 := melt_itM (p := []) (colOk_of h2.1) (show 0 ≤ b - a by omega)
  have h3 := melt_E (pre := []) h2.1 (show 0 ≤ b - a by omega)
  have a4 := itM_add melt1 a.toNat (b - a).toNat p
  rw [show a.toNat + (b - a).toNat = b.toNat by omega] at a4
  rw [a3.2, a4, a1.2]
  rw [a1.1] at a2 h3
  rw [a2.2] at h3
  simp only []; omega
/-- The least number below n for which f holds, or n. -/
def lsN (f : Nat → Bool) : Nat → Nat
  | 0 => 0
  | n + 1 => if lsN f n < n then lsN f n else if f n = true then n else n + 1
theorem lsN_ok (f : Nat → Bool) : ∀ n, lsN f n ≤ n ∧ (∀ j, j < lsN f n → f j = false) ∧ (lsN f n < n → f (lsN f n) = true) := by
  intro n
  induction n with
  | zero => exact ⟨Nat.le_refl _, fun j hj => by simp [lsN] at hj, fun h => by simp [lsN] at h⟩
  | succ n ih =>
    obtain ⟨h1, h2, h3⟩ := ih
    simp only [lsN]
    split
    · exact ⟨by omega, h2, fun _ => h3 (by omega)⟩
    · rename_i hlt
      have he : lsN f n = n := by omega
      rw [he] at h2
      split
      · rename_i hf; exact ⟨by omega, h2, fun _ => hf⟩
      · rename_i hf
        refine ⟨by omega, fun j hj => ?_, fun h => by omega⟩
        by_cases hj2 : j = n
        · subst hj2; simpa using hf
        · exact h2 j (by omega)
theorem lsN_eq {f : Nat → Bool} {n k : Nat} (h1 : k ≤ n) (h2 : ∀ j, j < k → f j = false) (h3 : k < n → f k = true) : lsN f n = k := by
  obtain ⟨g1, g2, g3⟩ := lsN_ok f n
  rcases Nat.lt_trichotomy (lsN f n) k with h | h | h
  · have := g3 (by omega); rw [h2 _ h] at this; cases this
  · exact h
  · have := h3 (by omega); rw [g2 _ h] at this; cases this
def enF (p : List Lay) (out : Int) (m : Nat) : Bool := decide (out ≤ (melt (preZ p) p m 0).2.2)
def enM (p : List Lay) (out : Int) : Int × Bool × Int :=
  if packE p = 0 then if 0 ≤ out ∧ out ≤ 65536 then if lsN (enF p out) 65537 < 65537 then ((lsN (enF p out) 65537 : Nat), true, 0) else (0, false, 0) else (0, false, 1) else (0, false, 20)
theorem enF_up {p : List Lay} {out : Int} {a b : Nat} (h : packE p = 0) (hab : a ≤ b) (ha : enF p out a = true) : enF p out b = true := by
  unfold enF at *
  have h1 := of_decide_eq_true ha
  have h2 := melt_mono (z := preZ p) h (show (0 : Int) ≤ (a : Nat) by omega) (show ((a : Nat) : Int) ≤ (b : Nat) by omega)
  exact decide_eq_true (by omega)
theorem yld_ok {p : List Lay} {m : Int} (h : (yldM p m).2 = 0) : packE p = 0 ∧ (0 ≤ m ∧ m ≤ 65536) ∧ (yldM p m).1 = (melt (preZ p) p m 0).2.2 := by
  unfold yldM at *
  by_cases h1 : packE p = 0
  · rw [if_pos h1] at h ⊢
    by_cases h2 : 0 ≤ m ∧ m ≤ 65536
    · rw [if_pos h2]; exact ⟨h1, h2, rfl⟩
    · rw [if_neg h2] at h; simp at h
  · rw [if_neg h1] at h; simp at h
theorem yld_of {p : List Lay} {m : Int} (h1 : packE p = 0) (h2 : 0 ≤ m ∧ m ≤ 65536) : yldM p m = ((melt (preZ p) p m 0).2.2, 0) := by
  unfold yldM; rw [if_pos h1, if_pos h2]
theorem yld_no {p : List Lay} {m : Int} (h : ¬ (yldM p m).2 = 0) : (yldM p m).1 = 0 := by
  unfold yldM at *
  by_cases h1 : packE p = 0
  · rw [if_pos h1] at h ⊢
    by_cases h2 : 0 ≤ m ∧ m ≤ 65536
    · rw [if_pos h2] at h; exact absurd rfl h
    · rw [if_neg h2]
  · rw [if_neg h1]
/-- What yields are. -/
theorem yld_app {p : List Lay} {m : Int} (h : (yldM p m).2 = 0) : appM p ⟨3, m, 0⟩ = ((appM p ⟨3, m, 0⟩).1, (yldM p m).1, 0) ∧ (yldM p m).1 ≤ watL p ∧ ((appM p ⟨3, m, 0⟩).1 = [] → (yldM p m).1 = watL p) := by
  obtain ⟨h1, h2, h3⟩ := yld_ok h
  have h4 := app_melt (m := m) h1 h2.1 h2.2
  have h5 := melt_E (pre := preZ p) h1 h2.1
  have h6 := watL_pos (colV_of h5.1)
  rw [h4, h3]
  simp only []
  exact ⟨trivial, by omega, fun h => by rw [h] at h5; simp only [watL] at h5; omega⟩
theorem yld_mono {p : List Lay} {m n : Int} (h : (yldM p m).2 = 0) (h2 : (yldM p n).2 = 0) (hmn : m ≤ n) : (yldM p m).1 ≤ (yldM p n).1 := by
  obtain ⟨a1, a2, a3⟩ := yld_ok h
  obtain ⟨b1, b2, b3⟩ := yld_ok h2
  rw [a3, b3]; exact melt_mono a1 a2.1 hmn
theorem en_ok {p : List Lay} {out : Int} (hp : packE p = 0) :
    ((enM p out).2.2 ≠ 0 → enM p out = (0, false, 1) ∧ (out < 0 ∨ 65536 < out)) ∧
    ((enM p out).2.2 = 0 → (enM p out).2.1 = false → (enM p out).1 = 0 ∧ (yldM p 65536).1 < out) ∧
    ((enM p out).2.2 = 0 → (enM p out).2.1 = true → 0 ≤ (enM p out).1 ∧ (enM p out).1 ≤ 65536 ∧ out ≤ (yldM p (enM p out).1).1 ∧ ((enM p out).1 ≠ 0 → (yldM p ((enM p out).1 - 1)).1 < out)) := by
  obtain ⟨g1, g2, g3⟩ := lsN_ok (enF p out) 65537
  unfold enM
  rw [if_pos hp]
  by_cases ho : 0 ≤ out ∧ out ≤ 65536
  · rw [if_pos ho]
    by_cases hk : lsN (enF p out) 65537 < 65537
    · rw [if_pos hk]
      generalize lsN (enF p out) 65537 = k at *
      refine ⟨fun h => absurd rfl h, fun _ h => (by cases h), fun _ _ => ?_⟩
      simp only []
      have e1 := of_decide_eq_true (show decide _ = true from g3 hk)
      rw [yld_of hp (by omega)]
      refine ⟨by omega, by omega, e1, fun hk0 => ?_⟩
      have e2 := of_decide_eq_false (show decide _ = false from g2 (k - 1) (by omega))
      rw [yld_of hp (by omega), show ((k : Nat) : Int) - 1 = ((k - 1 : Nat) : Int) by omega]
      simp only []; omega
    · rw [if_neg hk]
      refine ⟨fun h => absurd rfl h, fun _ _ => ⟨rfl, ?_⟩, fun _ h => (by cases h)⟩
      have e2 := of_decide_eq_false (show decide _ = false from g2 65536 (by omega))
      rw [yld_of hp (by omega)]
      simp only []
      have : ((65536 : Nat) : Int) = 65536 := rfl
      rw [this] at e2; omega
  · rw [if_neg ho]
    exact ⟨fun _ => ⟨rfl, by omega⟩, fun h => by simp at h, fun h => by simp at h⟩
end Go.Proofs.YtgagfmjpmdgfdaaDoor
