/- The ends of drifts and turns, plain. -/
import Derived.Test.YtphoomnonenalaaDoorM4
set_option linter.unusedSimpArgs false
set_option linter.unusedVariables false
namespace Go.Proofs.YtphoomnonenalaaDoor
open Go.Ab
theorem dr_far {s : Scl} {k a b : Int} (h : scaleE s = 0) (ha : 0 ≤ a ∧ a ≤ 1048576) (hb : 0 ≤ b ∧ b ≤ 1048576) : (drS s a k).lo ≤ (drS s b k).hi + s.rate * far a b := by
  have hs := scaleE_0 h
  have hr := scaleB_rate hs
  have hB := drS_bd (k := k) hs hb
  have hF := mfar_pos hr.1 a b
  refine drLo_le.2 ⟨by omega, fun t ht => ?_⟩
  have htb := testB_bd (scaleB_tests hs t (mem_known ht))
  have h1 := mfar_pos hr.1 t.day a
  have h2 : t.lo - s.rate * far t.day a - s.rate * far a b ≤ (drS s b k).hi := by
    refine le_drHi.2 ⟨by omega, fun u hu => ?_⟩
    have h3 := known_ok h t ht u hu
    have h4 := mfar_tri hr.1 t.day a u.day
    have h5 := mfar_tri hr.1 a b u.day
    rw [far_comm b u.day] at h5
    unfold okT at h3
    omega
  omega
theorem dr_le {s : Scl} {k a : Int} (h : scaleE s = 0) (ha : 0 ≤ a ∧ a ≤ 1048576) : (drS s a k).lo ≤ (drS s a k).hi := by
  have := dr_far (k := k) h ha ha
  rw [far_self, Int.mul_zero] at this
  omega
theorem mx1_le {a b c : Int} : mx a [b] ≤ c ↔ a ≤ c ∧ b ≤ c := by rw [mx1]; split <;> omega
theorem le_mn1 {a b c : Int} : c ≤ mn a [b] ↔ c ≤ a ∧ c ≤ b := by rw [mn1]; split <;> omega
theorem tn_le {s : Scl} {k a b : Int} (h : scaleE s = 0) (ha : 0 ≤ a ∧ a ≤ 1048576) (hb : 0 ≤ b ∧ b ≤ 1048576) : (tnS s a b k).lo ≤ (tnS s a b k).hi := by
  have h1 := dr_far (k := k) h ha hb
  have h2 := dr_far (k := k) h hb ha
  have h3 := dr_le (k := k) h ha
  have h4 := dr_le (k := k) h hb
  have h5 := mfar_pos (scaleB_rate (scaleE_0 h)).1 a b
  rw [far_comm b a] at h2
  unfold tnS
  dsimp only
  rw [mx1_le, le_mn1, le_mn1]
  omega
theorem tn_self {s : Scl} {k a : Int} (h : scaleE s = 0) (ha : 0 ≤ a ∧ a ≤ 1048576) : tnS s a a k = ⟨0, 0⟩ := by
  have h3 := dr_le (k := k) h ha
  unfold tnS
  rw [far_self, Int.mul_zero, mx1, mn1]
  congr 1 <;> split <;> omega
/-- What the law's reach says of n. -/
theorem reach_iff {s : Scl} {k a b n : Int} (h : scaleE s = 0) (ha : 0 ≤ a ∧ a ≤ 1048576) (hb : 0 ≤ b ∧ b ≤ 1048576) :
    ((tnS s a b k).lo ≤ n ∧ n ≤ (tnS s a b k).hi) ↔ (mx (drS s a k).lo [(drS s b k).lo - n] ≤ mn (drS s a k).hi [(drS s b k).hi - n] ∧ 0 - s.rate * far a b ≤ n ∧ n ≤ s.rate * far a b) := by
  have h3 := dr_le (k := k) h ha
  have h4 := dr_le (k := k) h hb
  unfold tnS
  dsimp only
  rw [mx1_le, le_mn1, mx1_le, le_mn1, le_mn1]
  omega
theorem pin1 {s : Scl} {k d g : Int} (h : scaleE s = 0) : pinB s k [d] [g] = decide ((drS s d k).lo ≤ g ∧ g ≤ (drS s d k).hi) := by
  rw [Bool.eq_iff_iff, pin_iff (days := [d]) (grams := [g]) h rfl, decide_eq_true_eq]
  constructor
  · intro h1; exact (h1 0 (by simp) (by simp)).1
  · intro h1 i hi hi2
    obtain rfl : i = 0 := by simp at hi; exact hi
    exact ⟨h1, fun j hj => absurd hj (Nat.not_lt_zero _)⟩
theorem pin2 {s : Scl} {k d g d' g' : Int} (h : scaleE s = 0) : pinB s k [d, d'] [g, g'] = decide (((drS s d k).lo ≤ g ∧ g ≤ (drS s d k).hi) ∧ ((drS s d' k).lo ≤ g' ∧ g' ≤ (drS s d' k).hi) ∧ g' - g ≤ s.rate * far d' d ∧ g - g' ≤ s.rate * far d' d) := by
  rw [Bool.eq_iff_iff, pin_iff (days := [d, d']) (grams := [g, g']) h rfl, decide_eq_true_eq]
  constructor
  · intro h1
    have h2 := h1 0 (by simp) (by simp)
    have h3 := h1 1 (by simp) (by simp)
    exact ⟨h2.1, h3.1, h3.2 0 (by omega)⟩
  · rintro ⟨h1, h2, h3⟩ i hi hi2
    match i, hi with
    | 0, _ => exact ⟨h1, fun j hj => absurd hj (Nat.not_lt_zero _)⟩
    | 1, _ => exact ⟨h2, fun j hj => by obtain rfl : j = 0 := by omega
                                        exact h3⟩
    | i + 2, hi => simp at hi; omega
end Go.Proofs.YtphoomnonenalaaDoor
