/- Joining layers, plain: what it keeps. -/
import Derived.Test.YtgagfmjpmdgfdaaDoorQ13
set_option linter.unusedSimpArgs false
set_option linter.unusedVariables false
namespace Go.Proofs.YtgagfmjpmdgfdaaDoor
open Go.Ab
/-- Valid layers, without the upper bounds that sums give. -/
def layV (l : Lay) : Prop := 1 ≤ l.ice ∧ 0 ≤ l.wet ∧ l.wet ≤ l.ice / 20 ∧ 0 ≤ l.cold ∧ (l.wet = 0 ∨ l.cold = 0)
theorem packE_V {p : List Lay} : packE p = 0 ↔ p.length ≤ 64 ∧ (∀ l ∈ p, layV l) ∧ watL p ≤ 65536 ∧ coldL p ≤ 65536 := by
  rw [packE_0]
  constructor
  · rintro ⟨h1, h2, h3⟩
    exact ⟨h1, fun l hl => by have := layB_iff.1 (h2 l hl); unfold layV; omega, h3⟩
  · rintro ⟨h1, h2, h3⟩
    refine ⟨h1, fun l hl => layB_iff.2 ?_, h3⟩
    have hs := joinOk_sum (L := p) fun x hx => by have := h2 x hx; unfold layV at this; omega
    have h4 := hs.2.2 l hl
    have h5 := h2 l hl
    unfold layV at h5
    omega
def cwL : List Lay → Int
  | [] => 0
  | l :: r => l.cold - l.wet + cwL r
theorem cwL_append (a b : List Lay) : cwL (a ++ b) = cwL a + cwL b := by
  induction a with
  | nil => simp [cwL]
  | cons x a ih => simp [cwL, ih]; omega
theorem cwL_take {l : List Lay} {k : Nat} (h : k < l.length) : cwL (l.take (k + 1)) = cwL (l.take k) + (l[k].cold - l[k].wet) := by
  rw [List.take_succ_eq_append_getElem h, cwL_append]; simp [cwL]
theorem joinF_V {a b : Lay} (ha : layV a) (hb : layV b) : layV (joinF a b) := by
  unfold layV joinF at *; simp only []; omega
theorem join1_V {L : List Lay} (hL : 2 ≤ L.length) (h : ∀ l ∈ L, layV l) : (∀ l ∈ join1 L, layV l) ∧ cwL (join1 L) = cwL L ∧ coldL (join1 L) ≤ coldL L := by
  obtain ⟨P, a, b, R, e1, e2, e3⟩ := thin_split hL
  rw [e3]
  rw [e1] at h ⊢
  have ha := h a (by simp)
  have hb := h b (by simp)
  refine ⟨fun l hl => ?_, by simp [cwL_append, cwL, joinF]; omega, by unfold layV at ha hb; simp [coldL_append, coldL, joinF]; omega⟩
  simp only [List.mem_append, List.mem_cons] at hl
  rcases hl with hl | rfl | hl
  · exact h l (by simp [hl])
  · exact joinF_V ha hb
  · exact h l (by simp [hl])
theorem join1_E {L : List Lay} (hL : 2 ≤ L.length) (h : packE L = 0) : packE (join1 L) = 0 ∧ (join1 L).length = L.length - 1 ∧ watL (join1 L) = watL L ∧ cwL (join1 L) = cwL L := by
  have h1 := packE_V.1 h
  have h2 := join1_ok (joinOk_of h) hL
  have h3 := join1_V hL h1.2.1
  exact ⟨packE_V.2 ⟨by omega, h3.1, by omega, by omega⟩, h2.2.1, h2.2.2, h3.2.1⟩
/-- Joining to n layers. -/
theorem joinN_ok : ∀ (f : Nat) {L : List Lay} {n : Nat}, f = L.length → packE L = 0 → 1 ≤ n → packE (joinN f L n) = 0 ∧ (joinN f L n).length = min n L.length ∧ watL (joinN f L n) = watL L ∧ cwL (joinN f L n) = cwL L := by
  intro f
  induction f with
  | zero => intro L n hf h hn; exact ⟨h, by show L.length = _; omega, rfl, rfl⟩
  | succ f ih =>
    intro L n hf h hn
    rw [joinN]
    by_cases hg : n < L.length
    · rw [if_pos hg]
      have h1 := join1_E (by omega) h
      have h2 := ih (L := join1 L) (n := n) (by omega) h1.1 hn
      exact ⟨h2.1, by omega, by omega, by omega⟩
    · rw [if_neg hg]; exact ⟨h, by omega, rfl, rfl⟩
theorem joinN_two : ∀ (f : Nat) {L : List Lay} {n m : Nat}, f = L.length → packE L = 0 → 1 ≤ m → m ≤ n → joinN (joinN f L n).length (joinN f L n) m = joinN f L m := by
  intro f
  induction f with
  | zero => intro L n m hf h hm hmn; show joinN L.length L m = joinN 0 L m; rw [← hf]
  | succ f ih =>
    intro L n m hf h hm hmn
    by_cases hg : n < L.length
    · have h1 := join1_E (L := L) (by omega) h
      have h2 := ih (L := join1 L) (n := n) (m := m) (by omega) h1.1 hm hmn
      have a1 : joinN (f + 1) L n = joinN f (join1 L) n := by rw [joinN, if_pos hg]
      have a2 : joinN (f + 1) L m = joinN f (join1 L) m := by rw [joinN, if_pos (by omega)]
      rw [a1, a2]; exact h2
    · have a1 : joinN (f + 1) L n = L := by rw [joinN, if_neg hg]
      rw [a1, hf]
theorem joiM_two {p : List Lay} {n m : Int} (hok : (joiM p n).2 = 0) (hmn : m ≤ n) : joiM (joiM p n).1 m = joiM p m := by
  unfold joiM at hok ⊢
  by_cases h1 : packE p = 0
  · rw [if_pos h1] at hok; rw [if_pos h1]
    by_cases h2 : 1 ≤ n ∧ n ≤ 64
    · rw [if_pos h2] at hok; rw [if_pos h2]
      simp only []
      have h3 := joinN_ok p.length rfl h1 (n := n.toNat) (by omega)
      rw [if_pos h3.1, if_pos h1]
      by_cases h4 : 1 ≤ m ∧ m ≤ 64
      · rw [if_pos h4, if_pos h4, joinN_two _ rfl h1 (by omega) (by omega)]
      · rw [if_neg h4, if_neg h4]
    · rw [if_neg h2] at hok; simp at hok
  · rw [if_neg h1] at hok; simp at hok
theorem joiM_ok {p : List Lay} {n : Int} (hok : (joiM p n).2 = 0) : packE p = 0 ∧ (1 ≤ n ∧ n ≤ 64) ∧ packE (joiM p n).1 = 0 ∧ ((joiM p n).1.length : Int) = min n p.length ∧ watL (joiM p n).1 = watL p ∧ cwL (joiM p n).1 = cwL p := by
  unfold joiM at hok ⊢
  by_cases h1 : packE p = 0
  · rw [if_pos h1] at hok; rw [if_pos h1]
    by_cases h2 : 1 ≤ n ∧ n ≤ 64
    · rw [if_pos h2]
      simp only []
      have h3 := joinN_ok p.length rfl h1 (n := n.toNat) (by omega)
      exact ⟨h1, h2, h3.1, by omega, h3.2.2.1, h3.2.2.2⟩
    · rw [if_neg h2] at hok; simp at hok
  · rw [if_neg h1] at hok; simp at hok
theorem joiM_no {p : List Lay} {n : Int} (hok : ¬ (joiM p n).2 = 0) : (joiM p n).1 = [] := by
  unfold joiM at hok ⊢
  by_cases h1 : packE p = 0
  · rw [if_pos h1] at hok ⊢
    by_cases h2 : 1 ≤ n ∧ n ≤ 64
    · rw [if_pos h2] at hok; exact absurd rfl hok
    · rw [if_neg h2]
  · rw [if_neg h1]
theorem cwL_bd {l : List Lay} (h : ∀ x ∈ l, layB x = true) : -(l.length * 70000 : Int) ≤ cwL l ∧ cwL l ≤ l.length * 70000 := by
  induction l with
  | nil => simp [cwL]
  | cons a l ih =>
    have h1 := (layB_iff.1 (h a (by simp))).1
    have h2 := ih fun x hx => h x (by simp [hx])
    simp only [cwL, List.length_cons]; omega
end Go.Proofs.YtgagfmjpmdgfdaaDoor
