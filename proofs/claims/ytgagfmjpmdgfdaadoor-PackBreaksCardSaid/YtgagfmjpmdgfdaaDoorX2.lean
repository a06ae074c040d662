/- Packs that lie within packs, plain. -/
import Derived.Test.YtgagfmjpmdgfdaaDoorQ8
import Derived.Test.YtgagfmjpmdgfdaaDoorQ1
set_option linter.unusedSimpArgs false
set_option linter.unusedVariables false
namespace Go.Proofs.YtgagfmjpmdgfdaaDoor
open Go.Ab
def leL (a b : Lay) : Bool := decide (a.ice ≤ b.ice) && decide (a.wet ≤ b.wet) && decide (a.cold ≤ b.cold)
theorem leL_iff {a b : Lay} : leL a b = true ↔ a.ice ≤ b.ice ∧ a.wet ≤ b.wet ∧ a.cold ≤ b.cold := by simp [leL, and_assoc]
def leLs : List Lay → List Lay → Bool
  | [], [] => true
  | a :: p, b :: q => leL a b && leLs p q
  | _, _ => false
theorem leLs_iff : ∀ {p q : List Lay}, leLs p q = true ↔ p.length = q.length ∧ ∀ (i : Nat) (h : i < p.length) (h2 : i < q.length), leL p[i] q[i] = true := by
  intro p
  induction p with
  | nil =>
    intro q
    cases q with
    | nil => simp [leLs]
    | cons b q => simp [leLs]
  | cons a p ih =>
    intro q
    cases q with
    | nil => simp [leLs]
    | cons b q =>
      simp only [leLs, Bool.and_eq_true, ih, List.length_cons]
      constructor
      · rintro ⟨h1, h2, h3⟩
        refine ⟨by omega, fun i h h2 => ?_⟩
        cases i with
        | zero => exact h1
        | succ i => exact h3 i (by omega) (by omega)
      · rintro ⟨h1, h2⟩
        exact ⟨h2 0 (by omega) (by omega), by omega, fun i h h3 => h2 (i + 1) (by omega) (by omega)⟩
theorem leLs_len {p q : List Lay} (h : leLs p q = true) : p.length = q.length := (leLs_iff.1 h).1
theorem leLs_refl : ∀ p, leLs p p = true := by
  intro p
  exact leLs_iff.2 ⟨rfl, fun i h h2 => leL_iff.2 ⟨Int.le_refl _, Int.le_refl _, Int.le_refl _⟩⟩
theorem leLs_trans {p q r : List Lay} (h : leLs p q = true) (h2 : leLs q r = true) : leLs p r = true := by
  have h1 := leLs_iff.1 h
  have h3 := leLs_iff.1 h2
  refine leLs_iff.2 ⟨by omega, fun i a b => ?_⟩
  have c1 := leL_iff.1 (h1.2 i a (by omega))
  have c2 := leL_iff.1 (h3.2 i (by omega) b)
  exact leL_iff.2 (by omega)
theorem leLs_anti {p q : List Lay} (h : leLs p q = true) (h2 : leLs q p = true) : p = q := by
  have h1 := leLs_iff.1 h
  have h3 := leLs_iff.1 h2
  refine List.ext_getElem h1.1 fun i a b => ?_
  have c1 := leL_iff.1 (h1.2 i a b)
  have c2 := leL_iff.1 (h3.2 i b a)
  generalize p[i] = x at *
  generalize q[i] = y at *
  cases x; cases y
  simp only [Lay.mk.injEq] at *
  omega
theorem leLs_sum : ∀ {p q : List Lay}, leLs p q = true → watL p ≤ watL q ∧ coldL p ≤ coldL q := by
  intro p
  induction p with
  | nil =>
    intro q h
    cases q with
    | nil => exact ⟨Int.le_refl _, Int.le_refl _⟩
    | cons b q => cases h
  | cons a p ih =>
    intro q h
    cases q with
    | nil => cases h
    | cons b q =>
      simp only [leLs, Bool.and_eq_true] at h
      have h1 := leL_iff.1 h.1
      have h2 := ih h.2
      simp only [watL, coldL]; omega
theorem leLs_drop {p q : List Lay} (n : Nat) (h : leLs p q = true) : leLs (p.drop n) (q.drop n) = true := by
  have h1 := leLs_iff.1 h
  refine leLs_iff.2 ⟨by simp only [List.length_drop]; omega, fun i a b => ?_⟩
  rw [List.getElem_drop, List.getElem_drop]
  exact h1.2 _ _ _
/-- Whether layers lie within others, from the bottom. -/
def lessB (p q : List Lay) : Bool := decide (p.length ≤ q.length) && leLs p (q.drop (q.length - p.length))
theorem lessB_iff {p q : List Lay} : lessB p q = true ↔ p.length ≤ q.length ∧ leLs p (q.drop (q.length - p.length)) = true := by simp [lessB]
def lesM (p q : List Lay) : Bool × Int := if packE p = 0 ∧ packE q = 0 then (lessB p q, 0) else (false, 20)
theorem lessB_yes {p q : List Lay} (h : p.length ≤ q.length) (ha : ∀ (j : Nat) (h1 : j < p.length) (h2 : q.length - p.length + j < q.length), leL p[j] q[q.length - p.length + j] = true) : lessB p q = true := by
  refine lessB_iff.2 ⟨h, leLs_iff.2 ⟨by simp only [List.length_drop]; omega, fun i a b => ?_⟩⟩
  rw [List.getElem_drop]
  exact ha i a (by omega)
theorem lessB_no {p q : List Lay} {j : Nat} (h1 : j < p.length) (h2 : q.length - p.length + j < q.length) (hn : leL p[j] q[q.length - p.length + j] = false) : lessB p q = false := by
  apply Bool.eq_false_iff.2
  intro h
  have h3 := lessB_iff.1 h
  have h4 := (leLs_iff.1 h3.2).2 j h1 (by simp only [List.length_drop]; omega)
  rw [List.getElem_drop, hn] at h4; cases h4
theorem lessB_short {p q : List Lay} (h : ¬ p.length ≤ q.length) : lessB p q = false := by simp [lessB, h]
theorem less_refl (p : List Lay) : lessB p p = true := lessB_iff.2 ⟨Nat.le_refl _, by rw [Nat.sub_self, List.drop_zero]; exact leLs_refl p⟩
theorem less_anti (p q : List Lay) : (lessB p q && lessB q p) = sameB p q := by
  by_cases h : p = q
  · subst h; simp [less_refl, sameB]
  · rw [show sameB p q = false from decide_eq_false h]
    apply Bool.eq_false_iff.2
    intro h1
    have h2 := Bool.and_eq_true_iff.1 h1
    have h3 := lessB_iff.1 h2.1
    have h4 := lessB_iff.1 h2.2
    have e1 : q.length - p.length = 0 := by omega
    have e2 : p.length - q.length = 0 := by omega
    rw [e1, List.drop_zero] at h3
    rw [e2, List.drop_zero] at h4
    exact h (leLs_anti h3.2 h4.2)
theorem less_trans {p q r : List Lay} (h : lessB p q = true) (h2 : lessB q r = true) : lessB p r = true := by
  have h3 := lessB_iff.1 h
  have h4 := lessB_iff.1 h2
  refine lessB_iff.2 ⟨by omega, leLs_trans h3.2 ?_⟩
  have h5 := leLs_drop (q.length - p.length) h4.2
  rw [List.drop_drop] at h5
  rw [show r.length - p.length = r.length - q.length + (q.length - p.length) by omega]
  exact h5
theorem less_sum {p q : List Lay} (hq : ∀ x ∈ q, layB x = true) (h : lessB p q = true) : watL p ≤ watL q ∧ coldL p ≤ coldL q := by
  have h3 := lessB_iff.1 h
  have h4 := leLs_sum h3.2
  have h5 := watL_append (q.take (q.length - p.length)) (q.drop (q.length - p.length))
  have h6 := coldL_append (q.take (q.length - p.length)) (q.drop (q.length - p.length))
  rw [List.take_append_drop] at h5 h6
  have h7 := watL_bd (all_take (n := q.length - p.length) hq)
  have h8 := coldL_bd (all_take (n := q.length - p.length) hq)
  omega
theorem less_snow {p : List Lay} {s : Stp} (hk : s.kind = 1) (hok : (appM p s).2.2 = 0) : lessB p (appM p s).1 = true ∧ packE (appM p s).1 = 0 := by
  unfold appM at *
  by_cases h1 : packE p = 0
  · rw [if_pos h1] at hok ⊢
    by_cases h2 : stepE s = 0
    · rw [if_pos h2] at hok ⊢
      by_cases h3 : (stpK (preZ p) p s).2.2.2 = 0
      · rw [if_pos h3] at hok ⊢
        by_cases h4 : packE (stpK (preZ p) p s).2.1 = 0
        · rw [if_pos h4] at hok ⊢
          refine ⟨?_, h4⟩
          simp only []
          unfold stpK at h3 ⊢
          rw [if_pos hk] at h3 ⊢
          simp only [snwK] at h3 ⊢
          split
          · exact less_refl p
          · split
            · exact less_refl p
            · refine lessB_iff.2 ⟨by simp, ?_⟩
              simp only [List.length_cons]
              rw [show p.length + 1 - p.length = 1 by omega]
              exact leLs_refl p
        · rw [if_neg h4] at hok; simp at hok
      · rw [if_neg h3] at hok; exact absurd hok h3
    · rw [if_neg h2] at hok; simp at hok
  · rw [if_neg h1] at hok; simp at hok
end Go.Proofs.YtgagfmjpmdgfdaaDoor
