/- X1. -/
import Derived.Test.YtelenedgaoglaaaDoorR27
set_option linter.unusedSimpArgs false
set_option linter.unusedVariables false
namespace Go.Proofs.YtelenedgaoglaaaDoor
open Go.Ab
open Go.Pil Go.RowKit

theorem CasE_ne {p : Plw} {w : List Sp} (h : CasE p w ≠ 0) : CasL p w = [] := by
  unfold CasE at h
  unfold CasL
  split at h
  · rename_i h1; rw [if_pos h1]; exact (casE_ne h).1
  · rename_i h1; rw [if_neg h1]
theorem CasE_0 {p : Plw} {w : List Sp} (h : CasE p w = 0) : okP p = true ∧ okW p w = true ∧ CasL p w = casesA p w ∧ (CasL p w).length ≤ 64 := by
  unfold CasE at h
  split at h
  · rename_i h1
    obtain ⟨g1, g2⟩ := rdE_0 h1
    have e : CasL p w = casL p w := if_pos h1
    have h2 : ¬ 64 < (casesA p w).length := fun hq => by unfold casE at h; rw [if_pos hq] at h; omega
    have e2 : casL p w = casesA p w := if_neg h2
    rw [e, e2]
    exact ⟨g1, g2, rfl, by omega⟩
  · rename_i h1; exact absurd h h1
theorem mem_cases {p : Plw} {w : List Sp} (h : CasE p w = 0) {l : List Int} : l ∈ CasL p w ↔ rcE p w l = 0 ∧ aliveP p w l := by
  obtain ⟨g1, g2, g3, _⟩ := CasE_0 h
  have hp := okP_iff.1 g1
  rw [g3]
  unfold casesA
  rw [mem_lev _ hp.faults.1, rcE_0]
  constructor
  · intro hr
    exact ⟨⟨g1, g2, hr.1, hr.2.1⟩, alive_of hr⟩
  · rintro ⟨⟨_, _, h3, h4⟩, h5⟩
    refine ⟨h3, h4, ?_⟩
    unfold aliveP at h5; rw [h3] at h5; exact h5
theorem cases_less {p : Plw} {w : List Sp} (h : CasE p w = 0) {i j : Nat} (hij : i < j) (hj : j < (CasL p w).length) : lessB (CasL p w)[i] (CasL p w)[j] = true := by
  obtain ⟨g1, g2, g3, _⟩ := CasE_0 h
  have hs : (CasL p w).Pairwise fun a b => lessB a b = true := by rw [g3]; exact lev_sorted _ _
  exact List.pairwise_iff_getElem.1 hs i j (by omega) hj hij

theorem okW_all {p : Plw} {w : List Sp} (h : okW p w = true) : w.length = p.log.length - 1 ∧ ∀ s ∈ w, s.lo ≤ s.hi ∧ -65536 ≤ s.lo ∧ s.hi ≤ 65536 := by
  simp only [okW, Bool.and_eq_true, decide_eq_true_eq, List.all_eq_true, spB] at h
  exact ⟨h.1, fun s hs => ⟨(h.2 s hs).1.1, (h.2 s hs).1.2, (h.2 s hs).2⟩⟩

end Go.Proofs.YtelenedgaoglaaaDoor
