/- Bounds of what Apply returns. -/
import Derived.Test.YtgagfmjpmdgfdaaDoorXA
set_option linter.unusedSimpArgs false
set_option linter.unusedVariables false
namespace Go.Proofs.YtgagfmjpmdgfdaaDoor
open Go.Ab
theorem app_bd (p : List Lay) (s : Stp) : (0 ≤ (appM p s).2.1 ∧ (appM p s).2.1 ≤ 200000) ∧ (appM p s).1.length ≤ 64 := by
  by_cases hok : (appM p s).2.2 = 0
  · obtain ⟨a1, a2, a3, a4, a5, a6⟩ := appM_ok hok
    have hc := app_cons hok
    have b1 := packE_bd a1
    have b2 := packE_bd a4
    have hs := (stepE_0.1 a2).1
    refine ⟨⟨hc.1, ?_⟩, b2.1⟩
    by_cases k1 : s.kind = 1
    · have := hc.2.1 k1; omega
    · by_cases k2 : s.kind = 2
      · have := hc.2.2.1 k2; omega
      · by_cases k3 : s.kind = 3
        · have := hc.2.2.2.1 k3; omega
        · by_cases k4 : s.kind = 4
          · have := hc.2.2.2.2.1 k4; omega
          · have := hc.2.2.2.2.2 k1 k2 k3 k4; omega
  · obtain ⟨h1, h2⟩ := appM_no hok
    rw [h1, h2]; exact ⟨⟨by omega, by omega⟩, by simp⟩
theorem joi_len (p : List Lay) (n : Int) : (joiM p n).1.length ≤ 64 := by
  by_cases hok : (joiM p n).2 = 0
  · exact (packE_bd (joiM_ok hok).2.2.1).1
  · rw [joiM_no hok]; simp
theorem lays_nil {p : List Lay} (h : p = []) : lays p = [] := by rw [h]; rfl
theorem water_ok {p : List Lay} (h : packE p = 0) : FSpec Tryd.prog 22 [.agg (eK p)] (.tup [I (watL p), I 0]) none := by
  have := Water_s p; rwa [if_pos h, h] at this
theorem check_ok {p : List Lay} (h : packE p = 0) : FSpec Tryd.prog 26 [.agg (eK p)] (I 0) none := by
  have := Check_s p; rwa [h] at this
theorem cold_ok {p : List Lay} (h : packE p = 0) : FSpec Tryd.prog 24 [.agg (eK p)] (.tup [I (coldL p), I 0]) none := by
  have := Cold_s p; rwa [if_pos h, h] at this
theorem ready_ok {p : List Lay} (h : packE p = 0) : FSpec Tryd.prog 38 [.agg (eK p)] (.tup [I (rdyL p), I 0]) none := by
  have := Ready_s p; rwa [if_pos h, h] at this
theorem same_yes {p q : List Lay} (h : p = q) : sameB p q = true := decide_eq_true h
end Go.Proofs.YtgagfmjpmdgfdaaDoor
