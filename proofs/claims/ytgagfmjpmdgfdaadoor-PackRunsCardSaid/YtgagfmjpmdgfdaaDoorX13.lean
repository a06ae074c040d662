/- Bounds of what runs return. -/
import Derived.Test.YtgagfmjpmdgfdaaDoorQ18
set_option linter.unusedSimpArgs false
set_option linter.unusedVariables false
namespace Go.Proofs.YtgagfmjpmdgfdaaDoor
open Go.Ab
theorem run_len (p : List Lay) (l : List Stp) : (runM p l).1.length ≤ 64 ∧ (runM p l).2.1.length ≤ 256 := by
  by_cases hok : (runM p l).2.2 = 0
  · unfold runM at *
    by_cases h1 : packE p = 0
    · rw [if_pos h1] at hok ⊢
      by_cases h2 : l.length ≤ 256
      · rw [if_pos h2] at hok ⊢
        have h3 := runL_E h1 hok
        exact ⟨(packE_bd h3.1).1, by rw [h3.2]; exact h2⟩
      · rw [if_neg h2] at hok; simp at hok
    · rw [if_neg h1] at hok; simp at hok
  · obtain ⟨h1, h2⟩ := runM_no hok
    rw [h1, h2]; exact ⟨by simp, by simp⟩
theorem stpsL_z {l : List Stp} : ∀ e ∈ stpsL l, e.length = 3 := by
  intro e he; obtain ⟨_, _, rfl⟩ := List.mem_map.1 he; rfl
theorem run_take (p : List Lay) (l : List Stp) (k : Nat) : FSpec Tryd.prog 34 [.agg (eK p), .sl ((stpsL l).take k)] (.tup [.agg (eK (runM p (l.take k)).1), .sl (ints (runM p (l.take k)).2.1), I (runM p (l.take k)).2.2]) none := by
  have := Run_s p (l.take k)
  rwa [show stpsL (l.take k) = (stpsL l).take k from List.map_take] at this
end Go.Proofs.YtgagfmjpmdgfdaaDoor
