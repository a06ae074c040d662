/- Z4. -/
import Derived.Test.YtelenedgaoglaaaGreatDoorZ2
import Derived.Test.YtelenedgaoglaaaGreatDoorRB
import Derived.Test.YtelenedgaoglaaaGreatDoorMA
set_option linter.unusedSimpArgs false
set_option linter.unusedVariables false
namespace Go.Proofs.YtelenedgaoglaaaGreatDoor
open Go.Ab
open Go.Pil Go.RowKit
theorem cwE_world {p : Plw} {w : List Sp} {l x : List Int} (h0 : rcE p w l = 0) (hxl : x.length = l.length) (hW : Go.Pil.World ((p.pb w).a l) (p.pb w).w l.length fun k => x.getD k 0) : cwE p w l x (rcE p w l) = 0 := by
  obtain ⟨g1, g2, g3, g4⟩ := rcE_0.1 h0
  unfold cwE
  rw [h0, if_neg (by decide), if_neg (by omega), if_pos (cwB_yes fun k hk => ?_)]
  have h := world_iff.1 hW k (by omega)
  unfold fitB
  rw [hasS_iff]
  unfold behind at h
  unfold reachP hereX
  by_cases hk0 : k = 0
  · subst hk0; rw [if_pos rfl] at h; rw [if_pos (by rfl)]; exact h
  · rw [if_neg hk0] at h; rw [if_neg (by omega), if_neg hk0]; exact h
end Go.Proofs.YtelenedgaoglaaaGreatDoor
