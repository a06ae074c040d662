/- Y2. -/
import Derived.Test.YtelenedgaoglaaaGreatDoorY1
import Derived.Test.YtelenedgaoglaaaGreatDoorZ4
import Derived.Test.YtelenedgaoglaaaGreatDoorL6
set_option linter.unusedSimpArgs false
set_option linter.unusedVariables false
namespace Go.Proofs.YtelenedgaoglaaaGreatDoor
open Go.Ab
open Go.Pil Go.RowKit
theorem okW_iff {p : Plw} {w : List Sp} : okW p w = true ↔ w.length = p.log.length - 1 ∧ w.all spB = true := by
  simp only [okW, Bool.and_eq_true, decide_eq_true_eq]
end Go.Proofs.YtelenedgaoglaaaGreatDoor
