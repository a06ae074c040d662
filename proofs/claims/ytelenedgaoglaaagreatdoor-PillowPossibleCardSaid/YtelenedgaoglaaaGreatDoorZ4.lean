/- Z4. -/
import Derived.Test.YtelenedgaoglaaaGreatDoorZ1
import Derived.Test.YtelenedgaoglaaaGreatDoorR15
import Derived.Test.YtelenedgaoglaaaGreatDoorMA
set_option linter.unusedSimpArgs false
set_option linter.unusedVariables false
namespace Go.Proofs.YtelenedgaoglaaaGreatDoor
open Go.Ab
open Go.Pil Go.RowKit
theorem sps_gD {L : List Sp} {k : Int} {j : Nat} (h : k.toNat = j) (hj : j < L.length) : (sps L)[k.toNat]? = some (eN (L.getD j ⟨0, 0⟩)) := by
  subst h
  simp [sps, hj]
end Go.Proofs.YtelenedgaoglaaaGreatDoor
