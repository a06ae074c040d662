/- Z1. -/
import Derived.Test.YtelenedgaoglaaaGreatDoorR13
set_option linter.unusedSimpArgs false
set_option linter.unusedVariables false
namespace Go.Proofs.YtelenedgaoglaaaGreatDoor
open Go.Ab
open Go.Pil
theorem ints_gD {l : List Int} {k : Int} {j : Nat} (h : k.toNat = j) (hj : j < l.length) : (ints l)[k.toNat]? = some [I (l.getD j 0)] := by
  subst h
  simp [ints, hj]
end Go.Proofs.YtelenedgaoglaaaGreatDoor
