/- L6. -/
import Derived.Test.YtelenedgaoglaaaGreatDoorR27
import Derived.Test.YtelenedgaoglaaaGreatDoorZ4
set_option linter.unusedSimpArgs false
set_option linter.unusedVariables false
namespace Go.Proofs.YtelenedgaoglaaaGreatDoor
open Go.Ab
open Go.Pil Go.RowKit
theorem ints_gY {l : List Int} {k : Nat} (hj : k < l.length) : (ints l)[((k : Nat) : Int).toNat]? = some [I (l.getD k 0)] := ints_gD (by omega) hj
end Go.Proofs.YtelenedgaoglaaaGreatDoor
