/- R28. -/
import Derived.Test.YtelenedgaoglaaaGreatDoorR27
set_option linter.unusedSimpArgs false
set_option linter.unusedVariables false
namespace Go.Proofs.YtelenedgaoglaaaGreatDoor
open Go.Ab
open Go.Pil Go.RowKit
def zP : List AV := [I 0, I 0, I 0, I 0, I 0, I 0, .sc (.slice none 0 0)]
end Go.Proofs.YtelenedgaoglaaaGreatDoor
