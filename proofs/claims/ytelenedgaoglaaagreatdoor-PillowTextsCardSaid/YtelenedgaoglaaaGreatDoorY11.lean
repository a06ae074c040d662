/- Y11. -/
import Derived.Test.YtelenedgaoglaaaGreatDoorY2
import Derived.Test.YtelenedgaoglaaaGreatDoorRB
import Derived.Test.YtelenedgaoglaaaGreatDoorRC
import Derived.Test.YtelenedgaoglaaaGreatDoorZ2
import Derived.Test.YtelenedgaoglaaaGreatDoorAdA
import Derived.Test.YtelenedgaoglaaaGreatDoorAbC
import Derived.Test.YtelenedgaoglaaaGreatDoorR27
set_option linter.unusedSimpArgs false
set_option linter.unusedVariables false
namespace Go.Proofs.YtelenedgaoglaaaGreatDoor
open Go.Ab
open Go.Pil Go.RowKit
def Few (p : Plw) : Prop := p.log.length ≤ 8 ∨ 32 < p.log.length
theorem Few.le {p : Plw} (h : Few p) (hp : OkP p) : p.log.length ≤ 8 := by have := hp.len; unfold Few at h; omega
end Go.Proofs.YtelenedgaoglaaaGreatDoor
