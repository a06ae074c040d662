/- Y8. -/
import Derived.Test.YtelenedgaoglaaaGreatDoorY2
import Derived.Test.YtelenedgaoglaaaGreatDoorRB
import Derived.Test.YtelenedgaoglaaaGreatDoorRC
import Derived.Test.YtelenedgaoglaaaGreatDoorZ2
import Derived.Test.YtelenedgaoglaaaGreatDoorR28
import Derived.Test.YtelenedgaoglaaaGreatDoorK4
import Derived.Test.YtelenedgaoglaaaGreatDoorAdA
import Derived.Test.YtelenedgaoglaaaGreatDoorAbC
set_option linter.unusedSimpArgs false
set_option linter.unusedVariables false
namespace Go.Proofs.YtelenedgaoglaaaGreatDoor
open Go.Ab
open Go.Pil Go.RowKit
def z0P : Plw := ⟨0, 0, 0, 0, 0, 0, []⟩
theorem zP_c {w' : World} {M : Nat → Option Nat} {u : Value} (h : VR w' M noV noG (.agg zP) u) : VR w' M noV noG (.agg (eP z0P)) u := by
  cases h with
  | agg _ vs hl h1 hh =>
    refine .agg _ vs hl h1 fun i c x hc hx => ?_
    rcases i with _ | _ | _ | _ | _ | _ | _ | i
    · exact hh 0 c x hc hx
    · exact hh 1 c x hc hx
    · exact hh 2 c x hc hx
    · exact hh 3 c x hc hx
    · exact hh 4 c x hc hx
    · exact hh 5 c x hc hx
    · have := hh 6 _ x rfl hx
      have e : c = .sl [] := (Option.some.inj hc).symm
      subst e
      cases this
      exact .sl0 _ _
    · cases hc
end Go.Proofs.YtelenedgaoglaaaGreatDoor
