/- R14. -/
import Derived.Test.YtelenedgaoglaaaGreatDoorR13
set_option linter.unusedSimpArgs false
set_option linter.unusedVariables false
namespace Go.Proofs.YtelenedgaoglaaaGreatDoor
open Go.Ab
open Go.Pil
def refOk (p : Plw) (w : List Sp) (l : List Int) (x y : Int) : Prop := 0 ≤ x ∧ x < y ∧ y < l.length ∧ againstP p w l x.toNat y.toNat
instance (p w l x y) : Decidable (refOk p w l x y) := inferInstanceAs (Decidable (_ ∧ _ ∧ _ ∧ _))
end Go.Proofs.YtelenedgaoglaaaGreatDoor
