/- Z2. -/
import Derived.Test.YtelenedgaoglaaaGreatDoorZ1
set_option linter.unusedSimpArgs false
set_option linter.unusedVariables false
namespace Go.Proofs.YtelenedgaoglaaaGreatDoor
open Go.Ab
open Go.Pil
def cwB (p : Plw) (w : List Sp) (l x : List Int) : Bool := (List.range x.length).all fun k => fitB p w l x k
def cwE (p : Plw) (w : List Sp) (l x : List Int) (e : Int) : Int := if e ≠ 0 then e else if x.length ≠ l.length then 32 else if cwB p w l x = true then 0 else 32
theorem cwB_yes {p w l x} (h : ∀ k, k < x.length → fitB p w l x k = true) : cwB p w l x = true := List.all_eq_true.2 fun k hk => h k (List.mem_range.1 hk)
end Go.Proofs.YtelenedgaoglaaaGreatDoor
