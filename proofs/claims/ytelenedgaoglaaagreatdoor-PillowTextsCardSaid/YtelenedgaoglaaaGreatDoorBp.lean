/- A row of any parameters: what its law function does is what the row says. -/
import Derived.Test.YtelenedgaoglaaaGreatDoorBo
set_option linter.unusedVariables false
set_option maxRecDepth 20000
namespace Go.Proofs.YtelenedgaoglaaaGreatDoor
open Go.Ab Go.ChangeShapes Go.WideShapes Go.ChangeAt Go.RowKit
theorem ArgsFit.cons {A : Arg} {As : List Arg} {avs : List AV} (h : ArgsFit (A :: As) avs) : ∃ (a : A.α) (xs : List AV), avs = A.e a :: xs ∧ ArgsFit As xs := by
  cases avs with
  | nil => exact h.elim
  | cons x xs => obtain ⟨⟨a, rfl⟩, h2⟩ := h; exact ⟨a, xs, rfl, h2⟩
theorem ArgsFit.nil {avs : List AV} (h : ArgsFit [] avs) : avs = [] := by
  cases avs with
  | nil => rfl
  | cons x xs => exact h.elim
theorem own : ownKnob Tryz.prog.godebug = none := by kernel_rfl
theorem laidOut : laidOutB Tryz.prog = true := by kernel_rfl
theorem gT : Tryz.prog.globalNamed "internal/strconv.uint64pow10" = some 0 := by kernel_rfl
def litV : DataW Unit → Value
  | .lit (.int k n) => .int k n
  | _ => undef
def setCs (cs : Array Value) : Obj → Obj
  | .cells _ t fr => .cells cs t fr
  | o => o
theorem gTy : (Tryz.prog.globals[0]?).map (·.type) = some 205 := by kernel_rfl
theorem cells136 : Tryz.prog.cellsOf 179 = 1 := by kernel_rfl
theorem cells156 : Tryz.prog.cellsOf 205 = 20 := by kernel_rfl
end Go.Proofs.YtelenedgaoglaaaGreatDoor
