/- Openers of further kinds of parameters. -/
import Derived.Test.YtelenedgaoglaaaGreatDoorBp
set_option linter.unusedVariables false
set_option maxRecDepth 20000
namespace Go.Proofs.YtelenedgaoglaaaGreatDoor
open Go.Ab Go.ChangeShapes Go.WideShapes Go.ChangeAt Go.RowKit
theorem ok_bool {W : World} {base : Nat} {v : Value} (h : Value.okWide Tryz.prog W .any base 4 v) : ∃ b, v = .bool b := by
  unfold Value.okWide at h; rw [Tryz.underlying4] at h
  cases v <;> simp [Cell.okWide, Tryz.underlying4, Cell.ok] at h
  exact ⟨_, rfl⟩
def aBool : Arg := ⟨4, Bool, B, fun h hok => by
  obtain ⟨b, rfl⟩ := ok_bool hok
  exact ⟨b, .sc _⟩⟩
end Go.Proofs.YtelenedgaoglaaaGreatDoor
