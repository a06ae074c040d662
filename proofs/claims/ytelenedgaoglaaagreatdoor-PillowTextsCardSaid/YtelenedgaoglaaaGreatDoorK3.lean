/- Arrays of two numbers compared. -/
import Derived.Test.YtelenedgaoglaaaGreatDoorK2
import Derived.ChangeKeysEq
set_option linter.unusedSimpArgs false
set_option linter.unusedVariables false
namespace Go.Proofs.YtelenedgaoglaaaGreatDoor
open Go.Ab Go.Pil Go.RowKit
theorem g27 : Tryz.prog.eqGuardType Tryz.prog.depth 56 = false := by kernel_rfl
theorem c3 : Tryz.prog.cellsOf 3 = 1 := by kernel_rfl
set_option maxRecDepth 20000 in
theorem eqIn27 (k : Nat) (a b c d : Int) (w : World) : (Op.equalIn (k + 2) 56 (v2 a b) (v2 c d)).run Tryz.prog w = .ok (a == c && b == d) w := by
  unfold v2
  rw [run_equalIn_array (w := w) (k + 1) _ _ Tryz.underlying56 info3, c3]
  have hi : ∀ x y w, (Op.equalIn (k + 1) 3 (.int .i64 x) (.int .i64 y)).run Tryz.prog w = .ok (x == y) w := fun x y w => run_equalIn_int w k 3 .i64 .i64 x y Tryz.underlying3
  rw [show List.range 2 = [0, 1] from rfl]
  simp [Op.eqItems, part, Tryz.isAgg3, Tryz.sizeOf3, hi, Result.andThen]
  cases h1 : a == c <;> cases h2 : b == d <;> simp_all
theorem eq27 (a b c d : Int) (w : World) : (Op.equal 56 (v2 a b) (v2 c d)).run Tryz.prog w = .ok (a == c && b == d) w := eqIn27 9998 a b c d w
theorem el27 (x y : Operand) (a b c d : Int) (w : World) : (do eqGuard .eql 56 x y (v2 a b) (v2 c d); binOp .eql 56 (v2 a b) (v2 c d) : Sem Value).run Tryz.prog w = .ok (.bool (a == c && b == d)) w := by
  have h := eq27 a b c d w
  simp only [v2] at h ⊢
  simp [eqGuard, binOp, g27, h, Result.andThen]
end Go.Proofs.YtelenedgaoglaaaGreatDoor
