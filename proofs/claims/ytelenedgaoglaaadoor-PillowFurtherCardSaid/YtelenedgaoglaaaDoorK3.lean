/- Arrays of two numbers compared. -/
import Derived.Test.YtelenedgaoglaaaDoorK2
import Derived.ChangeKeysEq
set_option linter.unusedSimpArgs false
set_option linter.unusedVariables false
namespace Go.Proofs.YtelenedgaoglaaaDoor
open Go.Ab Go.Pil Go.RowKit
theorem g27 : Tryd.prog.eqGuardType Tryd.prog.depth 27 = false := by kernel_rfl
theorem c3 : Tryd.prog.cellsOf 3 = 1 := by kernel_rfl
set_option maxRecDepth 20000 in
theorem eqIn27 (k : Nat) (a b c d : Int) (w : World) : (Op.equalIn (k + 2) 27 (v2 a b) (v2 c d)).run Tryd.prog w = .ok (a == c && b == d) w := by
  unfold v2
  rw [run_equalIn_array (w := w) (k + 1) _ _ Tryd.underlying27 info3, c3]
  have hi : ∀ x y w, (Op.equalIn (k + 1) 3 (.int .i64 x) (.int .i64 y)).run Tryd.prog w = .ok (x == y) w := fun x y w => run_equalIn_int w k 3 .i64 .i64 x y Tryd.underlying3
  rw [show List.range 2 = [0, 1] from rfl]
  simp [Op.eqItems, part, Tryd.isAgg3, Tryd.sizeOf3, hi, Result.andThen]
  cases h1 : a == c <;> cases h2 : b == d <;> simp_all
theorem eq27 (a b c d : Int) (w : World) : (Op.equal 27 (v2 a b) (v2 c d)).run Tryd.prog w = .ok (a == c && b == d) w := eqIn27 9998 a b c d w
theorem el27 (x y : Operand) (a b c d : Int) (w : World) : (do eqGuard .eql 27 x y (v2 a b) (v2 c d); binOp .eql 27 (v2 a b) (v2 c d) : Sem Value).run Tryd.prog w = .ok (.bool (a == c && b == d)) w := by
  have h := eq27 a b c d w
  simp only [v2] at h ⊢
  simp [eqGuard, binOp, g27, h, Result.andThen]
end Go.Proofs.YtelenedgaoglaaaDoor
