/- Pairs of numbers compared. -/
import Derived.Test.YtelenedgaoglaaaDoorK1
set_option linter.unusedSimpArgs false
set_option linter.unusedVariables false
namespace Go.Proofs.YtelenedgaoglaaaDoor
open Go.Ab Go.Pil Go.RowKit
def v2 (a b : Int) : Value := .agg #[.int .i64 a, .int .i64 b]
theorem g45 : Tryd.prog.eqGuardType Tryd.prog.depth 45 = false := by kernel_rfl
theorem s45 : Tryd.prog.stoodInHeld 45 = false := by kernel_rfl
set_option maxRecDepth 20000 in
theorem eqIn45 (k : Nat) (a b c d : Int) (w : World) : (Op.equalIn (k + 2) 45 (v2 a b) (v2 c d)).run Tryd.prog w = .ok (a == c && b == d) w := by
  have hf : Tryd.prog.fieldsOf 45 = (match Tryd.prog.underlying 45 with | some (.struct fs) => fs | _ => #[]) := rfl
  rw [Tryd.underlying45] at hf
  have hu : Tryd.prog.underlying 45 = some (.struct (Tryd.prog.fieldsOf 45)) := by rw [hf]; exact Tryd.underlying45
  unfold v2
  rw [run_equalIn_struct w (k + 1) 45 _ _ hu s45, hf]
  have hi : ∀ x y w, (Op.equalIn (k + 1) 3 (.int .i64 x) (.int .i64 y)).run Tryd.prog w = .ok (x == y) w := fun x y w => run_equalIn_int w k 3 .i64 .i64 x y Tryd.underlying3
  simp [Op.eqFields, part, Tryd.isAgg3, Tryd.sizeOf3, hi, Result.andThen]
  cases h1 : a == c <;> cases h2 : b == d <;> simp_all
theorem eq45 (a b c d : Int) (w : World) : (Op.equal 45 (v2 a b) (v2 c d)).run Tryd.prog w = .ok (a == c && b == d) w := eqIn45 9998 a b c d w
theorem ne45 (x y : Operand) (a b c d : Int) (w : World) : (do eqGuard .neq 45 x y (v2 a b) (v2 c d); binOp .neq 45 (v2 a b) (v2 c d) : Sem Value).run Tryd.prog w = .ok (.bool (!(a == c && b == d))) w := by
  have h := eq45 a b c d w
  simp only [v2] at h ⊢
  simp [eqGuard, binOp, g45, h, Result.andThen]
theorem el45 (x y : Operand) (a b c d : Int) (w : World) : (do eqGuard .eql 45 x y (v2 a b) (v2 c d); binOp .eql 45 (v2 a b) (v2 c d) : Sem Value).run Tryd.prog w = .ok (.bool (a == c && b == d)) w := by
  have h := eq45 a b c d w
  simp only [v2] at h ⊢
  simp [eqGuard, binOp, g45, h, Result.andThen]
end Go.Proofs.YtelenedgaoglaaaDoor
