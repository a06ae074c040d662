/- Pairs of numbers compared. -/
import Derived.Test.YtelenedgaoglaaaGreatDoorK1
set_option linter.unusedSimpArgs false
set_option linter.unusedVariables false
namespace Go.Proofs.YtelenedgaoglaaaGreatDoor
open Go.Ab Go.Pil Go.RowKit
def v2 (a b : Int) : Value := .agg #[.int .i64 a, .int .i64 b]
theorem g45 : Tryz.prog.eqGuardType Tryz.prog.depth 54 = false := by kernel_rfl
theorem s45 : Tryz.prog.stoodInHeld 54 = false := by kernel_rfl
set_option maxRecDepth 20000 in
theorem eqIn45 (k : Nat) (a b c d : Int) (w : World) : (Op.equalIn (k + 2) 54 (v2 a b) (v2 c d)).run Tryz.prog w = .ok (a == c && b == d) w := by
  have hf : Tryz.prog.fieldsOf 54 = (match Tryz.prog.underlying 54 with | some (.struct fs) => fs | _ => #[]) := rfl
  rw [Tryz.underlying54] at hf
  have hu : Tryz.prog.underlying 54 = some (.struct (Tryz.prog.fieldsOf 54)) := by rw [hf]; exact Tryz.underlying54
  unfold v2
  rw [run_equalIn_struct w (k + 1) 54 _ _ hu s45, hf]
  have hi : ∀ x y w, (Op.equalIn (k + 1) 3 (.int .i64 x) (.int .i64 y)).run Tryz.prog w = .ok (x == y) w := fun x y w => run_equalIn_int w k 3 .i64 .i64 x y Tryz.underlying3
  simp [Op.eqFields, part, Tryz.isAgg3, Tryz.sizeOf3, hi, Result.andThen]
  cases h1 : a == c <;> cases h2 : b == d <;> simp_all
theorem eq45 (a b c d : Int) (w : World) : (Op.equal 54 (v2 a b) (v2 c d)).run Tryz.prog w = .ok (a == c && b == d) w := eqIn45 9998 a b c d w
theorem ne45 (x y : Operand) (a b c d : Int) (w : World) : (do eqGuard .neq 54 x y (v2 a b) (v2 c d); binOp .neq 54 (v2 a b) (v2 c d) : Sem Value).run Tryz.prog w = .ok (.bool (!(a == c && b == d))) w := by
  have h := eq45 a b c d w
  simp only [v2] at h ⊢
  simp [eqGuard, binOp, g45, h, Result.andThen]
end Go.Proofs.YtelenedgaoglaaaGreatDoor
