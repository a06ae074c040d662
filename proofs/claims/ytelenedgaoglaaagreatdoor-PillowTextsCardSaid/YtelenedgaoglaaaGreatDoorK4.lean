/- Equality of entries. -/
import Derived.Test.YtelenedgaoglaaaGreatDoorK2
set_option linter.unusedSimpArgs false
set_option linter.unusedVariables false
namespace Go.Proofs.YtelenedgaoglaaaGreatDoor
open Go.Ab Go.Pil Go.RowKit
theorem gS27 : Tryz.prog.eqGuardType Tryz.prog.depth 27 = false := by kernel_rfl
theorem sS27 : Tryz.prog.stoodInHeld 27 = false := by kernel_rfl
set_option maxRecDepth 20000 in
theorem eqInS27 (k : Nat) (a b c d : Int) (w : World) : (Op.equalIn (k + 2) 27 (v2 a b) (v2 c d)).run Tryz.prog w = .ok (a == c && b == d) w := by
  have hf : Tryz.prog.fieldsOf 27 = (match Tryz.prog.underlying 27 with | some (.struct fs) => fs | _ => #[]) := rfl
  rw [Tryz.underlying27] at hf
  have hu : Tryz.prog.underlying 27 = some (.struct (Tryz.prog.fieldsOf 27)) := by rw [hf]; exact Tryz.underlying27
  unfold v2
  rw [run_equalIn_struct w (k + 1) 27 _ _ hu sS27, hf]
  have hi : ∀ x y w, (Op.equalIn (k + 1) 3 (.int .i64 x) (.int .i64 y)).run Tryz.prog w = .ok (x == y) w := fun x y w => run_equalIn_int w k 3 .i64 .i64 x y Tryz.underlying3
  simp [Op.eqFields, part, Tryz.isAgg3, Tryz.sizeOf3, hi, Result.andThen]
  cases h1 : a == c <;> cases h2 : b == d <;> simp_all
theorem eqS27 (a b c d : Int) (w : World) : (Op.equal 27 (v2 a b) (v2 c d)).run Tryz.prog w = .ok (a == c && b == d) w := eqInS27 9998 a b c d w
theorem neS27 (x y : Operand) (a b c d : Int) (w : World) : (do eqGuard .neq 27 x y (v2 a b) (v2 c d); binOp .neq 27 (v2 a b) (v2 c d) : Sem Value).run Tryz.prog w = .ok (.bool (!(a == c && b == d))) w := by
  have h := eqS27 a b c d w
  simp only [v2] at h ⊢
  simp [eqGuard, binOp, gS27, h, Result.andThen]
end Go.Proofs.YtelenedgaoglaaaGreatDoor
