/- Two spans compared. -/
import Derived.Test.YtphoomnonenalaaGreatDoorC11
import Derived.Laws.StructEq
namespace Go.Proofs.YtphoomnonenalaaGreatDoor
open Go.Ab Go.RowKit
theorem g40 : Tryz.prog.eqGuardType Tryz.prog.depth 51 = false := by kernel_rfl
theorem s40 : Tryz.prog.stoodInHeld 51 = false := by kernel_rfl
set_option maxRecDepth 20000 in
theorem spanEqIn (k : Nat) (a b c d : Int) (w : World) : (Op.equalIn (k + 2) 51 (.agg #[.int .i64 a, .int .i64 b]) (.agg #[.int .i64 c, .int .i64 d])).run Tryz.prog w = .ok (a == c && b == d) w := by
  have hf : Tryz.prog.fieldsOf 51 = (match Tryz.prog.underlying 51 with | some (.struct fs) => fs | _ => #[]) := rfl
  rw [Tryz.underlying51] at hf
  have hu : Tryz.prog.underlying 51 = some (.struct (Tryz.prog.fieldsOf 51)) := by rw [hf]; exact Tryz.underlying51
  rw [run_equalIn_struct w (k + 1) 51 _ _ hu s40, hf]
  have hi : ∀ x y w, (Op.equalIn (k + 1) 3 (.int .i64 x) (.int .i64 y)).run Tryz.prog w = .ok (x == y) w := fun x y w => run_equalIn_int w k 3 .i64 .i64 x y Tryz.underlying3
  simp [Op.eqFields, part, Tryz.isAgg3, Tryz.sizeOf3, hi, Result.andThen]
  cases hac : a == c <;> cases hbd : b == d <;> simp_all
theorem spanEqual (a b c d : Int) (w : World) : (Op.equal 51 (.agg #[.int .i64 a, .int .i64 b]) (.agg #[.int .i64 c, .int .i64 d])).run Tryz.prog w = .ok (a == c && b == d) w := spanEqIn 9998 a b c d w
theorem spanEq (x y : Operand) (a b c d : Int) (w : World) : (do eqGuard .eql 51 x y (.agg #[.int .i64 a, .int .i64 b]) (.agg #[.int .i64 c, .int .i64 d]); binOp .eql 51 (.agg #[.int .i64 a, .int .i64 b]) (.agg #[.int .i64 c, .int .i64 d]) : Sem Value).run Tryz.prog w = .ok (.bool (a == c && b == d)) w := by
  simp [eqGuard, binOp, g40, spanEqual, Result.andThen]
theorem spanNe (x y : Operand) (a b c d : Int) (w : World) : (do eqGuard .neq 51 x y (.agg #[.int .i64 a, .int .i64 b]) (.agg #[.int .i64 c, .int .i64 d]); binOp .neq 51 (.agg #[.int .i64 a, .int .i64 b]) (.agg #[.int .i64 c, .int .i64 d]) : Sem Value).run Tryz.prog w = .ok (.bool (!(a == c && b == d))) w := by
  simp [eqGuard, binOp, g40, spanEqual, Result.andThen]
end Go.Proofs.YtphoomnonenalaaGreatDoor
