/- Two spans compared. -/
import Derived.Test.YtphoomnonenalaaDoorC11
import Derived.Laws.StructEq
namespace Go.Proofs.YtphoomnonenalaaDoor
open Go.Ab Go.RowKit
theorem g40 : Tryd.prog.eqGuardType Tryd.prog.depth 40 = false := by kernel_rfl
theorem s40 : Tryd.prog.stoodInHeld 40 = false := by kernel_rfl
set_option maxRecDepth 20000 in
theorem spanEqIn (k : Nat) (a b c d : Int) (w : World) : (Op.equalIn (k + 2) 40 (.agg #[.int .i64 a, .int .i64 b]) (.agg #[.int .i64 c, .int .i64 d])).run Tryd.prog w = .ok (a == c && b == d) w := by
  have hf : Tryd.prog.fieldsOf 40 = (match Tryd.prog.underlying 40 with | some (.struct fs) => fs | _ => #[]) := rfl
  rw [Tryd.underlying40] at hf
  have hu : Tryd.prog.underlying 40 = some (.struct (Tryd.prog.fieldsOf 40)) := by rw [hf]; exact Tryd.underlying40
  rw [run_equalIn_struct w (k + 1) 40 _ _ hu s40, hf]
  have hi : ∀ x y w, (Op.equalIn (k + 1) 3 (.int .i64 x) (.int .i64 y)).run Tryd.prog w = .ok (x == y) w := fun x y w => run_equalIn_int w k 3 .i64 .i64 x y Tryd.underlying3
  simp [Op.eqFields, part, Tryd.isAgg3, Tryd.sizeOf3, hi, Result.andThen]
  cases hac : a == c <;> cases hbd : b == d <;> simp_all
theorem spanEqual (a b c d : Int) (w : World) : (Op.equal 40 (.agg #[.int .i64 a, .int .i64 b]) (.agg #[.int .i64 c, .int .i64 d])).run Tryd.prog w = .ok (a == c && b == d) w := spanEqIn 9998 a b c d w
theorem spanEq (x y : Operand) (a b c d : Int) (w : World) : (do eqGuard .eql 40 x y (.agg #[.int .i64 a, .int .i64 b]) (.agg #[.int .i64 c, .int .i64 d]); binOp .eql 40 (.agg #[.int .i64 a, .int .i64 b]) (.agg #[.int .i64 c, .int .i64 d]) : Sem Value).run Tryd.prog w = .ok (.bool (a == c && b == d)) w := by
  simp [eqGuard, binOp, g40, spanEqual, Result.andThen]
theorem spanNe (x y : Operand) (a b c d : Int) (w : World) : (do eqGuard .neq 40 x y (.agg #[.int .i64 a, .int .i64 b]) (.agg #[.int .i64 c, .int .i64 d]); binOp .neq 40 (.agg #[.int .i64 a, .int .i64 b]) (.agg #[.int .i64 c, .int .i64 d]) : Sem Value).run Tryd.prog w = .ok (.bool (!(a == c && b == d))) w := by
  simp [eqGuard, binOp, g40, spanEqual, Result.andThen]
end Go.Proofs.YtphoomnonenalaaDoor
