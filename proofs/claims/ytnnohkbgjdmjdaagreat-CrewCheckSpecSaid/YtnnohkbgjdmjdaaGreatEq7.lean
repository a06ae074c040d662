/- Spans and pairs of integers compared. -/
import Derived.Test.YtnnohkbgjdmjdaaGreatProg
import Derived.Laws.StructEq
import Derived.ChangeKeysEq
import Derived.Test.YtnnohkbgjdmjdaaGreatExC
set_option linter.unusedSimpArgs false
namespace Go.Ex
open Go.Proofs
theorem two {l : List Int} {k : IntKind} (h : l.length = [k, k].length) : ∃ a b, l = [a, b] := by
  match l, h with
  | [a, b], _ => exact ⟨a, b, rfl⟩
theorem g61 : Tryz.prog.eqGuardType Tryz.prog.depth 61 = false := by kernel_rfl
theorem s61 : Tryz.prog.stoodInHeld 61 = false := by kernel_rfl
theorem g168 : Tryz.prog.eqGuardType Tryz.prog.depth 168 = false := by kernel_rfl
set_option maxRecDepth 20000 in
theorem spanEqIn (k : Nat) (a b c d : Int) (w : World) : (Op.equalIn (k + 2) 61 (.agg #[.int .i64 a, .int .i64 b]) (.agg #[.int .i64 c, .int .i64 d])).run Tryz.prog w = .ok (a == c && b == d) w := by
  have hf : Tryz.prog.fieldsOf 61 = (match Tryz.prog.underlying 61 with | some (.struct fs) => fs | _ => #[]) := rfl
  rw [Tryz.underlying61] at hf
  have hu : Tryz.prog.underlying 61 = some (.struct (Tryz.prog.fieldsOf 61)) := by rw [hf]; exact Tryz.underlying61
  rw [run_equalIn_struct w (k + 1) 61 _ _ hu s61, hf]
  have hi : ∀ x y w, (Op.equalIn (k + 1) 3 (.int .i64 x) (.int .i64 y)).run Tryz.prog w = .ok (x == y) w := fun x y w => run_equalIn_int w k 3 .i64 .i64 x y Tryz.underlying3
  simp [Op.eqFields, part, Tryz.isAgg3, Tryz.sizeOf3, hi, Result.andThen]
  cases hac : a == c <;> cases hbd : b == d <;> simp_all
set_option maxRecDepth 20000 in
theorem pairEqIn (k : Nat) (a b c d : Int) (w : World) : (Op.equalIn (k + 2) 168 (.agg #[.int .i64 a, .int .i64 b]) (.agg #[.int .i64 c, .int .i64 d])).run Tryz.prog w = .ok (a == c && b == d) w := by
  have hi : ∀ x y w, (Op.equalIn (k + 1) 3 (.int .i64 x) (.int .i64 y)).run Tryz.prog w = .ok (x == y) w := fun x y w => run_equalIn_int w k 3 .i64 .i64 x y Tryz.underlying3
  have h3 : ∃ i, Tryz.prog.info? 3 = some i ∧ Tryz.prog.cellsOf 3 = 1 := ⟨_, rfl, by kernel_rfl⟩
  obtain ⟨i, h3, hc⟩ := h3
  rw [run_equalIn_array w (k + 1) _ _ Tryz.underlying168 h3, hc]
  simp [Op.eqItems, part, Tryz.isAgg3, Tryz.sizeOf3, hi, Result.andThen, List.range_succ]
  cases hac : a == c <;> cases hbd : b == d <;> simp_all
set_option maxRecDepth 20000 in
theorem eq2 {e : TypeId} (hg : Tryz.prog.eqGuardType Tryz.prog.depth e = false)
    (h : ∀ (a b c d : Int) (w : World), (Op.equal e (.agg #[.int .i64 a, .int .i64 b]) (.agg #[.int .i64 c, .int .i64 d])).run Tryz.prog w = .ok (a == c && b == d) w) : EqT Tryz.prog e [.i64, .i64] := by
  intro m n x y w hm hn
  obtain ⟨a, b, rfl⟩ := two hm
  obtain ⟨c, d, rfl⟩ := two hn
  refine ⟨?_, fun op => ?_⟩
  · show (Op.equal e (.agg #[.int .i64 a, .int .i64 b]) (.agg #[.int .i64 c, .int .i64 d])).run Tryz.prog w = _
    rw [h]
    congr 1
    cases hac : a == c <;> cases hbd : b == d <;> simp_all
  · show (eqGuard op e x y (.agg #[.int .i64 a, .int .i64 b]) (.agg #[.int .i64 c, .int .i64 d])).run Tryz.prog w = _
    cases op <;> simp [eqGuard, hg, Result.andThen]
def eqs7 : List (TypeId × List IntKind) := [(61, [.i64, .i64]), (168, [.i64, .i64])]
theorem eqs7_ok : EqsOk Tryz.prog eqs7 := by
  intro q hq
  simp only [eqs7, List.mem_cons, List.not_mem_nil, or_false] at hq
  rcases hq with rfl | rfl
  · exact eq2 g61 fun a b c d w => spanEqIn 9998 a b c d w
  · exact eq2 g168 fun a b c d w => pairEqIn 9998 a b c d w
theorem names7 : namesB Tryz.prog.funcs.toList = true := by kernel_rfl
theorem mixed7 : Tryz.prog.follows .mixedOrders = true := by kernel_rfl
end Go.Ex

