/- Places as keys; what is remembered of them. -/
import Derived.Test.YtelenedgaoglaaaDoorR17
import Derived.Laws.StructEq
set_option linter.unusedSimpArgs false
set_option linter.unusedVariables false
namespace Go.Proofs.YtelenedgaoglaaaDoor
open Go.Ab Go.Pil Go.RowKit
def keyP (r : Pl) : Value := .agg #[.int .i64 r.entry, .int .i64 r.state, .int .i64 r.faults]
theorem keyP_inj (a b : Pl) (h : keyP a = keyP b) : a = b := by
  cases a; cases b
  simp only [keyP, Value.agg.injEq] at h
  have := congrArg Array.toList h
  simp at this
  obtain ⟨h1, h2, h3⟩ := this
  subst h1 h2 h3; rfl
theorem g83 : Tryd.prog.eqGuardType Tryd.prog.depth 83 = false := by kernel_rfl
theorem s83 : Tryd.prog.stoodInHeld 83 = false := by kernel_rfl
set_option maxRecDepth 20000 in
theorem plEqIn (k : Nat) (a b c d e f : Int) (w : World) : (Op.equalIn (k + 2) 83 (.agg #[.int .i64 a, .int .i64 b, .int .i64 c]) (.agg #[.int .i64 d, .int .i64 e, .int .i64 f])).run Tryd.prog w = .ok (a == d && (b == e && c == f)) w := by
  have hf : Tryd.prog.fieldsOf 83 = (match Tryd.prog.underlying 83 with | some (.struct fs) => fs | _ => #[]) := rfl
  rw [Tryd.underlying83] at hf
  have hu : Tryd.prog.underlying 83 = some (.struct (Tryd.prog.fieldsOf 83)) := by rw [hf]; exact Tryd.underlying83
  rw [run_equalIn_struct w (k + 1) 83 _ _ hu s83, hf]
  have hi : ∀ x y w, (Op.equalIn (k + 1) 3 (.int .i64 x) (.int .i64 y)).run Tryd.prog w = .ok (x == y) w := fun x y w => run_equalIn_int w k 3 .i64 .i64 x y Tryd.underlying3
  simp [Op.eqFields, part, Tryd.isAgg3, Tryd.sizeOf3, hi, Result.andThen]
  cases hac : a == d <;> cases hbd : b == e <;> cases hce : c == f <;> simp_all
set_option maxRecDepth 100000 in
theorem KA : KeyAt Tryd.prog 83 keyP where
  st := ⟨_, Tryd.underlying83⟩
  eq := fun k k' w => by
    have h : (Op.equal 83 (keyP k) (keyP k')).run Tryd.prog w = .ok (k.entry == k'.entry && (k.state == k'.state && k.faults == k'.faults)) w := plEqIn 9998 _ _ _ _ _ _ w
    rw [h]
    congr 1
    rw [Bool.eq_iff_iff]
    cases k; cases k'
    simp
  ck := fun k b w => by
    have h3 : ∀ n x, (Instr.checkKey b (n + 1) 3 (.int .i64 x)).run Tryd.prog w = .ok () w := fun n x => by simp [Instr.checkKey, run_underlying' Tryd.underlying3, Result.andThen]
    show (Instr.checkKey b (9998 + 1 + 1) 83 (keyP k)).run Tryd.prog w = _
    unfold Instr.checkKey keyP
    simp [run_underlying' Tryd.underlying83, Result.andThen, part, Tryd.isAgg3, Tryd.sizeOf3, h3]
  sb := fun k => by simp [Instr.sameBits, keyP]
end Go.Proofs.YtelenedgaoglaaaDoor
