/- Places as keys; what is remembered of them. -/
import Derived.Test.YtelenedgaoglaaaGreatDoorR17
import Derived.Laws.StructEq
set_option linter.unusedSimpArgs false
set_option linter.unusedVariables false
namespace Go.Proofs.YtelenedgaoglaaaGreatDoor
open Go.Ab Go.Pil Go.RowKit
def keyP (r : Pl) : Value := .agg #[.int .i64 r.entry, .int .i64 r.state, .int .i64 r.faults]
theorem keyP_inj (a b : Pl) (h : keyP a = keyP b) : a = b := by
  cases a; cases b
  simp only [keyP, Value.agg.injEq] at h
  have := congrArg Array.toList h
  simp at this
  obtain ⟨h1, h2, h3⟩ := this
  subst h1 h2 h3; rfl
theorem s83 : Tryz.prog.stoodInHeld 110 = false := by kernel_rfl
set_option maxRecDepth 20000 in
theorem plEqIn (k : Nat) (a b c d e f : Int) (w : World) : (Op.equalIn (k + 2) 110 (.agg #[.int .i64 a, .int .i64 b, .int .i64 c]) (.agg #[.int .i64 d, .int .i64 e, .int .i64 f])).run Tryz.prog w = .ok (a == d && (b == e && c == f)) w := by
  have hf : Tryz.prog.fieldsOf 110 = (match Tryz.prog.underlying 110 with | some (.struct fs) => fs | _ => #[]) := rfl
  rw [Tryz.underlying110] at hf
  have hu : Tryz.prog.underlying 110 = some (.struct (Tryz.prog.fieldsOf 110)) := by rw [hf]; exact Tryz.underlying110
  rw [run_equalIn_struct w (k + 1) 110 _ _ hu s83, hf]
  have hi : ∀ x y w, (Op.equalIn (k + 1) 3 (.int .i64 x) (.int .i64 y)).run Tryz.prog w = .ok (x == y) w := fun x y w => run_equalIn_int w k 3 .i64 .i64 x y Tryz.underlying3
  simp [Op.eqFields, part, Tryz.isAgg3, Tryz.sizeOf3, hi, Result.andThen]
  cases hac : a == d <;> cases hbd : b == e <;> cases hce : c == f <;> simp_all
set_option maxRecDepth 100000 in
theorem KA : KeyAt Tryz.prog 110 keyP where
  st := ⟨_, Tryz.underlying110⟩
  eq := fun k k' w => by
    have h : (Op.equal 110 (keyP k) (keyP k')).run Tryz.prog w = .ok (k.entry == k'.entry && (k.state == k'.state && k.faults == k'.faults)) w := plEqIn 9998 _ _ _ _ _ _ w
    rw [h]
    congr 1
    rw [Bool.eq_iff_iff]
    cases k; cases k'
    simp
  ck := fun k b w => by
    have h3 : ∀ n x, (Instr.checkKey b (n + 1) 3 (.int .i64 x)).run Tryz.prog w = .ok () w := fun n x => by simp [Instr.checkKey, run_underlying' Tryz.underlying3, Result.andThen]
    show (Instr.checkKey b (9998 + 1 + 1) 110 (keyP k)).run Tryz.prog w = _
    unfold Instr.checkKey keyP
    simp [run_underlying' Tryz.underlying110, Result.andThen, part, Tryz.isAgg3, Tryz.sizeOf3, h3]
  sb := fun k => by simp [Instr.sameBits, keyP]
end Go.Proofs.YtelenedgaoglaaaGreatDoor
