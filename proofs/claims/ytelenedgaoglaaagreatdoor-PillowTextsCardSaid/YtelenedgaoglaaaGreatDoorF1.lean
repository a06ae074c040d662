/- F1. -/
import Derived.Test.YtelenedgaoglaaaGreatDoorAbA
import Derived.Test.YtelenedgaoglaaaGreatDoorProg
set_option linter.unusedVariables false
namespace Go.Proofs.YtelenedgaoglaaaGreatDoor
open Go.Ab
theorem ze3 : Zero Tryz.prog 3 [(Go.Value.int Go.IntKind.i64 0)] := ⟨rfl, _, rfl, Tryz.zeroValue3⟩
theorem ze24 : Zero Tryz.prog 24 [(Go.Value.int Go.IntKind.i64 0), (Go.Value.int Go.IntKind.i64 0), (Go.Value.int Go.IntKind.i64 0), (Go.Value.int Go.IntKind.i64 0), (Go.Value.int Go.IntKind.i64 0), (Go.Value.int Go.IntKind.i64 0), (Go.Value.slice none 0 0)] := ⟨rfl, _, rfl, Tryz.zeroValue24⟩
theorem ze27 : Zero Tryz.prog 27 [(Go.Value.int Go.IntKind.i64 0), (Go.Value.int Go.IntKind.i64 0)] := ⟨rfl, _, rfl, Tryz.zeroValue27⟩
theorem ze40 : Zero Tryz.prog 40 [(Go.Value.slice none 0 0)] := ⟨rfl, _, rfl, Tryz.zeroValue40⟩
theorem ze54 : Zero Tryz.prog 54 [(Go.Value.int Go.IntKind.i64 0), (Go.Value.int Go.IntKind.i64 0)] := ⟨rfl, _, rfl, Tryz.zeroValue54⟩
theorem ze56 : Zero Tryz.prog 56 [(Go.Value.int Go.IntKind.i64 0), (Go.Value.int Go.IntKind.i64 0)] := ⟨rfl, _, rfl, Tryz.zeroValue56⟩
theorem ze91 : Zero Tryz.prog 91 [(Go.Value.int Go.IntKind.i64 0), (Go.Value.int Go.IntKind.i64 0), (Go.Value.int Go.IntKind.i64 0), (Go.Value.int Go.IntKind.i64 0), (Go.Value.int Go.IntKind.i64 0), (Go.Value.int Go.IntKind.i64 0), (Go.Value.slice none 0 0), (Go.Value.slice none 0 0)] := ⟨rfl, _, rfl, Tryz.zeroValue91⟩
theorem ze110 : Zero Tryz.prog 110 [(Go.Value.int Go.IntKind.i64 0), (Go.Value.int Go.IntKind.i64 0), (Go.Value.int Go.IntKind.i64 0)] := ⟨rfl, _, rfl, Tryz.zeroValue110⟩
theorem ze112 : Zero Tryz.prog 112 [(Go.Value.int Go.IntKind.i64 0), (Go.Value.int Go.IntKind.i64 0), (Go.Value.int Go.IntKind.i64 0), (Go.Value.slice none 0 0), (Go.Value.int Go.IntKind.i64 0), (Go.Value.int Go.IntKind.i64 0)] := ⟨rfl, _, rfl, Tryz.zeroValue112⟩
theorem ze129 : Zero Tryz.prog 129 [Go.Value.nilFunc] := ⟨rfl, _, rfl, Tryz.zeroValue129⟩
theorem ze131 : Zero Tryz.prog 131 [Go.Value.nilFunc] := ⟨rfl, _, rfl, Tryz.zeroValue131⟩
theorem ze138 : Zero Tryz.prog 138 [Go.Value.nilFunc] := ⟨rfl, _, rfl, Tryz.zeroValue138⟩
theorem ze155 : Zero Tryz.prog 155 [(Go.Value.map none)] := ⟨rfl, _, rfl, Tryz.zeroValue155⟩
theorem ze156 : Zero Tryz.prog 156 [Go.Value.nilFunc] := ⟨rfl, _, rfl, Tryz.zeroValue156⟩
theorem fa24_0 : FieldAt Tryz.prog 24 0 0 1 false := ⟨_, _, Tryz.underlying24, rfl, rfl, (by decide), Tryz.sizeOf3, Tryz.isAgg3⟩
theorem fa24_1 : FieldAt Tryz.prog 24 1 1 1 false := ⟨_, _, Tryz.underlying24, rfl, rfl, (by decide), Tryz.sizeOf3, Tryz.isAgg3⟩
theorem fa24_2 : FieldAt Tryz.prog 24 2 2 1 false := ⟨_, _, Tryz.underlying24, rfl, rfl, (by decide), Tryz.sizeOf3, Tryz.isAgg3⟩
theorem fa24_3 : FieldAt Tryz.prog 24 3 3 1 false := ⟨_, _, Tryz.underlying24, rfl, rfl, (by decide), Tryz.sizeOf3, Tryz.isAgg3⟩
theorem fa24_4 : FieldAt Tryz.prog 24 4 4 1 false := ⟨_, _, Tryz.underlying24, rfl, rfl, (by decide), Tryz.sizeOf3, Tryz.isAgg3⟩
theorem fa24_5 : FieldAt Tryz.prog 24 5 5 1 false := ⟨_, _, Tryz.underlying24, rfl, rfl, (by decide), Tryz.sizeOf3, Tryz.isAgg3⟩
theorem fa24_6 : FieldAt Tryz.prog 24 6 6 1 false := ⟨_, _, Tryz.underlying24, rfl, rfl, (by decide), Tryz.sizeOf22, Tryz.isAgg22⟩
theorem fa27_0 : FieldAt Tryz.prog 27 0 0 1 false := ⟨_, _, Tryz.underlying27, rfl, rfl, (by decide), Tryz.sizeOf3, Tryz.isAgg3⟩
theorem fa27_1 : FieldAt Tryz.prog 27 1 1 1 false := ⟨_, _, Tryz.underlying27, rfl, rfl, (by decide), Tryz.sizeOf3, Tryz.isAgg3⟩
theorem fa54_0 : FieldAt Tryz.prog 54 0 0 1 false := ⟨_, _, Tryz.underlying54, rfl, rfl, (by decide), Tryz.sizeOf3, Tryz.isAgg3⟩
theorem fa54_1 : FieldAt Tryz.prog 54 1 1 1 false := ⟨_, _, Tryz.underlying54, rfl, rfl, (by decide), Tryz.sizeOf3, Tryz.isAgg3⟩
theorem fa83_0 : FieldAt Tryz.prog 83 0 0 7 true := ⟨_, _, Tryz.underlying83, rfl, rfl, (by decide), Tryz.sizeOf24, Tryz.isAgg24⟩
theorem fa91_0 : FieldAt Tryz.prog 91 0 0 7 true := ⟨_, _, Tryz.underlying91, rfl, rfl, (by decide), Tryz.sizeOf83, Tryz.isAgg83⟩
theorem fa91_1 : FieldAt Tryz.prog 91 1 7 1 false := ⟨_, _, Tryz.underlying91, rfl, rfl, (by decide), Tryz.sizeOf89, Tryz.isAgg89⟩
theorem fa110_0 : FieldAt Tryz.prog 110 0 0 1 false := ⟨_, _, Tryz.underlying110, rfl, rfl, (by decide), Tryz.sizeOf3, Tryz.isAgg3⟩
theorem fa110_1 : FieldAt Tryz.prog 110 1 1 1 false := ⟨_, _, Tryz.underlying110, rfl, rfl, (by decide), Tryz.sizeOf3, Tryz.isAgg3⟩
theorem fa110_2 : FieldAt Tryz.prog 110 2 2 1 false := ⟨_, _, Tryz.underlying110, rfl, rfl, (by decide), Tryz.sizeOf3, Tryz.isAgg3⟩
theorem fa112_0 : FieldAt Tryz.prog 112 0 0 3 true := ⟨_, _, Tryz.underlying112, rfl, rfl, (by decide), Tryz.sizeOf110, Tryz.isAgg110⟩
theorem fa112_1 : FieldAt Tryz.prog 112 1 3 1 false := ⟨_, _, Tryz.underlying112, rfl, rfl, (by decide), Tryz.sizeOf25, Tryz.isAgg25⟩
theorem fa112_2 : FieldAt Tryz.prog 112 2 4 2 true := ⟨_, _, Tryz.underlying112, rfl, rfl, (by decide), Tryz.sizeOf54, Tryz.isAgg54⟩
theorem bu24 : BuildAt Tryz.prog 24 (fun i => (#[(0, 1), (1, 1), (2, 1), (3, 1), (4, 1), (5, 1), (6, 1)] : Array (Nat × Nat))[i]?) [(Go.Value.int Go.IntKind.i64 0), (Go.Value.int Go.IntKind.i64 0), (Go.Value.int Go.IntKind.i64 0), (Go.Value.int Go.IntKind.i64 0), (Go.Value.int Go.IntKind.i64 0), (Go.Value.int Go.IntKind.i64 0), (Go.Value.slice none 0 0)] := ⟨rfl, fun parts cells h w => run_build w 24 parts cells ((show Tryz.prog.built 24 parts.toList = Instr.fill (fun i => (#[(0, 1), (1, 1), (2, 1), (3, 1), (4, 1), (5, 1), (6, 1)] : Array (Nat × Nat))[i]?) ([(Go.Value.int Go.IntKind.i64 0), (Go.Value.int Go.IntKind.i64 0), (Go.Value.int Go.IntKind.i64 0), (Go.Value.int Go.IntKind.i64 0), (Go.Value.int Go.IntKind.i64 0), (Go.Value.int Go.IntKind.i64 0), (Go.Value.slice none 0 0)] : List Value).toArray parts.toList by kernel_rfl).trans h)⟩
theorem bu27 : BuildAt Tryz.prog 27 (fun i => (#[(0, 1), (1, 1)] : Array (Nat × Nat))[i]?) [(Go.Value.int Go.IntKind.i64 0), (Go.Value.int Go.IntKind.i64 0)] := ⟨rfl, fun parts cells h w => run_build w 27 parts cells ((show Tryz.prog.built 27 parts.toList = Instr.fill (fun i => (#[(0, 1), (1, 1)] : Array (Nat × Nat))[i]?) ([(Go.Value.int Go.IntKind.i64 0), (Go.Value.int Go.IntKind.i64 0)] : List Value).toArray parts.toList by kernel_rfl).trans h)⟩
theorem bu54 : BuildAt Tryz.prog 54 (fun i => (#[(0, 1), (1, 1)] : Array (Nat × Nat))[i]?) [(Go.Value.int Go.IntKind.i64 0), (Go.Value.int Go.IntKind.i64 0)] := ⟨rfl, fun parts cells h w => run_build w 54 parts cells ((show Tryz.prog.built 54 parts.toList = Instr.fill (fun i => (#[(0, 1), (1, 1)] : Array (Nat × Nat))[i]?) ([(Go.Value.int Go.IntKind.i64 0), (Go.Value.int Go.IntKind.i64 0)] : List Value).toArray parts.toList by kernel_rfl).trans h)⟩
theorem bu56 : BuildAt Tryz.prog 56 (fun i => some (i * 1, 1)) [(Go.Value.int Go.IntKind.i64 0), (Go.Value.int Go.IntKind.i64 0)] := ⟨rfl, fun parts cells h w => run_build w 56 parts cells ((show Tryz.prog.built 56 parts.toList = Instr.fill (fun i => some (i * 1, 1)) ([(Go.Value.int Go.IntKind.i64 0), (Go.Value.int Go.IntKind.i64 0)] : List Value).toArray parts.toList by kernel_rfl).trans h)⟩
theorem bu83 : BuildAt Tryz.prog 83 (fun i => (#[(0, 7)] : Array (Nat × Nat))[i]?) [(Go.Value.int Go.IntKind.i64 0), (Go.Value.int Go.IntKind.i64 0), (Go.Value.int Go.IntKind.i64 0), (Go.Value.int Go.IntKind.i64 0), (Go.Value.int Go.IntKind.i64 0), (Go.Value.int Go.IntKind.i64 0), (Go.Value.slice none 0 0)] := ⟨rfl, fun parts cells h w => run_build w 83 parts cells ((show Tryz.prog.built 83 parts.toList = Instr.fill (fun i => (#[(0, 7)] : Array (Nat × Nat))[i]?) ([(Go.Value.int Go.IntKind.i64 0), (Go.Value.int Go.IntKind.i64 0), (Go.Value.int Go.IntKind.i64 0), (Go.Value.int Go.IntKind.i64 0), (Go.Value.int Go.IntKind.i64 0), (Go.Value.int Go.IntKind.i64 0), (Go.Value.slice none 0 0)] : List Value).toArray parts.toList by kernel_rfl).trans h)⟩
theorem bu91 : BuildAt Tryz.prog 91 (fun i => (#[(0, 7), (7, 1)] : Array (Nat × Nat))[i]?) [(Go.Value.int Go.IntKind.i64 0), (Go.Value.int Go.IntKind.i64 0), (Go.Value.int Go.IntKind.i64 0), (Go.Value.int Go.IntKind.i64 0), (Go.Value.int Go.IntKind.i64 0), (Go.Value.int Go.IntKind.i64 0), (Go.Value.slice none 0 0), (Go.Value.slice none 0 0)] := ⟨rfl, fun parts cells h w => run_build w 91 parts cells ((show Tryz.prog.built 91 parts.toList = Instr.fill (fun i => (#[(0, 7), (7, 1)] : Array (Nat × Nat))[i]?) ([(Go.Value.int Go.IntKind.i64 0), (Go.Value.int Go.IntKind.i64 0), (Go.Value.int Go.IntKind.i64 0), (Go.Value.int Go.IntKind.i64 0), (Go.Value.int Go.IntKind.i64 0), (Go.Value.int Go.IntKind.i64 0), (Go.Value.slice none 0 0), (Go.Value.slice none 0 0)] : List Value).toArray parts.toList by kernel_rfl).trans h)⟩
theorem bu110 : BuildAt Tryz.prog 110 (fun i => (#[(0, 1), (1, 1), (2, 1)] : Array (Nat × Nat))[i]?) [(Go.Value.int Go.IntKind.i64 0), (Go.Value.int Go.IntKind.i64 0), (Go.Value.int Go.IntKind.i64 0)] := ⟨rfl, fun parts cells h w => run_build w 110 parts cells ((show Tryz.prog.built 110 parts.toList = Instr.fill (fun i => (#[(0, 1), (1, 1), (2, 1)] : Array (Nat × Nat))[i]?) ([(Go.Value.int Go.IntKind.i64 0), (Go.Value.int Go.IntKind.i64 0), (Go.Value.int Go.IntKind.i64 0)] : List Value).toArray parts.toList by kernel_rfl).trans h)⟩
theorem bu112 : BuildAt Tryz.prog 112 (fun i => (#[(0, 3), (3, 1), (4, 2)] : Array (Nat × Nat))[i]?) [(Go.Value.int Go.IntKind.i64 0), (Go.Value.int Go.IntKind.i64 0), (Go.Value.int Go.IntKind.i64 0), (Go.Value.slice none 0 0), (Go.Value.int Go.IntKind.i64 0), (Go.Value.int Go.IntKind.i64 0)] := ⟨rfl, fun parts cells h w => run_build w 112 parts cells ((show Tryz.prog.built 112 parts.toList = Instr.fill (fun i => (#[(0, 3), (3, 1), (4, 2)] : Array (Nat × Nat))[i]?) ([(Go.Value.int Go.IntKind.i64 0), (Go.Value.int Go.IntKind.i64 0), (Go.Value.int Go.IntKind.i64 0), (Go.Value.slice none 0 0), (Go.Value.int Go.IntKind.i64 0), (Go.Value.int Go.IntKind.i64 0)] : List Value).toArray parts.toList by kernel_rfl).trans h)⟩
theorem bu117 : BuildAt Tryz.prog 117 (fun i => some (i * 1, 1)) [(Go.Value.int Go.IntKind.i64 0), (Go.Value.int Go.IntKind.i64 0), (Go.Value.int Go.IntKind.i64 0), (Go.Value.int Go.IntKind.i64 0), (Go.Value.int Go.IntKind.i64 0), (Go.Value.int Go.IntKind.i64 0)] := ⟨rfl, fun parts cells h w => run_build w 117 parts cells ((show Tryz.prog.built 117 parts.toList = Instr.fill (fun i => some (i * 1, 1)) ([(Go.Value.int Go.IntKind.i64 0), (Go.Value.int Go.IntKind.i64 0), (Go.Value.int Go.IntKind.i64 0), (Go.Value.int Go.IntKind.i64 0), (Go.Value.int Go.IntKind.i64 0), (Go.Value.int Go.IntKind.i64 0)] : List Value).toArray parts.toList by kernel_rfl).trans h)⟩
theorem info3 : Tryz.prog.info? 3 = some Tryz.t3 := by kernel_rfl
theorem info9 : Tryz.prog.info? 9 = some Tryz.t9 := by kernel_rfl
theorem info25 : Tryz.prog.info? 25 = some Tryz.t25 := by kernel_rfl
theorem info27 : Tryz.prog.info? 27 = some Tryz.t27 := by kernel_rfl
theorem info54 : Tryz.prog.info? 54 = some Tryz.t54 := by kernel_rfl
theorem info110 : Tryz.prog.info? 110 = some Tryz.t110 := by kernel_rfl
theorem info112 : Tryz.prog.info? 112 = some Tryz.t112 := by kernel_rfl
end Go.Proofs.YtelenedgaoglaaaGreatDoor
