import Derived.Test.YtgagfmjpmdgfdaaDoorAbB
import Derived.Test.YtgagfmjpmdgfdaaDoorProg
set_option linter.unusedVariables false
namespace Go.Proofs.YtgagfmjpmdgfdaaDoor
open Go.Ab
theorem ze24 : Zero Tryd.prog 24 [(Go.Value.slice none 0 0)] := ⟨rfl, _, rfl, Tryd.zeroValue24⟩
theorem ze26 : Zero Tryd.prog 26 [(Go.Value.int Go.IntKind.i64 0), (Go.Value.int Go.IntKind.i64 0), (Go.Value.int Go.IntKind.i64 0)] := ⟨rfl, _, rfl, Tryd.zeroValue26⟩
theorem ze28 : Zero Tryd.prog 28 [(Go.Value.int Go.IntKind.i64 0), (Go.Value.int Go.IntKind.i64 0), (Go.Value.int Go.IntKind.i64 0)] := ⟨rfl, _, rfl, Tryd.zeroValue28⟩
theorem ze88 : Zero Tryd.prog 88 [(Go.Value.int Go.IntKind.i64 0), (Go.Value.int Go.IntKind.i64 0)] := ⟨rfl, _, rfl, Tryd.zeroValue88⟩
theorem ze113 : Zero Tryd.prog 113 [(Go.Value.pointer none), (Go.Value.slice none 0 0)] := ⟨rfl, _, rfl, Tryd.zeroValue113⟩
theorem ze120 : Zero Tryd.prog 120 [(Go.Value.int Go.IntKind.i64 0)] := ⟨rfl, _, rfl, Tryd.zeroValue120⟩
theorem ze123 : Zero Tryd.prog 123 [(Go.Value.int Go.IntKind.i64 0)] := ⟨rfl, _, rfl, Tryd.zeroValue123⟩
theorem fa24_0 : FieldAt Tryd.prog 24 0 0 1 false := ⟨_, _, Tryd.underlying24, rfl, rfl, (by decide), Tryd.sizeOf22, Tryd.isAgg22⟩
theorem fa26_0 : FieldAt Tryd.prog 26 0 0 1 false := ⟨_, _, Tryd.underlying26, rfl, rfl, (by decide), Tryd.sizeOf3, Tryd.isAgg3⟩
theorem fa26_1 : FieldAt Tryd.prog 26 1 1 1 false := ⟨_, _, Tryd.underlying26, rfl, rfl, (by decide), Tryd.sizeOf3, Tryd.isAgg3⟩
theorem fa26_2 : FieldAt Tryd.prog 26 2 2 1 false := ⟨_, _, Tryd.underlying26, rfl, rfl, (by decide), Tryd.sizeOf3, Tryd.isAgg3⟩
theorem fa28_0 : FieldAt Tryd.prog 28 0 0 1 false := ⟨_, _, Tryd.underlying28, rfl, rfl, (by decide), Tryd.sizeOf3, Tryd.isAgg3⟩
theorem fa28_1 : FieldAt Tryd.prog 28 1 1 1 false := ⟨_, _, Tryd.underlying28, rfl, rfl, (by decide), Tryd.sizeOf3, Tryd.isAgg3⟩
theorem fa28_2 : FieldAt Tryd.prog 28 2 2 1 false := ⟨_, _, Tryd.underlying28, rfl, rfl, (by decide), Tryd.sizeOf3, Tryd.isAgg3⟩
theorem fa88_0 : FieldAt Tryd.prog 88 0 0 1 false := ⟨_, _, Tryd.underlying88, rfl, rfl, (by decide), Tryd.sizeOf3, Tryd.isAgg3⟩
theorem fa88_1 : FieldAt Tryd.prog 88 1 1 1 false := ⟨_, _, Tryd.underlying88, rfl, rfl, (by decide), Tryd.sizeOf3, Tryd.isAgg3⟩
theorem fa102_0 : FieldAt Tryd.prog 102 0 0 192 true := ⟨_, _, Tryd.underlying102, rfl, rfl, (by decide), Tryd.sizeOf100, Tryd.isAgg100⟩
theorem fa102_1 : FieldAt Tryd.prog 102 1 192 1 false := ⟨_, _, Tryd.underlying102, rfl, rfl, (by decide), Tryd.sizeOf3, Tryd.isAgg3⟩
theorem fa113_0 : FieldAt Tryd.prog 113 0 0 1 false := ⟨_, _, Tryd.underlying113, rfl, rfl, (by decide), Tryd.sizeOf110, Tryd.isAgg110⟩
theorem fa113_1 : FieldAt Tryd.prog 113 1 1 1 false := ⟨_, _, Tryd.underlying113, rfl, rfl, (by decide), Tryd.sizeOf111, Tryd.isAgg111⟩
theorem fa120_0 : FieldAt Tryd.prog 120 0 0 1 false := ⟨_, _, Tryd.underlying120, rfl, rfl, (by decide), Tryd.sizeOf3, Tryd.isAgg3⟩
theorem fa123_0 : FieldAt Tryd.prog 123 0 0 1 false := ⟨_, _, Tryd.underlying123, rfl, rfl, (by decide), Tryd.sizeOf3, Tryd.isAgg3⟩
theorem bu24 : BuildAt Tryd.prog 24 (fun i => (#[(0, 1)] : Array (Nat × Nat))[i]?) [(Go.Value.slice none 0 0)] := ⟨rfl, fun parts cells h w => run_build w 24 parts cells ((show Tryd.prog.built 24 parts.toList = Instr.fill (fun i => (#[(0, 1)] : Array (Nat × Nat))[i]?) ([(Go.Value.slice none 0 0)] : List Value).toArray parts.toList by kernel_rfl).trans h)⟩
theorem bu26 : BuildAt Tryd.prog 26 (fun i => (#[(0, 1), (1, 1), (2, 1)] : Array (Nat × Nat))[i]?) [(Go.Value.int Go.IntKind.i64 0), (Go.Value.int Go.IntKind.i64 0), (Go.Value.int Go.IntKind.i64 0)] := ⟨rfl, fun parts cells h w => run_build w 26 parts cells ((show Tryd.prog.built 26 parts.toList = Instr.fill (fun i => (#[(0, 1), (1, 1), (2, 1)] : Array (Nat × Nat))[i]?) ([(Go.Value.int Go.IntKind.i64 0), (Go.Value.int Go.IntKind.i64 0), (Go.Value.int Go.IntKind.i64 0)] : List Value).toArray parts.toList by kernel_rfl).trans h)⟩
theorem bu28 : BuildAt Tryd.prog 28 (fun i => (#[(0, 1), (1, 1), (2, 1)] : Array (Nat × Nat))[i]?) [(Go.Value.int Go.IntKind.i64 0), (Go.Value.int Go.IntKind.i64 0), (Go.Value.int Go.IntKind.i64 0)] := ⟨rfl, fun parts cells h w => run_build w 28 parts cells ((show Tryd.prog.built 28 parts.toList = Instr.fill (fun i => (#[(0, 1), (1, 1), (2, 1)] : Array (Nat × Nat))[i]?) ([(Go.Value.int Go.IntKind.i64 0), (Go.Value.int Go.IntKind.i64 0), (Go.Value.int Go.IntKind.i64 0)] : List Value).toArray parts.toList by kernel_rfl).trans h)⟩
theorem bu88 : BuildAt Tryd.prog 88 (fun i => (#[(0, 1), (1, 1)] : Array (Nat × Nat))[i]?) [(Go.Value.int Go.IntKind.i64 0), (Go.Value.int Go.IntKind.i64 0)] := ⟨rfl, fun parts cells h w => run_build w 88 parts cells ((show Tryd.prog.built 88 parts.toList = Instr.fill (fun i => (#[(0, 1), (1, 1)] : Array (Nat × Nat))[i]?) ([(Go.Value.int Go.IntKind.i64 0), (Go.Value.int Go.IntKind.i64 0)] : List Value).toArray parts.toList by kernel_rfl).trans h)⟩
set_option maxRecDepth 20000 in
theorem bu102 : BuildAt Tryd.prog 102 (fun i => (#[(0, 192), (192, 1)] : Array (Nat × Nat))[i]?) (List.replicate 193 (.int .i64 0)) := ⟨rfl, fun parts cells h w => run_build w 102 parts cells ((show Tryd.prog.built 102 parts.toList = Instr.fill (fun i => (#[(0, 192), (192, 1)] : Array (Nat × Nat))[i]?) (List.replicate 193 (Value.int .i64 0)).toArray parts.toList by kernel_rfl).trans h)⟩
theorem bu120 : BuildAt Tryd.prog 120 (fun i => (#[(0, 1)] : Array (Nat × Nat))[i]?) [(Go.Value.int Go.IntKind.i64 0)] := ⟨rfl, fun parts cells h w => run_build w 120 parts cells ((show Tryd.prog.built 120 parts.toList = Instr.fill (fun i => (#[(0, 1)] : Array (Nat × Nat))[i]?) ([(Go.Value.int Go.IntKind.i64 0)] : List Value).toArray parts.toList by kernel_rfl).trans h)⟩
theorem bu123 : BuildAt Tryd.prog 123 (fun i => (#[(0, 1)] : Array (Nat × Nat))[i]?) [(Go.Value.int Go.IntKind.i64 0)] := ⟨rfl, fun parts cells h w => run_build w 123 parts cells ((show Tryd.prog.built 123 parts.toList = Instr.fill (fun i => (#[(0, 1)] : Array (Nat × Nat))[i]?) ([(Go.Value.int Go.IntKind.i64 0)] : List Value).toArray parts.toList by kernel_rfl).trans h)⟩
theorem bu138 : BuildAt Tryd.prog 138 (fun i => some (i * 1, 1)) [(Go.Value.int Go.IntKind.u64 0), (Go.Value.int Go.IntKind.u64 0), (Go.Value.int Go.IntKind.u64 0), (Go.Value.int Go.IntKind.u64 0), (Go.Value.int Go.IntKind.u64 0), (Go.Value.int Go.IntKind.u64 0), (Go.Value.int Go.IntKind.u64 0), (Go.Value.int Go.IntKind.u64 0), (Go.Value.int Go.IntKind.u64 0), (Go.Value.int Go.IntKind.u64 0), (Go.Value.int Go.IntKind.u64 0), (Go.Value.int Go.IntKind.u64 0), (Go.Value.int Go.IntKind.u64 0), (Go.Value.int Go.IntKind.u64 0), (Go.Value.int Go.IntKind.u64 0), (Go.Value.int Go.IntKind.u64 0), (Go.Value.int Go.IntKind.u64 0), (Go.Value.int Go.IntKind.u64 0), (Go.Value.int Go.IntKind.u64 0), (Go.Value.int Go.IntKind.u64 0)] := ⟨rfl, fun parts cells h w => run_build w 138 parts cells ((show Tryd.prog.built 138 parts.toList = Instr.fill (fun i => some (i * 1, 1)) ([(Go.Value.int Go.IntKind.u64 0), (Go.Value.int Go.IntKind.u64 0), (Go.Value.int Go.IntKind.u64 0), (Go.Value.int Go.IntKind.u64 0), (Go.Value.int Go.IntKind.u64 0), (Go.Value.int Go.IntKind.u64 0), (Go.Value.int Go.IntKind.u64 0), (Go.Value.int Go.IntKind.u64 0), (Go.Value.int Go.IntKind.u64 0), (Go.Value.int Go.IntKind.u64 0), (Go.Value.int Go.IntKind.u64 0), (Go.Value.int Go.IntKind.u64 0), (Go.Value.int Go.IntKind.u64 0), (Go.Value.int Go.IntKind.u64 0), (Go.Value.int Go.IntKind.u64 0), (Go.Value.int Go.IntKind.u64 0), (Go.Value.int Go.IntKind.u64 0), (Go.Value.int Go.IntKind.u64 0), (Go.Value.int Go.IntKind.u64 0), (Go.Value.int Go.IntKind.u64 0)] : List Value).toArray parts.toList by kernel_rfl).trans h)⟩
theorem info3 : Tryd.prog.info? 3 = some Tryd.t3 := by kernel_rfl
theorem info5 : Tryd.prog.info? 5 = some Tryd.t5 := by kernel_rfl
theorem info9 : Tryd.prog.info? 9 = some Tryd.t9 := by kernel_rfl
theorem info24 : Tryd.prog.info? 24 = some Tryd.t24 := by kernel_rfl
theorem info26 : Tryd.prog.info? 26 = some Tryd.t26 := by kernel_rfl
theorem info28 : Tryd.prog.info? 28 = some Tryd.t28 := by kernel_rfl
theorem info88 : Tryd.prog.info? 88 = some Tryd.t88 := by kernel_rfl
end Go.Proofs.YtgagfmjpmdgfdaaDoor
