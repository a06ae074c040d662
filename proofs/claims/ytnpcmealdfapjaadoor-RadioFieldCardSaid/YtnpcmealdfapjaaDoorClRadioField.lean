/- RadioField: the row. -/
import Derived.Test.YtnpcmealdfapjaaDoorBx
import Derived.Test.YtnpcmealdfapjaaDoorR95
set_option linter.unusedVariables false
namespace Go.Proofs.YtnpcmealdfapjaaDoor
open Go.Ex Go.ChangeShapes Go.WideShapes Go.ChangeAt Go.RowKit
namespace RadioField
noncomputable def wArgs : Array Value := #[(.int .u8 0 : Value), (.int .u8 0 : Value), (.int .u8 0 : Value)]
theorem witness_row (os : Os) {H : Type} (enc : TypeId × Value → H) :
    (OpenSpec.ofChange Rows.radioFieldSpec).preRow enc Tryd.prog Tryd.f6 Rows.radioFieldRow.domain false Rows.radioFieldRow.laid ((laidWorld os).forCall (fun _ _ => 0) ⟨#[], wArgs, []⟩).memory wArgs := by
  have hw : (DataW.whole enc Tryd.prog ((laidWorld os).forCall (fun _ _ => 0) ⟨#[], wArgs, []⟩).memory Tryd.f6.params.toList (OpenSpec.ofChange Rows.radioFieldSpec).vars false wArgs.toList 8).map (fun x => (x.1, x.2.1)) =
      some ([.lit (.int .u8 0), .lit (.int .u8 0), .lit (.int .u8 0)], []) := by kernel_rfl
  obtain ⟨⟨x1, x2, x3⟩, hx, hx1⟩ := Option.map_eq_some_iff.1 hw
  simp only [Prod.mk.injEq] at hx1
  obtain ⟨rfl, rfl⟩ := hx1
  exact OpenSpec.preRow_of_cond 8 hx (by kernel_rfl) (fun k hk => by cases hk) (by kernel_rfl) (laid_met os _)
theorem law : ∀ xs, ArgsFit [aU8, aU8, aU8] xs → ∃ h' n', CallOne eqs9.gs Tryd.prog 6 xs .e .z (.bool true) h' n' := by
  intro xs h
  obtain ⟨a0, r0, rfl, h0⟩ := h.cons
  obtain ⟨a1, r1, rfl, h1⟩ := h0.cons
  obtain ⟨a2, r2, rfl, h2⟩ := h1.cons
  obtain rfl := h2.nil
  by_cases hz : a0.1 = 0
  · obtain ⟨x, h', n', h1, rfl⟩ := fieldZ_x a0.1 a1.1 a2.1 a0.2 a1.2 a2.2 hz
    exact ⟨h', n', h1⟩
  · obtain ⟨x, h', n', h1, rfl⟩ := fieldP_x a0.1 a1.1 a2.1 a0.2 a1.2 a2.2 (by omega)
    exact ⟨h', n', h1⟩
theorem spec_eq {H : Type} (F : Stop.Interp) : ∀ ds : List (DataW H), ds.length = 3 → ((OpenSpec.ofChange Rows.radioFieldSpec).at F).fn H (ds ++ []) = { results := [.lit (.bool true)], args := ds } := by
  intro ds h
  match ds, h with
  | [d0, d1, d2], _ => rfl
set_option maxRecDepth 100000 in
set_option maxHeartbeats 2000000 in
theorem lifted (os : Os) (started : os.Started) (H : Type) (enc : TypeId × Value → H) (F : Stop.Interp) :
    ReturnsInHanded {} Tryd.checked os 6 .any ((OpenSpec.ofChange Rows.radioFieldSpec).preRow enc Tryd.prog Tryd.f6 Rows.radioFieldRow.domain false Rows.radioFieldRow.laid) (((OpenSpec.ofChange Rows.radioFieldSpec).at F).post enc Tryd.prog Tryd.f6 false true false false) := by
  refine returnsInHanded_of_row (C := Tryd.checked) (s := OpenSpec.ofChange Rows.radioFieldSpec) own started (by kernel_rfl) Tryd.func6
    (witness_row_at (enc := enc) (C := Tryd.checked) false (laidWorld os) wArgs rfl (by kernel_rfl) (by kernel_rfl) (by kernel_rfl) (witness_row os enc)) ?_
  intro W base args ds gs before hval hW _ _ _ hL _ _
  exact contract_x [aU8, aU8, aU8] (by rw [Tryd.params6]; rfl) (by kernel_rfl) rfl (spec_eq F) (fun A hA => by
    simp only [List.mem_cons, List.not_mem_nil, or_false] at hA
    rcases hA with rfl | rfl | rfl <;> exact ⟨by kernel_rfl, of_decide_eq_true (by kernel_rfl)⟩) law W base args ds gs before hval hW hL
end RadioField
set_option maxRecDepth 100000 in
theorem radioField_holds : Rows.RadioFieldSaid :=
  OpenClaim.holds_of_cond 6 Tryd.f6 rfl rfl rfl rfl rfl rfl rfl ⟨rfl, rfl, rfl, rfl, rfl⟩ rfl rfl rfl rfl rfl (by kernel_rfl) Tryd.func6 (by kernel_rfl)
    (of_decide_eq_true (by kernel_rfl)) (by unfold Func.isWrapper; rw [if_neg (of_decide_eq_false (by kernel_rfl))]; exact ⟨rfl, rfl⟩)
    (fun os started H enc _ F0 => by rw [OpenClaim.pre_eq_preRow]; exact RadioField.lifted os started H enc F0)
end Go.Proofs.YtnpcmealdfapjaaDoor

