/- RadioFrames: the row. -/
import Derived.Test.YtnpcmealdfapjaaDoorBx3
import Derived.Test.YtnpcmealdfapjaaDoorR9Q
set_option linter.unusedVariables false
namespace Go.Proofs.YtnpcmealdfapjaaDoor
open Go.Ex Go.ChangeShapes Go.WideShapes Go.ChangeAt Go.RowKit
namespace RadioFrames
noncomputable def wArgs : Array Value := #[(.agg #[.int .i64 0, .int .i64 0, .int .i64 0, .int .i64 0, .string ⟨#[]⟩] : Value), (.string ⟨#[]⟩ : Value)]
theorem witness_row (os : Os) {H : Type} (enc : TypeId × Value → H) :
    (OpenSpec.ofChange Rows.radioFramesSpec).preRow enc Tryd.prog Tryd.f4 Rows.radioFramesRow.domain false Rows.radioFramesRow.laid ((laidWorld os).forCall (fun _ _ => 0) ⟨#[], wArgs, []⟩).memory wArgs := by
  have hw : (DataW.whole enc Tryd.prog ((laidWorld os).forCall (fun _ _ => 0) ⟨#[], wArgs, []⟩).memory Tryd.f4.params.toList (OpenSpec.ofChange Rows.radioFramesSpec).vars false wArgs.toList 8).map (fun x => (x.1, x.2.1)) =
      some ([.agg [.lit (.int .i64 0), .lit (.int .i64 0), .lit (.int .i64 0), .lit (.int .i64 0), .lit (.string [])], .lit (.string [])], []) := by kernel_rfl
  obtain ⟨⟨x1, x2, x3⟩, hx, hx1⟩ := Option.map_eq_some_iff.1 hw
  simp only [Prod.mk.injEq] at hx1
  obtain ⟨rfl, rfl⟩ := hx1
  exact OpenSpec.preRow_of_cond 8 hx (by kernel_rfl) (fun k hk => by cases hk) (by kernel_rfl) (laid_met os _)
theorem law : ∀ xs, ArgsFit [aFrm, aStr] xs → ∃ h' n', CallOne eqs9.gs Tryd.prog 4 xs .e .z (.bool true) h' n' := by
  intro xs h
  obtain ⟨a0, r0, rfl, h0⟩ := h.cons
  obtain ⟨a1, r1, rfl, h1⟩ := h0.cons
  obtain rfl := h1.nil
  exact ⟨_, _, frames_c a0.1 a0.2.1 a0.2.2.1 a0.2.2.2.1 a0.2.2.2.2 a1 .e .z⟩
theorem spec_eq {H : Type} (F : Stop.Interp) : ∀ ds : List (DataW H), ds.length = 2 → ((OpenSpec.ofChange Rows.radioFramesSpec).at F).fn H (ds ++ []) = { results := [.lit (.bool true)], args := ds } := by
  intro ds h
  match ds, h with
  | [d0, d1], _ => rfl
set_option maxRecDepth 100000 in
set_option maxHeartbeats 2000000 in
theorem lifted (os : Os) (started : os.Started) (H : Type) (enc : TypeId × Value → H) (F : Stop.Interp) :
    ReturnsInHanded {} Tryd.checked os 4 .any ((OpenSpec.ofChange Rows.radioFramesSpec).preRow enc Tryd.prog Tryd.f4 Rows.radioFramesRow.domain false Rows.radioFramesRow.laid) (((OpenSpec.ofChange Rows.radioFramesSpec).at F).post enc Tryd.prog Tryd.f4 false true false false) := by
  refine returnsInHanded_of_row (C := Tryd.checked) (s := OpenSpec.ofChange Rows.radioFramesSpec) own started (by kernel_rfl) Tryd.func4
    (witness_row_at (enc := enc) (C := Tryd.checked) false (laidWorld os) wArgs rfl (by kernel_rfl) (by kernel_rfl) (by kernel_rfl) (witness_row os enc)) ?_
  intro W base args ds gs before hval hW _ _ _ hL _ _
  exact contract_x [aFrm, aStr] (by rw [Tryd.params4]; rfl) (by kernel_rfl) rfl (spec_eq F) (fun A hA => by
    simp only [List.mem_cons, List.not_mem_nil, or_false] at hA
    rcases hA with rfl | rfl <;> exact ⟨by kernel_rfl, of_decide_eq_true (by kernel_rfl)⟩) law W base args ds gs before hval hW hL
end RadioFrames
set_option maxRecDepth 100000 in
theorem radioFrames_holds : Rows.RadioFramesSaid :=
  OpenClaim.holds_of_cond 4 Tryd.f4 rfl rfl rfl rfl rfl rfl rfl ⟨rfl, rfl, rfl, rfl, rfl⟩ rfl rfl rfl rfl rfl (by kernel_rfl) Tryd.func4 (by kernel_rfl)
    (of_decide_eq_true (by kernel_rfl)) (by unfold Func.isWrapper; rw [if_neg (of_decide_eq_false (by kernel_rfl))]; exact ⟨rfl, rfl⟩)
    (fun os started H enc _ F0 => by rw [OpenClaim.pre_eq_preRow]; exact RadioFrames.lifted os started H enc F0)
end Go.Proofs.YtnpcmealdfapjaaDoor

