/- PillowFurther: the row. -/
import Derived.Test.YtelenedgaoglaaaDoorBp
import Derived.Test.YtelenedgaoglaaaDoorL4
set_option linter.unusedVariables false
namespace Go.Proofs.YtelenedgaoglaaaDoor
open Go.Ab Go.Pil Go.ChangeShapes Go.WideShapes Go.ChangeAt Go.RowKit
namespace PillowFurther
noncomputable def wArgs : Array Value := #[(.agg #[.int .i64 0, .int .i64 0, .int .i64 0, .int .i64 0, .int .i64 0, .int .i64 0, .slice none 0 0] : Value), (.slice none 0 0 : Value), (.agg #[.int .i64 0, .int .i64 0] : Value), (.agg #[.int .i64 0, .int .i64 0] : Value)]
theorem witness_row (os : Os) {H : Type} (enc : TypeId × Value → H) :
    (OpenSpec.ofChange Rows.pillowFurtherSpec).preRow enc Tryd.prog Tryd.f5 Rows.pillowFurtherRow.domain false Rows.pillowFurtherRow.laid ((laidWorld os).forCall (fun _ _ => 0) ⟨#[], wArgs, []⟩).memory wArgs := by
  have hw : (DataW.whole enc Tryd.prog ((laidWorld os).forCall (fun _ _ => 0) ⟨#[], wArgs, []⟩).memory Tryd.f5.params.toList (OpenSpec.ofChange Rows.pillowFurtherSpec).vars false wArgs.toList 8).map (fun x => (x.1, x.2.1)) =
      some ([.agg [.lit (.int .i64 0), .lit (.int .i64 0), .lit (.int .i64 0), .lit (.int .i64 0), .lit (.int .i64 0), .lit (.int .i64 0), .nil], .nil, .agg [.lit (.int .i64 0), .lit (.int .i64 0)], .agg [.lit (.int .i64 0), .lit (.int .i64 0)]], []) := by kernel_rfl
  obtain ⟨⟨x1, x2, x3⟩, hx, hx1⟩ := Option.map_eq_some_iff.1 hw
  simp only [Prod.mk.injEq] at hx1
  obtain ⟨rfl, rfl⟩ := hx1
  exact OpenSpec.preRow_of_cond 8 hx (by kernel_rfl) (fun k hk => by cases hk) (by kernel_rfl) (laid_met os _)
theorem law : ∀ avs, ArgsFit [aPlw, aSps, aShw, aSpn] avs → FSpecG Tryd.prog TAB 5 avs (B true) none := by
  intro avs h
  obtain ⟨x0, r0, rfl, h0⟩ := h.cons
  obtain ⟨x1, r1, rfl, h1⟩ := h0.cons
  obtain ⟨x2, r2, rfl, h2⟩ := h1.cons
  obtain ⟨x3, r3, rfl, h3⟩ := h2.cons
  obtain rfl := h3.nil
  exact PillowFurther_s x0 x1.1 x2 x3 x1.2
theorem spec_eq {H : Type} (F : Stop.Interp) : ∀ ds : List (DataW H), ds.length = 4 → ((OpenSpec.ofChange Rows.pillowFurtherSpec).at F).fn H (ds ++ []) = { results := [.lit (.bool true)], args := ds } := by
  intro ds h
  match ds, h with
  | [d0, d1, d2, d3], _ => rfl
set_option maxRecDepth 100000 in
set_option maxHeartbeats 2000000 in
theorem lifted (os : Os) (started : os.Started) (H : Type) (enc : TypeId × Value → H) (F : Stop.Interp) :
    ReturnsInHanded {} Tryd.checked os 5 .any ((OpenSpec.ofChange Rows.pillowFurtherSpec).preRow enc Tryd.prog Tryd.f5 Rows.pillowFurtherRow.domain false Rows.pillowFurtherRow.laid) (((OpenSpec.ofChange Rows.pillowFurtherSpec).at F).post enc Tryd.prog Tryd.f5 false true false false) := by
  refine returnsInHanded_of_row (C := Tryd.checked) (s := OpenSpec.ofChange Rows.pillowFurtherSpec) own started (by kernel_rfl) Tryd.func5
    (witness_row_at (enc := enc) (C := Tryd.checked) false (laidWorld os) wArgs rfl (by kernel_rfl) (by kernel_rfl) (by kernel_rfl) (witness_row os enc)) ?_
  intro W base args ds gs before hval hW _ _ _ hL _ _
  exact contract_all [aPlw, aSps, aShw, aSpn] (by rw [Tryd.params5]; rfl) (by kernel_rfl) rfl (spec_eq F) (fun A hA => by
    simp only [List.mem_cons, List.not_mem_nil, or_false] at hA
    rcases hA with rfl | rfl | rfl | rfl <;> exact ⟨by kernel_rfl, of_decide_eq_true (by kernel_rfl)⟩) law W base args ds gs before hval hW hL
end PillowFurther
set_option maxRecDepth 100000 in
theorem pillowFurther_holds : Rows.PillowFurtherSaid :=
  OpenClaim.holds_of_cond 5 Tryd.f5 rfl rfl rfl rfl rfl rfl rfl ⟨rfl, rfl, rfl, rfl, rfl⟩ rfl rfl rfl rfl rfl (by kernel_rfl) Tryd.func5 (by kernel_rfl)
    (of_decide_eq_true (by kernel_rfl)) (by unfold Func.isWrapper; rw [if_neg (of_decide_eq_false (by kernel_rfl))]; exact ⟨rfl, rfl⟩)
    (fun os started H enc _ F0 => by rw [OpenClaim.pre_eq_preRow]; exact PillowFurther.lifted os started H enc F0)
end Go.Proofs.YtelenedgaoglaaaDoor
