/- PillowPossible: the row. -/
import Derived.Test.YtelenedgaoglaaaGreatDoorBp
import Derived.Test.YtelenedgaoglaaaGreatDoorY16
set_option linter.unusedVariables false
namespace Go.Proofs.YtelenedgaoglaaaGreatDoor
open Go.Ab Go.Pil Go.ChangeShapes Go.WideShapes Go.ChangeAt Go.RowKit
namespace PillowPossible
noncomputable def wArgs : Array Value := #[(.agg #[.int .i64 0, .int .i64 0, .int .i64 0, .int .i64 0, .int .i64 0, .int .i64 0, .slice none 0 0] : Value), (.slice none 0 0 : Value), (.int .i64 0 : Value)]
theorem witness_row (os : Os) {H : Type} (enc : TypeId × Value → H) :
    (OpenSpec.ofChange Rows.pillowPossibleSpec).preRow enc Tryz.prog Tryz.f7 Rows.pillowPossibleRow.domain false Rows.pillowPossibleRow.laid ((laidWorld os).forCall (fun _ _ => 0) ⟨#[], wArgs, []⟩).memory wArgs := by
  have hw : (DataW.whole enc Tryz.prog ((laidWorld os).forCall (fun _ _ => 0) ⟨#[], wArgs, []⟩).memory Tryz.f7.params.toList (OpenSpec.ofChange Rows.pillowPossibleSpec).vars false wArgs.toList 8).map (fun x => (x.1, x.2.1)) =
      some ([.agg [.lit (.int .i64 0), .lit (.int .i64 0), .lit (.int .i64 0), .lit (.int .i64 0), .lit (.int .i64 0), .lit (.int .i64 0), .nil], .nil, .lit (.int .i64 0)], []) := by kernel_rfl
  obtain ⟨⟨x1, x2, x3⟩, hx, hx1⟩ := Option.map_eq_some_iff.1 hw
  simp only [Prod.mk.injEq] at hx1
  obtain ⟨rfl, rfl⟩ := hx1
  exact OpenSpec.preRow_of_cond 8 hx (by kernel_rfl) (fun k hk => by cases hk) (by kernel_rfl) (laid_met os _)
theorem law : ∀ avs, ArgsFit [aPlw, aSps, aInt] avs → FSpecG Tryz.prog TAB 7 avs (B true) none := by
  intro avs h
  obtain ⟨x0, r0, rfl, h0⟩ := h.cons
  obtain ⟨x1, r1, rfl, h1⟩ := h0.cons
  obtain ⟨x2, r2, rfl, h2⟩ := h1.cons
  obtain rfl := h2.nil
  exact PillowPossible_s x0 x1.1 x2 x1.2
theorem spec_eq {H : Type} (F : Stop.Interp) : ∀ ds : List (DataW H), ds.length = 3 → ((OpenSpec.ofChange Rows.pillowPossibleSpec).at F).fn H (ds ++ []) = { results := [.lit (.bool true)], args := ds } := by
  intro ds h
  match ds, h with
  | [d0, d1, d2], _ => rfl
set_option maxRecDepth 100000 in
set_option maxHeartbeats 2000000 in
theorem lifted (os : Os) (started : os.Started) (H : Type) (enc : TypeId × Value → H) (F : Stop.Interp) :
    ReturnsInHanded {} Tryz.checked os 7 .any ((OpenSpec.ofChange Rows.pillowPossibleSpec).preRow enc Tryz.prog Tryz.f7 Rows.pillowPossibleRow.domain false Rows.pillowPossibleRow.laid) (((OpenSpec.ofChange Rows.pillowPossibleSpec).at F).post enc Tryz.prog Tryz.f7 false true false false) := by
  refine returnsInHanded_of_row (C := Tryz.checked) (s := OpenSpec.ofChange Rows.pillowPossibleSpec) own started (by kernel_rfl) Tryz.func7
    (witness_row_at (enc := enc) (C := Tryz.checked) false (laidWorld os) wArgs rfl (by kernel_rfl) (by kernel_rfl) (by kernel_rfl) (witness_row os enc)) ?_
  intro W base args ds gs before hval hW _ _ _ hL _ _
  exact contract_all [aPlw, aSps, aInt] (by rw [Tryz.params7]; rfl) (by kernel_rfl) rfl (spec_eq F) (fun A hA => by
    simp only [List.mem_cons, List.not_mem_nil, or_false] at hA
    rcases hA with rfl | rfl | rfl <;> exact ⟨by kernel_rfl, of_decide_eq_true (by kernel_rfl)⟩) law W base args ds gs before hval hW hL
end PillowPossible
set_option maxRecDepth 100000 in
theorem pillowPossible_holds : Rows.PillowPossibleSaid :=
  OpenClaim.holds_of_cond 7 Tryz.f7 rfl rfl rfl rfl rfl rfl rfl ⟨rfl, rfl, rfl, rfl, rfl⟩ rfl rfl rfl rfl rfl (by kernel_rfl) Tryz.func7 (by kernel_rfl)
    (of_decide_eq_true (by kernel_rfl)) (by unfold Func.isWrapper; rw [if_neg (of_decide_eq_false (by kernel_rfl))]; exact ⟨rfl, rfl⟩)
    (fun os started H enc _ F0 => by rw [OpenClaim.pre_eq_preRow]; exact PillowPossible.lifted os started H enc F0)
end Go.Proofs.YtelenedgaoglaaaGreatDoor
