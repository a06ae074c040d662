/- PillowTruth: the row. -/
import Derived.Test.YtelenedgaoglaaaGreatDoorBt
import Derived.Test.YtelenedgaoglaaaGreatDoorL8
set_option linter.unusedVariables false
namespace Go.Proofs.YtelenedgaoglaaaGreatDoor
open Go.Ab Go.Pil Go.ChangeShapes Go.WideShapes Go.ChangeAt Go.RowKit
namespace PillowTruth
noncomputable def wArgs : Array Value := #[(.agg #[.int .i64 0, .int .i64 0, .int .i64 0, .int .i64 0, .int .i64 0, .slice none 0 0, .slice none 0 0, .slice none 0 0, .slice none 0 0, .slice none 0 0, .int .i64 0] : Value)]
theorem witness_row (os : Os) {H : Type} (enc : TypeId × Value → H) :
    (OpenSpec.ofChange Rows.pillowTruthSpec).preRow enc Tryz.prog Tryz.f11 Rows.pillowTruthRow.domain false Rows.pillowTruthRow.laid ((laidWorld os).forCall (fun _ _ => 0) ⟨#[], wArgs, []⟩).memory wArgs := by
  have hw : (DataW.whole enc Tryz.prog ((laidWorld os).forCall (fun _ _ => 0) ⟨#[], wArgs, []⟩).memory Tryz.f11.params.toList (OpenSpec.ofChange Rows.pillowTruthSpec).vars false wArgs.toList 8).map (fun x => (x.1, x.2.1)) =
      some ([.agg [.lit (.int .i64 0), .lit (.int .i64 0), .lit (.int .i64 0), .lit (.int .i64 0), .lit (.int .i64 0), .nil, .nil, .nil, .nil, .nil, .lit (.int .i64 0)]], []) := by kernel_rfl
  obtain ⟨⟨x1, x2, x3⟩, hx, hx1⟩ := Option.map_eq_some_iff.1 hw
  simp only [Prod.mk.injEq] at hx1
  obtain ⟨rfl, rfl⟩ := hx1
  exact OpenSpec.preRow_of_cond 8 hx (by kernel_rfl) (fun k hk => by cases hk) (by kernel_rfl) (laid_met os _)
theorem law : ∀ avs, ArgsFit [aTru] avs → FSpecG Tryz.prog TAB 11 avs (B true) none := by
  intro avs h
  obtain ⟨x0, r0, rfl, h0⟩ := h.cons
  obtain rfl := h0.nil
  exact PillowTruth_s x0.1 x0.2
theorem spec_eq {H : Type} (F : Stop.Interp) : ∀ ds : List (DataW H), ds.length = 1 → ((OpenSpec.ofChange Rows.pillowTruthSpec).at F).fn H (ds ++ []) = { results := [.lit (.bool true)], args := ds } := by
  intro ds h
  match ds, h with
  | [d0], _ => rfl
set_option maxRecDepth 100000 in
set_option maxHeartbeats 2000000 in
theorem lifted (os : Os) (started : os.Started) (H : Type) (enc : TypeId × Value → H) (F : Stop.Interp) :
    ReturnsInHanded {} Tryz.checked os 11 .any ((OpenSpec.ofChange Rows.pillowTruthSpec).preRow enc Tryz.prog Tryz.f11 Rows.pillowTruthRow.domain false Rows.pillowTruthRow.laid) (((OpenSpec.ofChange Rows.pillowTruthSpec).at F).post enc Tryz.prog Tryz.f11 false true false false) := by
  refine returnsInHanded_of_row (C := Tryz.checked) (s := OpenSpec.ofChange Rows.pillowTruthSpec) own started (by kernel_rfl) Tryz.func11
    (witness_row_at (enc := enc) (C := Tryz.checked) false (laidWorld os) wArgs rfl (by kernel_rfl) (by kernel_rfl) (by kernel_rfl) (witness_row os enc)) ?_
  intro W base args ds gs before hval hW _ _ _ hL _ _
  exact contract_all [aTru] (by rw [Tryz.params11]; rfl) (by kernel_rfl) rfl (spec_eq F) (fun A hA => by
    simp only [List.mem_cons, List.not_mem_nil, or_false] at hA
    rcases hA with rfl <;> exact ⟨by kernel_rfl, of_decide_eq_true (by kernel_rfl)⟩) law W base args ds gs before hval hW hL
end PillowTruth
set_option maxRecDepth 100000 in
theorem pillowTruth_holds : Rows.PillowTruthSaid :=
  OpenClaim.holds_of_cond 11 Tryz.f11 rfl rfl rfl rfl rfl rfl rfl ⟨rfl, rfl, rfl, rfl, rfl⟩ rfl rfl rfl rfl rfl (by kernel_rfl) Tryz.func11 (by kernel_rfl)
    (of_decide_eq_true (by kernel_rfl)) (by unfold Func.isWrapper; rw [if_neg (of_decide_eq_false (by kernel_rfl))]; exact ⟨rfl, rfl⟩)
    (fun os started H enc _ F0 => by rw [OpenClaim.pre_eq_preRow]; exact PillowTruth.lifted os started H enc F0)
end Go.Proofs.YtelenedgaoglaaaGreatDoor
