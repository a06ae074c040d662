/- PillowTexts: the row. -/
import Derived.Test.YtelenedgaoglaaaGreatDoorBs
import Derived.Test.YtelenedgaoglaaaGreatDoorYA
set_option linter.unusedVariables false
namespace Go.Proofs.YtelenedgaoglaaaGreatDoor
open Go.Ab Go.Pil Go.ChangeShapes Go.WideShapes Go.ChangeAt Go.RowKit
namespace PillowTexts
noncomputable def wArgs : Array Value := #[(.agg #[.int .i64 0, .int .i64 0, .int .i64 0, .int .i64 0, .int .i64 0, .int .i64 0, .slice none 0 0] : Value), (.string ⟨#[]⟩ : Value)]
theorem witness_row (os : Os) {H : Type} (enc : TypeId × Value → H) :
    (OpenSpec.ofChange Rows.pillowTextsSpec).preRow enc Tryz.prog Tryz.f9 Rows.pillowTextsRow.domain false Rows.pillowTextsRow.laid ((laidWorld2 os).forCall (fun _ _ => 0) ⟨#[], wArgs, []⟩).memory wArgs := by
  have hw : (DataW.whole enc Tryz.prog ((laidWorld2 os).forCall (fun _ _ => 0) ⟨#[], wArgs, []⟩).memory Tryz.f9.params.toList (OpenSpec.ofChange Rows.pillowTextsSpec).vars false wArgs.toList 8).map (fun x => (x.1, x.2.1)) =
      some ([.agg [.lit (.int .i64 0), .lit (.int .i64 0), .lit (.int .i64 0), .lit (.int .i64 0), .lit (.int .i64 0), .lit (.int .i64 0), .nil], .lit (.string [])], []) := by kernel_rfl
  obtain ⟨⟨x1, x2, x3⟩, hx, hx1⟩ := Option.map_eq_some_iff.1 hw
  simp only [Prod.mk.injEq] at hx1
  obtain ⟨rfl, rfl⟩ := hx1
  exact OpenSpec.preRow_of_cond 8 hx (by kernel_rfl) (fun k hk => by cases hk) (by kernel_rfl) (laid_met2 os _)
theorem law : ∀ (p : Plw) (s : ByteArray), s.size ≤ 140737488355328 → FSpecG Tryz.prog TAB2 9 [aPlw.e p, .sc (.string s)] (B true) none := fun p s h => PillowTexts_s p s h
theorem spec_eq {H : Type} (F : Stop.Interp) : ∀ ds : List (DataW H), ds.length = 2 → ((OpenSpec.ofChange Rows.pillowTextsSpec).at F).fn H (ds ++ []) = { results := [.lit (.bool true)], args := ds } := by
  intro ds h
  match ds, h with
  | [d0, d1], _ => rfl
set_option maxRecDepth 100000 in
set_option maxHeartbeats 2000000 in
theorem lifted (os : Os) (started : os.Started) (H : Type) (enc : TypeId × Value → H) (F : Stop.Interp) :
    ReturnsInHanded {} Tryz.checked os 9 .any ((OpenSpec.ofChange Rows.pillowTextsSpec).preRow enc Tryz.prog Tryz.f9 Rows.pillowTextsRow.domain false Rows.pillowTextsRow.laid) (((OpenSpec.ofChange Rows.pillowTextsSpec).at F).post enc Tryz.prog Tryz.f9 false true false false) := by
  refine returnsInHanded_of_row (C := Tryz.checked) (s := OpenSpec.ofChange Rows.pillowTextsSpec) own started (by kernel_rfl) Tryz.func9
    (witness_row_at (enc := enc) (C := Tryz.checked) false (laidWorld2 os) wArgs rfl (by kernel_rfl) (by kernel_rfl) (by kernel_rfl) (witness_row os enc)) ?_
  intro W base args ds gs before hval hW _ _ hwt hL _ _
  exact contract_texts (by rw [Tryz.params9]) (by kernel_rfl) rfl (spec_eq F) ⟨by kernel_rfl, of_decide_eq_true (by kernel_rfl)⟩ ⟨by kernel_rfl, of_decide_eq_true (by kernel_rfl)⟩ law W base args ds gs before hval hW hwt hL
end PillowTexts
set_option maxRecDepth 100000 in
theorem pillowTexts_holds : Rows.PillowTextsSaid :=
  OpenClaim.holds_of_cond 9 Tryz.f9 rfl rfl rfl rfl rfl rfl rfl ⟨rfl, rfl, rfl, rfl, rfl⟩ rfl rfl rfl rfl rfl (by kernel_rfl) Tryz.func9 (by kernel_rfl)
    (of_decide_eq_true (by kernel_rfl)) (by unfold Func.isWrapper; rw [if_neg (of_decide_eq_false (by kernel_rfl))]; exact ⟨rfl, rfl⟩)
    (fun os started H enc _ F0 => by rw [OpenClaim.pre_eq_preRow]; exact PillowTexts.lifted os started H enc F0)
end Go.Proofs.YtelenedgaoglaaaGreatDoor
