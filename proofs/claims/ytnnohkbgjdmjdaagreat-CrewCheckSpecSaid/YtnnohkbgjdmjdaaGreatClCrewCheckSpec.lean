/- CrewCheckSpec returns true for every range and all integers, valid or not, and leaves its arguments as they were. Its conditions: none but the row's own. -/
import Derived.Test.YtnnohkbgjdmjdaaGreatBo
import Derived.Test.YtnnohkbgjdmjdaaGreatL7g
set_option linter.unusedVariables false
namespace Go.Proofs.YtnnohkbgjdmjdaaGreat
open Go.Ab Go.ChangeShapes Go.WideShapes Go.ChangeAt Go.RowKit
namespace CrewCheckSpec
theorem law : ∀ avs, ArgsFit [aRng, aInt, aInt, aInt] avs → FSpec Tryz.prog 3 avs (B true) none := by
  intro avs h
  obtain ⟨x0, r0, rfl, h0⟩ := h.cons
  obtain ⟨x1, r1, rfl, h1⟩ := h0.cons
  obtain ⟨x2, r2, rfl, h2⟩ := h1.cons
  obtain ⟨x3, r3, rfl, h3⟩ := h2.cons
  obtain rfl := h3.nil
  exact CrewCheckSpec_s x0 x1 x2 x3
theorem spec_eq {H : Type} : ∀ ds : List (DataW H), ds.length = 4 → Rows.crewCheckSpecSpec.fn H (ds ++ []) = { results := [.lit (.bool true)], args := ds } := by
  intro ds h
  match ds, h with
  | [d0, d1, d2, d3], _ => rfl
set_option maxRecDepth 100000 in
theorem lifted (os : Os) (started : os.Started) (H : Type) (enc : TypeId × Value → H) :
    ReturnsInHanded {} Tryz.checked os 3 .any (Rows.crewCheckSpecSpec.pre6 enc Tryz.prog Tryz.f3 Rows.crewCheckSpecRow.domain false) (Rows.crewCheckSpecSpec.post enc Tryz.prog Tryz.f3 false true false false) := by
  refine returnsInHanded_of_change (C := Tryz.checked) own started (by kernel_rfl) Tryz.func3
    (ChangeSpec.witness6 (enc := enc) (C := Tryz.checked) false ⟨#[], #[(.agg #[.slice none 0 0, .slice none 0 0] : Value), (.int .i64 0 : Value), (.int .i64 0 : Value), (.int .i64 0 : Value)], []⟩ 8 (by kernel_rfl) (by kernel_rfl) (by kernel_rfl) (by kernel_rfl)) ?_
  intro W base args ds gs before hval hW hcnd _
  exact contract_all [aRng, aInt, aInt, aInt] (by rw [Tryz.params3]; rfl) (by kernel_rfl) rfl spec_eq (fun A hA => by
    simp only [List.mem_cons, List.not_mem_nil, or_false] at hA
    rcases hA with rfl | rfl | rfl | rfl <;> exact ⟨by kernel_rfl, of_decide_eq_true (by kernel_rfl)⟩) law W base args ds gs before hval hW
end CrewCheckSpec
set_option maxRecDepth 100000 in
theorem crewCheckSpec_holds : Rows.CrewCheckSpecSaid :=
  OpenClaim.holds_of_wide 3 Tryz.f3 rfl rfl rfl rfl rfl rfl rfl ⟨rfl, rfl, rfl, rfl, rfl⟩ rfl rfl rfl rfl rfl (by kernel_rfl) Tryz.func3 (by kernel_rfl)
    (of_decide_eq_true (by kernel_rfl)) (by unfold Func.isWrapper; rw [if_neg (of_decide_eq_false (by kernel_rfl))]; exact ⟨rfl, rfl⟩)
    (fun os started H enc _ => CrewCheckSpec.lifted os started H enc)
end Go.Proofs.YtnnohkbgjdmjdaaGreat

