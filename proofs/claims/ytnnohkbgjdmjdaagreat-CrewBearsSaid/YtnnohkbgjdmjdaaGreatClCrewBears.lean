/- CrewBears returns true for every water and steepness, valid or not, and leaves its arguments as they were. Its conditions: none but the row's own. -/
import Derived.Test.YtnnohkbgjdmjdaaGreatL7d
import Derived.Test.YtnnohkbgjdmjdaaGreatRows
import Derived.ProofKit
set_option linter.unusedVariables false
namespace Go.Proofs.YtnnohkbgjdmjdaaGreat
open Go.Ab Go.ChangeShapes Go.WideShapes Go.ChangeAt Go.RowKit
theorem own : ownKnob Tryz.prog.godebug = none := by kernel_rfl
set_option maxRecDepth 100000 in
theorem crewBears_lifted (os : Os) (started : os.Started) (H : Type) (enc : TypeId × Value → H) :
    ReturnsInHanded {} Tryz.checked os 4 .any (Rows.crewBearsSpec.pre6 enc Tryz.prog Tryz.f4 Rows.crewBearsRow.domain false) (Rows.crewBearsSpec.post enc Tryz.prog Tryz.f4 false true false false) := by
  refine returnsInHanded_of_change (C := Tryz.checked) own started (by kernel_rfl) Tryz.func4
    (ChangeSpec.witness6 (enc := enc) (C := Tryz.checked) false ⟨#[], #[.int .i64 0, .int .i64 0], []⟩ 8 (by kernel_rfl) (by kernel_rfl) (by kernel_rfl) (by kernel_rfl)) ?_
  intro W base args ds gs before hval0 hW hcnd _
  have hval : ∀ (j : Nat) t v, Tryz.f4.params[j]? = some t → args[j]? = some v → Value.okWide Tryz.prog W .any base t v := hval0
  have hW' := hW
  obtain ⟨p, q, hA0, hV, rfl, hfz, hnd⟩ := hW
  have hA : DataW.TrodAll enc Tryz.prog W 0 (fun _ => true) true Tryz.f4.params.toList args.toList ds p := hA0
  rw [Tryz.params4] at hA hval
  obtain ⟨v0, v1, d0, d1, p0, p1, rfl, rfl, rfl, h0, h1⟩ := trodAll_two hA
  obtain ⟨rfl, rfl⟩ := trodVars_none hV
  obtain ⟨a, rfl, rfl, rfl, wa⟩ := open_int Tryz.underlying3 (hval 0 3 v0 rfl rfl) h0
  obtain ⟨b, rfl, rfl, rfl, wb⟩ := open_int Tryz.underlying3 (hval 1 3 v1 rfl rfl) h1
  clear hA0 hval0
  simp only [List.append_nil] at hW'
  have hc := CrewBears_s a b W (fun _ => none) [.int .i64 a, .int .i64 b] trivial rfl (fun i x v hx hv => by
    cases i with
    | zero => simp at hx hv; subst hx; subst hv; exact VR.sc _
    | succ i =>
      cases i with
      | zero => simp at hx hv; subst hx; subst hv; exact VR.sc _
      | succ i =>
        simp at hx) (fun _ _ => rfl)
  refine (show Calls Tryz.prog 4 #[.int .i64 a, .int .i64 b] W _ from hc).mono fun e W' ⟨v, he, bel, hr⟩ => ?_
  subst he
  cases hr
  refine ⟨_, rfl, [.lit (.int .i64 a), .lit (.int .i64 b)], [], [], [], [], [], hW', ?_, ?_, ?_, bel.frame _, fun h => by cases h⟩
  · exact trodAll_mk1 (shut_bool Tryz.underlying4 _)
  · exact trodAll_mk2 (shut_int Tryz.underlying3 wa) (shut_int Tryz.underlying3 wb)
  · rfl
set_option maxRecDepth 100000 in
theorem crewBears_holds : Rows.CrewBearsSaid :=
  OpenClaim.holds_of_wide 4 Tryz.f4 rfl rfl rfl rfl rfl rfl rfl ⟨rfl, rfl, rfl, rfl, rfl⟩ rfl rfl rfl rfl rfl (by kernel_rfl) Tryz.func4 (by kernel_rfl)
    (of_decide_eq_true (by kernel_rfl)) (by unfold Func.isWrapper; rw [if_neg (of_decide_eq_false (by kernel_rfl))]; exact ⟨rfl, rfl⟩)
    (fun os started H enc _ => crewBears_lifted os started H enc)
end Go.Proofs.YtnnohkbgjdmjdaaGreat

