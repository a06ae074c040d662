/- A list of steps, and how long it can be. -/
import Derived.Test.YtgagfmjpmdgfdaaDoorBp
set_option linter.unusedVariables false
set_option maxRecDepth 20000
set_option linter.unusedSimpArgs false
namespace Go.Proofs.YtgagfmjpmdgfdaaDoor
open Go.Ab Go.ChangeShapes Go.WideShapes Go.ChangeAt Go.RowKit
theorem ok43 {W : World} {base : Nat} {a : Addr} {n cap : Nat} (h : Value.okWide Tryd.prog W .any base 43 (.slice (some a) n cap)) : n ≤ 9223372036854775807 := by
  unfold Value.okWide at h
  rw [Tryd.underlying43] at h
  simp only [Cell.okWide, Tryd.underlying43, Cell.ok] at h
  have h1 := h.1
  have h2 := h.2.1
  have h3 : IntKind.i64.max = 9223372036854775807 := by decide
  rw [h3] at h2
  omega
theorem vr_len {w M V G} {es : List (List AV)} {v : Value} (h : VR w M V G (.sl es) v) : es = [] ∨ ∃ a cap, v = .slice (some a) es.length cap := by
  cases h with
  | sl0 a cap => exact .inl rfl
  | sl _ z b off cap X hz hcap hc hv => exact .inr ⟨_, _, rfl⟩
def aStpsB : Arg := ⟨43, {l : List Stp // l.length ≤ 9223372036854775807}, fun l => AV.sl (stps l.1), fun h hok => by
  obtain ⟨l, hv⟩ := op_one (f := fun l : List Stp => AV.sl (stps l)) el_stps no_agg43 h hok
  refine ⟨⟨l, ?_⟩, hv⟩
  have hl : (stps l).length = l.length := by simp [stps]
  rcases vr_len hv with h1 | ⟨a, cap, rfl⟩
  · rw [h1] at hl; simp at hl; omega
  · rw [← hl]; exact ok43 hok⟩
end Go.Proofs.YtgagfmjpmdgfdaaDoor
