/- Rows of layers, cell by cell; water that flows millimetre by millimetre. -/
import Derived.Test.YtgagfmjpmdgfdaaDoorX12
import Derived.Test.YtgagfmjpmdgfdaaDoorXA
set_option linter.unusedSimpArgs false
set_option linter.unusedVariables false
namespace Go.Proofs.YtgagfmjpmdgfdaaDoor
open Go.Ab
theorem row_wet {A : List Lay} {i o : Nat} (h : i < A.length) (ho : o = i * 3 + 1) : partA false 1 ((rowC A).drop o) = some (I A[i].wet) := by subst ho; exact part1 (by unfold rowC; rw [lays_fget h (by omega)]; rfl)
theorem row_cold {A : List Lay} {i o : Nat} (h : i < A.length) (ho : o = i * 3 + 2) : partA false 1 ((rowC A).drop o) = some (I A[i].cold) := by subst ho; exact part1 (by unfold rowC; rw [lays_fget h (by omega)]; rfl)
theorem row_col (A : List Lay) (t : Int) : colC A t = rowC A ++ [I t] := rfl
theorem row_set1 {A : List Lay} {i k o : Nat} {l : Lay} {x : Int} (h : i < A.length) (hk : k < 3) (hl : (eL A[i]).set k (I x) = eL l) (ho : o = i * 3 + k) : splice (rowC A) [I x] o = rowC (A.set i l) := by
  subst ho
  have h1 := col_set (t := 0) h hk hl
  have hlen := row_len A
  have e : splice (colC A 0) [I x] (i * 3 + k) = splice (rowC A) [I x] (i * 3 + k) ++ [I 0] := by
    rw [row_col]
    unfold splice
    rw [List.take_append_of_le_length (by omega), List.drop_append_of_le_length (by simp; omega)]
    simp
  rw [e, row_col] at h1
  exact List.append_cancel_right h1
theorem flo1_set {L : List Lay} {k : Nat} (hk : k < L.length) (hf : ∀ x ∈ L.take k, fullB x = true) (hn : fullB L[k] = false) : flo1 L = (L.set k (inF L[k]), 0) := by
  have h := flo1_at (P := L.take k) (R := L.drop (k + 1)) hf hn
  have e : L.take k ++ L[k] :: L.drop (k + 1) = L := by rw [List.getElem_cons_drop]; exact List.take_append_drop k L
  rw [e] at h
  rw [h, List.set_eq_take_append_cons_drop, if_pos hk]
theorem full_take {L : List Lay} {k : Nat} (hk : k < L.length) (hf : ∀ x ∈ L.take k, fullB x = true) (hn : fullB L[k] = true) : ∀ x ∈ L.take (k + 1), fullB x = true := by
  intro x hx
  rw [List.take_succ_eq_append_getElem hk, List.mem_append] at hx
  rcases hx with h | h
  · exact hf x h
  · simp at h; subst h; exact hn
theorem full_iff {l : Lay} : fullB l = true ↔ l.cold = 0 ∧ l.ice / 20 ≤ l.wet := by simp [fullB]
theorem full_ff {l : Lay} (h : ¬ (l.cold = 0 ∧ l.ice / 20 ≤ l.wet)) : fullB l = false := by
  cases hc : fullB l with
  | false => rfl
  | true => exact absurd (full_iff.1 hc) h
theorem it_next {ls : List Lay} {n : Nat} {X : List Lay} {r : Int} (h : flo1 (itM flo1 n ls).1 = (X, r)) : itM flo1 (n + 1) ls = (X, (itM flo1 n ls).2 + r) := by
  rw [itM_snoc, h]
end Go.Proofs.YtgagfmjpmdgfdaaDoor
