/- Spans joined one by one. -/
import Derived.Test.YtelenedgaoglaaaGreatDoorMA
namespace Go.Pil
def stp (acc : List Sp) (s : Sp) : List Sp :=
  if acc.length = 0 ∨ (acc.getD (acc.length - 1) ⟨0, 0⟩).hi + 1 < s.lo then acc ++ [s] else acc.set (acc.length - 1) ⟨(acc.getD (acc.length - 1) ⟨0, 0⟩).lo, max (acc.getD (acc.length - 1) ⟨0, 0⟩).hi s.hi⟩
theorem stp_snoc (pre : List Sp) (t s : Sp) : stp (pre ++ [t]) s = if s.lo > t.hi + 1 then pre ++ [t] ++ [s] else pre ++ [⟨t.lo, max t.hi s.hi⟩] := by
  unfold stp
  have hl : (pre ++ [t]).length - 1 = pre.length := by simp
  have hg : (pre ++ [t]).getD pre.length ⟨0, 0⟩ = t := by simp [List.getD_eq_getElem?_getD]
  rw [hl, hg]
  by_cases h : t.hi + 1 < s.lo
  · rw [if_pos (.inr h), if_pos h]
  · rw [if_neg (by simp; omega), if_neg h]
    rw [List.set_append_right _ _ (Nat.le_refl _), Nat.sub_self]
    rfl
theorem fold_join1 : ∀ (l pre : List Sp) (t : Sp), l.foldl stp (pre ++ [t]) = pre ++ join1 t l := by
  intro l
  induction l with
  | nil => intro pre t; rfl
  | cons s l ih =>
    intro pre t
    rw [List.foldl_cons, stp_snoc, join1]
    by_cases h : s.lo > t.hi + 1
    · rw [if_pos h, if_pos h, ih, List.append_assoc]; rfl
    · rw [if_neg h, if_neg h, ih]
theorem fold_joined (l : List Sp) : l.foldl stp [] = joined l := by
  cases l with
  | nil => rfl
  | cons s l =>
    have h0 : stp [] s = [] ++ [s] := by unfold stp; rw [if_pos (.inl rfl)]
    rw [List.foldl_cons, h0, fold_join1]; rfl
def BdS (s : Sp) : Prop := -1000000000 ≤ s.lo ∧ s.lo ≤ 1000000000 ∧ -1000000000 ≤ s.hi ∧ s.hi ≤ 1000000000
theorem stp_bd {acc : List Sp} {s : Sp} (ha : ∀ t ∈ acc, BdS t) (hs : BdS s) : ∀ t ∈ stp acc s, BdS t := by
  unfold stp
  split
  · intro t ht
    rcases List.mem_append.1 ht with h | h
    · exact ha t h
    · rw [List.mem_singleton.1 h]; exact hs
  · rename_i hn
    have h0 : acc.length ≠ 0 := fun h => hn (.inl h)
    intro t ht
    rcases List.mem_or_eq_of_mem_set ht with h | h
    · exact ha t h
    · have hm : acc.getD (acc.length - 1) ⟨0, 0⟩ ∈ acc := by
        rw [List.getD_eq_getElem?_getD, List.getElem?_eq_getElem (by omega)]
        exact List.getElem_mem _
      have h2 := ha _ hm
      subst h
      unfold BdS at *
      simp only
      omega
theorem fold_bd : ∀ (l acc : List Sp), (∀ s ∈ l, BdS s) → (∀ t ∈ acc, BdS t) → ∀ t ∈ l.foldl stp acc, BdS t := by
  intro l
  induction l with
  | nil => intro acc _ ha; exact ha
  | cons s l ih => intro acc hl ha; exact ih _ (fun x hx => hl x (List.mem_cons_of_mem _ hx)) (stp_bd ha (hl s List.mem_cons_self))
theorem stp_len (acc : List Sp) (s : Sp) : (stp acc s).length ≤ acc.length + 1 := by
  unfold stp; split <;> simp
theorem fold_len : ∀ (l acc : List Sp), (l.foldl stp acc).length ≤ acc.length + l.length := by
  intro l
  induction l with
  | nil => intro acc; simp
  | cons s l ih => intro acc; rw [List.foldl_cons]; have h1 := ih (stp acc s); have h2 := stp_len acc s; simp only [List.length_cons]; omega
end Go.Pil
