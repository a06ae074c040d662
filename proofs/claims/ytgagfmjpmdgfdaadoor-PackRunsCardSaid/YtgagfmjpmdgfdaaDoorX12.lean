/- What the laws on slopes and on the order need. -/
import Derived.Test.YtgagfmjpmdgfdaaDoorQ17
set_option linter.unusedSimpArgs false
set_option linter.unusedVariables false
namespace Go.Proofs.YtgagfmjpmdgfdaaDoor
open Go.Ab
theorem brk_no {p : List Lay} {s : Int} (h : ¬ (brkM p s).2 = 0) : (brkM p s).1 = false := by
  unfold brkM at *
  by_cases h1 : packE p = 0
  · rw [if_pos h1] at h ⊢
    by_cases h2 : 0 ≤ s ∧ s ≤ 60
    · rw [if_pos h2] at h; exact absurd rfl h
    · rw [if_neg h2]
  · rw [if_neg h1]
theorem brk_ok {p : List Lay} {s : Int} (h : (brkM p s).2 = 0) : packE p = 0 ∧ (0 ≤ s ∧ s ≤ 60) ∧ (brkM p s).1 = brkA (burd p 0) s := by
  unfold brkM at *
  by_cases h1 : packE p = 0
  · rw [if_pos h1] at h ⊢
    by_cases h2 : 0 ≤ s ∧ s ≤ 60
    · rw [if_pos h2]; exact ⟨h1, h2, rfl⟩
    · rw [if_neg h2] at h; simp at h
  · rw [if_neg h1] at h; simp at h
theorem steep_ok {p : List Lay} (h : packE p = 0) : FSpec Tryd.prog 48 [.agg (eK p)] (.tup [I ((stpN (burd p 0) 60 0 : Nat) : Int), I 0]) none := by
  have h1 := Steepest_s p
  have e : stpM p = (((stpN (burd p 0) 60 0 : Nat) : Int), 0) := by unfold stpM; rw [if_pos h]
  rwa [e] at h1
theorem less_ok {p q : List Lay} (h : packE p = 0) (h2 : packE q = 0) : FSpec Tryd.prog 50 [.agg (eK p), .agg (eK q)] (.tup [B (lessB p q), I 0]) none := by
  have h1 := Less_s p q
  have e : lesM p q = (lessB p q, 0) := by unfold lesM; rw [if_pos ⟨h, h2⟩]
  rwa [e] at h1
theorem wk_none {p : List Lay} (hp : packE p = 0) (h : ¬ (wkM p).2.2 = 0) : p = [] ∧ (wkM p).2.2 = 4 := by
  unfold wkM at *
  rw [if_pos hp] at h ⊢
  by_cases h1 : p.length = 0
  · rw [if_pos h1]; exact ⟨List.eq_nil_of_length_eq_zero h1, rfl⟩
  · rw [if_neg h1] at h; exact absurd rfl h
theorem wk_some {p : List Lay} (hp : packE p = 0) (h : (wkM p).2.2 = 0) : ∃ (k : Nat) (hk : k < p.length), (wkM p).1 = (k : Int) ∧ (0 ≤ (wkM p).2.1 ∧ (wkM p).2.1 ≤ 65536) ∧ (1 ≤ strn p[k] ∧ strn p[k] ≤ 800000) ∧
    ∀ s, brkA (burd p 0) s = decide ((wkM p).2.1 * (s - 25) > 3 * strn p[k]) := by
  unfold wkM at *
  rw [if_pos hp] at h ⊢
  by_cases h1 : p.length = 0
  · rw [if_pos h1] at h; simp at h
  · rw [if_neg h1]
    have hlt := wkA_lt (burd p 0) p.length (by omega)
    have hlb : wkA (burd p 0) p.length < (burd p 0).length := by rw [burd_len]; exact hlt
    have hg := burd_get hlt hlb (a := 0)
    have hok := burd_ok hp _ (List.getElem_mem hlb)
    have hw := brk_wk (burd_ok hp) (by rw [burd_len]; omega)
    rw [burd_len] at hw
    rw [hg] at hok
    simp only [getD_at hlb, hg] at hw ⊢
    unfold burB at hok
    simp only [] at hok
    exact ⟨_, hlt, rfl, ⟨hok.1, hok.2.1⟩, ⟨hok.2.2.1, hok.2.2.2⟩, fun s => by rw [hw s]; unfold brkB; rfl⟩
end Go.Proofs.YtgagfmjpmdgfdaaDoor
