/- The steps millimetre by millimetre, plain. -/
import Derived.Test.YtgagfmjpmdgfdaaDoorX8
set_option linter.unusedSimpArgs false
set_option linter.unusedVariables false
namespace Go.Proofs.YtgagfmjpmdgfdaaDoor
open Go.Ab
def fullB (l : Lay) : Bool := decide (l.cold = 0) && decide (l.ice / 20 ≤ l.wet)
def inF (l : Lay) : Lay := if 0 < l.cold then ⟨l.ice + 1, l.wet, l.cold - 1⟩ else ⟨l.ice, l.wet + 1, l.cold⟩
/-- One millimetre of water flows into layers. -/
def flo1 : List Lay → List Lay × Int
  | [] => ([], 1)
  | l :: r => if fullB l = true then (l :: (flo1 r).1, (flo1 r).2) else (inF l :: r, 0)
theorem flo1_full : ∀ {ls : List Lay}, (∀ l ∈ ls, fullB l = true) → flo1 ls = (ls, 1) := by
  intro ls
  induction ls with
  | nil => intro _; rfl
  | cons l r ih =>
    intro h
    rw [flo1, if_pos (h l (by simp)), ih fun x hx => h x (by simp [hx])]
theorem flo1_at : ∀ {P R : List Lay} {l : Lay}, (∀ x ∈ P, fullB x = true) → fullB l = false → flo1 (P ++ l :: R) = (P ++ inF l :: R, 0) := by
  intro P
  induction P with
  | nil => intro R l _ h; simp only [List.nil_append]; rw [flo1, if_neg (by rw [h]; simp)]
  | cons a P ih =>
    intro R l h hl
    simp only [List.cons_append]
    rw [flo1, if_pos (h a (by simp)), ih (fun x hx => h x (by simp [hx])) hl]
theorem pourL_1 : ∀ {ls : List Lay}, (∀ l ∈ ls, flo l) → pourL 1 ls = ((flo1 ls).2, (flo1 ls).1) := by
  intro ls
  induction ls with
  | nil => intro _; rfl
  | cons l r ih =>
    intro h
    have hl := h l (by simp)
    have hr : ∀ x ∈ r, flo x := fun x hx => h x (by simp [hx])
    by_cases hf : fullB l = true
    · have e : entF 1 l = (1, l) := by
        unfold flo at hl
        simp only [fullB, Bool.and_eq_true, decide_eq_true_eq] at hf
        unfold entF
        cases l
        simp only [Prod.mk.injEq, Lay.mk.injEq] at *
        omega
      simp only [pourL, flo1, e, ih hr]
      rw [if_pos hf]
    · have e : entF 1 l = (0, inF l) := by
        unfold flo at hl
        have hf : ¬ (l.cold = 0 ∧ l.ice / 20 ≤ l.wet) := by simpa [fullB] using hf
        unfold entF inF
        by_cases hc : 0 < l.cold
        · rw [if_pos hc]
          simp only [Prod.mk.injEq, Lay.mk.injEq] at *
          omega
        · rw [if_neg hc]
          simp only [Prod.mk.injEq, Lay.mk.injEq] at *
          omega
      simp only [pourL, flo1, e, pourL_0 hr]
      rw [if_neg hf]
theorem flo1_ok {ls : List Lay} (h : ∀ l ∈ ls, flo l) : (∀ l ∈ (flo1 ls).1, flo l) ∧ 0 ≤ (flo1 ls).2 ∧ (flo1 ls).2 ≤ 1 ∧ (flo1 ls).1.length = ls.length := by
  have h1 := pourL_1 h
  have h2 := pourL_ok h (show (0 : Int) ≤ 1 by omega)
  rw [h1] at h2
  exact ⟨h2.2.2.1, h2.1, h2.2.1, h2.2.2.2⟩
theorem pourL_it : ∀ (n : Nat) {ls : List Lay}, (∀ l ∈ ls, flo l) → pourL n ls = ((itM flo1 n ls).2, (itM flo1 n ls).1) := by
  intro n
  induction n with
  | zero => intro ls h; exact pourL_0 h
  | succ n ih =>
    intro ls h
    have h1 := pourL_two (a := 1) (b := (n : Nat)) h (by omega) (by omega)
    have h2 := pourL_1 h
    have h3 := ih (flo1_ok h).1
    rw [h2, h3] at h1
    rw [show ((n + 1 : Nat) : Int) = 1 + (n : Nat) by omega]
    exact Prod.ext h1.1 h1.2
theorem itM_snoc (f : List Lay → List Lay × Int) (n : Nat) (ls : List Lay) : itM f (n + 1) ls = ((f (itM f n ls).1).1, (itM f n ls).2 + (f (itM f n ls).1).2) := by
  rw [itM_add f n 1 ls]; simp [itM]
theorem itM_nil {f : List Lay → List Lay × Int} (hf : f [] = ([], 0)) : ∀ n, itM f n [] = ([], 0) := by
  intro n
  induction n with
  | zero => rfl
  | succ n ih => simp [itM, hf, ih]
theorem it_flo {ls : List Lay} (h : ∀ l ∈ ls, flo l) (n : Nat) : (∀ l ∈ (itM flo1 n ls).1, flo l) ∧ 0 ≤ (itM flo1 n ls).2 ∧ (itM flo1 n ls).2 ≤ n ∧ (itM flo1 n ls).1.length = ls.length := by
  have h1 := pourL_it n h
  have h2 := pourL_ok h (show (0 : Int) ≤ n by omega)
  rw [h1] at h2
  exact ⟨h2.2.2.1, h2.1, h2.2.1, h2.2.2.2⟩
theorem it_ok {f : List Lay → List Lay × Int} (hf : ∀ ls, colOk ls → colOk (f ls).1 ∧ 0 ≤ (f ls).2) : ∀ (n : Nat) {ls : List Lay}, colOk ls → colOk (itM f n ls).1 ∧ 0 ≤ (itM f n ls).2 := by
  intro n
  induction n with
  | zero => intro ls h; exact ⟨h, Int.le_refl _⟩
  | succ n ih =>
    intro ls h
    have h1 := hf ls h
    have h2 := ih h1.1
    simp only [itM]; exact ⟨h2.1, by omega⟩
/-- A step, millimetre by millimetre. -/
def doM (p : List Lay) (s : Stp) : List Lay × Int :=
  if s.kind = 1 ∧ 0 < s.much then (⟨s.much, 0, s.cold⟩ :: p, 0)
  else if s.kind = 2 then itM flo1 s.much.toNat p
  else if s.kind = 4 then (frzK s.much p, 0)
  else if s.kind = 1 then (p, 0)
  else if s.kind = 3 then itM melt1 s.much.toNat p
  else itM take1 s.much.toNat p
def tknM (p : List Lay) (s : Stp) : Int := if s.kind ≤ 4 then 0 else (take [] p s.much 0 0).2.2.1
/-- The reference's Apply. -/
def rappM (p : List Lay) (s : Stp) : List Lay × Int × Int :=
  if packE p = 0 then if stepE s = 0 then if packE (doM p s).1 = 0 then ((doM p s).1, (doM p s).2, 0) else ([], 0, 2) else ([], 0, 21) else ([], 0, 20)
theorem rappM_eq (p : List Lay) (s : Stp) : rappM p s = appM p s := by
  unfold rappM appM
  by_cases h1 : packE p = 0
  · rw [if_pos h1, if_pos h1]
    by_cases h2 : stepE s = 0
    · rw [if_pos h2, if_pos h2]
      have hs := (stepE_0.1 h2).1
      have hok := colOk_of h1
      have hm : 0 ≤ s.much := by omega
      by_cases k1 : s.kind = 1
      · have e2 : stpK (preZ p) p s = ((snwK (preZ p) p s.much s.cold).1, (snwK (preZ p) p s.much s.cold).2.1, 0, (snwK (preZ p) p s.much s.cold).2.2) := by unfold stpK; rw [if_pos k1]
        by_cases m0 : 0 < s.much
        · have e1 : doM p s = (⟨s.much, 0, s.cold⟩ :: p, 0) := by unfold doM; rw [if_pos ⟨k1, m0⟩]
          rw [e1, e2]
          by_cases hp : (preZ p).length = 0
          · have e3 : snwK (preZ p) p s.much s.cold = (preZ p, p, 2) := by unfold snwK; rw [if_neg (by omega), if_pos hp]
            have hl : ¬ packE (⟨s.much, 0, s.cold⟩ :: p) = 0 := by
              intro h; have := (packE_V.1 h).1
              have h3 := (packE_V.1 h1).1
              simp only [preZ, List.length_replicate, List.length_cons] at hp this; omega
            rw [e3, if_neg hl]; rfl
          · have e3 : snwK (preZ p) p s.much s.cold = ((preZ p).dropLast, ⟨s.much, 0, s.cold⟩ :: p, 0) := by unfold snwK; rw [if_neg (by omega), if_neg hp]
            rw [e3]; rfl
        · have e1 : doM p s = (p, 0) := by unfold doM; rw [if_neg (fun h => m0 h.2), if_neg (by omega), if_neg (by omega), if_pos k1]
          have e3 : snwK (preZ p) p s.much s.cold = (preZ p, p, 0) := by unfold snwK; rw [if_pos (by omega)]
          rw [e1, e2, e3]; rfl
      · by_cases k2 : s.kind = 2
        · have e1 : doM p s = itM flo1 s.much.toNat p := by unfold doM; rw [if_neg (by omega), if_pos k2]
          have e2 : stpK (preZ p) p s = (preZ p, (pourL s.much p).2, (pourL s.much p).1, 0) := by unfold stpK; rw [if_neg k1, if_pos k2]
          have e3 := pourL_it s.much.toNat (colOk_flo hok)
          rw [Int.toNat_of_nonneg hm] at e3
          rw [e1, e2, e3]; rfl
        · by_cases k3 : s.kind = 3
          · have e1 : doM p s = itM melt1 s.much.toNat p := by unfold doM; rw [if_neg (by omega), if_neg k2, if_neg (by omega), if_neg k1, if_pos k3]
            have e2 : stpK (preZ p) p s = ((melt (preZ p) p s.much 0).1, (melt (preZ p) p s.much 0).2.1, (melt (preZ p) p s.much 0).2.2, 0) := by unfold stpK; rw [if_neg k1, if_neg k2, if_pos k3]
            have e3 := melt_itM (p := preZ p) hok hm
            rw [e1, e2, e3.1, e3.2]; rfl
          · by_cases k4 : s.kind = 4
            · have e1 : doM p s = (frzK s.much p, 0) := by unfold doM; rw [if_neg (by omega), if_neg k2, if_pos k4]
              have e2 : stpK (preZ p) p s = (preZ p, frzK s.much p, 0, 0) := by unfold stpK; rw [if_neg k1, if_neg k2, if_neg k3, if_pos k4]
              rw [e1, e2]; rfl
            · have e1 : doM p s = itM take1 s.much.toNat p := by unfold doM; rw [if_neg (by omega), if_neg k2, if_neg k4, if_neg k1, if_neg k3]
              have e2 : stpK (preZ p) p s = ((take (preZ p) p s.much 0 0).1, (take (preZ p) p s.much 0 0).2.1, (take (preZ p) p s.much 0 0).2.2.2, 0) := by unfold stpK; rw [if_neg k1, if_neg k2, if_neg k3, if_neg k4]
              have e3 := take_itM (p := preZ p) hok hm
              rw [e1, e2, e3.1, e3.2]; rfl
    · rw [if_neg h2, if_neg h2]
  · rw [if_neg h1, if_neg h1]
end Go.Proofs.YtgagfmjpmdgfdaaDoor
