/- Drifts and runs, plain. -/
import Derived.Test.YtgagfmjpmdgfdaaDoorX9
set_option linter.unusedSimpArgs false
set_option linter.unusedVariables false
namespace Go.Proofs.YtgagfmjpmdgfdaaDoor
open Go.Ab
def drfM (p q : List Lay) (m : Int) : List Lay × List Lay × Int :=
  if packE p = 0 ∧ packE q = 0 then
    if 0 ≤ m ∧ m ≤ 65536 then
      if (appM q ⟨1, (take (preZ p) p m 0 0).2.2.1, 0⟩).2.2 = 0 then ((take (preZ p) p m 0 0).2.1, (appM q ⟨1, (take (preZ p) p m 0 0).2.2.1, 0⟩).1, 0)
      else ([], [], (appM q ⟨1, (take (preZ p) p m 0 0).2.2.1, 0⟩).2.2)
    else ([], [], 1)
  else ([], [], 20)
theorem drf_no {p q : List Lay} {m : Int} (h : ¬ (drfM p q m).2.2 = 0) : (drfM p q m).1 = [] ∧ (drfM p q m).2.1 = [] := by
  unfold drfM at *
  by_cases h1 : packE p = 0 ∧ packE q = 0
  · rw [if_pos h1] at h ⊢
    by_cases h2 : 0 ≤ m ∧ m ≤ 65536
    · rw [if_pos h2] at h ⊢
      by_cases h3 : (appM q ⟨1, (take (preZ p) p m 0 0).2.2.1, 0⟩).2.2 = 0
      · rw [if_pos h3] at h; exact absurd rfl h
      · rw [if_neg h3]; exact ⟨rfl, rfl⟩
    · rw [if_neg h2]; exact ⟨rfl, rfl⟩
  · rw [if_neg h1]; exact ⟨rfl, rfl⟩
theorem drf_ok {p q : List Lay} {m : Int} (h : (drfM p q m).2.2 = 0) :
    packE p = 0 ∧ packE q = 0 ∧ packE (drfM p q m).1 = 0 ∧ packE (drfM p q m).2.1 = 0 ∧ (appM p ⟨6, m, 0⟩).2.2 = 0 ∧ (appM p ⟨6, m, 0⟩).1 = (drfM p q m).1 ∧
    watL (drfM p q m).1 + watL (drfM p q m).2.1 + (appM p ⟨6, m, 0⟩).2.1 = watL p + watL q := by
  unfold drfM at *
  by_cases h1 : packE p = 0 ∧ packE q = 0
  · rw [if_pos h1] at h ⊢
    by_cases h2 : 0 ≤ m ∧ m ≤ 65536
    · rw [if_pos h2] at h ⊢
      by_cases h3 : (appM q ⟨1, (take (preZ p) p m 0 0).2.2.1, 0⟩).2.2 = 0
      · rw [if_pos h3]
        have h4 := take_E (pre := preZ p) h1.1 h2.1
        have h5 := app_blown h1.1 h2.1 h2.2
        have h6 := (app_cons h3).2.1 rfl
        have h7 := appM_ok h3
        rw [h5]
        simp only []
        exact ⟨h1.1, h1.2, h4.1, h7.2.2.2.1, trivial, trivial, by simp only [] at h6; omega⟩
      · rw [if_neg h3] at h; exact absurd h h3
    · rw [if_neg h2] at h; simp at h
  · rw [if_neg h1] at h; simp at h
def rdrM (p q : List Lay) (m : Int) : List Lay × List Lay × Int :=
  if packE p = 0 ∧ packE q = 0 then
    if 0 ≤ m ∧ m ≤ 65536 then
      if packE (doM p ⟨6, m, 0⟩).1 = 0 ∧ packE (doM q ⟨1, tknM p ⟨6, m, 0⟩, 0⟩).1 = 0 then ((doM p ⟨6, m, 0⟩).1, (doM q ⟨1, tknM p ⟨6, m, 0⟩, 0⟩).1, 0)
      else ([], [], 2)
    else ([], [], 1)
  else ([], [], 20)
theorem rdr_eq (p q : List Lay) (m : Int) : rdrM p q m = drfM p q m := by
  unfold rdrM drfM
  by_cases h1 : packE p = 0 ∧ packE q = 0
  · rw [if_pos h1, if_pos h1]
    by_cases h2 : 0 ≤ m ∧ m ≤ 65536
    · rw [if_pos h2, if_pos h2]
      have hok := colOk_of h1.1
      have e1 : doM p ⟨6, m, 0⟩ = itM take1 m.toNat p := by
        unfold doM; rw [if_neg (by simp), if_neg (by simp), if_neg (by simp), if_neg (by simp), if_neg (by simp)]
      have e2 := take_itM (p := preZ p) hok h2.1
      have e3 : tknM p ⟨6, m, 0⟩ = (take (preZ p) p m 0 0).2.2.1 := by
        unfold tknM
        rw [if_neg (by simp)]
        have := take_pre p.length (p := []) (q := preZ p) (ls := p) (m1 := m) (m2 := m) (t1 := 0) (t2 := 0) (o1 := 0) (o2 := 0) (Nat.le_refl _) rfl
        simp only []; omega
      have h4 := take_E (pre := preZ p) h1.1 h2.1
      have hs : stepE ⟨1, (take (preZ p) p m 0 0).2.2.1, 0⟩ = 0 := stepE_0.2 ⟨⟨by dsimp only; decide, by dsimp only; decide, by dsimp only; omega, by dsimp only; omega, by dsimp only; decide, by dsimp only; decide⟩, .inl rfl⟩
      rw [e1, e3, ← e2.1]
      rw [← rappM_eq q]
      unfold rappM
      rw [if_pos h1.2, if_pos hs]
      by_cases h5 : packE (doM q ⟨1, (take (preZ p) p m 0 0).2.2.1, 0⟩).1 = 0
      · rw [if_pos h5, if_pos ⟨h4.1, h5⟩]; rfl
      · rw [if_neg h5, if_neg (fun h => h5 h.2)]; rfl
    · rw [if_neg h2, if_neg h2]
  · rw [if_neg h1, if_neg h1]
/-- A run of steps. -/
def runL : List Lay → List Stp → List Lay × List Int × Int
  | p, [] => (p, [], 0)
  | p, s :: l =>
    if (appM p s).2.2 = 0 then
      if (runL (appM p s).1 l).2.2 = 0 then ((runL (appM p s).1 l).1, (appM p s).2.1 :: (runL (appM p s).1 l).2.1, 0) else ([], [], (runL (appM p s).1 l).2.2)
    else ([], [], (appM p s).2.2)
theorem runL_no : ∀ {l : List Stp} {p : List Lay}, ¬ (runL p l).2.2 = 0 → runL p l = ([], [], (runL p l).2.2) := by
  intro l
  cases l with
  | nil => intro p h; exact absurd rfl h
  | cons s l =>
    intro p h
    simp only [runL] at h ⊢
    split
    · split
      · rename_i a b; rw [if_pos a, if_pos b] at h; exact absurd rfl h
      · rfl
    · rfl
theorem runL_append : ∀ {a b : List Stp} {p : List Lay}, runL p (a ++ b) =
    if (runL p a).2.2 = 0 then if (runL (runL p a).1 b).2.2 = 0 then ((runL (runL p a).1 b).1, (runL p a).2.1 ++ (runL (runL p a).1 b).2.1, 0) else ([], [], (runL (runL p a).1 b).2.2) else ([], [], (runL p a).2.2) := by
  intro a
  induction a with
  | nil =>
    intro b p
    rw [List.nil_append]
    have e : runL p [] = (p, [], 0) := by rw [runL]
    rw [e]
    by_cases h : (runL p b).2.2 = 0
    · simp only [h, List.nil_append]; simp only [if_true]; rw [← h]
    · simp only [h, if_false, if_true]; exact runL_no h
  | cons s a ih =>
    intro b p
    by_cases h1 : (appM p s).2.2 = 0
    · have e4 : ∀ c, runL p (s :: c) = if (runL (appM p s).1 c).2.2 = 0 then ((runL (appM p s).1 c).1, (appM p s).2.1 :: (runL (appM p s).1 c).2.1, 0) else ([], [], (runL (appM p s).1 c).2.2) := fun c => by
        simp only [runL]; rw [if_pos h1]
      rw [List.cons_append, e4 (a ++ b)]
      by_cases h2 : (runL (appM p s).1 a).2.2 = 0
      · have e3 : runL p (s :: a) = ((runL (appM p s).1 a).1, (appM p s).2.1 :: (runL (appM p s).1 a).2.1, 0) := by rw [e4, if_pos h2]
        have e5 := ih (b := b) (p := (appM p s).1)
        rw [if_pos h2] at e5
        rw [e3, e5]
        by_cases h3 : (runL (runL (appM p s).1 a).1 b).2.2 = 0
        · simp [h3]
        · simp [h3]
      · have e3 : runL p (s :: a) = ([], [], (runL (appM p s).1 a).2.2) := by rw [e4, if_neg h2]
        have e5 := ih (b := b) (p := (appM p s).1)
        rw [if_neg h2] at e5
        rw [e3, e5]
        simp [h2]
    · have e4 : ∀ c, runL p (s :: c) = ([], [], (appM p s).2.2) := fun c => by simp only [runL]; rw [if_neg h1]
      rw [List.cons_append, e4, e4]
      simp [h1]
theorem runL_E : ∀ {l : List Stp} {p : List Lay}, packE p = 0 → (runL p l).2.2 = 0 → packE (runL p l).1 = 0 ∧ (runL p l).2.1.length = l.length := by
  intro l
  induction l with
  | nil => intro p h _; exact ⟨h, rfl⟩
  | cons s l ih =>
    intro p h h2
    simp only [runL] at h2 ⊢
    by_cases h1 : (appM p s).2.2 = 0
    · rw [if_pos h1] at h2 ⊢
      have h3 := (appM_ok h1).2.2.2.1
      by_cases h4 : (runL (appM p s).1 l).2.2 = 0
      · rw [if_pos h4]; exact ⟨(ih h3 h4).1, by simp [(ih h3 h4).2]⟩
      · rw [if_neg h4] at h2; exact absurd h2 h4
    · rw [if_neg h1] at h2; exact absurd h2 h1
theorem runL_snoc {l : List Stp} {k : Nat} {p : List Lay} (hk : k < l.length) (h : (runL p (l.take k)).2.2 = 0) : runL p (l.take (k + 1)) =
    if (appM (runL p (l.take k)).1 l[k]).2.2 = 0 then ((appM (runL p (l.take k)).1 l[k]).1, (runL p (l.take k)).2.1 ++ [(appM (runL p (l.take k)).1 l[k]).2.1], 0) else ([], [], (appM (runL p (l.take k)).1 l[k]).2.2) := by
  rw [List.take_succ_eq_append_getElem hk, runL_append, if_pos h]
  simp only [runL]
  by_cases h1 : (appM (runL p (l.take k)).1 l[k]).2.2 = 0
  · simp [h1]
  · simp [h1]
theorem runL_stop {l : List Stp} {k : Nat} {p : List Lay} (h : ¬ (runL p (l.take k)).2.2 = 0) : runL p l = ([], [], (runL p (l.take k)).2.2) := by
  have := runL_append (a := l.take k) (b := l.drop k) (p := p)
  rw [List.take_append_drop, if_neg h] at this
  exact this
def runM (p : List Lay) (l : List Stp) : List Lay × List Int × Int := if packE p = 0 then if l.length ≤ 256 then runL p l else ([], [], 2) else ([], [], 20)
theorem runM_no {p : List Lay} {l : List Stp} (h : ¬ (runM p l).2.2 = 0) : (runM p l).1 = [] ∧ (runM p l).2.1 = [] := by
  unfold runM at *
  by_cases h1 : packE p = 0
  · rw [if_pos h1] at h ⊢
    by_cases h2 : l.length ≤ 256
    · rw [if_pos h2] at h ⊢; rw [runL_no h]; exact ⟨rfl, rfl⟩
    · rw [if_neg h2]; exact ⟨rfl, rfl⟩
  · rw [if_neg h1]; exact ⟨rfl, rfl⟩
/-- Runs can be cut. -/
theorem run_cut {p : List Lay} {l : List Stp} {k : Nat} (hl : l.length ≤ 40) (hk : k ≤ l.length) :
    (¬ (runM p (l.take k)).2.2 = 0 → runM p l = ([], [], (runM p (l.take k)).2.2)) ∧
    ((runM p (l.take k)).2.2 = 0 → (runM p l).2.2 = (runM (runM p (l.take k)).1 (l.drop k)).2.2 ∧ (runM p l).1 = (runM (runM p (l.take k)).1 (l.drop k)).1 ∧ ((runM p l).2.2 = 0 → (runM p l).2.1 = (runM p (l.take k)).2.1 ++ (runM (runM p (l.take k)).1 (l.drop k)).2.1)) := by
  have ht : (l.take k).length ≤ 256 := by rw [List.length_take]; omega
  have hd : (l.drop k).length ≤ 256 := by rw [List.length_drop]; omega
  by_cases h1 : packE p = 0
  · have e1 : ∀ x, x.length ≤ 256 → runM p x = runL p x := fun x hx => by unfold runM; rw [if_pos h1, if_pos hx]
    rw [e1 _ ht, e1 _ (by omega)]
    refine ⟨fun h => runL_stop h, fun h => ?_⟩
    have h2 := (runL_E h1 h).1
    have e2 : runM (runL p (l.take k)).1 (l.drop k) = runL (runL p (l.take k)).1 (l.drop k) := by unfold runM; rw [if_pos h2, if_pos hd]
    rw [e2]
    have h3 := runL_append (a := l.take k) (b := l.drop k) (p := p)
    rw [List.take_append_drop, if_pos h] at h3
    rw [h3]
    by_cases h4 : (runL (runL p (l.take k)).1 (l.drop k)).2.2 = 0
    · rw [if_pos h4]; exact ⟨h4.symm, rfl, fun _ => rfl⟩
    · rw [if_neg h4]
      refine ⟨rfl, ?_, fun h => absurd h h4⟩
      rw [runL_no h4]
  · have e1 : ∀ x, runM p x = ([], [], 20) := fun x => by unfold runM; rw [if_neg h1]
    rw [e1, e1]; exact ⟨fun _ => rfl, fun h => by simp at h⟩
/-- The reference's Enough. -/
theorem enF_it {p : List Lay} {out : Int} (hp : packE p = 0) (n : Nat) : enF p out n = decide (out ≤ (itM melt1 n p).2) := by
  have h1 := melt_itM (p := preZ p) (colOk_of hp) (show (0 : Int) ≤ (n : Nat) by omega)
  unfold enF
  rw [h1.2]; rfl
theorem en_yes {p : List Lay} {out : Int} {n : Nat} (hp : packE p = 0) (ho : 0 ≤ out ∧ out ≤ 65536) (hn : n ≤ 65536) (h1 : ∀ j, j < n → enF p out j = false) (h2 : out ≤ (itM melt1 n p).2) : enM p out = (((n : Nat) : Int), true, 0) := by
  have h3 : lsN (enF p out) 65537 = n := lsN_eq (by omega) h1 fun _ => by rw [enF_it hp]; exact decide_eq_true h2
  unfold enM
  rw [if_pos hp, if_pos ho, h3, if_pos (by omega)]
theorem en_end {p : List Lay} {out : Int} (hp : packE p = 0) (ho : 0 ≤ out ∧ out ≤ 65536) (h1 : ∀ j, j < 65537 → enF p out j = false) : enM p out = (0, false, 0) := by
  have h3 : lsN (enF p out) 65537 = 65537 := lsN_eq (Nat.le_refl _) h1 fun h => by omega
  unfold enM
  rw [if_pos hp, if_pos ho, h3, if_neg (by omega)]
theorem en_stop {p : List Lay} {out : Int} {n : Nat} (hp : packE p = 0) (ho : 0 ≤ out ∧ out ≤ 65536) (h1 : ∀ j, j < n → enF p out j = false) (h2 : ¬ out ≤ (itM melt1 n p).2) (h3 : (itM melt1 n p).1 = []) : enM p out = (0, false, 0) := by
  refine en_end hp ho fun j hj => ?_
  by_cases hjn : j < n
  · exact h1 j hjn
  · rw [enF_it hp]
    have h4 := itM_add melt1 n (j - n) p
    rw [show n + (j - n) = j by omega, h3, itM_nil (f := melt1) rfl] at h4
    rw [h4]
    exact decide_eq_false (by simp only []; omega)
end Go.Proofs.YtgagfmjpmdgfdaaDoor
