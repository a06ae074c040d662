/- Steps by millimetres, plain. -/
import Derived.Test.YtgagfmjpmdgfdaaDoorX6
set_option linter.unusedSimpArgs false
set_option linter.unusedVariables false
namespace Go.Proofs.YtgagfmjpmdgfdaaDoor
open Go.Ab
theorem losO_two {i1 i2 w1 w2 : Int} {l : Lay} (h : flo l) (h1 : 0 ≤ i1) (h2 : 0 ≤ i2) (h3 : 0 ≤ w1) (h4 : 0 ≤ w2) : losO (i1 + i2) (w1 + w2) l = losO i1 w1 l + losO i2 w2 (losF i1 w1 l) ∧ losF (i1 + i2) (w1 + w2) l = losF i2 w2 (losF i1 w1 l) := by
  unfold flo at h
  constructor
  · unfold losO losF; simp only []; omega
  · unfold losF; simp only [Lay.mk.injEq, and_true]; omega
/-- Losing in two parts. -/
theorem losK_two {i1 i2 w1 w2 : Int} {l : Lay} {r : List Lay} (h : colOk (l :: r)) (h1 : 0 ≤ i1) (h1' : i1 < l.ice) (h2 : 0 ≤ i2) (h3 : 0 ≤ w1) (h4 : 0 ≤ w2) :
    (losK [] l r (i1 + i2) (w1 + w2)).2.1 = (losK [] (losF i1 w1 l) (pourL (losO i1 w1 l) r).2 i2 w2).2.1 ∧
    (losK [] l r (i1 + i2) (w1 + w2)).2.2 = (pourL (losO i1 w1 l) r).1 + (losK [] (losF i1 w1 l) (pourL (losO i1 w1 l) r).2 i2 w2).2.2 := by
  have hl := h l (by simp)
  have hr : ∀ x ∈ r, flo x := fun x hx => (h x (by simp [hx])).1
  obtain ⟨e1, e2⟩ := losO_two (l := l) hl.1 h1 h2 h3 h4
  have e3 := pourL_two hr (losO_ok (ice := i1) (wet := w1) (l := l)) (losO_ok (ice := i2) (wet := w2) (l := losF i1 w1 l))
  unfold losK
  rw [e1, e2, e3.1, e3.2]
  have e4 : (losF i1 w1 l).ice = l.ice - i1 := rfl
  by_cases hz : l.ice - (i1 + i2) = 0
  · rw [if_pos hz, if_pos (by omega)]; exact ⟨rfl, rfl⟩
  · rw [if_neg hz, if_neg (by omega)]; exact ⟨rfl, rfl⟩
theorem losK_0 {l : Lay} {r : List Lay} (h : colOk (l :: r)) : losK [] l r 0 0 = ([], l :: r, 0) := by
  have hl := h l (by simp)
  have hr : ∀ x ∈ r, flo x := fun x hx => (h x (by simp [hx])).1
  have e1 : losO 0 0 l = 0 := by have := hl.1; unfold flo at this; unfold losO; omega
  have e2 : losF 0 0 l = l := by
    have := hl.1; unfold flo at this; unfold losF
    cases l
    simp only [Lay.mk.injEq, and_true] at *
    omega
  unfold losK
  rw [if_neg (by omega), e1, e2, pourL_0 hr]
theorem melt1_ok {ls : List Lay} (h : colOk ls) : colOk (melt1 ls).1 ∧ 0 ≤ (melt1 ls).2 := by
  cases ls with
  | nil => exact ⟨h, Int.le_refl _⟩
  | cons l r =>
    have hl := h l (by simp)
    simp only [melt1]
    split
    · refine ⟨fun x hx => ?_, Int.le_refl _⟩
      simp only [List.mem_cons] at hx
      rcases hx with rfl | hx
      · have := hl.1; unfold flo at *; simp only []; omega
      · exact h x (by simp [hx])
    · have := losK_ok (pre := []) (ice := 1) (wet := 1) h (by omega) (by omega) (by omega)
      exact ⟨this.1, this.2.1⟩
theorem take1_ok {ls : List Lay} (h : colOk ls) : colOk (take1 ls).1 ∧ 0 ≤ (take1 ls).2 := by
  cases ls with
  | nil => exact ⟨h, Int.le_refl _⟩
  | cons l r =>
    have hl := h l (by simp)
    have := losK_ok (pre := []) (ice := 1) (wet := 0) h (by omega) (by omega) (by omega)
    exact ⟨this.1, this.2.1⟩
theorem melt_step {ls : List Lay} {much : Int} (h : colOk ls) (hm : 1 ≤ much) :
    (melt [] ls much 0).2.1 = (melt [] (melt1 ls).1 (much - 1) 0).2.1 ∧ (melt [] ls much 0).2.2 = (melt1 ls).2 + (melt [] (melt1 ls).1 (much - 1) 0).2.2 := by
  cases ls with
  | nil =>
    simp only [melt1]
    rw [melt_end (.inr rfl), melt_end (.inr rfl)]; exact ⟨rfl, rfl⟩
  | cons l r =>
    have hl := h l (by simp)
    simp only [melt1]
    rw [melt_cons hl.1 hl.2 (by omega)]
    by_cases hc : 0 < l.cold
    · rw [if_pos hc]
      simp only []
      have h' : colOk (⟨l.ice, l.wet, l.cold - 1⟩ :: r) := fun x hx => by
        simp only [List.mem_cons] at hx
        rcases hx with rfl | hx
        · have := hl.1; unfold flo at *; simp only []; omega
        · exact h x (by simp [hx])
      by_cases hm1 : much - 1 ≤ 0
      · have e1 : min much l.cold = 1 := by omega
        have e2 : min (much - 1) l.ice = 0 := by omega
        rw [melt_end (ls := ⟨l.ice, l.wet, l.cold - 1⟩ :: r) (.inl hm1), e1, e2, losK_0 h', melt_end (.inl (by omega))]
        exact ⟨rfl, rfl⟩
      · have hl' := h' _ (List.mem_cons_self)
        rw [melt_cons hl'.1 hl'.2 (by omega)]
        simp only []
        have e1 : min (much - 1) (l.cold - 1) = min much l.cold - 1 := by omega
        have e2 : l.cold - 1 - (min much l.cold - 1) = l.cold - min much l.cold := by omega
        have e3 : much - 1 - (min much l.cold - 1) = much - min much l.cold := by omega
        rw [e1, e2, e3]
        exact ⟨rfl, by omega⟩
    · rw [if_neg hc]
      have hc0 : l.cold = 0 := by have := hl.1; unfold flo at this; omega
      have e0 : min much l.cold = 0 := by omega
      have e1 : (⟨l.ice, l.wet, l.cold - 0⟩ : Lay) = l := by cases l; simp
      rw [e0, Int.sub_zero, e1]
      by_cases h1 : l.ice = 1
      · rw [show min much l.ice = 1 by omega]
        simp only []
        have := melt_pre (losK [] l r 1 1).2.1.length (p := (losK [] l r 1 1).1) (q := []) (ls := (losK [] l r 1 1).2.1) (much := much - 1) (o1 := 0 + (losK [] l r 1 1).2.2) (o2 := 0) (Nat.le_refl _)
        exact ⟨this.1, by omega⟩
      · have eK : losK [] l r 1 1 = ([], losF 1 1 l :: (pourL (losO 1 1 l) r).2, (pourL (losO 1 1 l) r).1) := by
          unfold losK; rw [if_neg (by omega)]
        by_cases hm1 : much - 1 ≤ 0
        · rw [show min much l.ice = 1 by omega, melt_end (ls := (losK [] l r 1 1).2.1) (.inl hm1)]
          simp only []
          rw [melt_end (.inl hm1)]
          exact ⟨rfl, by simp only []; omega⟩
        · have h2 := losK_two (i1 := 1) (i2 := min much l.ice - 1) (w1 := 1) (w2 := min much l.ice - 1) h (by omega) (by omega) (by omega) (by omega) (by omega)
          rw [show 1 + (min much l.ice - 1) = min much l.ice by omega] at h2
          have h3 := (losK_ok (pre := []) (ice := 1) (wet := 1) h (by omega) (by omega) (by omega)).1
          rw [eK] at h3 ⊢
          simp only [] at h3 ⊢
          have hl1 := h3 _ (List.mem_cons_self)
          rw [melt_cons hl1.1 hl1.2 (by omega)]
          have c0 : (losF 1 1 l).cold = 0 := hc0
          have c1 : (losF 1 1 l).ice = l.ice - 1 := rfl
          rw [show min (much - 1) (losF 1 1 l).cold = 0 by omega, Int.sub_zero, Int.sub_zero, c1, show min (much - 1) (l.ice - 1) = min much l.ice - 1 by omega]
          have e5 : (⟨l.ice - 1, (losF 1 1 l).wet, (losF 1 1 l).cold⟩ : Lay) = losF 1 1 l := rfl
          rw [e5, h2.1, h2.2]
          simp only []
          rw [show much - 1 - (min much l.ice - 1) = much - min much l.ice by omega]
          have := melt_pre (losK [] (losF 1 1 l) (pourL (losO 1 1 l) r).2 (min much l.ice - 1) (min much l.ice - 1)).2.1.length (p := (losK [] l r (min much l.ice) (min much l.ice)).1) (q := (losK [] (losF 1 1 l) (pourL (losO 1 1 l) r).2 (min much l.ice - 1) (min much l.ice - 1)).1)
            (ls := (losK [] (losF 1 1 l) (pourL (losO 1 1 l) r).2 (min much l.ice - 1) (min much l.ice - 1)).2.1) (much := much - min much l.ice) (o1 := 0 + ((pourL (losO 1 1 l) r).1 + (losK [] (losF 1 1 l) (pourL (losO 1 1 l) r).2 (min much l.ice - 1) (min much l.ice - 1)).2.2)) (o2 := 0 + (losK [] (losF 1 1 l) (pourL (losO 1 1 l) r).2 (min much l.ice - 1) (min much l.ice - 1)).2.2) (Nat.le_refl _)
          exact ⟨this.1, by omega⟩
theorem take_step {ls : List Lay} {much : Int} (h : colOk ls) (hm : 1 ≤ much) :
    (take [] ls much 0 0).2.1 = (take [] (take1 ls).1 (much - 1) 0 0).2.1 ∧ (take [] ls much 0 0).2.2.2 = (take1 ls).2 + (take [] (take1 ls).1 (much - 1) 0 0).2.2.2 ∧
    (take [] ls much 0 0).2.2.1 = (if ls = [] then 0 else 1) + (take [] (take1 ls).1 (much - 1) 0 0).2.2.1 := by
  cases ls with
  | nil =>
    simp only [take1]
    rw [take_end (.inr rfl), take_end (.inr rfl)]; exact ⟨rfl, rfl, rfl⟩
  | cons l r =>
    have hl := h l (by simp)
    simp only [take1]
    rw [take_cons hl.1 hl.2 (by omega), if_neg (by simp), Int.sub_zero]
    by_cases h1 : l.ice = 1
    · rw [show min much l.ice = 1 by omega]
      simp only []
      have := take_pre (losK [] l r 1 0).2.1.length (p := (losK [] l r 1 0).1) (q := []) (ls := (losK [] l r 1 0).2.1) (m1 := much) (m2 := much - 1) (t1 := 0 + 1) (t2 := 0) (o1 := 0 + (losK [] l r 1 0).2.2) (o2 := 0) (Nat.le_refl _) (by omega)
      exact ⟨this.1, by omega, by omega⟩
    · have eK : losK [] l r 1 0 = ([], losF 1 0 l :: (pourL (losO 1 0 l) r).2, (pourL (losO 1 0 l) r).1) := by
        unfold losK; rw [if_neg (by omega)]
      by_cases hm1 : much - 1 ≤ 0
      · rw [show min much l.ice = 1 by omega, take_end (ls := (losK [] l r 1 0).2.1) (.inl hm1)]
        simp only []
        rw [take_end (.inl (by omega))]
        exact ⟨rfl, by simp only []; omega, by simp only []; omega⟩
      · have h2 := losK_two (i1 := 1) (i2 := min much l.ice - 1) (w1 := 0) (w2 := 0) h (by omega) (by omega) (by omega) (by omega) (by omega)
        rw [show 1 + (min much l.ice - 1) = min much l.ice by omega, Int.add_zero] at h2
        have h3 := (losK_ok (pre := []) (ice := 1) (wet := 0) h (by omega) (by omega) (by omega)).1
        rw [eK] at h3 ⊢
        simp only [] at h3 ⊢
        have hl1 := h3 _ (List.mem_cons_self)
        rw [take_cons hl1.1 hl1.2 (by omega)]
        have c1 : (losF 1 0 l).ice = l.ice - 1 := rfl
        rw [Int.sub_zero, c1, show min (much - 1) (l.ice - 1) = min much l.ice - 1 by omega, h2.1, h2.2]
        simp only []
        have := take_pre (losK [] (losF 1 0 l) (pourL (losO 1 0 l) r).2 (min much l.ice - 1) 0).2.1.length (p := (losK [] l r (min much l.ice) 0).1) (q := (losK [] (losF 1 0 l) (pourL (losO 1 0 l) r).2 (min much l.ice - 1) 0).1)
          (ls := (losK [] (losF 1 0 l) (pourL (losO 1 0 l) r).2 (min much l.ice - 1) 0).2.1) (m1 := much) (m2 := much - 1) (t1 := 0 + min much l.ice) (t2 := 0 + (min much l.ice - 1)) (o1 := 0 + ((pourL (losO 1 0 l) r).1 + (losK [] (losF 1 0 l) (pourL (losO 1 0 l) r).2 (min much l.ice - 1) 0).2.2)) (o2 := 0 + (losK [] (losF 1 0 l) (pourL (losO 1 0 l) r).2 (min much l.ice - 1) 0).2.2) (Nat.le_refl _) (by omega)
        exact ⟨this.1, by omega, by omega⟩
/-- So many millimetres, one after the other. -/
def itM (f : List Lay → List Lay × Int) : Nat → List Lay → List Lay × Int
  | 0, ls => (ls, 0)
  | n + 1, ls => ((itM f n (f ls).1).1, (f ls).2 + (itM f n (f ls).1).2)
theorem itM_add (f : List Lay → List Lay × Int) : ∀ (a b : Nat) (ls : List Lay), itM f (a + b) ls = ((itM f b (itM f a ls).1).1, (itM f a ls).2 + (itM f b (itM f a ls).1).2) := by
  intro a
  induction a with
  | zero => intro b ls; simp [itM]
  | succ a ih =>
    intro b ls
    rw [show a + 1 + b = a + b + 1 by omega]
    simp only [itM, ih]
    rw [Int.add_assoc]
theorem melt_it : ∀ (n : Nat) {ls : List Lay}, colOk ls → (melt [] ls n 0).2 = itM melt1 n ls := by
  intro n
  induction n with
  | zero => intro ls h; rw [melt_end (.inl (by simp))]; rfl
  | succ n ih =>
    intro ls h
    have h1 := melt_step (much := (n + 1 : Nat)) h (by omega)
    have h2 := ih (melt1_ok h).1
    rw [show (((n + 1 : Nat) : Int) - 1) = (n : Int) by omega, h2] at h1
    exact Prod.ext h1.1 h1.2
theorem take_it : ∀ (n : Nat) {ls : List Lay}, colOk ls → ((take [] ls n 0 0).2.1, (take [] ls n 0 0).2.2.2) = itM take1 n ls := by
  intro n
  induction n with
  | zero => intro ls h; rw [take_end (.inl (by simp))]; rfl
  | succ n ih =>
    intro ls h
    have h1 := take_step (much := (n + 1 : Nat)) h (by omega)
    have h2 := ih (take1_ok h).1
    rw [show (((n + 1 : Nat) : Int) - 1) = (n : Int) by omega] at h1
    rw [Prod.ext_iff] at h2
    simp only [] at h2
    rw [h2.1, h2.2] at h1
    exact Prod.ext h1.1 h1.2.1
theorem melt_itM {p ls : List Lay} {much : Int} (h : colOk ls) (h0 : 0 ≤ much) : (melt p ls much 0).2.1 = (itM melt1 much.toNat ls).1 ∧ (melt p ls much 0).2.2 = (itM melt1 much.toNat ls).2 := by
  have h1 := melt_pre ls.length (p := p) (q := []) (ls := ls) (much := much) (o1 := 0) (o2 := 0) (Nat.le_refl _)
  have h2 := melt_it much.toNat h
  rw [Int.toNat_of_nonneg h0] at h2
  rw [← h2]
  exact ⟨h1.1, by omega⟩
theorem take_itM {p ls : List Lay} {much : Int} (h : colOk ls) (h0 : 0 ≤ much) : (take p ls much 0 0).2.1 = (itM take1 much.toNat ls).1 ∧ (take p ls much 0 0).2.2.2 = (itM take1 much.toNat ls).2 := by
  have h1 := take_pre ls.length (p := p) (q := []) (ls := ls) (m1 := much) (m2 := much) (t1 := 0) (t2 := 0) (o1 := 0) (o2 := 0) (Nat.le_refl _) rfl
  have h2 := take_it much.toNat h
  rw [Int.toNat_of_nonneg h0] at h2
  rw [← h2]
  exact ⟨h1.1, by simp only []; omega⟩
/-- Rain, melting, frost and losses in two parts. -/
theorem app_two {p : List Lay} {k a b : Int} (hk : 2 ≤ k ∧ k ≤ 6) (ha : 0 ≤ a) (hb : 0 ≤ b) (h1 : (appM p ⟨k, a, 0⟩).2.2 = 0) (h2 : (appM (appM p ⟨k, a, 0⟩).1 ⟨k, b, 0⟩).2.2 = 0) (h3 : (appM p ⟨k, a + b, 0⟩).2.2 = 0) :
    (appM (appM p ⟨k, a, 0⟩).1 ⟨k, b, 0⟩).1 = (appM p ⟨k, a + b, 0⟩).1 ∧ (appM p ⟨k, a, 0⟩).2.1 + (appM (appM p ⟨k, a, 0⟩).1 ⟨k, b, 0⟩).2.1 = (appM p ⟨k, a + b, 0⟩).2.1 := by
  obtain ⟨g1, g2, g3, g4, g5, g6⟩ := appM_ok h1
  obtain ⟨i1, i2, i3, i4, i5, i6⟩ := appM_ok h2
  obtain ⟨j1, j2, j3, j4, j5, j6⟩ := appM_ok h3
  rw [i5, i6, j5, j6, g5, g6]
  rw [g5] at i1
  clear g3 g4 g5 g6 i3 i4 i5 i6 j3 j4 j5 j6 h1 h2 h3
  have o1 := colOk_of g1
  have o2 := colOk_of i1
  revert o2
  generalize preZ p = z
  intro o2
  by_cases k2 : k = 2
  · subst k2
    have e : ∀ z ls m, stpK z ls ⟨2, m, 0⟩ = (z, (pourL m ls).2, (pourL m ls).1, 0) := fun z ls m => by unfold stpK; rw [if_neg (by simp), if_pos rfl]
    rw [e, e, e]; simp only []
    have := pourL_two (colOk_flo o1) ha hb
    exact ⟨this.2.symm, this.1.symm⟩
  · by_cases k3 : k = 3
    · subst k3
      have e : ∀ z ls m, stpK z ls ⟨3, m, 0⟩ = ((melt z ls m 0).1, (melt z ls m 0).2.1, (melt z ls m 0).2.2, 0) := fun z ls m => by unfold stpK; rw [if_neg (by simp), if_neg (by simp), if_pos rfl]
      rw [e] at o2
      rw [e, e, e]; simp only [] at o2 ⊢
      have a1 := melt_itM (p := z) o1 ha
      have a2 := melt_itM (p := preZ (melt z p a 0).2.1) o2 hb
      have a3 := melt_itM (p := z) (much := a + b) o1 (by omega)
      have a4 := itM_add melt1 a.toNat b.toNat p
      rw [← Int.toNat_add ha hb] at a4
      rw [a2.1, a2.2, a3.1, a3.2, a1.2, a1.1, a4]
      exact ⟨rfl, rfl⟩
    · by_cases k4 : k = 4
      · subst k4
        have e : ∀ z ls m, stpK z ls ⟨4, m, 0⟩ = (z, frzK m ls, 0, 0) := fun z ls m => by unfold stpK; rw [if_neg (by simp), if_neg (by simp), if_neg (by simp), if_pos rfl]
        rw [e, e, e]; simp only []
        exact ⟨frzK_two (colOk_flo o1) ha hb, rfl⟩
      · have e : ∀ z ls m, stpK z ls ⟨k, m, 0⟩ = ((take z ls m 0 0).1, (take z ls m 0 0).2.1, (take z ls m 0 0).2.2.2, 0) := fun z ls m => by
          unfold stpK; rw [if_neg (by simp only []; omega), if_neg (by simp only []; omega), if_neg (by simp only []; omega), if_neg (by simp only []; omega)]
        rw [e] at o2
        rw [e, e, e]; simp only [] at o2 ⊢
        have a1 := take_itM (p := z) o1 ha
        have a2 := take_itM (p := preZ (take z p a 0 0).2.1) o2 hb
        have a3 := take_itM (p := z) (much := a + b) o1 (by omega)
        have a4 := itM_add take1 a.toNat b.toNat p
        rw [← Int.toNat_add ha hb] at a4
        rw [a2.1, a2.2, a3.1, a3.2, a1.2, a1.1, a4]
        exact ⟨rfl, rfl⟩
end Go.Proofs.YtgagfmjpmdgfdaaDoor
