/- Steps in two parts, plain. -/
import Derived.Test.YtgagfmjpmdgfdaaDoorX5
set_option linter.unusedSimpArgs false
set_option linter.unusedVariables false
namespace Go.Proofs.YtgagfmjpmdgfdaaDoor
open Go.Ab
theorem entF_two {a b : Int} {l : Lay} (h : flo l) (ha : 0 ≤ a) (hb : 0 ≤ b) : (entF (a + b) l).1 = (entF a l).1 + (entF b (entF a l).2).1 ∧ (entF (a + b) l).2 = (entF b (entF a l).2).2 := by
  unfold flo at h
  constructor
  · unfold entF; simp only []; omega
  · unfold entF; simp only [Lay.mk.injEq]; omega
theorem entF_two1 {a b : Int} {l : Lay} (h : flo l) (ha : 0 ≤ a) (hb : 0 ≤ b) : entF ((entF a l).1 + b) l = entF ((entF a l).1 + b) l := rfl
/-- Water that flows in two parts. -/
theorem pourL_two : ∀ {ls : List Lay} {a b : Int}, (∀ l ∈ ls, flo l) → 0 ≤ a → 0 ≤ b → (pourL (a + b) ls).1 = (pourL a ls).1 + (pourL b (pourL a ls).2).1 ∧ (pourL (a + b) ls).2 = (pourL b (pourL a ls).2).2 := by
  intro ls
  induction ls with
  | nil => intro a b _ _ _; exact ⟨rfl, rfl⟩
  | cons l r ih =>
    intro a b h ha hb
    have hl := h l (by simp)
    have h1 := entF_two hl ha hb
    have h2 := entF_ok hl ha
    have h3 := entF_ok (l := (entF a l).2) h2.2.2 hb
    have h4 := ih (a := (entF a l).1) (b := (entF b (entF a l).2).1) (fun x hx => h x (by simp [hx])) h2.1 h3.1
    simp only [pourL]
    rw [h1.1, h1.2]
    exact ⟨h4.1, by rw [h4.2]⟩
theorem pourL_0 : ∀ {ls : List Lay}, (∀ l ∈ ls, flo l) → pourL 0 ls = (0, ls) := by
  intro ls
  induction ls with
  | nil => intro _; rfl
  | cons l r ih =>
    intro h
    have hl := h l (by simp)
    have e : entF 0 l = (0, l) := by
      unfold flo at hl
      unfold entF
      cases l
      simp only [Prod.mk.injEq, Lay.mk.injEq] at *
      omega
    simp only [pourL, e, ih fun x hx => h x (by simp [hx])]
theorem frzF_two {a b : Int} {l : Lay} (h : flo l) (ha : 0 ≤ a) (hb : 0 ≤ b) : (frzF (a + b) l).1 = (frzF a l).1 + (frzF b (frzF a l).2).1 ∧ (frzF (a + b) l).2 = (frzF b (frzF a l).2).2 := by
  unfold flo at h
  constructor
  · unfold frzF; simp only []; omega
  · unfold frzF; simp only [Lay.mk.injEq, and_true, true_and]; omega
theorem frzL_two : ∀ {ls : List Lay} {a b : Int}, (∀ l ∈ ls, flo l) → 0 ≤ a → 0 ≤ b → (frzL (a + b) ls).1 = (frzL a ls).1 + (frzL b (frzL a ls).2).1 ∧ (frzL (a + b) ls).2 = (frzL b (frzL a ls).2).2 := by
  intro ls
  induction ls with
  | nil => intro a b _ _ _; exact ⟨rfl, rfl⟩
  | cons l r ih =>
    intro a b h ha hb
    have hl := h l (by simp)
    have h1 := frzF_two hl ha hb
    have h2 := frzF_ok hl ha
    have h3 : 0 ≤ (frzF b (frzF a l).2).1 := by unfold frzF; simp only []; omega
    have h4 := ih (a := (frzF a l).1) (b := (frzF b (frzF a l).2).1) (fun x hx => h x (by simp [hx])) h2.1 h3
    simp only [frzL]
    rw [h1.1, h1.2]
    exact ⟨h4.1, by rw [h4.2]⟩
theorem frzL_cool (b c : Int) (ls : List Lay) : (frzL b (coolL c ls)).1 = (frzL b ls).1 ∧ (frzL b (coolL c ls)).2 = coolL c (frzL b ls).2 := by
  cases ls with
  | nil => exact ⟨rfl, rfl⟩
  | cons l r => exact ⟨rfl, rfl⟩
theorem coolL_two (a b : Int) (ls : List Lay) : coolL b (coolL a ls) = coolL (a + b) ls := by
  cases ls with
  | nil => rfl
  | cons l r => simp only [coolL, List.cons.injEq, Lay.mk.injEq, and_true, true_and]; omega
theorem frzK_two {ls : List Lay} {a b : Int} (h : ∀ l ∈ ls, flo l) (ha : 0 ≤ a) (hb : 0 ≤ b) : frzK b (frzK a ls) = frzK (a + b) ls := by
  have h1 := frzL_two h ha hb
  unfold frzK
  rw [(frzL_cool b _ _).1, (frzL_cool b _ _).2, coolL_two, h1.1, h1.2]
/-- Melting, one millimetre. -/
def melt1 : List Lay → List Lay × Int
  | [] => ([], 0)
  | l :: r => if 0 < l.cold then (⟨l.ice, l.wet, l.cold - 1⟩ :: r, 0) else ((losK [] l r 1 1).2.1, (losK [] l r 1 1).2.2)
def take1 : List Lay → List Lay × Int
  | [] => ([], 0)
  | l :: r => ((losK [] l r 1 0).2.1, (losK [] l r 1 0).2.2)
theorem losK_pre (p q : List Lay) (l : Lay) (r : List Lay) (ice wet : Int) : (losK p l r ice wet).2 = (losK q l r ice wet).2 := by
  unfold losK; split <;> rfl
theorem melt_pre : ∀ (n : Nat) {p q ls : List Lay} {much o1 o2 : Int}, ls.length ≤ n → (melt p ls much o1).2.1 = (melt q ls much o2).2.1 ∧ (melt p ls much o1).2.2 - o1 = (melt q ls much o2).2.2 - o2 := by
  intro n
  induction n with
  | zero =>
    intro p q ls much o1 o2 h
    rw [melt_end (.inr (List.eq_nil_of_length_eq_zero (by omega))), melt_end (.inr (List.eq_nil_of_length_eq_zero (by omega)))]
    exact ⟨rfl, by simp only []; omega⟩
  | succ n ih =>
    intro p q ls much o1 o2 h
    cases ls with
    | nil => rw [melt_end (.inr rfl), melt_end (.inr rfl)]; exact ⟨rfl, by simp only []; omega⟩
    | cons l r =>
      rw [melt, melt]
      split
      · exact ⟨rfl, by simp only []; omega⟩
      · split
        · have hle : (pourL (losO (min (much - min much l.cold) l.ice) (min (much - min much l.cold) l.ice) ⟨l.ice, l.wet, l.cold - min much l.cold⟩) r).2.length ≤ n := by rw [pourL_len]; simpa using h
          have := ih (p := p ++ [losF (min (much - min much l.cold) l.ice) (min (much - min much l.cold) l.ice) ⟨l.ice, l.wet, l.cold - min much l.cold⟩]) (q := q ++ [losF (min (much - min much l.cold) l.ice) (min (much - min much l.cold) l.ice) ⟨l.ice, l.wet, l.cold - min much l.cold⟩]) (much := much - min much l.cold - min (much - min much l.cold) l.ice)
            (o1 := o1 + (pourL (losO (min (much - min much l.cold) l.ice) (min (much - min much l.cold) l.ice) ⟨l.ice, l.wet, l.cold - min much l.cold⟩) r).1) (o2 := o2 + (pourL (losO (min (much - min much l.cold) l.ice) (min (much - min much l.cold) l.ice) ⟨l.ice, l.wet, l.cold - min much l.cold⟩) r).1) hle
          exact ⟨this.1, by omega⟩
        · exact ⟨rfl, by simp only []; omega⟩
theorem take_pre : ∀ (n : Nat) {p q ls : List Lay} {m1 m2 t1 t2 o1 o2 : Int}, ls.length ≤ n → m1 - t1 = m2 - t2 → (take p ls m1 t1 o1).2.1 = (take q ls m2 t2 o2).2.1 ∧ (take p ls m1 t1 o1).2.2.1 - t1 = (take q ls m2 t2 o2).2.2.1 - t2 ∧ (take p ls m1 t1 o1).2.2.2 - o1 = (take q ls m2 t2 o2).2.2.2 - o2 := by
  intro n
  induction n with
  | zero =>
    intro p q ls m1 m2 t1 t2 o1 o2 h hm
    rw [take_end (.inr (List.eq_nil_of_length_eq_zero (by omega))), take_end (.inr (List.eq_nil_of_length_eq_zero (by omega)))]
    exact ⟨rfl, by simp only []; omega, by simp only []; omega⟩
  | succ n ih =>
    intro p q ls m1 m2 t1 t2 o1 o2 h hm
    cases ls with
    | nil => rw [take_end (.inr rfl), take_end (.inr rfl)]; exact ⟨rfl, by simp only []; omega, by simp only []; omega⟩
    | cons l r =>
      rw [take, take, ← hm]
      by_cases hz : m1 ≤ t1
      · rw [if_pos hz, if_pos (by omega)]; exact ⟨rfl, by simp only []; omega, by simp only []; omega⟩
      · rw [if_neg hz, if_neg (show ¬ m2 ≤ t2 by omega)]
        split
        · have hle : (pourL (losO (min (m1 - t1) l.ice) 0 l) r).2.length ≤ n := by rw [pourL_len]; simpa using h
          have := ih (p := p ++ [losF (min (m1 - t1) l.ice) 0 l]) (q := q ++ [losF (min (m1 - t1) l.ice) 0 l]) (m1 := m1) (m2 := m2) (t1 := t1 + min (m1 - t1) l.ice) (t2 := t2 + min (m1 - t1) l.ice) (o1 := o1 + (pourL (losO (min (m1 - t1) l.ice) 0 l) r).1) (o2 := o2 + (pourL (losO (min (m1 - t1) l.ice) 0 l) r).1) hle (by omega)
          exact ⟨this.1, by omega, by omega⟩
        · exact ⟨rfl, by simp only []; omega, by simp only []; omega⟩
end Go.Proofs.YtgagfmjpmdgfdaaDoor
