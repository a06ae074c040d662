/- Water, plain: what flows in and out. -/
import Derived.Test.YtgagfmjpmdgfdaaDoorQ9
set_option linter.unusedSimpArgs false
set_option linter.unusedVariables false
namespace Go.Proofs.YtgagfmjpmdgfdaaDoor
open Go.Ab
theorem entF_wat (left : Int) (l : Lay) : (entF left l).1 + ((entF left l).2.ice + (entF left l).2.wet) = left + (l.ice + l.wet) := by
  unfold entF; simp only []; omega
theorem pourL_wat : ∀ (ls : List Lay) (much : Int), watL (pourL much ls).2 + (pourL much ls).1 = watL ls + much := by
  intro ls
  induction ls with
  | nil => intro much; rfl
  | cons l r ih =>
    intro much
    have h1 := entF_wat much l
    have h2 := ih (entF much l).1
    simp only [pourL, watL]; omega
theorem entF_rdy {left : Int} {l : Lay} (h : flo l) (h0 : 0 ≤ left) : (entF left l).1 = max 0 (left - (l.cold + (l.ice + l.cold) / 20 - l.wet)) := by
  unfold flo entF at *; simp only []; omega
theorem rdyL_flo {l : List Lay} (h : ∀ x ∈ l, flo x) : 0 ≤ rdyL l := by
  induction l with
  | nil => simp [rdyL]
  | cons a l ih =>
    have h1 := h a (by simp)
    have h2 := ih fun x hx => h x (by simp [hx])
    unfold flo at h1
    simp only [rdyL]; omega
theorem pourL_rdy : ∀ {ls : List Lay} {much : Int}, (∀ l ∈ ls, flo l) → 0 ≤ much → (pourL much ls).1 = max 0 (much - rdyL ls) := by
  intro ls
  induction ls with
  | nil => intro much _ h; simp only [pourL, rdyL]; omega
  | cons l r ih =>
    intro much h h0
    have h1 := entF_ok (left := much) (h l (by simp)) h0
    have h2 := ih (much := (entF much l).1) (fun x hx => h x (by simp [hx])) h1.1
    have h3 := entF_rdy (left := much) (h l (by simp)) h0
    have h4 := rdyL_flo (l := r) fun x hx => h x (by simp [hx])
    have h5 := h l (by simp)
    unfold flo at h5
    simp only [pourL, rdyL]; omega
theorem frzL_wat : ∀ (ls : List Lay) (much : Int), watL (frzL much ls).2 = watL ls := by
  intro ls
  induction ls with
  | nil => intro much; rfl
  | cons l r ih =>
    intro much
    have h2 := ih (frzF much l).1
    simp only [frzL, watL, frzF] at *; omega
theorem coolL_wat (c : Int) (ls : List Lay) : watL (coolL c ls) = watL ls := by cases ls <;> simp [coolL, watL]
theorem losK_wat {pre : List Lay} {l : Lay} {r : List Lay} {ice wet : Int} (h : flo l) (h1 : ice ≤ l.ice) (h2 : 0 ≤ wet) :
    watL (losK pre l r ice wet).2.1 + (losK pre l r ice wet).2.2 + ice = watL (l :: r) + wet := by
  have h3 := pourL_wat r (losO ice wet l)
  unfold losK
  split
  · simp only [watL]; unfold losO flo at *; omega
  · simp only [watL, losF]; unfold losO flo at *; omega
theorem melt_wat : ∀ (n : Nat) {pre ls : List Lay} {much out : Int}, ls.length ≤ n → colOk ls → 0 ≤ much → watL (melt pre ls much out).2.1 + (melt pre ls much out).2.2 = watL ls + out := by
  intro n
  induction n with
  | zero => intro pre ls much out h _ _; rw [melt_end (.inr (List.eq_nil_of_length_eq_zero (by omega)))]
  | succ n ih =>
    intro pre ls much out h hok hm
    cases ls with
    | nil => rw [melt_end (.inr rfl)]
    | cons l r =>
      by_cases hm0 : much ≤ 0
      · rw [melt_end (.inl hm0)]
      · have hl := hok l (by simp)
        have hf : flo ⟨l.ice, l.wet, l.cold - min much l.cold⟩ := by have := hl.1; unfold flo at *; simp only []; omega
        have hok2 : colOk (⟨l.ice, l.wet, l.cold - min much l.cold⟩ :: r) := fun x hx => by
          simp only [List.mem_cons] at hx
          rcases hx with rfl | hx
          · exact ⟨hf, hl.2⟩
          · exact hok x (by simp [hx])
        have hp1 : 0 ≤ min (much - min much l.cold) l.ice := by omega
        have hp2 : min (much - min much l.cold) l.ice ≤ l.ice := by omega
        have e1 := losK_wat (pre := pre) (r := r) hf hp2 hp1
        have e2 := losK_ok (pre := pre) hok2 hp1 hp2 hp1
        rw [melt_cons hl.1 hl.2 (by omega)]
        by_cases hz : l.ice - min (much - min much l.cold) l.ice = 0
        · have e3 : (losK pre ⟨l.ice, l.wet, l.cold - min much l.cold⟩ r (min (much - min much l.cold) l.ice) (min (much - min much l.cold) l.ice)).2.1.length = r.length := by
            unfold losK; rw [if_pos hz]; exact pourL_len _ _
          simp only []
          have e4 := ih (pre := (losK pre ⟨l.ice, l.wet, l.cold - min much l.cold⟩ r (min (much - min much l.cold) l.ice) (min (much - min much l.cold) l.ice)).1)
            (much := much - min much l.cold - min (much - min much l.cold) l.ice) (out := out + (losK pre ⟨l.ice, l.wet, l.cold - min much l.cold⟩ r (min (much - min much l.cold) l.ice) (min (much - min much l.cold) l.ice)).2.2) (by rw [e3]; simpa using h) e2.1 (by omega)
          rw [e4]
          simp only [watL] at e1 ⊢
          omega
        · simp only []
          rw [melt_end (.inl (by have := hl.1; unfold flo at this; omega))]
          simp only [watL] at e1 ⊢
          omega
theorem take_wat : ∀ (n : Nat) {pre ls : List Lay} {much taken out : Int}, ls.length ≤ n → colOk ls → taken ≤ much →
    watL (take pre ls much taken out).2.1 + (take pre ls much taken out).2.2.2 + (take pre ls much taken out).2.2.1 = watL ls + out + taken ∧ taken ≤ (take pre ls much taken out).2.2.1 ∧ (take pre ls much taken out).2.2.1 ≤ much ∧
    ((take pre ls much taken out).2.2.1 = much ∨ (take pre ls much taken out).2.1 = []) := by
  intro n
  induction n with
  | zero =>
    intro pre ls much taken out h _ h2
    obtain rfl := List.eq_nil_of_length_eq_zero (show ls.length = 0 by omega)
    rw [take_end (.inr rfl)]; exact ⟨rfl, by simp only []; omega, h2, .inr rfl⟩
  | succ n ih =>
    intro pre ls much taken out h hok hm
    cases ls with
    | nil => rw [take_end (.inr rfl)]; exact ⟨rfl, by simp only []; omega, hm, .inr rfl⟩
    | cons l r =>
      by_cases hm0 : much ≤ taken
      · rw [take_end (.inl hm0)]; exact ⟨rfl, by simp only []; omega, hm, .inl (by simp only []; omega)⟩
      · have hl := hok l (by simp)
        have hp1 : 0 ≤ min (much - taken) l.ice := by omega
        have hp2 : min (much - taken) l.ice ≤ l.ice := by omega
        have e1 := losK_wat (pre := pre) (r := r) (wet := 0) hl.1 hp2 (by omega)
        have e2 := losK_ok (pre := pre) (wet := 0) hok hp1 hp2 (by omega)
        rw [take_cons hl.1 hl.2 (by omega)]
        by_cases hz : l.ice - min (much - taken) l.ice = 0
        · have e3 : (losK pre l r (min (much - taken) l.ice) 0).2.1.length = r.length := by
            unfold losK; rw [if_pos hz]; exact pourL_len _ _
          simp only []
          have e4 := ih (pre := (losK pre l r (min (much - taken) l.ice) 0).1) (much := much) (taken := taken + min (much - taken) l.ice) (out := out + (losK pre l r (min (much - taken) l.ice) 0).2.2) (by rw [e3]; simpa using h) e2.1 (by omega)
          exact ⟨by omega, by omega, e4.2.2.1, e4.2.2.2⟩
        · simp only []
          rw [take_end (.inl (by omega))]
          exact ⟨by simp only []; omega, by simp only []; omega, by simp only []; omega, .inl (by simp only []; omega)⟩
end Go.Proofs.YtgagfmjpmdgfdaaDoor
