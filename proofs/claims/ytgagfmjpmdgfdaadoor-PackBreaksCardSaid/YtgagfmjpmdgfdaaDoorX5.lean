/- What steps keep of packs, plain. -/
import Derived.Test.YtgagfmjpmdgfdaaDoorX3
import Derived.Test.YtgagfmjpmdgfdaaDoorX4
set_option linter.unusedSimpArgs false
set_option linter.unusedVariables false
namespace Go.Proofs.YtgagfmjpmdgfdaaDoor
open Go.Ab
def colV (ls : List Lay) : Prop := ∀ l ∈ ls, layV l
theorem colV_ok {ls : List Lay} (h : colV ls) (hw : watL ls ≤ 70000) (hc : coldL ls ≤ 70000) : colOk ls := fun l hl => by
  have hs := joinOk_sum (L := ls) fun x hx => by have := h x hx; unfold layV at this; omega
  have h2 := hs.2.2 l hl
  have h3 := h l hl
  unfold layV at h3; unfold flo
  omega
theorem colV_of {p : List Lay} (h : packE p = 0) : colV p := (packE_V.1 h).2.1
theorem entF_V {left : Int} {l : Lay} (h : layV l) (h0 : 0 ≤ left) : layV (entF left l).2 ∧ (entF left l).2.cold ≤ l.cold ∧ 0 ≤ (entF left l).1 := by
  unfold layV entF at *; simp only []; omega
theorem pourL_V : ∀ {ls : List Lay} {much : Int}, colV ls → 0 ≤ much → colV (pourL much ls).2 ∧ coldL (pourL much ls).2 ≤ coldL ls ∧ 0 ≤ (pourL much ls).1 := by
  intro ls
  induction ls with
  | nil => intro much _ h0; exact ⟨fun l h => by simp [pourL] at h, Int.le_refl _, h0⟩
  | cons l r ih =>
    intro much h h0
    have h1 := entF_V (left := much) (h l (by simp)) h0
    have h2 := ih (much := (entF much l).1) (fun x hx => h x (by simp [hx])) h1.2.2
    refine ⟨fun x hx => ?_, by simp only [pourL, coldL]; omega, h2.2.2⟩
    simp only [pourL, List.mem_cons] at hx
    rcases hx with rfl | hx
    · exact h1.1
    · exact h2.1 x hx
theorem losF_V {ice wet : Int} {l : Lay} (h : layV l) (h0 : 0 ≤ ice) (h1 : ice < l.ice) (h2 : 0 ≤ wet) (h3 : wet = 0 ∨ l.cold = 0) : layV (losF ice wet l) := by
  unfold layV losF at *; simp only []; omega
theorem losK_V {pre : List Lay} {l : Lay} {r : List Lay} {ice wet : Int} (h : colV (l :: r)) (h0 : 0 ≤ ice) (h1 : ice ≤ l.ice) (h2 : 0 ≤ wet) (h3 : wet = 0 ∨ l.cold = 0) :
    colV (losK pre l r ice wet).2.1 ∧ coldL (losK pre l r ice wet).2.1 ≤ coldL (l :: r) ∧ 0 ≤ (losK pre l r ice wet).2.2 ∧ (losK pre l r ice wet).2.1.length ≤ r.length + 1 := by
  have hr : colV r := fun x hx => h x (by simp [hx])
  have hl := h l (by simp)
  have h4 := pourL_V hr (losO_ok (ice := ice) (wet := wet) (l := l))
  have h5 := pourL_len (losO ice wet l) r
  unfold losK
  split
  · exact ⟨h4.1, by unfold layV at hl; simp only [coldL]; omega, h4.2.2, by simp only []; omega⟩
  · refine ⟨fun x hx => ?_, by simp only [coldL, losF]; omega, h4.2.2, by simp only [List.length_cons]; omega⟩
    simp only [List.mem_cons] at hx
    rcases hx with rfl | hx
    · exact losF_V hl h0 (by omega) h2 h3
    · exact h4.1 x hx
theorem watL_pos {ls : List Lay} (h : colV ls) : 0 ≤ watL ls := (joinOk_sum (L := ls) fun x hx => by have := h x hx; unfold layV at this; omega).1
theorem coldL_pos {ls : List Lay} (h : colV ls) : 0 ≤ coldL ls := (joinOk_sum (L := ls) fun x hx => by have := h x hx; unfold layV at this; omega).2.1
theorem melt_V : ∀ (n : Nat) {pre ls : List Lay} {much out : Int}, ls.length ≤ n → colV ls → watL ls ≤ 70000 → coldL ls ≤ 70000 → 0 ≤ much →
    colV (melt pre ls much out).2.1 ∧ coldL (melt pre ls much out).2.1 ≤ coldL ls ∧ out ≤ (melt pre ls much out).2.2 ∧ (melt pre ls much out).2.1.length ≤ ls.length := by
  intro n
  induction n with
  | zero => intro pre ls much out h hv _ _ _; rw [melt_end (.inr (List.eq_nil_of_length_eq_zero (by omega)))]; exact ⟨hv, Int.le_refl _, Int.le_refl _, Nat.le_refl _⟩
  | succ n ih =>
    intro pre ls much out h hv hw hc hm
    by_cases hm0 : much ≤ 0
    · rw [melt_end (.inl hm0)]; exact ⟨hv, Int.le_refl _, Int.le_refl _, Nat.le_refl _⟩
    · cases ls with
      | nil => rw [melt_end (.inr rfl)]; exact ⟨hv, Int.le_refl _, Int.le_refl _, Nat.le_refl _⟩
      | cons l r =>
        have hl := colV_ok hv hw hc l (by simp)
        have hlV := hv l (by simp)
        have hf : flo ⟨l.ice, l.wet, l.cold - min much l.cold⟩ := by have := hl.1; unfold flo at *; simp only []; omega
        have hvv : layV ⟨l.ice, l.wet, l.cold - min much l.cold⟩ := by unfold layV at *; simp only []; omega
        have hv2 : colV (⟨l.ice, l.wet, l.cold - min much l.cold⟩ :: r) := fun x hx => by
          simp only [List.mem_cons] at hx
          rcases hx with rfl | hx
          · exact hvv
          · exact hv x (by simp [hx])
        have hp1 : 0 ≤ min (much - min much l.cold) l.ice := by unfold layV at hlV; omega
        have hp2 : min (much - min much l.cold) l.ice ≤ l.ice := by omega
        have e1 := losK_wat (pre := pre) (r := r) hf hp2 hp1
        have e2 := losK_V (pre := pre) hv2 hp1 hp2 hp1 (by simp only []; omega)
        rw [melt_cons hl.1 hl.2 (by omega)]
        simp only [coldL] at e2 hc ⊢
        simp only [watL] at e1 hw
        simp only [List.length_cons] at h ⊢
        by_cases hz : l.ice - min (much - min much l.cold) l.ice = 0
        · have e3 : (losK pre ⟨l.ice, l.wet, l.cold - min much l.cold⟩ r (min (much - min much l.cold) l.ice) (min (much - min much l.cold) l.ice)).2.1.length = r.length := by
            unfold losK; rw [if_pos hz]; exact pourL_len _ _
          have e4 := ih (pre := (losK pre ⟨l.ice, l.wet, l.cold - min much l.cold⟩ r (min (much - min much l.cold) l.ice) (min (much - min much l.cold) l.ice)).1)
            (much := much - min much l.cold - min (much - min much l.cold) l.ice) (out := out + (losK pre ⟨l.ice, l.wet, l.cold - min much l.cold⟩ r (min (much - min much l.cold) l.ice) (min (much - min much l.cold) l.ice)).2.2) (by rw [e3]; omega) e2.1 (by unfold layV at hlV; omega) (by unfold layV at hlV; omega) (by omega)
          exact ⟨e4.1, by unfold layV at hlV; omega, by omega, by omega⟩
        · rw [melt_end (.inl (by unfold layV at hlV; omega))]
          exact ⟨e2.1, by dsimp only; unfold layV at hlV; omega, by dsimp only; omega, by dsimp only; omega⟩
theorem take_V : ∀ (n : Nat) {pre ls : List Lay} {much taken out : Int}, ls.length ≤ n → colV ls → watL ls ≤ 70000 → coldL ls ≤ 70000 →
    colV (take pre ls much taken out).2.1 ∧ coldL (take pre ls much taken out).2.1 ≤ coldL ls ∧ out ≤ (take pre ls much taken out).2.2.2 ∧ (take pre ls much taken out).2.1.length ≤ ls.length := by
  intro n
  induction n with
  | zero => intro pre ls much taken out h hv _ _; rw [take_end (.inr (List.eq_nil_of_length_eq_zero (by omega)))]; exact ⟨hv, Int.le_refl _, Int.le_refl _, Nat.le_refl _⟩
  | succ n ih =>
    intro pre ls much taken out h hv hw hc
    by_cases hm0 : much ≤ taken
    · rw [take_end (.inl hm0)]; exact ⟨hv, Int.le_refl _, Int.le_refl _, Nat.le_refl _⟩
    · cases ls with
      | nil => rw [take_end (.inr rfl)]; exact ⟨hv, Int.le_refl _, Int.le_refl _, Nat.le_refl _⟩
      | cons l r =>
        have hl := colV_ok hv hw hc l (by simp)
        have hlV := hv l (by simp)
        have hp1 : 0 ≤ min (much - taken) l.ice := by unfold layV at hlV; omega
        have hp2 : min (much - taken) l.ice ≤ l.ice := by omega
        have e1 := losK_wat (pre := pre) (r := r) (wet := 0) hl.1 hp2 (by omega)
        have e2 := losK_V (pre := pre) (wet := 0) hv hp1 hp2 (by omega) (.inl rfl)
        rw [take_cons hl.1 hl.2 (by omega)]
        simp only [coldL] at e2 hc ⊢
        simp only [watL] at e1 hw
        simp only [List.length_cons] at h ⊢
        by_cases hz : l.ice - min (much - taken) l.ice = 0
        · have e3 : (losK pre l r (min (much - taken) l.ice) 0).2.1.length = r.length := by
            unfold losK; rw [if_pos hz]; exact pourL_len _ _
          have e4 := ih (pre := (losK pre l r (min (much - taken) l.ice) 0).1) (much := much) (taken := taken + min (much - taken) l.ice) (out := out + (losK pre l r (min (much - taken) l.ice) 0).2.2) (by rw [e3]; omega) e2.1 (by unfold layV at hlV; omega) (by unfold layV at hlV; omega)
          exact ⟨e4.1, by omega, by omega, by omega⟩
        · rw [take_end (.inl (by omega))]
          exact ⟨e2.1, e2.2.1, by simp only []; omega, by simp only []; omega⟩
theorem packE_bd {p : List Lay} (h : packE p = 0) : p.length ≤ 64 ∧ colV p ∧ colOk p ∧ 0 ≤ watL p ∧ watL p ≤ 65536 ∧ 0 ≤ coldL p ∧ coldL p ≤ 65536 := by
  have h1 := packE_V.1 h
  exact ⟨h1.1, h1.2.1, colV_ok h1.2.1 (by omega) (by omega), watL_pos h1.2.1, h1.2.2.1, coldL_pos h1.2.1, h1.2.2.2⟩
theorem melt_E {pre p : List Lay} {much : Int} (h : packE p = 0) (h0 : 0 ≤ much) : packE (melt pre p much 0).2.1 = 0 ∧ 0 ≤ (melt pre p much 0).2.2 ∧ watL (melt pre p much 0).2.1 + (melt pre p much 0).2.2 = watL p := by
  obtain ⟨a1, a2, a3, a4, a5, a6, a7⟩ := packE_bd h
  have h1 := melt_V p.length (pre := pre) (much := much) (out := 0) (Nat.le_refl _) a2 (by omega) (by omega) h0
  have h2 := melt_wat p.length (pre := pre) (much := much) (out := 0) (Nat.le_refl _) a3 h0
  exact ⟨packE_V.2 ⟨by omega, h1.1, by omega, by omega⟩, by omega, by omega⟩
theorem take_E {pre p : List Lay} {much : Int} (h : packE p = 0) (h0 : 0 ≤ much) : packE (take pre p much 0 0).2.1 = 0 ∧ 0 ≤ (take pre p much 0 0).2.2.2 ∧ watL (take pre p much 0 0).2.1 + (take pre p much 0 0).2.2.2 + (take pre p much 0 0).2.2.1 = watL p ∧
    0 ≤ (take pre p much 0 0).2.2.1 ∧ (take pre p much 0 0).2.2.1 ≤ much ∧ ((take pre p much 0 0).2.2.1 = much ∨ (take pre p much 0 0).2.1 = []) := by
  obtain ⟨a1, a2, a3, a4, a5, a6, a7⟩ := packE_bd h
  have h1 := take_V p.length (pre := pre) (much := much) (taken := 0) (out := 0) (Nat.le_refl _) a2 (by omega) (by omega)
  have h2 := take_wat p.length (pre := pre) (much := much) (taken := 0) (out := 0) (Nat.le_refl _) a3 h0
  have := watL_pos h1.1
  exact ⟨packE_V.2 ⟨by omega, h1.1, by omega, by omega⟩, by omega, by omega, by omega, h2.2.2.1, h2.2.2.2⟩
/-- What is true of Apply where it is OK. -/
theorem appM_ok {p : List Lay} {s : Stp} (hok : (appM p s).2.2 = 0) : packE p = 0 ∧ stepE s = 0 ∧ (stpK (preZ p) p s).2.2.2 = 0 ∧ packE (appM p s).1 = 0 ∧ (appM p s).1 = (stpK (preZ p) p s).2.1 ∧ (appM p s).2.1 = (stpK (preZ p) p s).2.2.1 := by
  unfold appM at *
  by_cases h1 : packE p = 0
  · rw [if_pos h1] at hok ⊢
    by_cases h2 : stepE s = 0
    · rw [if_pos h2] at hok ⊢
      by_cases h3 : (stpK (preZ p) p s).2.2.2 = 0
      · rw [if_pos h3] at hok ⊢
        by_cases h4 : packE (stpK (preZ p) p s).2.1 = 0
        · rw [if_pos h4]; exact ⟨h1, h2, h3, h4, rfl, rfl⟩
        · rw [if_neg h4] at hok; simp at hok
      · rw [if_neg h3] at hok; exact absurd hok h3
    · rw [if_neg h2] at hok; simp at hok
  · rw [if_neg h1] at hok; simp at hok
theorem appM_no {p : List Lay} {s : Stp} (hok : ¬ (appM p s).2.2 = 0) : (appM p s).1 = [] ∧ (appM p s).2.1 = 0 := by
  unfold appM at *
  by_cases h1 : packE p = 0
  · rw [if_pos h1] at hok ⊢
    by_cases h2 : stepE s = 0
    · rw [if_pos h2] at hok ⊢
      by_cases h3 : (stpK (preZ p) p s).2.2.2 = 0
      · rw [if_pos h3] at hok ⊢
        by_cases h4 : packE (stpK (preZ p) p s).2.1 = 0
        · rw [if_pos h4] at hok; exact absurd rfl hok
        · rw [if_neg h4]; exact ⟨rfl, rfl⟩
      · rw [if_neg h3]; exact ⟨rfl, rfl⟩
    · rw [if_neg h2]; exact ⟨rfl, rfl⟩
  · rw [if_neg h1]; exact ⟨rfl, rfl⟩
/-- Nothing is lost. -/
theorem app_cons {p : List Lay} {s : Stp} (hok : (appM p s).2.2 = 0) :
    0 ≤ (appM p s).2.1 ∧
    (s.kind = 1 → watL (appM p s).1 = watL p + s.much ∧ (appM p s).2.1 = 0) ∧
    (s.kind = 2 → watL (appM p s).1 + (appM p s).2.1 = watL p + s.much) ∧
    (s.kind = 3 → watL (appM p s).1 + (appM p s).2.1 = watL p) ∧
    (s.kind = 4 → watL (appM p s).1 = watL p ∧ (appM p s).2.1 = 0) ∧
    (s.kind ≠ 1 → s.kind ≠ 2 → s.kind ≠ 3 → s.kind ≠ 4 → watL p - watL (appM p s).1 - (appM p s).2.1 = s.much ∨ (0 ≤ watL p - watL (appM p s).1 - (appM p s).2.1 ∧ watL p - watL (appM p s).1 - (appM p s).2.1 < s.much ∧ (appM p s).1 = [])) := by
  obtain ⟨h1, h2, h3, h4, e1, e2⟩ := appM_ok hok
  rw [e1, e2]
  have hs := (stepE_0.1 h2).1
  obtain ⟨a1, a2, a3, a4, a5, a6, a7⟩ := packE_bd h1
  unfold stpK at h3 ⊢
  by_cases k1 : s.kind = 1
  · rw [if_pos k1] at h3 ⊢
    simp only [] at h3 ⊢
    refine ⟨by omega, fun _ => ?_, by omega, by omega, by omega, by omega⟩
    refine ⟨?_, by first | rfl | trivial⟩
    unfold snwK at *
    by_cases m0 : s.much = 0
    · rw [if_pos m0]; simp only []; omega
    · rw [if_neg m0] at h3 ⊢
      by_cases p0 : (preZ p).length = 0
      · rw [if_pos p0] at h3; simp at h3
      · rw [if_neg p0]; simp only [watL]; omega
  · rw [if_neg k1]
    by_cases k2 : s.kind = 2
    · rw [if_pos k2]
      have := pourL_wat p s.much
      have h5 := pourL_V a2 (show 0 ≤ s.much by omega)
      exact ⟨h5.2.2, by omega, fun _ => by simp only []; omega, by omega, by omega, by omega⟩
    · rw [if_neg k2]
      by_cases k3 : s.kind = 3
      · rw [if_pos k3]
        have := melt_E (pre := preZ p) h1 (show 0 ≤ s.much by omega)
        exact ⟨this.2.1, by omega, by omega, fun _ => this.2.2, by omega, by omega⟩
      · rw [if_neg k3]
        by_cases k4 : s.kind = 4
        · rw [if_pos k4]
          have h6 := frzL_wat p s.much
          have h7 := coolL_wat (frzL s.much p).1 (frzL s.much p).2
          exact ⟨by simp only []; omega, by omega, by omega, by omega, fun _ => ⟨by simp only [frzK]; omega, rfl⟩, by omega⟩
        · rw [if_neg k4]
          have := take_E (pre := preZ p) h1 (show 0 ≤ s.much by omega)
          refine ⟨this.2.1, by omega, by omega, by omega, by omega, fun _ _ _ _ => ?_⟩
          simp only []
          rcases this.2.2.2.2.2 with h | h
          · exact .inl (by omega)
          · by_cases hq : (take (preZ p) p s.much 0 0).2.2.1 = s.much
            · exact .inl (by omega)
            · exact .inr ⟨by omega, by omega, h⟩
/-- Rain: what is more than Ready runs out. -/
theorem app_rain {p : List Lay} {m : Int} (hok : (appM p ⟨2, m, 0⟩).2.2 = 0) : (appM p ⟨2, m, 0⟩).2.1 = max 0 (m - rdyL p) := by
  obtain ⟨h1, h2, h3, h4, e1, e2⟩ := appM_ok hok
  rw [e2]
  have hs := (stepE_0.1 h2).1
  simp only [] at hs
  unfold stpK
  rw [if_neg (by simp), if_pos rfl]
  exact pourL_rdy (colOk_flo (colOk_of h1)) (by show 0 ≤ m; omega)
theorem app_rainE {p : List Lay} {m : Int} (h : packE p = 0) (hok : ¬ (appM p ⟨2, m, 0⟩).2.2 = 0) : (appM p ⟨2, m, 0⟩).2.2 = 2 ∨ (appM p ⟨2, m, 0⟩).2.2 = 21 := by
  unfold appM at *
  rw [if_pos h] at hok ⊢
  by_cases h2 : stepE ⟨2, m, 0⟩ = 0
  · rw [if_pos h2] at hok ⊢
    have h3 : (stpK (preZ p) p ⟨2, m, 0⟩).2.2.2 = 0 := by unfold stpK; rw [if_neg (by simp), if_pos rfl]
    rw [if_pos h3] at hok ⊢
    by_cases h4 : packE (stpK (preZ p) p ⟨2, m, 0⟩).2.1 = 0
    · rw [if_pos h4] at hok; exact absurd rfl hok
    · rw [if_neg h4]; exact .inl rfl
  · rw [if_neg h2]; exact .inr rfl
theorem app_melt {p : List Lay} {m : Int} (h : packE p = 0) (h0 : 0 ≤ m) (h1 : m ≤ 65536) : appM p ⟨3, m, 0⟩ = ((melt (preZ p) p m 0).2.1, (melt (preZ p) p m 0).2.2, 0) := by
  have hs : stepE ⟨3, m, 0⟩ = 0 := stepE_0.2 ⟨⟨by dsimp only; decide, by dsimp only; decide, h0, h1, by dsimp only; decide, by dsimp only; decide⟩, .inr rfl⟩
  have h3 := melt_E (pre := preZ p) h h0
  unfold appM
  rw [if_pos h, if_pos hs]
  have e : stpK (preZ p) p ⟨3, m, 0⟩ = ((melt (preZ p) p m 0).1, (melt (preZ p) p m 0).2.1, (melt (preZ p) p m 0).2.2, 0) := by
    unfold stpK; rw [if_neg (by simp), if_neg (by simp), if_pos rfl]
  rw [e]; simp only []; rw [if_pos trivial, if_pos h3.1]
theorem app_blown {p : List Lay} {m : Int} (h : packE p = 0) (h0 : 0 ≤ m) (h1 : m ≤ 65536) : appM p ⟨6, m, 0⟩ = ((take (preZ p) p m 0 0).2.1, (take (preZ p) p m 0 0).2.2.2, 0) := by
  have hs : stepE ⟨6, m, 0⟩ = 0 := stepE_0.2 ⟨⟨by dsimp only; decide, by dsimp only; decide, h0, h1, by dsimp only; decide, by dsimp only; decide⟩, .inr rfl⟩
  have h3 := take_E (pre := preZ p) h h0
  unfold appM
  rw [if_pos h, if_pos hs]
  have e : stpK (preZ p) p ⟨6, m, 0⟩ = ((take (preZ p) p m 0 0).1, (take (preZ p) p m 0 0).2.1, (take (preZ p) p m 0 0).2.2.2, 0) := by
    unfold stpK; rw [if_neg (by simp), if_neg (by simp), if_neg (by simp), if_neg (by simp)]
  rw [e]; simp only []; rw [if_pos trivial, if_pos h3.1]
end Go.Proofs.YtgagfmjpmdgfdaaDoor
