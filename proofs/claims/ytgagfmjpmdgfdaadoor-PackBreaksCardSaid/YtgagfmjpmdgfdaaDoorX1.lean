/- Slopes, plain: what breaks, and on which slopes. -/
import Derived.Test.YtgagfmjpmdgfdaaDoorQ11
import Derived.Test.YtgagfmjpmdgfdaaDoorQ10
set_option linter.unusedSimpArgs false
set_option linter.unusedVariables false
namespace Go.Proofs.YtgagfmjpmdgfdaaDoor
open Go.Ab
def dnN (l : List (Int × Int)) : Nat → Nat
  | 0 => 0
  | n + 1 => if brkA l ((n : Int) + 1) = true then dnN l n else n + 1
theorem brkB_up {b : Int × Int} {s t : Int} (hb : burB b) (h : s ≤ t) (hs : brkB b s = true) : brkB b t = true := by
  unfold brkB at *
  have h1 := of_decide_eq_true hs
  have h2 : b.1 * (s - 25) ≤ b.1 * (t - 25) := Int.mul_le_mul_of_nonneg_left (by omega) hb.1
  exact decide_eq_true (by omega)
theorem brkB_low {b : Int × Int} {s : Int} (hb : burB b) (h : s ≤ 25) : brkB b s = false := by
  unfold brkB
  have h2 : b.1 * (s - 25) ≤ b.1 * 0 := Int.mul_le_mul_of_nonneg_left (by omega) hb.1
  unfold burB at hb
  exact decide_eq_false (by omega)
theorem brkA_up {l : List (Int × Int)} {s t : Int} (hl : ∀ b ∈ l, burB b) (h : s ≤ t) (hs : brkA l s = true) : brkA l t = true := by
  unfold brkA at *
  obtain ⟨b, hb, h1⟩ := List.any_eq_true.1 hs
  exact List.any_eq_true.2 ⟨b, hb, brkB_up (hl b hb) h h1⟩
theorem brkA_low {l : List (Int × Int)} {s : Int} (hl : ∀ b ∈ l, burB b) (h : s ≤ 25) : brkA l s = false := by
  unfold brkA
  exact List.any_eq_false.2 fun b hb => by rw [brkB_low (hl b hb) h]; simp
theorem stpN_prop (l : List (Int × Int)) : ∀ (f s : Nat), s ≤ stpN l f s ∧ stpN l f s ≤ s + f ∧ (∀ x : Nat, s < x → x ≤ stpN l f s → brkA l x = false) ∧ (stpN l f s < s + f → brkA l ((stpN l f s : Nat) + 1) = true) := by
  intro f
  induction f with
  | zero => intro s; simp [stpN]; omega
  | succ f ih =>
    intro s
    rw [stpN]
    by_cases h : brkA l ((s : Int) + 1) = true
    · rw [if_pos h]; exact ⟨by omega, by omega, fun x h1 h2 => by omega, fun _ => h⟩
    · rw [if_neg h]
      obtain ⟨h1, h2, h3, h4⟩ := ih (s + 1)
      refine ⟨by omega, by omega, fun x hx hx2 => ?_, fun hx => h4 (by omega)⟩
      by_cases hxs : x = s + 1
      · subst hxs; simpa using h
      · exact h3 x (by omega) hx2
theorem dnN_prop (l : List (Int × Int)) : ∀ n : Nat, dnN l n ≤ n ∧ (dnN l n = 0 ∨ brkA l (dnN l n : Nat) = false) ∧ (∀ x : Nat, dnN l n < x → x ≤ n → brkA l x = true) := by
  intro n
  induction n with
  | zero => simp [dnN]; omega
  | succ n ih =>
    rw [dnN]
    by_cases h : brkA l ((n : Int) + 1) = true
    · rw [if_pos h]
      refine ⟨by omega, ih.2.1, fun x hx hx2 => ?_⟩
      by_cases hxs : x = n + 1
      · subst hxs; simpa using h
      · exact ih.2.2 x hx (by omega)
    · rw [if_neg h]
      exact ⟨by omega, .inr (by simpa using h), fun x hx hx2 => by omega⟩
theorem stp_dn {l : List (Int × Int)} (hl : ∀ b ∈ l, burB b) : stpN l 60 0 = dnN l 60 := by
  obtain ⟨h1, h2, h3, h4⟩ := stpN_prop l 60 0
  obtain ⟨g1, g2, g3⟩ := dnN_prop l 60
  rcases Nat.lt_trichotomy (stpN l 60 0) (dnN l 60) with h | h | h
  · exfalso
    have ha := h4 (by omega)
    have hb := brkA_up hl (t := (dnN l 60 : Nat)) (by omega) ha
    rcases g2 with g | g
    · omega
    · rw [g] at hb; cases hb
  · exact h
  · exfalso
    have ha := g3 _ h (by omega)
    have hb := h3 _ (by omega) (Nat.le_refl _)
    rw [hb] at ha; cases ha
theorem stp_ge {l : List (Int × Int)} (hl : ∀ b ∈ l, burB b) : 25 ≤ stpN l 60 0 ∧ stpN l 60 0 ≤ 60 := by
  obtain ⟨h1, h2, h3, h4⟩ := stpN_prop l 60 0
  refine ⟨?_, by omega⟩
  apply Decidable.byContradiction; intro h
  have ha := h4 (by omega)
  rw [brkA_low hl (by omega)] at ha; cases ha
theorem brk_stp {l : List (Int × Int)} (hl : ∀ b ∈ l, burB b) {s : Int} (h0 : 0 ≤ s) (h1 : s ≤ 60) : brkA l s = decide ((stpN l 60 0 : Nat) < s) := by
  obtain ⟨g1, g2, g3, g4⟩ := stpN_prop l 60 0
  by_cases h : ((stpN l 60 0 : Nat) : Int) < s
  · rw [decide_eq_true h]; exact brkA_up hl (by omega) (g4 (by omega))
  · rw [decide_eq_false h]
    by_cases hs : s = 0
    · exact brkA_low hl (by omega)
    · have := g3 s.toNat (by omega) (by omega)
      rwa [Int.toNat_of_nonneg h0] at this
theorem wk_max {l : List (Int × Int)} (hl : ∀ b ∈ l, burB b) : ∀ n, n ≤ l.length → ∀ k, k < n → (l.getD k (0, 0)).1 * (l.getD (wkA l n) (0, 0)).2 ≤ (l.getD (wkA l n) (0, 0)).1 * (l.getD k (0, 0)).2 := by
  have hg : ∀ k, k < l.length → burB (l.getD k (0, 0)) := fun k hk => by rw [getD_at hk]; exact hl _ (List.getElem_mem hk)
  intro n
  induction n with
  | zero => intro _ k hk; omega
  | succ n ih =>
    intro hn k hk
    simp only [wkA]
    have hbn := hg n (by omega)
    by_cases h : weakB (l.getD n (0, 0)) (l.getD (wkA l n) (0, 0)) = true
    · rw [if_pos h]
      by_cases hkn : k = n
      · subst hkn; exact Int.le_refl _
      · have hw : wkA l n < n := wkA_lt l n (by omega)
        have hbw := hg _ (show wkA l n < l.length by omega)
        have hbk := hg k (by omega)
        have h1 := ih (by omega) k (by omega)
        have h2 := of_decide_eq_true h
        generalize l.getD n (0, 0) = cn at *
        generalize l.getD (wkA l n) (0, 0) = cw at *
        generalize l.getD k (0, 0) = ck at *
        unfold burB at *
        have e1 : ck.1 * cw.2 * cn.2 ≤ cw.1 * ck.2 * cn.2 := Int.mul_le_mul_of_nonneg_right h1 (by omega)
        have e2 : cw.1 * cn.2 * ck.2 ≤ cn.1 * cw.2 * ck.2 := Int.mul_le_mul_of_nonneg_right (Int.le_of_lt h2) (by omega)
        have e3 : cw.2 * (ck.1 * cn.2) ≤ cw.2 * (cn.1 * ck.2) := by
          have a1 : cw.2 * (ck.1 * cn.2) = ck.1 * cw.2 * cn.2 := by rw [← Int.mul_assoc, Int.mul_comm cw.2 ck.1]
          have a2 : cw.2 * (cn.1 * ck.2) = cn.1 * cw.2 * ck.2 := by rw [← Int.mul_assoc, Int.mul_comm cw.2 cn.1]
          have a3 : cw.1 * ck.2 * cn.2 = cw.1 * cn.2 * ck.2 := by rw [Int.mul_assoc, Int.mul_comm ck.2, ← Int.mul_assoc]
          omega
        exact Int.le_of_mul_le_mul_left e3 (by omega)
    · rw [if_neg h]
      by_cases hkn : k = n
      · subst hkn
        have := of_decide_eq_false (by simpa [weakB] using h : decide ((l.getD k (0, 0)).1 * (l.getD (wkA l k) (0, 0)).2 > (l.getD (wkA l k) (0, 0)).1 * (l.getD k (0, 0)).2) = false)
        omega
      · exact ih (by omega) k (by omega)
theorem brk_wk {l : List (Int × Int)} (hl : ∀ b ∈ l, burB b) (h0 : 0 < l.length) (s : Int) : brkA l s = brkB (l.getD (wkA l l.length) (0, 0)) s := by
  have hg : ∀ k, k < l.length → burB (l.getD k (0, 0)) := fun k hk => by rw [getD_at hk]; exact hl _ (List.getElem_mem hk)
  have hw := wkA_lt l l.length h0
  by_cases hs : s ≤ 25
  · rw [brkA_low hl hs, brkB_low (hg _ hw) hs]
  · by_cases h : brkA l s = true
    · rw [h]
      obtain ⟨b, hb, h1⟩ := List.any_eq_true.1 h
      obtain ⟨k, hk, rfl⟩ := List.mem_iff_getElem.1 hb
      have h2 := wk_max hl l.length (Nat.le_refl _) k hk
      have hbw := hg _ hw
      have hbk := hg k hk
      rw [getD_at hk] at h2 hbk
      generalize l.getD (wkA l l.length) (0, 0) = cw at *
      generalize l[k] = ck at *
      unfold brkB at *
      have h3 := of_decide_eq_true h1
      unfold burB at *
      symm; apply decide_eq_true
      have e1 : 3 * ck.2 * cw.2 < ck.1 * (s - 25) * cw.2 := Int.mul_lt_mul_of_pos_right h3 (by omega)
      have e2 : ck.1 * cw.2 * (s - 25) ≤ cw.1 * ck.2 * (s - 25) := Int.mul_le_mul_of_nonneg_right h2 (by omega)
      have e3 : ck.2 * (3 * cw.2) < ck.2 * (cw.1 * (s - 25)) := by
        have a1 : ck.2 * (3 * cw.2) = 3 * ck.2 * cw.2 := by rw [← Int.mul_assoc, Int.mul_comm ck.2 3]
        have a2 : ck.2 * (cw.1 * (s - 25)) = cw.1 * ck.2 * (s - 25) := by rw [← Int.mul_assoc, Int.mul_comm ck.2 cw.1]
        have a3 : ck.1 * (s - 25) * cw.2 = ck.1 * cw.2 * (s - 25) := by rw [Int.mul_assoc, Int.mul_comm (s - 25), ← Int.mul_assoc]
        omega
      exact Int.lt_of_mul_lt_mul_left e3 (by omega)
    · have h' : brkA l s = false := by simpa using h
      rw [h']
      symm
      have := List.any_eq_false.1 h' (l.getD (wkA l l.length) (0, 0)) (by rw [getD_at hw]; exact List.getElem_mem hw)
      simpa using this
end Go.Proofs.YtgagfmjpmdgfdaaDoor
