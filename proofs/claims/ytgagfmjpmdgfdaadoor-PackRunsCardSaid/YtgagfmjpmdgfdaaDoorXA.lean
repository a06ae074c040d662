import Derived.Test.YtgagfmjpmdgfdaaDoorQ11
import Derived.Test.YtgagfmjpmdgfdaaDoorQ10
import Derived.Test.YtgagfmjpmdgfdaaDoorQ8
import Derived.Test.YtgagfmjpmdgfdaaDoorQ1
import Derived.Test.YtgagfmjpmdgfdaaDoorQ13
import Derived.Test.YtgagfmjpmdgfdaaDoorQ9
/- Slopes, plain: what breaks, and on which slopes. -/
set_option linter.unusedSimpArgs false
set_option linter.unusedVariables false
namespace Go.Proofs.YtgagfmjpmdgfdaaDoor
open Go.Ab
def dnN (l : List (Int × Int)) : Nat → Nat
  | 0 => 0
  | n + 1 => if brkA l ((n : Int) + 1) = true then dnN l n else n + 1
theorem brkB_up {b : Int × Int} {s t : Int} (hb : burB b) (h : s ≤ t) (hs : brkB b s = true) : brkB b t = true := by
  unfold brkB at *
  have h1 := of_decide_eq_true hs
  have h2 : b.1 * (s - 25) ≤ b.1 * (t - 25) := Int.mul_le_mul_of_nonneg_left (by omega) hb.1
  exact decide_eq_true (by omega)
theorem brkB_low {b : Int × Int} {s : Int} (hb : burB b) (h : s ≤ 25) : brkB b s = false := by
  unfold brkB
  have h2 : b.1 * (s - 25) ≤ b.1 * 0 := Int.mul_le_mul_of_nonneg_left (by omega) hb.1
  unfold burB at hb
  exact decide_eq_false (by omega)
theorem brkA_up {l : List (Int × Int)} {s t : Int} (hl : ∀ b ∈ l, burB b) (h : s ≤ t) (hs : brkA l s = true) : brkA l t = true := by
  unfold brkA at *
  obtain ⟨b, hb, h1⟩ := List.any_eq_true.1 hs
  exact List.any_eq_true.2 ⟨b, hb, brkB_up (hl b hb) h h1⟩
theorem brkA_low {l : List (Int × Int)} {s : Int} (hl : ∀ b ∈ l, burB b) (h : s ≤ 25) : brkA l s = false := by
  unfold brkA
  exact List.any_eq_false.2 fun b hb => by rw [brkB_low (hl b hb) h]; simp
theorem stpN_prop (l : List (Int × Int)) : ∀ (f s : Nat), s ≤ stpN l f s ∧ stpN l f s ≤ s + f ∧ (∀ x : Nat, s < x → x ≤ stpN l f s → brkA l x = false) ∧ (stpN l f s < s + f → brkA l ((stpN l f s : Nat) + 1) = true) := by
  intro f
  induction f with
  | zero => intro s; simp [stpN]; omega
  | succ f ih =>
    intro s
    rw [stpN]
    by_cases h : brkA l ((s : Int) + 1) = true
    · rw [if_pos h]; exact ⟨by omega, by omega, fun x h1 h2 => by omega, fun _ => h⟩
    · rw [if_neg h]
      obtain ⟨h1, h2, h3, h4⟩ := ih (s + 1)
      refine ⟨by omega, by omega, fun x hx hx2 => ?_, fun hx => h4 (by omega)⟩
      by_cases hxs : x = s + 1
      · subst hxs; simpa using h
      · exact h3 x (by omega) hx2
theorem dnN_prop (l : List (Int × Int)) : ∀ n : Nat, dnN l n ≤ n ∧ (dnN l n = 0 ∨ brkA l (dnN l n : Nat) = false) ∧ (∀ x : Nat, dnN l n < x → x ≤ n → brkA l x = true) := by
  intro n
  induction n with
  | zero => simp [dnN]; omega
  | succ n ih =>
    rw [dnN]
    by_cases h : brkA l ((n : Int) + 1) = true
    · rw [if_pos h]
      refine ⟨by omega, ih.2.1, fun x hx hx2 => ?_⟩
      by_cases hxs : x = n + 1
      · subst hxs; simpa using h
      · exact ih.2.2 x hx (by omega)
    · rw [if_neg h]
      exact ⟨by omega, .inr (by simpa using h), fun x hx hx2 => by omega⟩
theorem stp_dn {l : List (Int × Int)} (hl : ∀ b ∈ l, burB b) : stpN l 60 0 = dnN l 60 := by
  obtain ⟨h1, h2, h3, h4⟩ := stpN_prop l 60 0
  obtain ⟨g1, g2, g3⟩ := dnN_prop l 60
  rcases Nat.lt_trichotomy (stpN l 60 0) (dnN l 60) with h | h | h
  · exfalso
    have ha := h4 (by omega)
    have hb := brkA_up hl (t := (dnN l 60 : Nat)) (by omega) ha
    rcases g2 with g | g
    · omega
    · rw [g] at hb; cases hb
  · exact h
  · exfalso
    have ha := g3 _ h (by omega)
    have hb := h3 _ (by omega) (Nat.le_refl _)
    rw [hb] at ha; cases ha
theorem stp_ge {l : List (Int × Int)} (hl : ∀ b ∈ l, burB b) : 25 ≤ stpN l 60 0 ∧ stpN l 60 0 ≤ 60 := by
  obtain ⟨h1, h2, h3, h4⟩ := stpN_prop l 60 0
  refine ⟨?_, by omega⟩
  apply Decidable.byContradiction; intro h
  have ha := h4 (by omega)
  rw [brkA_low hl (by omega)] at ha; cases ha
theorem brk_stp {l : List (Int × Int)} (hl : ∀ b ∈ l, burB b) {s : Int} (h0 : 0 ≤ s) (h1 : s ≤ 60) : brkA l s = decide ((stpN l 60 0 : Nat) < s) := by
  obtain ⟨g1, g2, g3, g4⟩ := stpN_prop l 60 0
  by_cases h : ((stpN l 60 0 : Nat) : Int) < s
  · rw [decide_eq_true h]; exact brkA_up hl (by omega) (g4 (by omega))
  · rw [decide_eq_false h]
    by_cases hs : s = 0
    · exact brkA_low hl (by omega)
    · have := g3 s.toNat (by omega) (by omega)
      rwa [Int.toNat_of_nonneg h0] at this
theorem wk_max {l : List (Int × Int)} (hl : ∀ b ∈ l, burB b) : ∀ n, n ≤ l.length → ∀ k, k < n → (l.getD k (0, 0)).1 * (l.getD (wkA l n) (0, 0)).2 ≤ (l.getD (wkA l n) (0, 0)).1 * (l.getD k (0, 0)).2 := by
  have hg : ∀ k, k < l.length → burB (l.getD k (0, 0)) := fun k hk => by rw [getD_at hk]; exact hl _ (List.getElem_mem hk)
  intro n
  induction n with
  | zero => intro _ k hk; omega
  | succ n ih =>
    intro hn k hk
    simp only [wkA]
    have hbn := hg n (by omega)
    by_cases h : weakB (l.getD n (0, 0)) (l.getD (wkA l n) (0, 0)) = true
    · rw [if_pos h]
      by_cases hkn : k = n
      · subst hkn; exact Int.le_refl _
      · have hw : wkA l n < n := wkA_lt l n (by omega)
        have hbw := hg _ (show wkA l n < l.length by omega)
        have hbk := hg k (by omega)
        have h1 := ih (by omega) k (by omega)
        have h2 := of_decide_eq_true h
        generalize l.getD n (0, 0) = cn at *
        generalize l.getD (wkA l n) (0, 0) = cw at *
        generalize l.getD k (0, 0) = ck at *
        unfold burB at *
        have e1 : ck.1 * cw.2 * cn.2 ≤ cw.1 * ck.2 * cn.2 := Int.mul_le_mul_of_nonneg_right h1 (by omega)
        have e2 : cw.1 * cn.2 * ck.2 ≤ cn.1 * cw.2 * ck.2 := Int.mul_le_mul_of_nonneg_right (Int.le_of_lt h2) (by omega)
        have e3 : cw.2 * (ck.1 * cn.2) ≤ cw.2 * (cn.1 * ck.2) := by
          have a1 : cw.2 * (ck.1 * cn.2) = ck.1 * cw.2 * cn.2 := by rw [← Int.mul_assoc, Int.mul_comm cw.2 ck.1]
          have a2 : cw.2 * (cn.1 * ck.2) = cn.1 * cw.2 * ck.2 := by rw [← Int.mul_assoc, Int.mul_comm cw.2 cn.1]
          have a3 : cw.1 * ck.2 * cn.2 = cw.1 * cn.2 * ck.2 := by rw [Int.mul_assoc, Int.mul_comm ck.2, ← Int.mul_assoc]
          omega
        exact Int.le_of_mul_le_mul_left e3 (by omega)
    · rw [if_neg h]
      by_cases hkn : k = n
      · subst hkn
        have := of_decide_eq_false (by simpa [weakB] using h : decide ((l.getD k (0, 0)).1 * (l.getD (wkA l k) (0, 0)).2 > (l.getD (wkA l k) (0, 0)).1 * (l.getD k (0, 0)).2) = false)
        omega
      · exact ih (by omega) k (by omega)
theorem brk_wk {l : List (Int × Int)} (hl : ∀ b ∈ l, burB b) (h0 : 0 < l.length) (s : Int) : brkA l s = brkB (l.getD (wkA l l.length) (0, 0)) s := by
  have hg : ∀ k, k < l.length → burB (l.getD k (0, 0)) := fun k hk => by rw [getD_at hk]; exact hl _ (List.getElem_mem hk)
  have hw := wkA_lt l l.length h0
  by_cases hs : s ≤ 25
  · rw [brkA_low hl hs, brkB_low (hg _ hw) hs]
  · by_cases h : brkA l s = true
    · rw [h]
      obtain ⟨b, hb, h1⟩ := List.any_eq_true.1 h
      obtain ⟨k, hk, rfl⟩ := List.mem_iff_getElem.1 hb
      have h2 := wk_max hl l.length (Nat.le_refl _) k hk
      have hbw := hg _ hw
      have hbk := hg k hk
      rw [getD_at hk] at h2 hbk
      generalize l.getD (wkA l l.length) (0, 0) = cw at *
      generalize l[k] = ck at *
      unfold brkB at *
      have h3 := of_decide_eq_true h1
      unfold burB at *
      symm; apply decide_eq_true
      have e1 : 3 * ck.2 * cw.2 < ck.1 * (s - 25) * cw.2 := Int.mul_lt_mul_of_pos_right h3 (by omega)
      have e2 : ck.1 * cw.2 * (s - 25) ≤ cw.1 * ck.2 * (s - 25) := Int.mul_le_mul_of_nonneg_right h2 (by omega)
      have e3 : ck.2 * (3 * cw.2) < ck.2 * (cw.1 * (s - 25)) := by
        have a1 : ck.2 * (3 * cw.2) = 3 * ck.2 * cw.2 := by rw [← Int.mul_assoc, Int.mul_comm ck.2 3]
        have a2 : ck.2 * (cw.1 * (s - 25)) = cw.1 * ck.2 * (s - 25) := by rw [← Int.mul_assoc, Int.mul_comm ck.2 cw.1]
        have a3 : ck.1 * (s - 25) * cw.2 = ck.1 * cw.2 * (s - 25) := by rw [Int.mul_assoc, Int.mul_comm (s - 25), ← Int.mul_assoc]
        omega
      exact Int.lt_of_mul_lt_mul_left e3 (by omega)
    · have h' : brkA l s = false := by simpa using h
      rw [h']
      symm
      have := List.any_eq_false.1 h' (l.getD (wkA l l.length) (0, 0)) (by rw [getD_at hw]; exact List.getElem_mem hw)
      simpa using this
end Go.Proofs.YtgagfmjpmdgfdaaDoor

/- Packs that lie within packs, plain. -/
set_option linter.unusedSimpArgs false
set_option linter.unusedVariables false
namespace Go.Proofs.YtgagfmjpmdgfdaaDoor
open Go.Ab
def leL (a b : Lay) : Bool := decide (a.ice ≤ b.ice) && decide (a.wet ≤ b.wet) && decide (a.cold ≤ b.cold)
theorem leL_iff {a b : Lay} : leL a b = true ↔ a.ice ≤ b.ice ∧ a.wet ≤ b.wet ∧ a.cold ≤ b.cold := by simp [leL, and_assoc]
def leLs : List Lay → List Lay → Bool
  | [], [] => true
  | a :: p, b :: q => leL a b && leLs p q
  | _, _ => false
theorem leLs_iff : ∀ {p q : List Lay}, leLs p q = true ↔ p.length = q.length ∧ ∀ (i : Nat) (h : i < p.length) (h2 : i < q.length), leL p[i] q[i] = true := by
  intro p
  induction p with
  | nil =>
    intro q
    cases q with
    | nil => simp [leLs]
    | cons b q => simp [leLs]
  | cons a p ih =>
    intro q
    cases q with
    | nil => simp [leLs]
    | cons b q =>
      simp only [leLs, Bool.and_eq_true, ih, List.length_cons]
      constructor
      · rintro ⟨h1, h2, h3⟩
        refine ⟨by omega, fun i h h2 => ?_⟩
        cases i with
        | zero => exact h1
        | succ i => exact h3 i (by omega) (by omega)
      · rintro ⟨h1, h2⟩
        exact ⟨h2 0 (by omega) (by omega), by omega, fun i h h3 => h2 (i + 1) (by omega) (by omega)⟩
theorem leLs_len {p q : List Lay} (h : leLs p q = true) : p.length = q.length := (leLs_iff.1 h).1
theorem leLs_refl : ∀ p, leLs p p = true := by
  intro p
  exact leLs_iff.2 ⟨rfl, fun i h h2 => leL_iff.2 ⟨Int.le_refl _, Int.le_refl _, Int.le_refl _⟩⟩
theorem leLs_trans {p q r : List Lay} (h : leLs p q = true) (h2 : leLs q r = true) : leLs p r = true := by
  have h1 := leLs_iff.1 h
  have h3 := leLs_iff.1 h2
  refine leLs_iff.2 ⟨by omega, fun i a b => ?_⟩
  have c1 := leL_iff.1 (h1.2 i a (by omega))
  have c2 := leL_iff.1 (h3.2 i (by omega) b)
  exact leL_iff.2 (by omega)
theorem leLs_anti {p q : List Lay} (h : leLs p q = true) (h2 : leLs q p = true) : p = q := by
  have h1 := leLs_iff.1 h
  have h3 := leLs_iff.1 h2
  refine List.ext_getElem h1.1 fun i a b => ?_
  have c1 := leL_iff.1 (h1.2 i a b)
  have c2 := leL_iff.1 (h3.2 i b a)
  generalize p[i] = x at *
  generalize q[i] = y at *
  cases x; cases y
  simp only [Lay.mk.injEq] at *
  omega
theorem leLs_sum : ∀ {p q : List Lay}, leLs p q = true → watL p ≤ watL q ∧ coldL p ≤ coldL q := by
  intro p
  induction p with
  | nil =>
    intro q h
    cases q with
    | nil => exact ⟨Int.le_refl _, Int.le_refl _⟩
    | cons b q => cases h
  | cons a p ih =>
    intro q h
    cases q with
    | nil => cases h
    | cons b q =>
      simp only [leLs, Bool.and_eq_true] at h
      have h1 := leL_iff.1 h.1
      have h2 := ih h.2
      simp only [watL, coldL]; omega
theorem leLs_drop {p q : List Lay} (n : Nat) (h : leLs p q = true) : leLs (p.drop n) (q.drop n) = true := by
  have h1 := leLs_iff.1 h
  refine leLs_iff.2 ⟨by simp only [List.length_drop]; omega, fun i a b => ?_⟩
  rw [List.getElem_drop, List.getElem_drop]
  exact h1.2 _ _ _
/-- Whether layers lie within others, from the bottom. -/
def lessB (p q : List Lay) : Bool := decide (p.length ≤ q.length) && leLs p (q.drop (q.length - p.length))
theorem lessB_iff {p q : List Lay} : lessB p q = true ↔ p.length ≤ q.length ∧ leLs p (q.drop (q.length - p.length)) = true := by simp [lessB]
def lesM (p q : List Lay) : Bool × Int := if packE p = 0 ∧ packE q = 0 then (lessB p q, 0) else (false, 20)
theorem lessB_yes {p q : List Lay} (h : p.length ≤ q.length) (ha : ∀ (j : Nat) (h1 : j < p.length) (h2 : q.length - p.length + j < q.length), leL p[j] q[q.length - p.length + j] = true) : lessB p q = true := by
  refine lessB_iff.2 ⟨h, leLs_iff.2 ⟨by simp only [List.length_drop]; omega, fun i a b => ?_⟩⟩
  rw [List.getElem_drop]
  exact ha i a (by omega)
theorem lessB_no {p q : List Lay} {j : Nat} (h1 : j < p.length) (h2 : q.length - p.length + j < q.length) (hn : leL p[j] q[q.length - p.length + j] = false) : lessB p q = false := by
  apply Bool.eq_false_iff.2
  intro h
  have h3 := lessB_iff.1 h
  have h4 := (leLs_iff.1 h3.2).2 j h1 (by simp only [List.length_drop]; omega)
  rw [List.getElem_drop, hn] at h4; cases h4
theorem lessB_short {p q : List Lay} (h : ¬ p.length ≤ q.length) : lessB p q = false := by simp [lessB, h]
theorem less_refl (p : List Lay) : lessB p p = true := lessB_iff.2 ⟨Nat.le_refl _, by rw [Nat.sub_self, List.drop_zero]; exact leLs_refl p⟩
theorem less_anti (p q : List Lay) : (lessB p q && lessB q p) = sameB p q := by
  by_cases h : p = q
  · subst h; simp [less_refl, sameB]
  · rw [show sameB p q = false from decide_eq_false h]
    apply Bool.eq_false_iff.2
    intro h1
    have h2 := Bool.and_eq_true_iff.1 h1
    have h3 := lessB_iff.1 h2.1
    have h4 := lessB_iff.1 h2.2
    have e1 : q.length - p.length = 0 := by omega
    have e2 : p.length - q.length = 0 := by omega
    rw [e1, List.drop_zero] at h3
    rw [e2, List.drop_zero] at h4
    exact h (leLs_anti h3.2 h4.2)
theorem less_trans {p q r : List Lay} (h : lessB p q = true) (h2 : lessB q r = true) : lessB p r = true := by
  have h3 := lessB_iff.1 h
  have h4 := lessB_iff.1 h2
  refine lessB_iff.2 ⟨by omega, leLs_trans h3.2 ?_⟩
  have h5 := leLs_drop (q.length - p.length) h4.2
  rw [List.drop_drop] at h5
  rw [show r.length - p.length = r.length - q.length + (q.length - p.length) by omega]
  exact h5
theorem less_sum {p q : List Lay} (hq : ∀ x ∈ q, layB x = true) (h : lessB p q = true) : watL p ≤ watL q ∧ coldL p ≤ coldL q := by
  have h3 := lessB_iff.1 h
  have h4 := leLs_sum h3.2
  have h5 := watL_append (q.take (q.length - p.length)) (q.drop (q.length - p.length))
  have h6 := coldL_append (q.take (q.length - p.length)) (q.drop (q.length - p.length))
  rw [List.take_append_drop] at h5 h6
  have h7 := watL_bd (all_take (n := q.length - p.length) hq)
  have h8 := coldL_bd (all_take (n := q.length - p.length) hq)
  omega
theorem less_snow {p : List Lay} {s : Stp} (hk : s.kind = 1) (hok : (appM p s).2.2 = 0) : lessB p (appM p s).1 = true ∧ packE (appM p s).1 = 0 := by
  unfold appM at *
  by_cases h1 : packE p = 0
  · rw [if_pos h1] at hok ⊢
    by_cases h2 : stepE s = 0
    · rw [if_pos h2] at hok ⊢
      by_cases h3 : (stpK (preZ p) p s).2.2.2 = 0
      · rw [if_pos h3] at hok ⊢
        by_cases h4 : packE (stpK (preZ p) p s).2.1 = 0
        · rw [if_pos h4] at hok ⊢
          refine ⟨?_, h4⟩
          simp only []
          unfold stpK at h3 ⊢
          rw [if_pos hk] at h3 ⊢
          simp only [snwK] at h3 ⊢
          split
          · exact less_refl p
          · split
            · exact less_refl p
            · refine lessB_iff.2 ⟨by simp, ?_⟩
              simp only [List.length_cons]
              rw [show p.length + 1 - p.length = 1 by omega]
              exact leLs_refl p
        · rw [if_neg h4] at hok; simp at hok
      · rw [if_neg h3] at hok; exact absurd hok h3
    · rw [if_neg h2] at hok; simp at hok
  · rw [if_neg h1] at hok; simp at hok
end Go.Proofs.YtgagfmjpmdgfdaaDoor

/- Joining layers, plain: what it keeps. -/
set_option linter.unusedSimpArgs false
set_option linter.unusedVariables false
namespace Go.Proofs.YtgagfmjpmdgfdaaDoor
open Go.Ab
/-- Valid layers, without the upper bounds that sums give. -/
def layV (l : Lay) : Prop := 1 ≤ l.ice ∧ 0 ≤ l.wet ∧ l.wet ≤ l.ice / 20 ∧ 0 ≤ l.cold ∧ (l.wet = 0 ∨ l.cold = 0)
theorem packE_V {p : List Lay} : packE p = 0 ↔ p.length ≤ 64 ∧ (∀ l ∈ p, layV l) ∧ watL p ≤ 65536 ∧ coldL p ≤ 65536 := by
  rw [packE_0]
  constructor
  · rintro ⟨h1, h2, h3⟩
    exact ⟨h1, fun l hl => by have := layB_iff.1 (h2 l hl); unfold layV; omega, h3⟩
  · rintro ⟨h1, h2, h3⟩
    refine ⟨h1, fun l hl => layB_iff.2 ?_, h3⟩
    have hs := joinOk_sum (L := p) fun x hx => by have := h2 x hx; unfold layV at this; omega
    have h4 := hs.2.2 l hl
    have h5 := h2 l hl
    unfold layV at h5
    omega
def cwL : List Lay → Int
  | [] => 0
  | l :: r => l.cold - l.wet + cwL r
theorem cwL_append (a b : List Lay) : cwL (a ++ b) = cwL a + cwL b := by
  induction a with
  | nil => simp [cwL]
  | cons x a ih => simp [cwL, ih]; omega
theorem cwL_take {l : List Lay} {k : Nat} (h : k < l.length) : cwL (l.take (k + 1)) = cwL (l.take k) + (l[k].cold - l[k].wet) := by
  rw [List.take_succ_eq_append_getElem h, cwL_append]; simp [cwL]
theorem joinF_V {a b : Lay} (ha : layV a) (hb : layV b) : layV (joinF a b) := by
  unfold layV joinF at *; simp only []; omega
theorem join1_V {L : List Lay} (hL : 2 ≤ L.length) (h : ∀ l ∈ L, layV l) : (∀ l ∈ join1 L, layV l) ∧ cwL (join1 L) = cwL L ∧ coldL (join1 L) ≤ coldL L := by
  obtain ⟨P, a, b, R, e1, e2, e3⟩ := thin_split hL
  rw [e3]
  rw [e1] at h ⊢
  have ha := h a (by simp)
  have hb := h b (by simp)
  refine ⟨fun l hl => ?_, by simp [cwL_append, cwL, joinF]; omega, by unfold layV at ha hb; simp [coldL_append, coldL, joinF]; omega⟩
  simp only [List.mem_append, List.mem_cons] at hl
  rcases hl with hl | rfl | hl
  · exact h l (by simp [hl])
  · exact joinF_V ha hb
  · exact h l (by simp [hl])
theorem join1_E {L : List Lay} (hL : 2 ≤ L.length) (h : packE L = 0) : packE (join1 L) = 0 ∧ (join1 L).length = L.length - 1 ∧ watL (join1 L) = watL L ∧ cwL (join1 L) = cwL L := by
  have h1 := packE_V.1 h
  have h2 := join1_ok (joinOk_of h) hL
  have h3 := join1_V hL h1.2.1
  exact ⟨packE_V.2 ⟨by omega, h3.1, by omega, by omega⟩, h2.2.1, h2.2.2, h3.2.1⟩
/-- Joining to n layers. -/
theorem joinN_ok : ∀ (f : Nat) {L : List Lay} {n : Nat}, f = L.length → packE L = 0 → 1 ≤ n → packE (joinN f L n) = 0 ∧ (joinN f L n).length = min n L.length ∧ watL (joinN f L n) = watL L ∧ cwL (joinN f L n) = cwL L := by
  intro f
  induction f with
  | zero => intro L n hf h hn; exact ⟨h, by show L.length = _; omega, rfl, rfl⟩
  | succ f ih =>
    intro L n hf h hn
    rw [joinN]
    by_cases hg : n < L.length
    · rw [if_pos hg]
      have h1 := join1_E (by omega) h
      have h2 := ih (L := join1 L) (n := n) (by omega) h1.1 hn
      exact ⟨h2.1, by omega, by omega, by omega⟩
    · rw [if_neg hg]; exact ⟨h, by omega, rfl, rfl⟩
theorem joinN_two : ∀ (f : Nat) {L : List Lay} {n m : Nat}, f = L.length → packE L = 0 → 1 ≤ m → m ≤ n → joinN (joinN f L n).length (joinN f L n) m = joinN f L m := by
  intro f
  induction f with
  | zero => intro L n m hf h hm hmn; show joinN L.length L m = joinN 0 L m; rw [← hf]
  | succ f ih =>
    intro L n m hf h hm hmn
    by_cases hg : n < L.length
    · have h1 := join1_E (L := L) (by omega) h
      have h2 := ih (L := join1 L) (n := n) (m := m) (by omega) h1.1 hm hmn
      have a1 : joinN (f + 1) L n = joinN f (join1 L) n := by rw [joinN, if_pos hg]
      have a2 : joinN (f + 1) L m = joinN f (join1 L) m := by rw [joinN, if_pos (by omega)]
      rw [a1, a2]; exact h2
    · have a1 : joinN (f + 1) L n = L := by rw [joinN, if_neg hg]
      rw [a1, hf]
theorem joiM_two {p : List Lay} {n m : Int} (hok : (joiM p n).2 = 0) (hmn : m ≤ n) : joiM (joiM p n).1 m = joiM p m := by
  unfold joiM at hok ⊢
  by_cases h1 : packE p = 0
  · rw [if_pos h1] at hok; rw [if_pos h1]
    by_cases h2 : 1 ≤ n ∧ n ≤ 64
    · rw [if_pos h2] at hok; rw [if_pos h2]
      simp only []
      have h3 := joinN_ok p.length rfl h1 (n := n.toNat) (by omega)
      rw [if_pos h3.1, if_pos h1]
      by_cases h4 : 1 ≤ m ∧ m ≤ 64
      · rw [if_pos h4, if_pos h4, joinN_two _ rfl h1 (by omega) (by omega)]
      · rw [if_neg h4, if_neg h4]
    · rw [if_neg h2] at hok; simp at hok
  · rw [if_neg h1] at hok; simp at hok
theorem joiM_ok {p : List Lay} {n : Int} (hok : (joiM p n).2 = 0) : packE p = 0 ∧ (1 ≤ n ∧ n ≤ 64) ∧ packE (joiM p n).1 = 0 ∧ ((joiM p n).1.length : Int) = min n p.length ∧ watL (joiM p n).1 = watL p ∧ cwL (joiM p n).1 = cwL p := by
  unfold joiM at hok ⊢
  by_cases h1 : packE p = 0
  · rw [if_pos h1] at hok; rw [if_pos h1]
    by_cases h2 : 1 ≤ n ∧ n ≤ 64
    · rw [if_pos h2]
      simp only []
      have h3 := joinN_ok p.length rfl h1 (n := n.toNat) (by omega)
      exact ⟨h1, h2, h3.1, by omega, h3.2.2.1, h3.2.2.2⟩
    · rw [if_neg h2] at hok; simp at hok
  · rw [if_neg h1] at hok; simp at hok
theorem joiM_no {p : List Lay} {n : Int} (hok : ¬ (joiM p n).2 = 0) : (joiM p n).1 = [] := by
  unfold joiM at hok ⊢
  by_cases h1 : packE p = 0
  · rw [if_pos h1] at hok ⊢
    by_cases h2 : 1 ≤ n ∧ n ≤ 64
    · rw [if_pos h2] at hok; exact absurd rfl hok
    · rw [if_neg h2]
  · rw [if_neg h1]
theorem cwL_bd {l : List Lay} (h : ∀ x ∈ l, layB x = true) : -(l.length * 70000 : Int) ≤ cwL l ∧ cwL l ≤ l.length * 70000 := by
  induction l with
  | nil => simp [cwL]
  | cons a l ih =>
    have h1 := (layB_iff.1 (h a (by simp))).1
    have h2 := ih fun x hx => h x (by simp [hx])
    simp only [cwL, List.length_cons]; omega
end Go.Proofs.YtgagfmjpmdgfdaaDoor

/- Water, plain: what flows in and out. -/
set_option linter.unusedSimpArgs false
set_option linter.unusedVariables false
namespace Go.Proofs.YtgagfmjpmdgfdaaDoor
open Go.Ab
theorem entF_wat (left : Int) (l : Lay) : (entF left l).1 + ((entF left l).2.ice + (entF left l).2.wet) = left + (l.ice + l.wet) := by
  unfold entF; simp only []; omega
theorem pourL_wat : ∀ (ls : List Lay) (much : Int), watL (pourL much ls).2 + (pourL much ls).1 = watL ls + much := by
  intro ls
  induction ls with
  | nil => intro much; rfl
  | cons l r ih =>
    intro much
    have h1 := entF_wat much l
    have h2 := ih (entF much l).1
    simp only [pourL, watL]; omega
theorem entF_rdy {left : Int} {l : Lay} (h : flo l) (h0 : 0 ≤ left) : (entF left l).1 = max 0 (left - (l.cold + (l.ice + l.cold) / 20 - l.wet)) := by
  unfold flo entF at *; simp only []; omega
theorem rdyL_flo {l : List Lay} (h : ∀ x ∈ l, flo x) : 0 ≤ rdyL l := by
  induction l with
  | nil => simp [rdyL]
  | cons a l ih =>
    have h1 := h a (by simp)
    have h2 := ih fun x hx => h x (by simp [hx])
    unfold flo at h1
    simp only [rdyL]; omega
theorem pourL_rdy : ∀ {ls : List Lay} {much : Int}, (∀ l ∈ ls, flo l) → 0 ≤ much → (pourL much ls).1 = max 0 (much - rdyL ls) := by
  intro ls
  induction ls with
  | nil => intro much _ h; simp only [pourL, rdyL]; omega
  | cons l r ih =>
    intro much h h0
    have h1 := entF_ok (left := much) (h l (by simp)) h0
    have h2 := ih (much := (entF much l).1) (fun x hx => h x (by simp [hx])) h1.1
    have h3 := entF_rdy (left := much) (h l (by simp)) h0
    have h4 := rdyL_flo (l := r) fun x hx => h x (by simp [hx])
    have h5 := h l (by simp)
    unfold flo at h5
    simp only [pourL, rdyL]; omega
theorem frzL_wat : ∀ (ls : List Lay) (much : Int), watL (frzL much ls).2 = watL ls := by
  intro ls
  induction ls with
  | nil => intro much; rfl
  | cons l r ih =>
    intro much
    have h2 := ih (frzF much l).1
    simp only [frzL, watL, frzF] at *; omega
theorem coolL_wat (c : Int) (ls : List Lay) : watL (coolL c ls) = watL ls := by cases ls <;> simp [coolL, watL]
theorem losK_wat {pre : List Lay} {l : Lay} {r : List Lay} {ice wet : Int} (h : flo l) (h1 : ice ≤ l.ice) (h2 : 0 ≤ wet) :
    watL (losK pre l r ice wet).2.1 + (losK pre l r ice wet).2.2 + ice = watL (l :: r) + wet := by
  have h3 := pourL_wat r (losO ice wet l)
  unfold losK
  split
  · simp only [watL]; unfold losO flo at *; omega
  · simp only [watL, losF]; unfold losO flo at *; omega
theorem melt_wat : ∀ (n : Nat) {pre ls : List Lay} {much out : Int}, ls.length ≤ n → colOk ls → 0 ≤ much → watL (melt pre ls much out).2.1 + (melt pre ls much out).2.2 = watL ls + out := by
  intro n
  induction n with
  | zero => intro pre ls much out h _ _; rw [melt_end (.inr (List.eq_nil_of_length_eq_zero (by omega)))]
  | succ n ih =>
    intro pre ls much out h hok hm
    cases ls with
    | nil => rw [melt_end (.inr rfl)]
    | cons l r =>
      by_cases hm0 : much ≤ 0
      · rw [melt_end (.inl hm0)]
      · have hl := hok l (by simp)
        have hf : flo ⟨l.ice, l.wet, l.cold - min much l.cold⟩ := by have := hl.1; unfold flo at *; simp only []; omega
        have hok2 : colOk (⟨l.ice, l.wet, l.cold - min much l.cold⟩ :: r) := fun x hx => by
          simp only [List.mem_cons] at hx
          rcases hx with rfl | hx
          · exact ⟨hf, hl.2⟩
          · exact hok x (by simp [hx])
        have hp1 : 0 ≤ min (much - min much l.cold) l.ice := by omega
        have hp2 : min (much - min much l.cold) l.ice ≤ l.ice := by omega
        have e1 := losK_wat (pre := pre) (r := r) hf hp2 hp1
        have e2 := losK_ok (pre := pre) hok2 hp1 hp2 hp1
        rw [melt_cons hl.1 hl.2 (by omega)]
        by_cases hz : l.ice - min (much - min much l.cold) l.ice = 0
        · have e3 : (losK pre ⟨l.ice, l.wet, l.cold - min much l.cold⟩ r (min (much - min much l.cold) l.ice) (min (much - min much l.cold) l.ice)).2.1.length = r.length := by
            unfold losK; rw [if_pos hz]; exact pourL_len _ _
          simp only []
          have e4 := ih (pre := (losK pre ⟨l.ice, l.wet, l.cold - min much l.cold⟩ r (min (much - min much l.cold) l.ice) (min (much - min much l.cold) l.ice)).1)
            (much := much - min much l.cold - min (much - min much l.cold) l.ice) (out := out + (losK pre ⟨l.ice, l.wet, l.cold - min much l.cold⟩ r (min (much - min much l.cold) l.ice) (min (much - min much l.cold) l.ice)).2.2) (by rw [e3]; simpa using h) e2.1 (by omega)
          rw [e4]
          simp only [watL] at e1 ⊢
          omega
        · simp only []
          rw [melt_end (.inl (by have := hl.1; unfold flo at this; omega))]
          simp only [watL] at e1 ⊢
          omega
theorem take_wat : ∀ (n : Nat) {pre ls : List Lay} {much taken out : Int}, ls.length ≤ n → colOk ls → taken ≤ much →
    watL (take pre ls much taken out).2.1 + (take pre ls much taken out).2.2.2 + (take pre ls much taken out).2.2.1 = watL ls + out + taken ∧ taken ≤ (take pre ls much taken out).2.2.1 ∧ (take pre ls much taken out).2.2.1 ≤ much ∧
    ((take pre ls much taken out).2.2.1 = much ∨ (take pre ls much taken out).2.1 = []) := by
  intro n
  induction n with
  | zero =>
    intro pre ls much taken out h _ h2
    obtain rfl := List.eq_nil_of_length_eq_zero (show ls.length = 0 by omega)
    rw [take_end (.inr rfl)]; exact ⟨rfl, by simp only []; omega, h2, .inr rfl⟩
  | succ n ih =>
    intro pre ls much taken out h hok hm
    cases ls with
    | nil => rw [take_end (.inr rfl)]; exact ⟨rfl, by simp only []; omega, hm, .inr rfl⟩
    | cons l r =>
      by_cases hm0 : much ≤ taken
      · rw [take_end (.inl hm0)]; exact ⟨rfl, by simp only []; omega, hm, .inl (by simp only []; omega)⟩
      · have hl := hok l (by simp)
        have hp1 : 0 ≤ min (much - taken) l.ice := by omega
        have hp2 : min (much - taken) l.ice ≤ l.ice := by omega
        have e1 := losK_wat (pre := pre) (r := r) (wet := 0) hl.1 hp2 (by omega)
        have e2 := losK_ok (pre := pre) (wet := 0) hok hp1 hp2 (by omega)
        rw [take_cons hl.1 hl.2 (by omega)]
        by_cases hz : l.ice - min (much - taken) l.ice = 0
        · have e3 : (losK pre l r (min (much - taken) l.ice) 0).2.1.length = r.length := by
            unfold losK; rw [if_pos hz]; exact pourL_len _ _
          simp only []
          have e4 := ih (pre := (losK pre l r (min (much - taken) l.ice) 0).1) (much := much) (taken := taken + min (much - taken) l.ice) (out := out + (losK pre l r (min (much - taken) l.ice) 0).2.2) (by rw [e3]; simpa using h) e2.1 (by omega)
          exact ⟨by omega, by omega, e4.2.2.1, e4.2.2.2⟩
        · simp only []
          rw [take_end (.inl (by omega))]
          exact ⟨by simp only []; omega, by simp only []; omega, by simp only []; omega, .inl (by simp only []; omega)⟩
end Go.Proofs.YtgagfmjpmdgfdaaDoor

/- What steps keep of packs, plain. -/
set_option linter.unusedSimpArgs false
set_option linter.unusedVariables false
namespace Go.Proofs.YtgagfmjpmdgfdaaDoor
open Go.Ab
def colV (ls : List Lay) : Prop := ∀ l ∈ ls, layV l
theorem colV_ok {ls : List Lay} (h : colV ls) (hw : watL ls ≤ 70000) (hc : coldL ls ≤ 70000) : colOk ls := fun l hl => by
  have hs := joinOk_sum (L := ls) fun x hx => by have := h x hx; unfold layV at this; omega
  have h2 := hs.2.2 l hl
  have h3 := h l hl
  unfold layV at h3; unfold flo
  omega
theorem colV_of {p : List Lay} (h : packE p = 0) : colV p := (packE_V.1 h).2.1
theorem entF_V {left : Int} {l : Lay} (h : layV l) (h0 : 0 ≤ left) : layV (entF left l).2 ∧ (entF left l).2.cold ≤ l.cold ∧ 0 ≤ (entF left l).1 := by
  unfold layV entF at *; simp only []; omega
theorem pourL_V : ∀ {ls : List Lay} {much : Int}, colV ls → 0 ≤ much → colV (pourL much ls).2 ∧ coldL (pourL much ls).2 ≤ coldL ls ∧ 0 ≤ (pourL much ls).1 := by
  intro ls
  induction ls with
  | nil => intro much _ h0; exact ⟨fun l h => by simp [pourL] at h, Int.le_refl _, h0⟩
  | cons l r ih =>
    intro much h h0
    have h1 := entF_V (left := much) (h l (by simp)) h0
    have h2 := ih (much := (entF much l).1) (fun x hx => h x (by simp [hx])) h1.2.2
    refine ⟨fun x hx => ?_, by simp only [pourL, coldL]; omega, h2.2.2⟩
    simp only [pourL, List.mem_cons] at hx
    rcases hx with rfl | hx
    · exact h1.1
    · exact h2.1 x hx
theorem losF_V {ice wet : Int} {l : Lay} (h : layV l) (h0 : 0 ≤ ice) (h1 : ice < l.ice) (h2 : 0 ≤ wet) (h3 : wet = 0 ∨ l.cold = 0) : layV (losF ice wet l) := by
  unfold layV losF at *; simp only []; omega
theorem losK_V {pre : List Lay} {l : Lay} {r : List Lay} {ice wet : Int} (h : colV (l :: r)) (h0 : 0 ≤ ice) (h1 : ice ≤ l.ice) (h2 : 0 ≤ wet) (h3 : wet = 0 ∨ l.cold = 0) :
    colV (losK pre l r ice wet).2.1 ∧ coldL (losK pre l r ice wet).2.1 ≤ coldL (l :: r) ∧ 0 ≤ (losK pre l r ice wet).2.2 ∧ (losK pre l r ice wet).2.1.length ≤ r.length + 1 := by
  have hr : colV r := fun x hx => h x (by simp [hx])
  have hl := h l (by simp)
  have h4 := pourL_V hr (losO_ok (ice := ice) (wet := wet) (l := l))
  have h5 := pourL_len (losO ice wet l) r
  unfold losK
  split
  · exact ⟨h4.1, by unfold layV at hl; simp only [coldL]; omega, h4.2.2, by simp only []; omega⟩
  · refine ⟨fun x hx => ?_, by simp only [coldL, losF]; omega, h4.2.2, by simp only [List.length_cons]; omega⟩
    simp only [List.mem_cons] at hx
    rcases hx with rfl | hx
    · exact losF_V hl h0 (by omega) h2 h3
    · exact h4.1 x hx
theorem watL_pos {ls : List Lay} (h : colV ls) : 0 ≤ watL ls := (joinOk_sum (L := ls) fun x hx => by have := h x hx; unfold layV at this; omega).1
theorem coldL_pos {ls : List Lay} (h : colV ls) : 0 ≤ coldL ls := (joinOk_sum (L := ls) fun x hx => by have := h x hx; unfold layV at this; omega).2.1
theorem melt_V : ∀ (n : Nat) {pre ls : List Lay} {much out : Int}, ls.length ≤ n → colV ls → watL ls ≤ 70000 → coldL ls ≤ 70000 → 0 ≤ much →
    colV (melt pre ls much out).2.1 ∧ coldL (melt pre ls much out).2.1 ≤ coldL ls ∧ out ≤ (melt pre ls much out).2.2 ∧ (melt pre ls much out).2.1.length ≤ ls.length := by
  intro n
  induction n with
  | zero => intro pre ls much out h hv _ _ _; rw [melt_end (.inr (List.eq_nil_of_length_eq_zero (by omega)))]; exact ⟨hv, Int.le_refl _, Int.le_refl _, Nat.le_refl _⟩
  | succ n ih =>
    intro pre ls much out h hv hw hc hm
    by_cases hm0 : much ≤ 0
    · rw [melt_end (.inl hm0)]; exact ⟨hv, Int.le_refl _, Int.le_refl _, Nat.le_refl _⟩
    · cases ls with
      | nil => rw [melt_end (.inr rfl)]; exact ⟨hv, Int.le_refl _, Int.le_refl _, Nat.le_refl _⟩
      | cons l r =>
        have hl := colV_ok hv hw hc l (by simp)
        have hlV := hv l (by simp)
        have hf : flo ⟨l.ice, l.wet, l.cold - min much l.cold⟩ := by have := hl.1; unfold flo at *; simp only []; omega
        have hvv : layV ⟨l.ice, l.wet, l.cold - min much l.cold⟩ := by unfold layV at *; simp only []; omega
        have hv2 : colV (⟨l.ice, l.wet, l.cold - min much l.cold⟩ :: r) := fun x hx => by
          simp only [List.mem_cons] at hx
          rcases hx with rfl | hx
          · exact hvv
          · exact hv x (by simp [hx])
        have hp1 : 0 ≤ min (much - min much l.cold) l.ice := by unfold layV at hlV; omega
        have hp2 : min (much - min much l.cold) l.ice ≤ l.ice := by omega
        have e1 := losK_wat (pre := pre) (r := r) hf hp2 hp1
        have e2 := losK_V (pre := pre) hv2 hp1 hp2 hp1 (by simp only []; omega)
        rw [melt_cons hl.1 hl.2 (by omega)]
        simp only [coldL] at e2 hc ⊢
        simp only [watL] at e1 hw
        simp only [List.length_cons] at h ⊢
        by_cases hz : l.ice - min (much - min much l.cold) l.ice = 0
        · have e3 : (losK pre ⟨l.ice, l.wet, l.cold - min much l.cold⟩ r (min (much - min much l.cold) l.ice) (min (much - min much l.cold) l.ice)).2.1.length = r.length := by
            unfold losK; rw [if_pos hz]; exact pourL_len _ _
          have e4 := ih (pre := (losK pre ⟨l.ice, l.wet, l.cold - min much l.cold⟩ r (min (much - min much l.cold) l.ice) (min (much - min much l.cold) l.ice)).1)
            (much := much - min much l.cold - min (much - min much l.cold) l.ice) (out := out + (losK pre ⟨l.ice, l.wet, l.cold - min much l.cold⟩ r (min (much - min much l.cold) l.ice) (min (much - min much l.cold) l.ice)).2.2) (by rw [e3]; omega) e2.1 (by unfold layV at hlV; omega) (by unfold layV at hlV; omega) (by omega)
          exact ⟨e4.1, by unfold layV at hlV; omega, by omega, by omega⟩
        · rw [melt_end (.inl (by unfold layV at hlV; omega))]
          exact ⟨e2.1, by dsimp only; unfold layV at hlV; omega, by dsimp only; omega, by dsimp only; omega⟩
theorem take_V : ∀ (n : Nat) {pre ls : List Lay} {much taken out : Int}, ls.length ≤ n → colV ls → watL ls ≤ 70000 → coldL ls ≤ 70000 →
    colV (take pre ls much taken out).2.1 ∧ coldL (take pre ls much taken out).2.1 ≤ coldL ls ∧ out ≤ (take pre ls much taken out).2.2.2 ∧ (take pre ls much taken out).2.1.length ≤ ls.length := by
  intro n
  induction n with
  | zero => intro pre ls much taken out h hv _ _; rw [take_end (.inr (List.eq_nil_of_length_eq_zero (by omega)))]; exact ⟨hv, Int.le_refl _, Int.le_refl _, Nat.le_refl _⟩
  | succ n ih =>
    intro pre ls much taken out h hv hw hc
    by_cases hm0 : much ≤ taken
    · rw [take_end (.inl hm0)]; exact ⟨hv, Int.le_refl _, Int.le_refl _, Nat.le_refl _⟩
    · cases ls with
      | nil => rw [take_end (.inr rfl)]; exact ⟨hv, Int.le_refl _, Int.le_refl _, Nat.le_refl _⟩
      | cons l r =>
        have hl := colV_ok hv hw hc l (by simp)
        have hlV := hv l (by simp)
        have hp1 : 0 ≤ min (much - taken) l.ice := by unfold layV at hlV; omega
        have hp2 : min (much - taken) l.ice ≤ l.ice := by omega
        have e1 := losK_wat (pre := pre) (r := r) (wet := 0) hl.1 hp2 (by omega)
        have e2 := losK_V (pre := pre) (wet := 0) hv hp1 hp2 (by omega) (.inl rfl)
        rw [take_cons hl.1 hl.2 (by omega)]
        simp only [coldL] at e2 hc ⊢
        simp only [watL] at e1 hw
        simp only [List.length_cons] at h ⊢
        by_cases hz : l.ice - min (much - taken) l.ice = 0
        · have e3 : (losK pre l r (min (much - taken) l.ice) 0).2.1.length = r.length := by
            unfold losK; rw [if_pos hz]; exact pourL_len _ _
          have e4 := ih (pre := (losK pre l r (min (much - taken) l.ice) 0).1) (much := much) (taken := taken + min (much - taken) l.ice) (out := out + (losK pre l r (min (much - taken) l.ice) 0).2.2) (by rw [e3]; omega) e2.1 (by unfold layV at hlV; omega) (by unfold layV at hlV; omega)
          exact ⟨e4.1, by omega, by omega, by omega⟩
        · rw [take_end (.inl (by omega))]
          exact ⟨e2.1, e2.2.1, by simp only []; omega, by simp only []; omega⟩
theorem packE_bd {p : List Lay} (h : packE p = 0) : p.length ≤ 64 ∧ colV p ∧ colOk p ∧ 0 ≤ watL p ∧ watL p ≤ 65536 ∧ 0 ≤ coldL p ∧ coldL p ≤ 65536 := by
  have h1 := packE_V.1 h
  exact ⟨h1.1, h1.2.1, colV_ok h1.2.1 (by omega) (by omega), watL_pos h1.2.1, h1.2.2.1, coldL_pos h1.2.1, h1.2.2.2⟩
theorem melt_E {pre p : List Lay} {much : Int} (h : packE p = 0) (h0 : 0 ≤ much) : packE (melt pre p much 0).2.1 = 0 ∧ 0 ≤ (melt pre p much 0).2.2 ∧ watL (melt pre p much 0).2.1 + (melt pre p much 0).2.2 = watL p := by
  obtain ⟨a1, a2, a3, a4, a5, a6, a7⟩ := packE_bd h
  have h1 := melt_V p.length (pre := pre) (much := much) (out := 0) (Nat.le_refl _) a2 (by omega) (by omega) h0
  have h2 := melt_wat p.length (pre := pre) (much := much) (out := 0) (Nat.le_refl _) a3 h0
  exact ⟨packE_V.2 ⟨by omega, h1.1, by omega, by omega⟩, by omega, by omega⟩
theorem take_E {pre p : List Lay} {much : Int} (h : packE p = 0) (h0 : 0 ≤ much) : packE (take pre p much 0 0).2.1 = 0 ∧ 0 ≤ (take pre p much 0 0).2.2.2 ∧ watL (take pre p much 0 0).2.1 + (take pre p much 0 0).2.2.2 + (take pre p much 0 0).2.2.1 = watL p ∧
    0 ≤ (take pre p much 0 0).2.2.1 ∧ (take pre p much 0 0).2.2.1 ≤ much ∧ ((take pre p much 0 0).2.2.1 = much ∨ (take pre p much 0 0).2.1 = []) := by
  obtain ⟨a1, a2, a3, a4, a5, a6, a7⟩ := packE_bd h
  have h1 := take_V p.length (pre := pre) (much := much) (taken := 0) (out := 0) (Nat.le_refl _) a2 (by omega) (by omega)
  have h2 := take_wat p.length (pre := pre) (much := much) (taken := 0) (out := 0) (Nat.le_refl _) a3 h0
  have := watL_pos h1.1
  exact ⟨packE_V.2 ⟨by omega, h1.1, by omega, by omega⟩, by omega, by omega, by omega, h2.2.2.1, h2.2.2.2⟩
/-- What is true of Apply where it is OK. -/
theorem appM_ok {p : List Lay} {s : Stp} (hok : (appM p s).2.2 = 0) : packE p = 0 ∧ stepE s = 0 ∧ (stpK (preZ p) p s).2.2.2 = 0 ∧ packE (appM p s).1 = 0 ∧ (appM p s).1 = (stpK (preZ p) p s).2.1 ∧ (appM p s).2.1 = (stpK (preZ p) p s).2.2.1 := by
  unfold appM at *
  by_cases h1 : packE p = 0
  · rw [if_pos h1] at hok ⊢
    by_cases h2 : stepE s = 0
    · rw [if_pos h2] at hok ⊢
      by_cases h3 : (stpK (preZ p) p s).2.2.2 = 0
      · rw [if_pos h3] at hok ⊢
        by_cases h4 : packE (stpK (preZ p) p s).2.1 = 0
        · rw [if_pos h4]; exact ⟨h1, h2, h3, h4, rfl, rfl⟩
        · rw [if_neg h4] at hok; simp at hok
      · rw [if_neg h3] at hok; exact absurd hok h3
    · rw [if_neg h2] at hok; simp at hok
  · rw [if_neg h1] at hok; simp at hok
theorem appM_no {p : List Lay} {s : Stp} (hok : ¬ (appM p s).2.2 = 0) : (appM p s).1 = [] ∧ (appM p s).2.1 = 0 := by
  unfold appM at *
  by_cases h1 : packE p = 0
  · rw [if_pos h1] at hok ⊢
    by_cases h2 : stepE s = 0
    · rw [if_pos h2] at hok ⊢
      by_cases h3 : (stpK (preZ p) p s).2.2.2 = 0
      · rw [if_pos h3] at hok ⊢
        by_cases h4 : packE (stpK (preZ p) p s).2.1 = 0
        · rw [if_pos h4] at hok; exact absurd rfl hok
        · rw [if_neg h4]; exact ⟨rfl, rfl⟩
      · rw [if_neg h3]; exact ⟨rfl, rfl⟩
    · rw [if_neg h2]; exact ⟨rfl, rfl⟩
  · rw [if_neg h1]; exact ⟨rfl, rfl⟩
/-- Nothing is lost. -/
theorem app_cons {p : List Lay} {s : Stp} (hok : (appM p s).2.2 = 0) :
    0 ≤ (appM p s).2.1 ∧
    (s.kind = 1 → watL (appM p s).1 = watL p + s.much ∧ (appM p s).2.1 = 0) ∧
    (s.kind = 2 → watL (appM p s).1 + (appM p s).2.1 = watL p + s.much) ∧
    (s.kind = 3 → watL (appM p s).1 + (appM p s).2.1 = watL p) ∧
    (s.kind = 4 → watL (appM p s).1 = watL p ∧ (appM p s).2.1 = 0) ∧
    (s.kind ≠ 1 → s.kind ≠ 2 → s.kind ≠ 3 → s.kind ≠ 4 → watL p - watL (appM p s).1 - (appM p s).2.1 = s.much ∨ (0 ≤ watL p - watL (appM p s).1 - (appM p s).2.1 ∧ watL p - watL (appM p s).1 - (appM p s).2.1 < s.much ∧ (appM p s).1 = [])) := by
  obtain ⟨h1, h2, h3, h4, e1, e2⟩ := appM_ok hok
  rw [e1, e2]
  have hs := (stepE_0.1 h2).1
  obtain ⟨a1, a2, a3, a4, a5, a6, a7⟩ := packE_bd h1
  unfold stpK at h3 ⊢
  by_cases k1 : s.kind = 1
  · rw [if_pos k1] at h3 ⊢
    simp only [] at h3 ⊢
    refine ⟨by omega, fun _ => ?_, by omega, by omega, by omega, by omega⟩
    refine ⟨?_, by first | rfl | trivial⟩
    unfold snwK at *
    by_cases m0 : s.much = 0
    · rw [if_pos m0]; simp only []; omega
    · rw [if_neg m0] at h3 ⊢
      by_cases p0 : (preZ p).length = 0
      · rw [if_pos p0] at h3; simp at h3
      · rw [if_neg p0]; simp only [watL]; omega
  · rw [if_neg k1]
    by_cases k2 : s.kind = 2
    · rw [if_pos k2]
      have := pourL_wat p s.much
      have h5 := pourL_V a2 (show 0 ≤ s.much by omega)
      exact ⟨h5.2.2, by omega, fun _ => by simp only []; omega, by omega, by omega, by omega⟩
    · rw [if_neg k2]
      by_cases k3 : s.kind = 3
      · rw [if_pos k3]
        have := melt_E (pre := preZ p) h1 (show 0 ≤ s.much by omega)
        exact ⟨this.2.1, by omega, by omega, fun _ => this.2.2, by omega, by omega⟩
      · rw [if_neg k3]
        by_cases k4 : s.kind = 4
        · rw [if_pos k4]
          have h6 := frzL_wat p s.much
          have h7 := coolL_wat (frzL s.much p).1 (frzL s.much p).2
          exact ⟨by simp only []; omega, by omega, by omega, by omega, fun _ => ⟨by simp only [frzK]; omega, rfl⟩, by omega⟩
        · rw [if_neg k4]
          have := take_E (pre := preZ p) h1 (show 0 ≤ s.much by omega)
          refine ⟨this.2.1, by omega, by omega, by omega, by omega, fun _ _ _ _ => ?_⟩
          simp only []
          rcases this.2.2.2.2.2 with h | h
          · exact .inl (by omega)
          · by_cases hq : (take (preZ p) p s.much 0 0).2.2.1 = s.much
            · exact .inl (by omega)
            · exact .inr ⟨by omega, by omega, h⟩
/-- Rain: what is more than Ready runs out. -/
theorem app_rain {p : List Lay} {m : Int} (hok : (appM p ⟨2, m, 0⟩).2.2 = 0) : (appM p ⟨2, m, 0⟩).2.1 = max 0 (m - rdyL p) := by
  obtain ⟨h1, h2, h3, h4, e1, e2⟩ := appM_ok hok
  rw [e2]
  have hs := (stepE_0.1 h2).1
  simp only [] at hs
  unfold stpK
  rw [if_neg (by simp), if_pos rfl]
  exact pourL_rdy (colOk_flo (colOk_of h1)) (by show 0 ≤ m; omega)
theorem app_rainE {p : List Lay} {m : Int} (h : packE p = 0) (hok : ¬ (appM p ⟨2, m, 0⟩).2.2 = 0) : (appM p ⟨2, m, 0⟩).2.2 = 2 ∨ (appM p ⟨2, m, 0⟩).2.2 = 21 := by
  unfold appM at *
  rw [if_pos h] at hok ⊢
  by_cases h2 : stepE ⟨2, m, 0⟩ = 0
  · rw [if_pos h2] at hok ⊢
    have h3 : (stpK (preZ p) p ⟨2, m, 0⟩).2.2.2 = 0 := by unfold stpK; rw [if_neg (by simp), if_pos rfl]
    rw [if_pos h3] at hok ⊢
    by_cases h4 : packE (stpK (preZ p) p ⟨2, m, 0⟩).2.1 = 0
    · rw [if_pos h4] at hok; exact absurd rfl hok
    · rw [if_neg h4]; exact .inl rfl
  · rw [if_neg h2]; exact .inr rfl
theorem app_melt {p : List Lay} {m : Int} (h : packE p = 0) (h0 : 0 ≤ m) (h1 : m ≤ 65536) : appM p ⟨3, m, 0⟩ = ((melt (preZ p) p m 0).2.1, (melt (preZ p) p m 0).2.2, 0) := by
  have hs : stepE ⟨3, m, 0⟩ = 0 := stepE_0.2 ⟨⟨by dsimp only; decide, by dsimp only; decide, h0, h1, by dsimp only; decide, by dsimp only; decide⟩, .inr rfl⟩
  have h3 := melt_E (pre := preZ p) h h0
  unfold appM
  rw [if_pos h, if_pos hs]
  have e : stpK (preZ p) p ⟨3, m, 0⟩ = ((melt (preZ p) p m 0).1, (melt (preZ p) p m 0).2.1, (melt (preZ p) p m 0).2.2, 0) := by
    unfold stpK; rw [if_neg (by simp), if_neg (by simp), if_pos rfl]
  rw [e]; simp only []; rw [if_pos trivial, if_pos h3.1]
theorem app_blown {p : List Lay} {m : Int} (h : packE p = 0) (h0 : 0 ≤ m) (h1 : m ≤ 65536) : appM p ⟨6, m, 0⟩ = ((take (preZ p) p m 0 0).2.1, (take (preZ p) p m 0 0).2.2.2, 0) := by
  have hs : stepE ⟨6, m, 0⟩ = 0 := stepE_0.2 ⟨⟨by dsimp only; decide, by dsimp only; decide, h0, h1, by dsimp only; decide, by dsimp only; decide⟩, .inr rfl⟩
  have h3 := take_E (pre := preZ p) h h0
  unfold appM
  rw [if_pos h, if_pos hs]
  have e : stpK (preZ p) p ⟨6, m, 0⟩ = ((take (preZ p) p m 0 0).1, (take (preZ p) p m 0 0).2.1, (take (preZ p) p m 0 0).2.2.2, 0) := by
    unfold stpK; rw [if_neg (by simp), if_neg (by simp), if_neg (by simp), if_neg (by simp)]
  rw [e]; simp only []; rw [if_pos trivial, if_pos h3.1]
end Go.Proofs.YtgagfmjpmdgfdaaDoor

/- Steps in two parts, plain. -/
set_option linter.unusedSimpArgs false
set_option linter.unusedVariables false
namespace Go.Proofs.YtgagfmjpmdgfdaaDoor
open Go.Ab
theorem entF_two {a b : Int} {l : Lay} (h : flo l) (ha : 0 ≤ a) (hb : 0 ≤ b) : (entF (a + b) l).1 = (entF a l).1 + (entF b (entF a l).2).1 ∧ (entF (a + b) l).2 = (entF b (entF a l).2).2 := by
  unfold flo at h
  constructor
  · unfold entF; simp only []; omega
  · unfold entF; simp only [Lay.mk.injEq]; omega
theorem entF_two1 {a b : Int} {l : Lay} (h : flo l) (ha : 0 ≤ a) (hb : 0 ≤ b) : entF ((entF a l).1 + b) l = entF ((entF a l).1 + b) l := rfl
/-- Water that flows in two parts. -/
theorem pourL_two : ∀ {ls : List Lay} {a b : Int}, (∀ l ∈ ls, flo l) → 0 ≤ a → 0 ≤ b → (pourL (a + b) ls).1 = (pourL a ls).1 + (pourL b (pourL a ls).2).1 ∧ (pourL (a + b) ls).2 = (pourL b (pourL a ls).2).2 := by
  intro ls
  induction ls with
  | nil => intro a b _ _ _; exact ⟨rfl, rfl⟩
  | cons l r ih =>
    intro a b h ha hb
    have hl := h l (by simp)
    have h1 := entF_two hl ha hb
    have h2 := entF_ok hl ha
    have h3 := entF_ok (l := (entF a l).2) h2.2.2 hb
    have h4 := ih (a := (entF a l).1) (b := (entF b (entF a l).2).1) (fun x hx => h x (by simp [hx])) h2.1 h3.1
    simp only [pourL]
    rw [h1.1, h1.2]
    exact ⟨h4.1, by rw [h4.2]⟩
theorem pourL_0 : ∀ {ls : List Lay}, (∀ l ∈ ls, flo l) → pourL 0 ls = (0, ls) := by
  intro ls
  induction ls with
  | nil => intro _; rfl
  | cons l r ih =>
    intro h
    have hl := h l (by simp)
    have e : entF 0 l = (0, l) := by
      unfold flo at hl
      unfold entF
      cases l
      simp only [Prod.mk.injEq, Lay.mk.injEq] at *
      omega
    simp only [pourL, e, ih fun x hx => h x (by simp [hx])]
theorem frzF_two {a b : Int} {l : Lay} (h : flo l) (ha : 0 ≤ a) (hb : 0 ≤ b) : (frzF (a + b) l).1 = (frzF a l).1 + (frzF b (frzF a l).2).1 ∧ (frzF (a + b) l).2 = (frzF b (frzF a l).2).2 := by
  unfold flo at h
  constructor
  · unfold frzF; simp only []; omega
  · unfold frzF; simp only [Lay.mk.injEq, and_true, true_and]; omega
theorem frzL_two : ∀ {ls : List Lay} {a b : Int}, (∀ l ∈ ls, flo l) → 0 ≤ a → 0 ≤ b → (frzL (a + b) ls).1 = (frzL a ls).1 + (frzL b (frzL a ls).2).1 ∧ (frzL (a + b) ls).2 = (frzL b (frzL a ls).2).2 := by
  intro ls
  induction ls with
  | nil => intro a b _ _ _; exact ⟨rfl, rfl⟩
  | cons l r ih =>
    intro a b h ha hb
    have hl := h l (by simp)
    have h1 := frzF_two hl ha hb
    have h2 := frzF_ok hl ha
    have h3 : 0 ≤ (frzF b (frzF a l).2).1 := by unfold frzF; simp only []; omega
    have h4 := ih (a := (frzF a l).1) (b := (frzF b (frzF a l).2).1) (fun x hx => h x (by simp [hx])) h2.1 h3
    simp only [frzL]
    rw [h1.1, h1.2]
    exact ⟨h4.1, by rw [h4.2]⟩
theorem frzL_cool (b c : Int) (ls : List Lay) : (frzL b (coolL c ls)).1 = (frzL b ls).1 ∧ (frzL b (coolL c ls)).2 = coolL c (frzL b ls).2 := by
  cases ls with
  | nil => exact ⟨rfl, rfl⟩
  | cons l r => exact ⟨rfl, rfl⟩
theorem coolL_two (a b : Int) (ls : List Lay) : coolL b (coolL a ls) = coolL (a + b) ls := by
  cases ls with
  | nil => rfl
  | cons l r => simp only [coolL, List.cons.injEq, Lay.mk.injEq, and_true, true_and]; omega
theorem frzK_two {ls : List Lay} {a b : Int} (h : ∀ l ∈ ls, flo l) (ha : 0 ≤ a) (hb : 0 ≤ b) : frzK b (frzK a ls) = frzK (a + b) ls := by
  have h1 := frzL_two h ha hb
  unfold frzK
  rw [(frzL_cool b _ _).1, (frzL_cool b _ _).2, coolL_two, h1.1, h1.2]
/-- Melting, one millimetre. -/
def melt1 : List Lay → List Lay × Int
  | [] => ([], 0)
  | l :: r => if 0 < l.cold then (⟨l.ice, l.wet, l.cold - 1⟩ :: r, 0) else ((losK [] l r 1 1).2.1, (losK [] l r 1 1).2.2)
def take1 : List Lay → List Lay × Int
  | [] => ([], 0)
  | l :: r => ((losK [] l r 1 0).2.1, (losK [] l r 1 0).2.2)
theorem losK_pre (p q : List Lay) (l : Lay) (r : List Lay) (ice wet : Int) : (losK p l r ice wet).2 = (losK q l r ice wet).2 := by
  unfold losK; split <;> rfl
theorem melt_pre : ∀ (n : Nat) {p q ls : List Lay} {much o1 o2 : Int}, ls.length ≤ n → (melt p ls much o1).2.1 = (melt q ls much o2).2.1 ∧ (melt p ls much o1).2.2 - o1 = (melt q ls much o2).2.2 - o2 := by
  intro n
  induction n with
  | zero =>
    intro p q ls much o1 o2 h
    rw [melt_end (.inr (List.eq_nil_of_length_eq_zero (by omega))), melt_end (.inr (List.eq_nil_of_length_eq_zero (by omega)))]
    exact ⟨rfl, by simp only []; omega⟩
  | succ n ih =>
    intro p q ls much o1 o2 h
    cases ls with
    | nil => rw [melt_end (.inr rfl), melt_end (.inr rfl)]; exact ⟨rfl, by simp only []; omega⟩
    | cons l r =>
      rw [melt, melt]
      split
      · exact ⟨rfl, by simp only []; omega⟩
      · split
        · have hle : (pourL (losO (min (much - min much l.cold) l.ice) (min (much - min much l.cold) l.ice) ⟨l.ice, l.wet, l.cold - min much l.cold⟩) r).2.length ≤ n := by rw [pourL_len]; simpa using h
          have := ih (p := p ++ [losF (min (much - min much l.cold) l.ice) (min (much - min much l.cold) l.ice) ⟨l.ice, l.wet, l.cold - min much l.cold⟩]) (q := q ++ [losF (min (much - min much l.cold) l.ice) (min (much - min much l.cold) l.ice) ⟨l.ice, l.wet, l.cold - min much l.cold⟩]) (much := much - min much l.cold - min (much - min much l.cold) l.ice)
            (o1 := o1 + (pourL (losO (min (much - min much l.cold) l.ice) (min (much - min much l.cold) l.ice) ⟨l.ice, l.wet, l.cold - min much l.cold⟩) r).1) (o2 := o2 + (pourL (losO (min (much - min much l.cold) l.ice) (min (much - min much l.cold) l.ice) ⟨l.ice, l.wet, l.cold - min much l.cold⟩) r).1) hle
          exact ⟨this.1, by omega⟩
        · exact ⟨rfl, by simp only []; omega⟩
theorem take_pre : ∀ (n : Nat) {p q ls : List Lay} {m1 m2 t1 t2 o1 o2 : Int}, ls.length ≤ n → m1 - t1 = m2 - t2 → (take p ls m1 t1 o1).2.1 = (take q ls m2 t2 o2).2.1 ∧ (take p ls m1 t1 o1).2.2.1 - t1 = (take q ls m2 t2 o2).2.2.1 - t2 ∧ (take p ls m1 t1 o1).2.2.2 - o1 = (take q ls m2 t2 o2).2.2.2 - o2 := by
  intro n
  induction n with
  | zero =>
    intro p q ls m1 m2 t1 t2 o1 o2 h hm
    rw [take_end (.inr (List.eq_nil_of_length_eq_zero (by omega))), take_end (.inr (List.eq_nil_of_length_eq_zero (by omega)))]
    exact ⟨rfl, by simp only []; omega, by simp only []; omega⟩
  | succ n ih =>
    intro p q ls m1 m2 t1 t2 o1 o2 h hm
    cases ls with
    | nil => rw [take_end (.inr rfl), take_end (.inr rfl)]; exact ⟨rfl, by simp only []; omega, by simp only []; omega⟩
    | cons l r =>
      rw [take, take, ← hm]
      by_cases hz : m1 ≤ t1
      · rw [if_pos hz, if_pos (by omega)]; exact ⟨rfl, by simp only []; omega, by simp only []; omega⟩
      · rw [if_neg hz, if_neg (show ¬ m2 ≤ t2 by omega)]
        split
        · have hle : (pourL (losO (min (m1 - t1) l.ice) 0 l) r).2.length ≤ n := by rw [pourL_len]; simpa using h
          have := ih (p := p ++ [losF (min (m1 - t1) l.ice) 0 l]) (q := q ++ [losF (min (m1 - t1) l.ice) 0 l]) (m1 := m1) (m2 := m2) (t1 := t1 + min (m1 - t1) l.ice) (t2 := t2 + min (m1 - t1) l.ice) (o1 := o1 + (pourL (losO (min (m1 - t1) l.ice) 0 l) r).1) (o2 := o2 + (pourL (losO (min (m1 - t1) l.ice) 0 l) r).1) hle (by omega)
          exact ⟨this.1, by omega, by omega⟩
        · exact ⟨rfl, by simp only []; omega, by simp only []; omega⟩
end Go.Proofs.YtgagfmjpmdgfdaaDoor

/- Steps by millimetres, plain. -/
set_option linter.unusedSimpArgs false
set_option linter.unusedVariables false
namespace Go.Proofs.YtgagfmjpmdgfdaaDoor
open Go.Ab
theorem losO_two {i1 i2 w1 w2 : Int} {l : Lay} (h : flo l) (h1 : 0 ≤ i1) (h2 : 0 ≤ i2) (h3 : 0 ≤ w1) (h4 : 0 ≤ w2) : losO (i1 + i2) (w1 + w2) l = losO i1 w1 l + losO i2 w2 (losF i1 w1 l) ∧ losF (i1 + i2) (w1 + w2) l = losF i2 w2 (losF i1 w1 l) := by
  unfold flo at h
  constructor
  · unfold losO losF; simp only []; omega
  · unfold losF; simp only [Lay.mk.injEq, and_true]; omega
/-- Losing in two parts. -/
theorem losK_two {i1 i2 w1 w2 : Int} {l : Lay} {r : List Lay} (h : colOk (l :: r)) (h1 : 0 ≤ i1) (h1' : i1 < l.ice) (h2 : 0 ≤ i2) (h3 : 0 ≤ w1) (h4 : 0 ≤ w2) :
    (losK [] l r (i1 + i2) (w1 + w2)).2.1 = (losK [] (losF i1 w1 l) (pourL (losO i1 w1 l) r).2 i2 w2).2.1 ∧
    (losK [] l r (i1 + i2) (w1 + w2)).2.2 = (pourL (losO i1 w1 l) r).1 + (losK [] (losF i1 w1 l) (pourL (losO i1 w1 l) r).2 i2 w2).2.2 := by
  have hl := h l (by simp)
  have hr : ∀ x ∈ r, flo x := fun x hx => (h x (by simp [hx])).1
  obtain ⟨e1, e2⟩ := losO_two (l := l) hl.1 h1 h2 h3 h4
  have e3 := pourL_two hr (losO_ok (ice := i1) (wet := w1) (l := l)) (losO_ok (ice := i2) (wet := w2) (l := losF i1 w1 l))
  unfold losK
  rw [e1, e2, e3.1, e3.2]
  have e4 : (losF i1 w1 l).ice = l.ice - i1 := rfl
  by_cases hz : l.ice - (i1 + i2) = 0
  · rw [if_pos hz, if_pos (by omega)]; exact ⟨rfl, rfl⟩
  · rw [if_neg hz, if_neg (by omega)]; exact ⟨rfl, rfl⟩
theorem losK_0 {l : Lay} {r : List Lay} (h : colOk (l :: r)) : losK [] l r 0 0 = ([], l :: r, 0) := by
  have hl := h l (by simp)
  have hr : ∀ x ∈ r, flo x := fun x hx => (h x (by simp [hx])).1
  have e1 : losO 0 0 l = 0 := by have := hl.1; unfold flo at this; unfold losO; omega
  have e2 : losF 0 0 l = l := by
    have := hl.1; unfold flo at this; unfold losF
    cases l
    simp only [Lay.mk.injEq, and_true] at *
    omega
  unfold losK
  rw [if_neg (by omega), e1, e2, pourL_0 hr]
theorem melt1_ok {ls : List Lay} (h : colOk ls) : colOk (melt1 ls).1 ∧ 0 ≤ (melt1 ls).2 := by
  cases ls with
  | nil => exact ⟨h, Int.le_refl _⟩
  | cons l r =>
    have hl := h l (by simp)
    simp only [melt1]
    split
    · refine ⟨fun x hx => ?_, Int.le_refl _⟩
      simp only [List.mem_cons] at hx
      rcases hx with rfl | hx
      · have := hl.1; unfold flo at *; simp only []; omega
      · exact h x (by simp [hx])
    · have := losK_ok (pre := []) (ice := 1) (wet := 1) h (by omega) (by omega) (by omega)
      exact ⟨this.1, this.2.1⟩
theorem take1_ok {ls : List Lay} (h : colOk ls) : colOk (take1 ls).1 ∧ 0 ≤ (take1 ls).2 := by
  cases ls with
  | nil => exact ⟨h, Int.le_refl _⟩
  | cons l r =>
    have hl := h l (by simp)
    have := losK_ok (pre := []) (ice := 1) (wet := 0) h (by omega) (by omega) (by omega)
    exact ⟨this.1, this.2.1⟩
theorem melt_step {ls : List Lay} {much : Int} (h : colOk ls) (hm : 1 ≤ much) :
    (melt [] ls much 0).2.1 = (melt [] (melt1 ls).1 (much - 1) 0).2.1 ∧ (melt [] ls much 0).2.2 = (melt1 ls).2 + (melt [] (melt1 ls).1 (much - 1) 0).2.2 := by
  cases ls with
  | nil =>
    simp only [melt1]
    rw [melt_end (.inr rfl), melt_end (.inr rfl)]; exact ⟨rfl, rfl⟩
  | cons l r =>
    have hl := h l (by simp)
    simp only [melt1]
    rw [melt_cons hl.1 hl.2 (by omega)]
    by_cases hc : 0 < l.cold
    · rw [if_pos hc]
      simp only []
      have h' : colOk (⟨l.ice, l.wet, l.cold - 1⟩ :: r) := fun x hx => by
        simp only [List.mem_cons] at hx
        rcases hx with rfl | hx
        · have := hl.1; unfold flo at *; simp only []; omega
        · exact h x (by simp [hx])
      by_cases hm1 : much - 1 ≤ 0
      · have e1 : min much l.cold = 1 := by omega
        have e2 : min (much - 1) l.ice = 0 := by omega
        rw [melt_end (ls := ⟨l.ice, l.wet, l.cold - 1⟩ :: r) (.inl hm1), e1, e2, losK_0 h', melt_end (.inl (by omega))]
        exact ⟨rfl, rfl⟩
      · have hl' := h' _ (List.mem_cons_self)
        rw [melt_cons hl'.1 hl'.2 (by omega)]
        simp only []
        have e1 : min (much - 1) (l.cold - 1) = min much l.cold - 1 := by omega
        have e2 : l.cold - 1 - (min much l.cold - 1) = l.cold - min much l.cold := by omega
        have e3 : much - 1 - (min much l.cold - 1) = much - min much l.cold := by omega
        rw [e1, e2, e3]
        exact ⟨rfl, by omega⟩
    · rw [if_neg hc]
      have hc0 : l.cold = 0 := by have := hl.1; unfold flo at this; omega
      have e0 : min much l.cold = 0 := by omega
      have e1 : (⟨l.ice, l.wet, l.cold - 0⟩ : Lay) = l := by cases l; simp
      rw [e0, Int.sub_zero, e1]
      by_cases h1 : l.ice = 1
      · rw [show min much l.ice = 1 by omega]
        simp only []
        have := melt_pre (losK [] l r 1 1).2.1.length (p := (losK [] l r 1 1).1) (q := []) (ls := (losK [] l r 1 1).2.1) (much := much - 1) (o1 := 0 + (losK [] l r 1 1).2.2) (o2 := 0) (Nat.le_refl _)
        exact ⟨this.1, by omega⟩
      · have eK : losK [] l r 1 1 = ([], losF 1 1 l :: (pourL (losO 1 1 l) r).2, (pourL (losO 1 1 l) r).1) := by
          unfold losK; rw [if_neg (by omega)]
        by_cases hm1 : much - 1 ≤ 0
        · rw [show min much l.ice = 1 by omega, melt_end (ls := (losK [] l r 1 1).2.1) (.inl hm1)]
          simp only []
          rw [melt_end (.inl hm1)]
          exact ⟨rfl, by simp only []; omega⟩
        · have h2 := losK_two (i1 := 1) (i2 := min much l.ice - 1) (w1 := 1) (w2 := min much l.ice - 1) h (by omega) (by omega) (by omega) (by omega) (by omega)
          rw [show 1 + (min much l.ice - 1) = min much l.ice by omega] at h2
          have h3 := (losK_ok (pre := []) (ice := 1) (wet := 1) h (by omega) (by omega) (by omega)).1
          rw [eK] at h3 ⊢
          simp only [] at h3 ⊢
          have hl1 := h3 _ (List.mem_cons_self)
          rw [melt_cons hl1.1 hl1.2 (by omega)]
          have c0 : (losF 1 1 l).cold = 0 := hc0
          have c1 : (losF 1 1 l).ice = l.ice - 1 := rfl
          rw [show min (much - 1) (losF 1 1 l).cold = 0 by omega, Int.sub_zero, Int.sub_zero, c1, show min (much - 1) (l.ice - 1) = min much l.ice - 1 by omega]
          have e5 : (⟨l.ice - 1, (losF 1 1 l).wet, (losF 1 1 l).cold⟩ : Lay) = losF 1 1 l := rfl
          rw [e5, h2.1, h2.2]
          simp only []
          rw [show much - 1 - (min much l.ice - 1) = much - min much l.ice by omega]
          have := melt_pre (losK [] (losF 1 1 l) (pourL (losO 1 1 l) r).2 (min much l.ice - 1) (min much l.ice - 1)).2.1.length (p := (losK [] l r (min much l.ice) (min much l.ice)).1) (q := (losK [] (losF 1 1 l) (pourL (losO 1 1 l) r).2 (min much l.ice - 1) (min much l.ice - 1)).1)
            (ls := (losK [] (losF 1 1 l) (pourL (losO 1 1 l) r).2 (min much l.ice - 1) (min much l.ice - 1)).2.1) (much := much - min much l.ice) (o1 := 0 + ((pourL (losO 1 1 l) r).1 + (losK [] (losF 1 1 l) (pourL (losO 1 1 l) r).2 (min much l.ice - 1) (min much l.ice - 1)).2.2)) (o2 := 0 + (losK [] (losF 1 1 l) (pourL (losO 1 1 l) r).2 (min much l.ice - 1) (min much l.ice - 1)).2.2) (Nat.le_refl _)
          exact ⟨this.1, by omega⟩
theorem take_step {ls : List Lay} {much : Int} (h : colOk ls) (hm : 1 ≤ much) :
    (take [] ls much 0 0).2.1 = (take [] (take1 ls).1 (much - 1) 0 0).2.1 ∧ (take [] ls much 0 0).2.2.2 = (take1 ls).2 + (take [] (take1 ls).1 (much - 1) 0 0).2.2.2 ∧
    (take [] ls much 0 0).2.2.1 = (if ls = [] then 0 else 1) + (take [] (take1 ls).1 (much - 1) 0 0).2.2.1 := by
  cases ls with
  | nil =>
    simp only [take1]
    rw [take_end (.inr rfl), take_end (.inr rfl)]; exact ⟨rfl, rfl, rfl⟩
  | cons l r =>
    have hl := h l (by simp)
    simp only [take1]
    rw [take_cons hl.1 hl.2 (by omega), if_neg (by simp), Int.sub_zero]
    by_cases h1 : l.ice = 1
    · rw [show min much l.ice = 1 by omega]
      simp only []
      have := take_pre (losK [] l r 1 0).2.1.length (p := (losK [] l r 1 0).1) (q := []) (ls := (losK [] l r 1 0).2.1) (m1 := much) (m2 := much - 1) (t1 := 0 + 1) (t2 := 0) (o1 := 0 + (losK [] l r 1 0).2.2) (o2 := 0) (Nat.le_refl _) (by omega)
      exact ⟨this.1, by omega, by omega⟩
    · have eK : losK [] l r 1 0 = ([], losF 1 0 l :: (pourL (losO 1 0 l) r).2, (pourL (losO 1 0 l) r).1) := by
        unfold losK; rw [if_neg (by omega)]
      by_cases hm1 : much - 1 ≤ 0
      · rw [show min much l.ice = 1 by omega, take_end (ls := (losK [] l r 1 0).2.1) (.inl hm1)]
        simp only []
        rw [take_end (.inl (by omega))]
        exact ⟨rfl, by simp only []; omega, by simp only []; omega⟩
      · have h2 := losK_two (i1 := 1) (i2 := min much l.ice - 1) (w1 := 0) (w2 := 0) h (by omega) (by omega) (by omega) (by omega) (by omega)
        rw [show 1 + (min much l.ice - 1) = min much l.ice by omega, Int.add_zero] at h2
        have h3 := (losK_ok (pre := []) (ice := 1) (wet := 0) h (by omega) (by omega) (by omega)).1
        rw [eK] at h3 ⊢
        simp only [] at h3 ⊢
        have hl1 := h3 _ (List.mem_cons_self)
        rw [take_cons hl1.1 hl1.2 (by omega)]
        have c1 : (losF 1 0 l).ice = l.ice - 1 := rfl
        rw [Int.sub_zero, c1, show min (much - 1) (l.ice - 1) = min much l.ice - 1 by omega, h2.1, h2.2]
        simp only []
        have := take_pre (losK [] (losF 1 0 l) (pourL (losO 1 0 l) r).2 (min much l.ice - 1) 0).2.1.length (p := (losK [] l r (min much l.ice) 0).1) (q := (losK [] (losF 1 0 l) (pourL (losO 1 0 l) r).2 (min much l.ice - 1) 0).1)
          (ls := (losK [] (losF 1 0 l) (pourL (losO 1 0 l) r).2 (min much l.ice - 1) 0).2.1) (m1 := much) (m2 := much - 1) (t1 := 0 + min much l.ice) (t2 := 0 + (min much l.ice - 1)) (o1 := 0 + ((pourL (losO 1 0 l) r).1 + (losK [] (losF 1 0 l) (pourL (losO 1 0 l) r).2 (min much l.ice - 1) 0).2.2)) (o2 := 0 + (losK [] (losF 1 0 l) (pourL (losO 1 0 l) r).2 (min much l.ice - 1) 0).2.2) (Nat.le_refl _) (by omega)
        exact ⟨this.1, by omega, by omega⟩
/-- So many millimetres, one after the other. -/
def itM (f : List Lay → List Lay × Int) : Nat → List Lay → List Lay × Int
  | 0, ls => (ls, 0)
  | n + 1, ls => ((itM f n (f ls).1).1, (f ls).2 + (itM f n (f ls).1).2)
theorem itM_add (f : List Lay → List Lay × Int) : ∀ (a b : Nat) (ls : List Lay), itM f (a + b) ls = ((itM f b (itM f a ls).1).1, (itM f a ls).2 + (itM f b (itM f a ls).1).2) := by
  intro a
  induction a with
  | zero => intro b ls; simp [itM]
  | succ a ih =>
    intro b ls
    rw [show a + 1 + b = a + b + 1 by omega]
    simp only [itM, ih]
    rw [Int.add_assoc]
theorem melt_it : ∀ (n : Nat) {ls : List Lay}, colOk ls → (melt [] ls n 0).2 = itM melt1 n ls := by
  intro n
  induction n with
  | zero => intro ls h; rw [melt_end (.inl (by simp))]; rfl
  | succ n ih =>
    intro ls h
    have h1 := melt_step (much := (n + 1 : Nat)) h (by omega)
    have h2 := ih (melt1_ok h).1
    rw [show (((n + 1 : Nat) : Int) - 1) = (n : Int) by omega, h2] at h1
    exact Prod.ext h1.1 h1.2
theorem take_it : ∀ (n : Nat) {ls : List Lay}, colOk ls → ((take [] ls n 0 0).2.1, (take [] ls n 0 0).2.2.2) = itM take1 n ls := by
  intro n
  induction n with
  | zero => intro ls h; rw [take_end (.inl (by simp))]; rfl
  | succ n ih =>
    intro ls h
    have h1 := take_step (much := (n + 1 : Nat)) h (by omega)
    have h2 := ih (take1_ok h).1
    rw [show (((n + 1 : Nat) : Int) - 1) = (n : Int) by omega] at h1
    rw [Prod.ext_iff] at h2
    simp only [] at h2
    rw [h2.1, h2.2] at h1
    exact Prod.ext h1.1 h1.2.1
theorem melt_itM {p ls : List Lay} {much : Int} (h : colOk ls) (h0 : 0 ≤ much) : (melt p ls much 0).2.1 = (itM melt1 much.toNat ls).1 ∧ (melt p ls much 0).2.2 = (itM melt1 much.toNat ls).2 := by
  have h1 := melt_pre ls.length (p := p) (q := []) (ls := ls) (much := much) (o1 := 0) (o2 := 0) (Nat.le_refl _)
  have h2 := melt_it much.toNat h
  rw [Int.toNat_of_nonneg h0] at h2
  rw [← h2]
  exact ⟨h1.1, by omega⟩
theorem take_itM {p ls : List Lay} {much : Int} (h : colOk ls) (h0 : 0 ≤ much) : (take p ls much 0 0).2.1 = (itM take1 much.toNat ls).1 ∧ (take p ls much 0 0).2.2.2 = (itM take1 much.toNat ls).2 := by
  have h1 := take_pre ls.length (p := p) (q := []) (ls := ls) (m1 := much) (m2 := much) (t1 := 0) (t2 := 0) (o1 := 0) (o2 := 0) (Nat.le_refl _) rfl
  have h2 := take_it much.toNat h
  rw [Int.toNat_of_nonneg h0] at h2
  rw [← h2]
  exact ⟨h1.1, by simp only []; omega⟩
/-- Rain, melting, frost and losses in two parts. -/
theorem app_two {p : List Lay} {k a b : Int} (hk : 2 ≤ k ∧ k ≤ 6) (ha : 0 ≤ a) (hb : 0 ≤ b) (h1 : (appM p ⟨k, a, 0⟩).2.2 = 0) (h2 : (appM (appM p ⟨k, a, 0⟩).1 ⟨k, b, 0⟩).2.2 = 0) (h3 : (appM p ⟨k, a + b, 0⟩).2.2 = 0) :
    (appM (appM p ⟨k, a, 0⟩).1 ⟨k, b, 0⟩).1 = (appM p ⟨k, a + b, 0⟩).1 ∧ (appM p ⟨k, a, 0⟩).2.1 + (appM (appM p ⟨k, a, 0⟩).1 ⟨k, b, 0⟩).2.1 = (appM p ⟨k, a + b, 0⟩).2.1 := by
  obtain ⟨g1, g2, g3, g4, g5, g6⟩ := appM_ok h1
  obtain ⟨i1, i2, i3, i4, i5, i6⟩ := appM_ok h2
  obtain ⟨j1, j2, j3, j4, j5, j6⟩ := appM_ok h3
  rw [i5, i6, j5, j6, g5, g6]
  rw [g5] at i1
  clear g3 g4 g5 g6 i3 i4 i5 i6 j3 j4 j5 j6 h1 h2 h3
  have o1 := colOk_of g1
  have o2 := colOk_of i1
  revert o2
  generalize preZ p = z
  intro o2
  by_cases k2 : k = 2
  · subst k2
    have e : ∀ z ls m, stpK z ls ⟨2, m, 0⟩ = (z, (pourL m ls).2, (pourL m ls).1, 0) := fun z ls m => by unfold stpK; rw [if_neg (by simp), if_pos rfl]
    rw [e, e, e]; simp only []
    have := pourL_two (colOk_flo o1) ha hb
    exact ⟨this.2.symm, this.1.symm⟩
  · by_cases k3 : k = 3
    · subst k3
      have e : ∀ z ls m, stpK z ls ⟨3, m, 0⟩ = ((melt z ls m 0).1, (melt z ls m 0).2.1, (melt z ls m 0).2.2, 0) := fun z ls m => by unfold stpK; rw [if_neg (by simp), if_neg (by simp), if_pos rfl]
      rw [e] at o2
      rw [e, e, e]; simp only [] at o2 ⊢
      have a1 := melt_itM (p := z) o1 ha
      have a2 := melt_itM (p := preZ (melt z p a 0).2.1) o2 hb
      have a3 := melt_itM (p := z) (much := a + b) o1 (by omega)
      have a4 := itM_add melt1 a.toNat b.toNat p
      rw [← Int.toNat_add ha hb] at a4
      rw [a2.1, a2.2, a3.1, a3.2, a1.2, a1.1, a4]
      exact ⟨rfl, rfl⟩
    · by_cases k4 : k = 4
      · subst k4
        have e : ∀ z ls m, stpK z ls ⟨4, m, 0⟩ = (z, frzK m ls, 0, 0) := fun z ls m => by unfold stpK; rw [if_neg (by simp), if_neg (by simp), if_neg (by simp), if_pos rfl]
        rw [e, e, e]; simp only []
        exact ⟨frzK_two (colOk_flo o1) ha hb, rfl⟩
      · have e : ∀ z ls m, stpK z ls ⟨k, m, 0⟩ = ((take z ls m 0 0).1, (take z ls m 0 0).2.1, (take z ls m 0 0).2.2.2, 0) := fun z ls m => by
          unfold stpK; rw [if_neg (by simp only []; omega), if_neg (by simp only []; omega), if_neg (by simp only []; omega), if_neg (by simp only []; omega)]
        rw [e] at o2
        rw [e, e, e]; simp only [] at o2 ⊢
        have a1 := take_itM (p := z) o1 ha
        have a2 := take_itM (p := preZ (take z p a 0 0).2.1) o2 hb
        have a3 := take_itM (p := z) (much := a + b) o1 (by omega)
        have a4 := itM_add take1 a.toNat b.toNat p
        rw [← Int.toNat_add ha hb] at a4
        rw [a2.1, a2.2, a3.1, a3.2, a1.2, a1.1, a4]
        exact ⟨rfl, rfl⟩
end Go.Proofs.YtgagfmjpmdgfdaaDoor

/- Yields, plain. -/
set_option linter.unusedSimpArgs false
set_option linter.unusedVariables false
namespace Go.Proofs.YtgagfmjpmdgfdaaDoor
open Go.Ab
def yldM (p : List Lay) (m : Int) : Int × Int := if packE p = 0 then if 0 ≤ m ∧ m ≤ 65536 then ((melt (preZ p) p m 0).2.2, 0) else (0, 1) else (0, 20)
theorem melt_mono {p : List Lay} {z : List Lay} {a b : Int} (h : packE p = 0) (ha : 0 ≤ a) (hab : a ≤ b) : (melt z p a 0).2.2 ≤ (melt z p b 0).2.2 := by
  have o1 := colOk_of h
  have a1 := melt_itM (p := z) o1 ha
  have a3 := melt_itM (p := z) (much := b) o1 (by omega)
  have h2 := melt_E (pre := z) h ha
  have a2 := melt_itM (p := []) (colOk_of h2.1) (show 0 ≤ b - a by omega)
  have h3 := melt_E (pre := []) h2.1 (show 0 ≤ b - a by omega)
  have a4 := itM_add melt1 a.toNat (b - a).toNat p
  rw [show a.toNat + (b - a).toNat = b.toNat by omega] at a4
  rw [a3.2, a4, a1.2]
  rw [a1.1] at a2 h3
  rw [a2.2] at h3
  simp only []; omega
/-- The least number below n for which f holds, or n. -/
def lsN (f : Nat → Bool) : Nat → Nat
  | 0 => 0
  | n + 1 => if lsN f n < n then lsN f n else if f n = true then n else n + 1
theorem lsN_ok (f : Nat → Bool) : ∀ n, lsN f n ≤ n ∧ (∀ j, j < lsN f n → f j = false) ∧ (lsN f n < n → f (lsN f n) = true) := by
  intro n
  induction n with
  | zero => exact ⟨Nat.le_refl _, fun j hj => by simp [lsN] at hj, fun h => by simp [lsN] at h⟩
  | succ n ih =>
    obtain ⟨h1, h2, h3⟩ := ih
    simp only [lsN]
    split
    · exact ⟨by omega, h2, fun _ => h3 (by omega)⟩
    · rename_i hlt
      have he : lsN f n = n := by omega
      rw [he] at h2
      split
      · rename_i hf; exact ⟨by omega, h2, fun _ => hf⟩
      · rename_i hf
        refine ⟨by omega, fun j hj => ?_, fun h => by omega⟩
        by_cases hj2 : j = n
        · subst hj2; simpa using hf
        · exact h2 j (by omega)
theorem lsN_eq {f : Nat → Bool} {n k : Nat} (h1 : k ≤ n) (h2 : ∀ j, j < k → f j = false) (h3 : k < n → f k = true) : lsN f n = k := by
  obtain ⟨g1, g2, g3⟩ := lsN_ok f n
  rcases Nat.lt_trichotomy (lsN f n) k with h | h | h
  · have := g3 (by omega); rw [h2 _ h] at this; cases this
  · exact h
  · have := h3 (by omega); rw [g2 _ h] at this; cases this
def enF (p : List Lay) (out : Int) (m : Nat) : Bool := decide (out ≤ (melt (preZ p) p m 0).2.2)
def enM (p : List Lay) (out : Int) : Int × Bool × Int :=
  if packE p = 0 then if 0 ≤ out ∧ out ≤ 65536 then if lsN (enF p out) 65537 < 65537 then ((lsN (enF p out) 65537 : Nat), true, 0) else (0, false, 0) else (0, false, 1) else (0, false, 20)
theorem enF_up {p : List Lay} {out : Int} {a b : Nat} (h : packE p = 0) (hab : a ≤ b) (ha : enF p out a = true) : enF p out b = true := by
  unfold enF at *
  have h1 := of_decide_eq_true ha
  have h2 := melt_mono (z := preZ p) h (show (0 : Int) ≤ (a : Nat) by omega) (show ((a : Nat) : Int) ≤ (b : Nat) by omega)
  exact decide_eq_true (by omega)
theorem yld_ok {p : List Lay} {m : Int} (h : (yldM p m).2 = 0) : packE p = 0 ∧ (0 ≤ m ∧ m ≤ 65536) ∧ (yldM p m).1 = (melt (preZ p) p m 0).2.2 := by
  unfold yldM at *
  by_cases h1 : packE p = 0
  · rw [if_pos h1] at h ⊢
    by_cases h2 : 0 ≤ m ∧ m ≤ 65536
    · rw [if_pos h2]; exact ⟨h1, h2, rfl⟩
    · rw [if_neg h2] at h; simp at h
  · rw [if_neg h1] at h; simp at h
theorem yld_of {p : List Lay} {m : Int} (h1 : packE p = 0) (h2 : 0 ≤ m ∧ m ≤ 65536) : yldM p m = ((melt (preZ p) p m 0).2.2, 0) := by
  unfold yldM; rw [if_pos h1, if_pos h2]
theorem yld_no {p : List Lay} {m : Int} (h : ¬ (yldM p m).2 = 0) : (yldM p m).1 = 0 := by
  unfold yldM at *
  by_cases h1 : packE p = 0
  · rw [if_pos h1] at h ⊢
    by_cases h2 : 0 ≤ m ∧ m ≤ 65536
    · rw [if_pos h2] at h; exact absurd rfl h
    · rw [if_neg h2]
  · rw [if_neg h1]
/-- What yields are. -/
theorem yld_app {p : List Lay} {m : Int} (h : (yldM p m).2 = 0) : appM p ⟨3, m, 0⟩ = ((appM p ⟨3, m, 0⟩).1, (yldM p m).1, 0) ∧ (yldM p m).1 ≤ watL p ∧ ((appM p ⟨3, m, 0⟩).1 = [] → (yldM p m).1 = watL p) := by
  obtain ⟨h1, h2, h3⟩ := yld_ok h
  have h4 := app_melt (m := m) h1 h2.1 h2.2
  have h5 := melt_E (pre := preZ p) h1 h2.1
  have h6 := watL_pos (colV_of h5.1)
  rw [h4, h3]
  simp only []
  exact ⟨trivial, by omega, fun h => by rw [h] at h5; simp only [watL] at h5; omega⟩
theorem yld_mono {p : List Lay} {m n : Int} (h : (yldM p m).2 = 0) (h2 : (yldM p n).2 = 0) (hmn : m ≤ n) : (yldM p m).1 ≤ (yldM p n).1 := by
  obtain ⟨a1, a2, a3⟩ := yld_ok h
  obtain ⟨b1, b2, b3⟩ := yld_ok h2
  rw [a3, b3]; exact melt_mono a1 a2.1 hmn
theorem en_ok {p : List Lay} {out : Int} (hp : packE p = 0) :
    ((enM p out).2.2 ≠ 0 → enM p out = (0, false, 1) ∧ (out < 0 ∨ 65536 < out)) ∧
    ((enM p out).2.2 = 0 → (enM p out).2.1 = false → (enM p out).1 = 0 ∧ (yldM p 65536).1 < out) ∧
    ((enM p out).2.2 = 0 → (enM p out).2.1 = true → 0 ≤ (enM p out).1 ∧ (enM p out).1 ≤ 65536 ∧ out ≤ (yldM p (enM p out).1).1 ∧ ((enM p out).1 ≠ 0 → (yldM p ((enM p out).1 - 1)).1 < out)) := by
  obtain ⟨g1, g2, g3⟩ := lsN_ok (enF p out) 65537
  unfold enM
  rw [if_pos hp]
  by_cases ho : 0 ≤ out ∧ out ≤ 65536
  · rw [if_pos ho]
    by_cases hk : lsN (enF p out) 65537 < 65537
    · rw [if_pos hk]
      generalize lsN (enF p out) 65537 = k at *
      refine ⟨fun h => absurd rfl h, fun _ h => (by cases h), fun _ _ => ?_⟩
      simp only []
      have e1 := of_decide_eq_true (show decide _ = true from g3 hk)
      rw [yld_of hp (by omega)]
      refine ⟨by omega, by omega, e1, fun hk0 => ?_⟩
      have e2 := of_decide_eq_false (show decide _ = false from g2 (k - 1) (by omega))
      rw [yld_of hp (by omega), show ((k : Nat) : Int) - 1 = ((k - 1 : Nat) : Int) by omega]
      simp only []; omega
    · rw [if_neg hk]
      refine ⟨fun h => absurd rfl h, fun _ _ => ⟨rfl, ?_⟩, fun _ h => (by cases h)⟩
      have e2 := of_decide_eq_false (show decide _ = false from g2 65536 (by omega))
      rw [yld_of hp (by omega)]
      simp only []
      have : ((65536 : Nat) : Int) = 65536 := rfl
      rw [this] at e2; omega
  · rw [if_neg ho]
    exact ⟨fun _ => ⟨rfl, by omega⟩, fun h => by simp at h, fun h => by simp at h⟩
end Go.Proofs.YtgagfmjpmdgfdaaDoor

/- The steps millimetre by millimetre, plain. -/
set_option linter.unusedSimpArgs false
set_option linter.unusedVariables false
namespace Go.Proofs.YtgagfmjpmdgfdaaDoor
open Go.Ab
def fullB (l : Lay) : Bool := decide (l.cold = 0) && decide (l.ice / 20 ≤ l.wet)
def inF (l : Lay) : Lay := if 0 < l.cold then ⟨l.ice + 1, l.wet, l.cold - 1⟩ else ⟨l.ice, l.wet + 1, l.cold⟩
/-- One millimetre of water flows into layers. -/
def flo1 : List Lay → List Lay × Int
  | [] => ([], 1)
  | l :: r => if fullB l = true then (l :: (flo1 r).1, (flo1 r).2) else (inF l :: r, 0)
theorem flo1_full : ∀ {ls : List Lay}, (∀ l ∈ ls, fullB l = true) → flo1 ls = (ls, 1) := by
  intro ls
  induction ls with
  | nil => intro _; rfl
  | cons l r ih =>
    intro h
    rw [flo1, if_pos (h l (by simp)), ih fun x hx => h x (by simp [hx])]
theorem flo1_at : ∀ {P R : List Lay} {l : Lay}, (∀ x ∈ P, fullB x = true) → fullB l = false → flo1 (P ++ l :: R) = (P ++ inF l :: R, 0) := by
  intro P
  induction P with
  | nil => intro R l _ h; simp only [List.nil_append]; rw [flo1, if_neg (by rw [h]; simp)]
  | cons a P ih =>
    intro R l h hl
    simp only [List.cons_append]
    rw [flo1, if_pos (h a (by simp)), ih (fun x hx => h x (by simp [hx])) hl]
theorem pourL_1 : ∀ {ls : List Lay}, (∀ l ∈ ls, flo l) → pourL 1 ls = ((flo1 ls).2, (flo1 ls).1) := by
  intro ls
  induction ls with
  | nil => intro _; rfl
  | cons l r ih =>
    intro h
    have hl := h l (by simp)
    have hr : ∀ x ∈ r, flo x := fun x hx => h x (by simp [hx])
    by_cases hf : fullB l = true
    · have e : entF 1 l = (1, l) := by
        unfold flo at hl
        simp only [fullB, Bool.and_eq_true, decide_eq_true_eq] at hf
        unfold entF
        cases l
        simp only [Prod.mk.injEq, Lay.mk.injEq] at *
        omega
      simp only [pourL, flo1, e, ih hr]
      rw [if_pos hf]
    · have e : entF 1 l = (0, inF l) := by
        unfold flo at hl
        have hf : ¬ (l.cold = 0 ∧ l.ice / 20 ≤ l.wet) := by simpa [fullB] using hf
        unfold entF inF
        by_cases hc : 0 < l.cold
        · rw [if_pos hc]
          simp only [Prod.mk.injEq, Lay.mk.injEq] at *
          omega
        · rw [if_neg hc]
          simp only [Prod.mk.injEq, Lay.mk.injEq] at *
          omega
      simp only [pourL, flo1, e, pourL_0 hr]
      rw [if_neg hf]
theorem flo1_ok {ls : List Lay} (h : ∀ l ∈ ls, flo l) : (∀ l ∈ (flo1 ls).1, flo l) ∧ 0 ≤ (flo1 ls).2 ∧ (flo1 ls).2 ≤ 1 ∧ (flo1 ls).1.length = ls.length := by
  have h1 := pourL_1 h
  have h2 := pourL_ok h (show (0 : Int) ≤ 1 by omega)
  rw [h1] at h2
  exact ⟨h2.2.2.1, h2.1, h2.2.1, h2.2.2.2⟩
theorem pourL_it : ∀ (n : Nat) {ls : List Lay}, (∀ l ∈ ls, flo l) → pourL n ls = ((itM flo1 n ls).2, (itM flo1 n ls).1) := by
  intro n
  induction n with
  | zero => intro ls h; exact pourL_0 h
  | succ n ih =>
    intro ls h
    have h1 := pourL_two (a := 1) (b := (n : Nat)) h (by omega) (by omega)
    have h2 := pourL_1 h
    have h3 := ih (flo1_ok h).1
    rw [h2, h3] at h1
    rw [show ((n + 1 : Nat) : Int) = 1 + (n : Nat) by omega]
    exact Prod.ext h1.1 h1.2
theorem itM_snoc (f : List Lay → List Lay × Int) (n : Nat) (ls : List Lay) : itM f (n + 1) ls = ((f (itM f n ls).1).1, (itM f n ls).2 + (f (itM f n ls).1).2) := by
  rw [itM_add f n 1 ls]; simp [itM]
theorem itM_nil {f : List Lay → List Lay × Int} (hf : f [] = ([], 0)) : ∀ n, itM f n [] = ([], 0) := by
  intro n
  induction n with
  | zero => rfl
  | succ n ih => simp [itM, hf, ih]
theorem it_flo {ls : List Lay} (h : ∀ l ∈ ls, flo l) (n : Nat) : (∀ l ∈ (itM flo1 n ls).1, flo l) ∧ 0 ≤ (itM flo1 n ls).2 ∧ (itM flo1 n ls).2 ≤ n ∧ (itM flo1 n ls).1.length = ls.length := by
  have h1 := pourL_it n h
  have h2 := pourL_ok h (show (0 : Int) ≤ n by omega)
  rw [h1] at h2
  exact ⟨h2.2.2.1, h2.1, h2.2.1, h2.2.2.2⟩
theorem it_ok {f : List Lay → List Lay × Int} (hf : ∀ ls, colOk ls → colOk (f ls).1 ∧ 0 ≤ (f ls).2) : ∀ (n : Nat) {ls : List Lay}, colOk ls → colOk (itM f n ls).1 ∧ 0 ≤ (itM f n ls).2 := by
  intro n
  induction n with
  | zero => intro ls h; exact ⟨h, Int.le_refl _⟩
  | succ n ih =>
    intro ls h
    have h1 := hf ls h
    have h2 := ih h1.1
    simp only [itM]; exact ⟨h2.1, by omega⟩
/-- A step, millimetre by millimetre. -/
def doM (p : List Lay) (s : Stp) : List Lay × Int :=
  if s.kind = 1 ∧ 0 < s.much then (⟨s.much, 0, s.cold⟩ :: p, 0)
  else if s.kind = 2 then itM flo1 s.much.toNat p
  else if s.kind = 4 then (frzK s.much p, 0)
  else if s.kind = 1 then (p, 0)
  else if s.kind = 3 then itM melt1 s.much.toNat p
  else itM take1 s.much.toNat p
def tknM (p : List Lay) (s : Stp) : Int := if s.kind ≤ 4 then 0 else (take [] p s.much 0 0).2.2.1
/-- The reference's Apply. -/
def rappM (p : List Lay) (s : Stp) : List Lay × Int × Int :=
  if packE p = 0 then if stepE s = 0 then if packE (doM p s).1 = 0 then ((doM p s).1, (doM p s).2, 0) else ([], 0, 2) else ([], 0, 21) else ([], 0, 20)
theorem rappM_eq (p : List Lay) (s : Stp) : rappM p s = appM p s := by
  unfold rappM appM
  by_cases h1 : packE p = 0
  · rw [if_pos h1, if_pos h1]
    by_cases h2 : stepE s = 0
    · rw [if_pos h2, if_pos h2]
      have hs := (stepE_0.1 h2).1
      have hok := colOk_of h1
      have hm : 0 ≤ s.much := by omega
      by_cases k1 : s.kind = 1
      · have e2 : stpK (preZ p) p s = ((snwK (preZ p) p s.much s.cold).1, (snwK (preZ p) p s.much s.cold).2.1, 0, (snwK (preZ p) p s.much s.cold).2.2) := by unfold stpK; rw [if_pos k1]
        by_cases m0 : 0 < s.much
        · have e1 : doM p s = (⟨s.much, 0, s.cold⟩ :: p, 0) := by unfold doM; rw [if_pos ⟨k1, m0⟩]
          rw [e1, e2]
          by_cases hp : (preZ p).length = 0
          · have e3 : snwK (preZ p) p s.much s.cold = (preZ p, p, 2) := by unfold snwK; rw [if_neg (by omega), if_pos hp]
            have hl : ¬ packE (⟨s.much, 0, s.cold⟩ :: p) = 0 := by
              intro h; have := (packE_V.1 h).1
              have h3 := (packE_V.1 h1).1
              simp only [preZ, List.length_replicate, List.length_cons] at hp this; omega
            rw [e3, if_neg hl]; rfl
          · have e3 : snwK (preZ p) p s.much s.cold = ((preZ p).dropLast, ⟨s.much, 0, s.cold⟩ :: p, 0) := by unfold snwK; rw [if_neg (by omega), if_neg hp]
            rw [e3]; rfl
        · have e1 : doM p s = (p, 0) := by unfold doM; rw [if_neg (fun h => m0 h.2), if_neg (by omega), if_neg (by omega), if_pos k1]
          have e3 : snwK (preZ p) p s.much s.cold = (preZ p, p, 0) := by unfold snwK; rw [if_pos (by omega)]
          rw [e1, e2, e3]; rfl
      · by_cases k2 : s.kind = 2
        · have e1 : doM p s = itM flo1 s.much.toNat p := by unfold doM; rw [if_neg (by omega), if_pos k2]
          have e2 : stpK (preZ p) p s = (preZ p, (pourL s.much p).2, (pourL s.much p).1, 0) := by unfold stpK; rw [if_neg k1, if_pos k2]
          have e3 := pourL_it s.much.toNat (colOk_flo hok)
          rw [Int.toNat_of_nonneg hm] at e3
          rw [e1, e2, e3]; rfl
        · by_cases k3 : s.kind = 3
          · have e1 : doM p s = itM melt1 s.much.toNat p := by unfold doM; rw [if_neg (by omega), if_neg k2, if_neg (by omega), if_neg k1, if_pos k3]
            have e2 : stpK (preZ p) p s = ((melt (preZ p) p s.much 0).1, (melt (preZ p) p s.much 0).2.1, (melt (preZ p) p s.much 0).2.2, 0) := by unfold stpK; rw [if_neg k1, if_neg k2, if_pos k3]
            have e3 := melt_itM (p := preZ p) hok hm
            rw [e1, e2, e3.1, e3.2]; rfl
          · by_cases k4 : s.kind = 4
            · have e1 : doM p s = (frzK s.much p, 0) := by unfold doM; rw [if_neg (by omega), if_neg k2, if_pos k4]
              have e2 : stpK (preZ p) p s = (preZ p, frzK s.much p, 0, 0) := by unfold stpK; rw [if_neg k1, if_neg k2, if_neg k3, if_pos k4]
              rw [e1, e2]; rfl
            · have e1 : doM p s = itM take1 s.much.toNat p := by unfold doM; rw [if_neg (by omega), if_neg k2, if_neg k4, if_neg k1, if_neg k3]
              have e2 : stpK (preZ p) p s = ((take (preZ p) p s.much 0 0).1, (take (preZ p) p s.much 0 0).2.1, (take (preZ p) p s.much 0 0).2.2.2, 0) := by unfold stpK; rw [if_neg k1, if_neg k2, if_neg k3, if_neg k4]
              have e3 := take_itM (p := preZ p) hok hm
              rw [e1, e2, e3.1, e3.2]; rfl
    · rw [if_neg h2, if_neg h2]
  · rw [if_neg h1, if_neg h1]
end Go.Proofs.YtgagfmjpmdgfdaaDoor

/- Drifts and runs, plain. -/
set_option linter.unusedSimpArgs false
set_option linter.unusedVariables false
namespace Go.Proofs.YtgagfmjpmdgfdaaDoor
open Go.Ab
def drfM (p q : List Lay) (m : Int) : List Lay × List Lay × Int :=
  if packE p = 0 ∧ packE q = 0 then
    if 0 ≤ m ∧ m ≤ 65536 then
      if (appM q ⟨1, (take (preZ p) p m 0 0).2.2.1, 0⟩).2.2 = 0 then ((take (preZ p) p m 0 0).2.1, (appM q ⟨1, (take (preZ p) p m 0 0).2.2.1, 0⟩).1, 0)
      else ([], [], (appM q ⟨1, (take (preZ p) p m 0 0).2.2.1, 0⟩).2.2)
    else ([], [], 1)
  else ([], [], 20)
theorem drf_no {p q : List Lay} {m : Int} (h : ¬ (drfM p q m).2.2 = 0) : (drfM p q m).1 = [] ∧ (drfM p q m).2.1 = [] := by
  unfold drfM at *
  by_cases h1 : packE p = 0 ∧ packE q = 0
  · rw [if_pos h1] at h ⊢
    by_cases h2 : 0 ≤ m ∧ m ≤ 65536
    · rw [if_pos h2] at h ⊢
      by_cases h3 : (appM q ⟨1, (take (preZ p) p m 0 0).2.2.1, 0⟩).2.2 = 0
      · rw [if_pos h3] at h; exact absurd rfl h
      · rw [if_neg h3]; exact ⟨rfl, rfl⟩
    · rw [if_neg h2]; exact ⟨rfl, rfl⟩
  · rw [if_neg h1]; exact ⟨rfl, rfl⟩
theorem drf_ok {p q : List Lay} {m : Int} (h : (drfM p q m).2.2 = 0) :
    packE p = 0 ∧ packE q = 0 ∧ packE (drfM p q m).1 = 0 ∧ packE (drfM p q m).2.1 = 0 ∧ (appM p ⟨6, m, 0⟩).2.2 = 0 ∧ (appM p ⟨6, m, 0⟩).1 = (drfM p q m).1 ∧
    watL (drfM p q m).1 + watL (drfM p q m).2.1 + (appM p ⟨6, m, 0⟩).2.1 = watL p + watL q := by
  unfold drfM at *
  by_cases h1 : packE p = 0 ∧ packE q = 0
  · rw [if_pos h1] at h ⊢
    by_cases h2 : 0 ≤ m ∧ m ≤ 65536
    · rw [if_pos h2] at h ⊢
      by_cases h3 : (appM q ⟨1, (take (preZ p) p m 0 0).2.2.1, 0⟩).2.2 = 0
      · rw [if_pos h3]
        have h4 := take_E (pre := preZ p) h1.1 h2.1
        have h5 := app_blown h1.1 h2.1 h2.2
        have h6 := (app_cons h3).2.1 rfl
        have h7 := appM_ok h3
        rw [h5]
        simp only []
        exact ⟨h1.1, h1.2, h4.1, h7.2.2.2.1, trivial, trivial, by simp only [] at h6; omega⟩
      · rw [if_neg h3] at h; exact absurd h h3
    · rw [if_neg h2] at h; simp at h
  · rw [if_neg h1] at h; simp at h
def rdrM (p q : List Lay) (m : Int) : List Lay × List Lay × Int :=
  if packE p = 0 ∧ packE q = 0 then
    if 0 ≤ m ∧ m ≤ 65536 then
      if packE (doM p ⟨6, m, 0⟩).1 = 0 ∧ packE (doM q ⟨1, tknM p ⟨6, m, 0⟩, 0⟩).1 = 0 then ((doM p ⟨6, m, 0⟩).1, (doM q ⟨1, tknM p ⟨6, m, 0⟩, 0⟩).1, 0)
      else ([], [], 2)
    else ([], [], 1)
  else ([], [], 20)
theorem rdr_eq (p q : List Lay) (m : Int) : rdrM p q m = drfM p q m := by
  unfold rdrM drfM
  by_cases h1 : packE p = 0 ∧ packE q = 0
  · rw [if_pos h1, if_pos h1]
    by_cases h2 : 0 ≤ m ∧ m ≤ 65536
    · rw [if_pos h2, if_pos h2]
      have hok := colOk_of h1.1
      have e1 : doM p ⟨6, m, 0⟩ = itM take1 m.toNat p := by
        unfold doM; rw [if_neg (by simp), if_neg (by simp), if_neg (by simp), if_neg (by simp), if_neg (by simp)]
      have e2 := take_itM (p := preZ p) hok h2.1
      have e3 : tknM p ⟨6, m, 0⟩ = (take (preZ p) p m 0 0).2.2.1 := by
        unfold tknM
        rw [if_neg (by simp)]
        have := take_pre p.length (p := []) (q := preZ p) (ls := p) (m1 := m) (m2 := m) (t1 := 0) (t2 := 0) (o1 := 0) (o2 := 0) (Nat.le_refl _) rfl
        simp only []; omega
      have h4 := take_E (pre := preZ p) h1.1 h2.1
      have hs : stepE ⟨1, (take (preZ p) p m 0 0).2.2.1, 0⟩ = 0 := stepE_0.2 ⟨⟨by dsimp only; decide, by dsimp only; decide, by dsimp only; omega, by dsimp only; omega, by dsimp only; decide, by dsimp only; decide⟩, .inl rfl⟩
      rw [e1, e3, ← e2.1]
      rw [← rappM_eq q]
      unfold rappM
      rw [if_pos h1.2, if_pos hs]
      by_cases h5 : packE (doM q ⟨1, (take (preZ p) p m 0 0).2.2.1, 0⟩).1 = 0
      · rw [if_pos h5, if_pos ⟨h4.1, h5⟩]; rfl
      · rw [if_neg h5, if_neg (fun h => h5 h.2)]; rfl
    · rw [if_neg h2, if_neg h2]
  · rw [if_neg h1, if_neg h1]
/-- A run of steps. -/
def runL : List Lay → List Stp → List Lay × List Int × Int
  | p, [] => (p, [], 0)
  | p, s :: l =>
    if (appM p s).2.2 = 0 then
      if (runL (appM p s).1 l).2.2 = 0 then ((runL (appM p s).1 l).1, (appM p s).2.1 :: (runL (appM p s).1 l).2.1, 0) else ([], [], (runL (appM p s).1 l).2.2)
    else ([], [], (appM p s).2.2)
theorem runL_no : ∀ {l : List Stp} {p : List Lay}, ¬ (runL p l).2.2 = 0 → runL p l = ([], [], (runL p l).2.2) := by
  intro l
  cases l with
  | nil => intro p h; exact absurd rfl h
  | cons s l =>
    intro p h
    simp only [runL] at h ⊢
    split
    · split
      · rename_i a b; rw [if_pos a, if_pos b] at h; exact absurd rfl h
      · rfl
    · rfl
theorem runL_append : ∀ {a b : List Stp} {p : List Lay}, runL p (a ++ b) =
    if (runL p a).2.2 = 0 then if (runL (runL p a).1 b).2.2 = 0 then ((runL (runL p a).1 b).1, (runL p a).2.1 ++ (runL (runL p a).1 b).2.1, 0) else ([], [], (runL (runL p a).1 b).2.2) else ([], [], (runL p a).2.2) := by
  intro a
  induction a with
  | nil =>
    intro b p
    rw [List.nil_append]
    have e : runL p [] = (p, [], 0) := by rw [runL]
    rw [e]
    by_cases h : (runL p b).2.2 = 0
    · simp only [h, List.nil_append]; simp only [if_true]; rw [← h]
    · simp only [h, if_false, if_true]; exact runL_no h
  | cons s a ih =>
    intro b p
    by_cases h1 : (appM p s).2.2 = 0
    · have e4 : ∀ c, runL p (s :: c) = if (runL (appM p s).1 c).2.2 = 0 then ((runL (appM p s).1 c).1, (appM p s).2.1 :: (runL (appM p s).1 c).2.1, 0) else ([], [], (runL (appM p s).1 c).2.2) := fun c => by
        simp only [runL]; rw [if_pos h1]
      rw [List.cons_append, e4 (a ++ b)]
      by_cases h2 : (runL (appM p s).1 a).2.2 = 0
      · have e3 : runL p (s :: a) = ((runL (appM p s).1 a).1, (appM p s).2.1 :: (runL (appM p s).1 a).2.1, 0) := by rw [e4, if_pos h2]
        have e5 := ih (b := b) (p := (appM p s).1)
        rw [if_pos h2] at e5
        rw [e3, e5]
        by_cases h3 : (runL (runL (appM p s).1 a).1 b).2.2 = 0
        · simp [h3]
        · simp [h3]
      · have e3 : runL p (s :: a) = ([], [], (runL (appM p s).1 a).2.2) := by rw [e4, if_neg h2]
        have e5 := ih (b := b) (p := (appM p s).1)
        rw [if_neg h2] at e5
        rw [e3, e5]
        simp [h2]
    · have e4 : ∀ c, runL p (s :: c) = ([], [], (appM p s).2.2) := fun c => by simp only [runL]; rw [if_neg h1]
      rw [List.cons_append, e4, e4]
      simp [h1]
theorem runL_E : ∀ {l : List Stp} {p : List Lay}, packE p = 0 → (runL p l).2.2 = 0 → packE (runL p l).1 = 0 ∧ (runL p l).2.1.length = l.length := by
  intro l
  induction l with
  | nil => intro p h _; exact ⟨h, rfl⟩
  | cons s l ih =>
    intro p h h2
    simp only [runL] at h2 ⊢
    by_cases h1 : (appM p s).2.2 = 0
    · rw [if_pos h1] at h2 ⊢
      have h3 := (appM_ok h1).2.2.2.1
      by_cases h4 : (runL (appM p s).1 l).2.2 = 0
      · rw [if_pos h4]; exact ⟨(ih h3 h4).1, by simp [(ih h3 h4).2]⟩
      · rw [if_neg h4] at h2; exact absurd h2 h4
    · rw [if_neg h1] at h2; exact absurd h2 h1
theorem runL_snoc {l : List Stp} {k : Nat} {p : List Lay} (hk : k < l.length) (h : (runL p (l.take k)).2.2 = 0) : runL p (l.take (k + 1)) =
    if (appM (runL p (l.take k)).1 l[k]).2.2 = 0 then ((appM (runL p (l.take k)).1 l[k]).1, (runL p (l.take k)).2.1 ++ [(appM (runL p (l.take k)).1 l[k]).2.1], 0) else ([], [], (appM (runL p (l.take k)).1 l[k]).2.2) := by
  rw [List.take_succ_eq_append_getElem hk, runL_append, if_pos h]
  simp only [runL]
  by_cases h1 : (appM (runL p (l.take k)).1 l[k]).2.2 = 0
  · simp [h1]
  · simp [h1]
theorem runL_stop {l : List Stp} {k : Nat} {p : List Lay} (h : ¬ (runL p (l.take k)).2.2 = 0) : runL p l = ([], [], (runL p (l.take k)).2.2) := by
  have := runL_append (a := l.take k) (b := l.drop k) (p := p)
  rw [List.take_append_drop, if_neg h] at this
  exact this
def runM (p : List Lay) (l : List Stp) : List Lay × List Int × Int := if packE p = 0 then if l.length ≤ 256 then runL p l else ([], [], 2) else ([], [], 20)
theorem runM_no {p : List Lay} {l : List Stp} (h : ¬ (runM p l).2.2 = 0) : (runM p l).1 = [] ∧ (runM p l).2.1 = [] := by
  unfold runM at *
  by_cases h1 : packE p = 0
  · rw [if_pos h1] at h ⊢
    by_cases h2 : l.length ≤ 256
    · rw [if_pos h2] at h ⊢; rw [runL_no h]; exact ⟨rfl, rfl⟩
    · rw [if_neg h2]; exact ⟨rfl, rfl⟩
  · rw [if_neg h1]; exact ⟨rfl, rfl⟩
/-- Runs can be cut. -/
theorem run_cut {p : List Lay} {l : List Stp} {k : Nat} (hl : l.length ≤ 40) (hk : k ≤ l.length) :
    (¬ (runM p (l.take k)).2.2 = 0 → runM p l = ([], [], (runM p (l.take k)).2.2)) ∧
    ((runM p (l.take k)).2.2 = 0 → (runM p l).2.2 = (runM (runM p (l.take k)).1 (l.drop k)).2.2 ∧ (runM p l).1 = (runM (runM p (l.take k)).1 (l.drop k)).1 ∧ ((runM p l).2.2 = 0 → (runM p l).2.1 = (runM p (l.take k)).2.1 ++ (runM (runM p (l.take k)).1 (l.drop k)).2.1)) := by
  have ht : (l.take k).length ≤ 256 := by rw [List.length_take]; omega
  have hd : (l.drop k).length ≤ 256 := by rw [List.length_drop]; omega
  by_cases h1 : packE p = 0
  · have e1 : ∀ x, x.length ≤ 256 → runM p x = runL p x := fun x hx => by unfold runM; rw [if_pos h1, if_pos hx]
    rw [e1 _ ht, e1 _ (by omega)]
    refine ⟨fun h => runL_stop h, fun h => ?_⟩
    have h2 := (runL_E h1 h).1
    have e2 : runM (runL p (l.take k)).1 (l.drop k) = runL (runL p (l.take k)).1 (l.drop k) := by unfold runM; rw [if_pos h2, if_pos hd]
    rw [e2]
    have h3 := runL_append (a := l.take k) (b := l.drop k) (p := p)
    rw [List.take_append_drop, if_pos h] at h3
    rw [h3]
    by_cases h4 : (runL (runL p (l.take k)).1 (l.drop k)).2.2 = 0
    · rw [if_pos h4]; exact ⟨h4.symm, rfl, fun _ => rfl⟩
    · rw [if_neg h4]
      refine ⟨rfl, ?_, fun h => absurd h h4⟩
      rw [runL_no h4]
  · have e1 : ∀ x, runM p x = ([], [], 20) := fun x => by unfold runM; rw [if_neg h1]
    rw [e1, e1]; exact ⟨fun _ => rfl, fun h => by simp at h⟩
/-- The reference's Enough. -/
theorem enF_it {p : List Lay} {out : Int} (hp : packE p = 0) (n : Nat) : enF p out n = decide (out ≤ (itM melt1 n p).2) := by
  have h1 := melt_itM (p := preZ p) (colOk_of hp) (show (0 : Int) ≤ (n : Nat) by omega)
  unfold enF
  rw [h1.2]; rfl
theorem en_yes {p : List Lay} {out : Int} {n : Nat} (hp : packE p = 0) (ho : 0 ≤ out ∧ out ≤ 65536) (hn : n ≤ 65536) (h1 : ∀ j, j < n → enF p out j = false) (h2 : out ≤ (itM melt1 n p).2) : enM p out = (((n : Nat) : Int), true, 0) := by
  have h3 : lsN (enF p out) 65537 = n := lsN_eq (by omega) h1 fun _ => by rw [enF_it hp]; exact decide_eq_true h2
  unfold enM
  rw [if_pos hp, if_pos ho, h3, if_pos (by omega)]
theorem en_end {p : List Lay} {out : Int} (hp : packE p = 0) (ho : 0 ≤ out ∧ out ≤ 65536) (h1 : ∀ j, j < 65537 → enF p out j = false) : enM p out = (0, false, 0) := by
  have h3 : lsN (enF p out) 65537 = 65537 := lsN_eq (Nat.le_refl _) h1 fun h => by omega
  unfold enM
  rw [if_pos hp, if_pos ho, h3, if_neg (by omega)]
theorem en_stop {p : List Lay} {out : Int} {n : Nat} (hp : packE p = 0) (ho : 0 ≤ out ∧ out ≤ 65536) (h1 : ∀ j, j < n → enF p out j = false) (h2 : ¬ out ≤ (itM melt1 n p).2) (h3 : (itM melt1 n p).1 = []) : enM p out = (0, false, 0) := by
  refine en_end hp ho fun j hj => ?_
  by_cases hjn : j < n
  · exact h1 j hjn
  · rw [enF_it hp]
    have h4 := itM_add melt1 n (j - n) p
    rw [show n + (j - n) = j by omega, h3, itM_nil (f := melt1) rfl] at h4
    rw [h4]
    exact decide_eq_false (by simp only []; omega)
end Go.Proofs.YtgagfmjpmdgfdaaDoor

