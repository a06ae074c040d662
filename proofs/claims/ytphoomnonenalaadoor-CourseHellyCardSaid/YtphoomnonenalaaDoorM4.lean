/- What histories there are, plain. -/
import Derived.Test.YtphoomnonenalaaDoorR2
set_option linter.unusedSimpArgs false
set_option linter.unusedVariables false
namespace Go.Proofs.YtphoomnonenalaaDoor
open Go.Ab
theorem pairs_none (r : Int) : ∀ (l : List Tst) (i : Nat), pairs r l i = none ↔ l.Pairwise (fun a b => contraB r a b = false) := by
  intro l
  induction l with
  | nil => intro i; simp [pairs]
  | cons a l ih =>
    intro i
    unfold pairs
    rw [List.pairwise_cons]
    cases h : l.findIdx? (contraB r a) with
    | none =>
      rw [List.findIdx?_eq_none_iff] at h
      simp only [ih]
      exact ⟨fun h1 => ⟨h, h1⟩, fun h1 => h1.2⟩
    | some j =>
      simp only [reduceCtorEq, false_iff, not_and]
      intro h1
      exfalso
      have h2 : l.findIdx? (contraB r a) = none := List.findIdx?_eq_none_iff.2 h1
      rw [h] at h2; cases h2
theorem mx_le {b : Int} : ∀ (l : List Int) (a : Int), mx a l ≤ b ↔ a ≤ b ∧ ∀ x ∈ l, x ≤ b := by
  intro l
  induction l with
  | nil => intro a; simp [mx]
  | cons y l ih =>
    intro a
    have h := ih (if a < y then y else a)
    rw [show mx a (y :: l) = mx (if a < y then y else a) l from rfl, h]
    simp only [List.mem_cons, forall_eq_or_imp]
    constructor
    · rintro ⟨h1, h2⟩
      split at h1 <;> exact ⟨by omega, by omega, h2⟩
    · rintro ⟨h1, h2, h3⟩
      exact ⟨by split <;> omega, h3⟩
theorem le_mn {b : Int} : ∀ (l : List Int) (a : Int), b ≤ mn a l ↔ b ≤ a ∧ ∀ x ∈ l, b ≤ x := by
  intro l
  induction l with
  | nil => intro a; simp [mn]
  | cons y l ih =>
    intro a
    have h := ih (if y < a then y else a)
    rw [show mn a (y :: l) = mn (if y < a then y else a) l from rfl, h]
    simp only [List.mem_cons, forall_eq_or_imp]
    constructor
    · rintro ⟨h1, h2⟩
      split at h1 <;> exact ⟨by omega, by omega, h2⟩
    · rintro ⟨h1, h2, h3⟩
      exact ⟨by split <;> omega, h3⟩
theorem mn_app (a : Int) (l m : List Int) : mn a (l ++ m) = mn (mn a l) m := by unfold mn; rw [List.foldl_append]
theorem mx_app (a : Int) (l m : List Int) : mx a (l ++ m) = mx (mx a l) m := by unfold mx; rw [List.foldl_append]
theorem drLo_le {r d g : Int} {l : List Tst} : drLo r l d ≤ g ↔ -1048576 ≤ g ∧ ∀ t ∈ l, t.lo - r * far t.day d ≤ g := by
  unfold drLo; rw [mx_le]; simp only [List.mem_map, forall_exists_index, and_imp, forall_apply_eq_imp_iff₂]
theorem le_drHi {r d g : Int} {l : List Tst} : g ≤ drHi r l d ↔ g ≤ 1048576 ∧ ∀ t ∈ l, g ≤ t.hi + r * far t.day d := by
  unfold drHi; rw [le_mn]; simp only [List.mem_map, forall_exists_index, and_imp, forall_apply_eq_imp_iff₂]
theorem far_comm (a b : Int) : far a b = far b a := by unfold far; split <;> split <;> omega
theorem far_self (a : Int) : far a a = 0 := by unfold far; split <;> omega
theorem far_tri (a b c : Int) : far a c ≤ far a b + far b c := by unfold far; split <;> split <;> split <;> omega
theorem mfar_tri {r : Int} (hr : 0 ≤ r) (a b c : Int) : r * far a c ≤ r * far a b + r * far b c := by
  have := Int.mul_le_mul_of_nonneg_left (far_tri a b c) hr
  rwa [Int.mul_add] at this
theorem mfar_pos {r : Int} (hr : 0 ≤ r) (a b : Int) : 0 ≤ r * far a b := Int.mul_nonneg hr (by unfold far; split <;> omega)
/-- No contradiction between two tests. -/
def okT (r : Int) (a b : Tst) : Prop := a.lo - b.hi ≤ r * far a.day b.day ∧ b.lo - a.hi ≤ r * far a.day b.day
theorem contra_ok {r : Int} {a b : Tst} : contraB r a b = false ↔ okT r a b := by
  rw [contraB_or]; unfold okT
  simp only [Bool.or_eq_false_iff, decide_eq_false_iff_not]
  omega
theorem okT_symm {r : Int} {a b : Tst} (h : okT r a b) : okT r b a := by unfold okT at *; rw [far_comm b.day a.day]; omega
theorem okT_self {r : Int} {a : Tst} (h : testB a = true) : okT r a a := by
  have := testB_bd h
  unfold okT; rw [far_self, Int.mul_zero]; omega
theorem pairwise_all {α : Type} {R : α → α → Prop} (hs : ∀ a b, R a b → R b a) : ∀ (l : List α), (∀ x ∈ l, R x x) → l.Pairwise R → ∀ x ∈ l, ∀ y ∈ l, R x y := by
  intro l
  induction l with
  | nil => intro _ _ x hx; cases hx
  | cons a l ih =>
    intro h1 h2 x hx y hy
    rw [List.pairwise_cons] at h2
    rcases List.mem_cons.1 hx with rfl | hx' <;> rcases List.mem_cons.1 hy with rfl | hy'
    · exact h1 _ hx
    · exact h2.1 _ hy'
    · exact hs _ _ (h2.1 _ hx')
    · exact ih (fun z hz => h1 z (List.mem_cons_of_mem _ hz)) h2.2 x hx' y hy'
theorem known_pw {s : Scl} {k : Int} (h : scaleE s = 0) : (knownL s k).Pairwise (fun a b => contraB s.rate a b = false) :=
  ((pairs_none _ _ _).1 (scaleE_pairs h)).filter _
theorem known_ok {s : Scl} {k : Int} (h : scaleE s = 0) : ∀ a ∈ knownL s k, ∀ b ∈ knownL s k, okT s.rate a b := by
  refine pairwise_all (fun _ _ h => okT_symm h) _ (fun x hx => okT_self (scaleB_tests (scaleE_0 h) x (mem_known hx))) ?_
  exact (known_pw h).imp fun h => contra_ok.1 h
/-- A number can be the drift on a day. -/
def inDr (s : Scl) (k d g : Int) : Prop := (drS s d k).lo ≤ g ∧ g ≤ (drS s d k).hi
theorem inDr_iff {s : Scl} {k d g : Int} : inDr s k d g ↔ (-1048576 ≤ g ∧ g ≤ 1048576) ∧ ∀ t ∈ knownL s k, okT s.rate t ⟨d, 0, g, g⟩ := by
  unfold inDr drS okT
  simp only [drLo_le, le_drHi]
  constructor
  · rintro ⟨⟨h1, h2⟩, h3, h4⟩
    exact ⟨⟨h1, h3⟩, fun t ht => by have := h2 t ht; have := h4 t ht; omega⟩
  · rintro ⟨⟨h1, h2⟩, h3⟩
    exact ⟨⟨h1, fun t ht => by have := h3 t ht; omega⟩, h2, fun t ht => by have := h3 t ht; omega⟩
/-- Two drifts on two days do not contradict each other. -/
def ok2 (r a g b h : Int) : Prop := g - h ≤ r * far a b ∧ h - g ≤ r * far a b
theorem pins_get {days grams : List Int} {i : Nat} (h : i < (pins days grams).length) (h1 : i < days.length) (h2 : i < grams.length) : (pins days grams)[i] = ⟨days[i], 0, grams[i], grams[i]⟩ := by
  simp [pins, List.getElem_zip]
theorem pins_len' {days grams : List Int} (he : days.length = grams.length) : (pins days grams).length = days.length := by
  simp [pins, he]
theorem pin_iff {s : Scl} {k : Int} {days grams : List Int} (h : scaleE s = 0) (he : days.length = grams.length) :
    pinB s k days grams = true ↔ ∀ (i : Nat) (h1 : i < days.length) (h2 : i < grams.length), inDr s k days[i] grams[i] ∧ ∀ (j : Nat) (hj : j < i), ok2 s.rate days[i] grams[i] (days[j]'(by omega)) (grams[j]'(by omega)) := by
  unfold pinB
  rw [Bool.and_eq_true, List.all_eq_true, Option.isNone_iff_eq_none, pairs_none]
  unfold pinL
  rw [List.pairwise_append]
  constructor
  · rintro ⟨h1, h2, h3, h4⟩ i hi hi2
    have hp := pins_len' he
    refine ⟨inDr_iff.2 ⟨driftB_bd (h1 _ (List.getElem_mem hi2)), fun t ht => ?_⟩, fun j hj => ?_⟩
    · have := h4 t ht (pins days grams)[i] (List.getElem_mem (by omega))
      rw [pins_get _ hi hi2] at this
      exact contra_ok.1 this
    · have := (List.pairwise_iff_getElem.1 h3) j i (by omega) (by omega) hj
      rw [pins_get _ hi hi2, pins_get _ (by omega) (by omega)] at this
      have := contra_ok.1 this
      unfold okT at this
      unfold ok2
      rw [far_comm days[i] _]
      dsimp only at this
      omega
  · intro hall
    refine ⟨fun g hg => ?_, known_pw h, ?_, fun t ht p hp => ?_⟩
    · obtain ⟨i, hi, rfl⟩ := List.mem_iff_getElem.1 hg
      have := (inDr_iff.1 (hall i (by omega) hi).1).1
      simp [driftB]; exact this
    · refine List.pairwise_iff_getElem.2 fun i j hi hj hij => ?_
      have hp := pins_len' he
      rw [pins_get _ (by omega) (by omega), pins_get _ (by omega) (by omega)]
      refine contra_ok.2 ?_
      have := (hall j (by omega) (by omega)).2 i hij
      unfold ok2 at this
      rw [far_comm] at this
      unfold okT
      dsimp only
      omega
    · obtain ⟨i, hi, rfl⟩ := List.mem_iff_getElem.1 hp
      have hp := pins_len' he
      rw [pins_get _ (by omega) (by omega)]
      exact contra_ok.2 ((inDr_iff.1 (hall i (by omega) (by omega)).1).2 t ht)
theorem pinHi (r : Int) (s : Scl) (k : Int) (days grams : List Int) (d : Int) : drHi r (pinL s k days grams) d = mn (drHi r (knownL s k) d) ((days.zip grams).map fun p => p.2 + r * far d p.1) := by
  unfold drHi pinL pins
  rw [List.map_append, mn_app, List.map_map]
  congr 1
  refine List.map_congr_left fun p _ => ?_
  simp only [Function.comp_apply]
  rw [far_comm]
end Go.Proofs.YtphoomnonenalaaDoor
