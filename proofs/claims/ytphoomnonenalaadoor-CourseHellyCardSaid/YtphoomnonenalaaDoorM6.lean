/- More that is known only narrows, plain. -/
import Derived.Test.YtphoomnonenalaaDoorM5
import Derived.Test.YtphoomnonenalaaDoorM3
set_option linter.unusedSimpArgs false
set_option linter.unusedVariables false
namespace Go.Proofs.YtphoomnonenalaaDoor
open Go.Ab
/-- What x shows as known on day d is all that c shows on day k, or more. -/
structure Finer (c : Scl) (k : Int) (x : Scl) (d : Int) : Prop where
  rate : x.rate = c.rate
  sub : ∀ t ∈ knownL c k, t ∈ knownL x d
  bad : scaleE c ≠ 0 → x = c
theorem Finer.day {c : Scl} {k d : Int} (h : k ≤ d) : Finer c k c d :=
  ⟨rfl, fun t ht => by
    obtain ⟨h1, h2⟩ := List.mem_filter.1 ht
    refine List.mem_filter.2 ⟨h1, ?_⟩
    simp only [decide_eq_true_eq] at *
    omega, fun _ => rfl⟩
theorem Finer.add {c : Scl} {t : Tst} {k d : Int} (hz : scaleE c = 0) (h : k ≤ d) : Finer c k ⟨c.no, c.rate, c.tests ++ [t]⟩ d :=
  ⟨rfl, fun u hu => by
    obtain ⟨h1, h2⟩ := List.mem_filter.1 hu
    refine List.mem_filter.2 ⟨List.mem_append_left _ h1, ?_⟩
    simp only [decide_eq_true_eq] at *
    omega, fun hn => absurd hz hn⟩
def Lies (b a : Spn) : Prop := a.lo ≤ b.lo ∧ b.hi ≤ a.hi
/-- f narrows: the first answer, the second one. -/
def Narrow (E F : Int) (A B : Spn) : Prop := (E = 0 → F = 0 → Lies B A) ∧ (E = 13 → F ≠ 0)
theorem dr_lies {c : Scl} {k : Int} {x : Scl} {d : Int} (h : Finer c k x d) (a : Int) : Lies (drS x a d) (drS c a k) := by
  unfold Lies drS
  dsimp only
  rw [drLo_le, le_drHi, h.rate]
  exact ⟨⟨mx_ge _ _, fun t ht => (drLo_le.1 (Int.le_refl _)).2 t (h.sub t ht)⟩, mn_le _ _, fun t ht => (le_drHi.1 (Int.le_refl _)).2 t (h.sub t ht)⟩
theorem tn_lies {c : Scl} {k : Int} {x : Scl} {d : Int} (h : Finer c k x d) (a b : Int) : Lies (tnS x a b d) (tnS c a b k) := by
  have h1 := dr_lies h a
  have h2 := dr_lies h b
  unfold Lies tnS at *
  dsimp only
  rw [h.rate, mx1, mx1, mn1, mn1]
  refine ⟨?_, ?_⟩ <;> split <;> split <;> omega
theorem pos_lies {c : Scl} {k : Int} {x : Scl} {d : Int} (h : Finer c k x d) (s : Sht) : Lies (posS x s d) (posS c s k) := by
  have h1 := tn_lies h s.emptyDay s.day
  unfold Lies posS at *
  dsimp only
  exact ⟨h1.1, posHi_ge _ _ (Int.le_trans (posHi_le _ _ _).1 h1.2) (posHi_le _ _ _).2⟩
theorem core_lies {s : Sht} {y : Stk} {t u : Spn} (h : Lies u t) : Lies (coreS s y u) (coreS s y t) := by
  unfold Lies coreS at *
  dsimp only
  rw [mx1, mx1]
  refine ⟨?_, by omega⟩
  split <;> split <;> omega
theorem fold_le {α : Type} {f g : α → Int} : ∀ (l : List α) (a b : Int), a ≤ b → (∀ x ∈ l, f x ≤ g x) → l.foldl (fun a x => a + f x) a ≤ l.foldl (fun a x => a + g x) b := by
  intro l
  induction l with
  | nil => intro a b h _; exact h
  | cons y l ih =>
    intro a b h hl
    have := hl y List.mem_cons_self
    simp only [List.foldl_cons]
    exact ih (a + f y) (b + g y) (by omega) fun x hx => hl x (List.mem_cons_of_mem _ hx)
theorem sn_lies {c : Scl} {k : Int} {x : Scl} {d : Int} (h : Finer c k x d) (s : Sht) (l : List Stk) : Lies (snS x s l d) (snS c s l k) := by
  have h1 := pos_lies h s
  unfold snS snLo snHi
  refine ⟨?_, ?_⟩
  · dsimp only
    refine fold_le (f := fun y => 20 * (coreS s y (posS c s k)).lo + y.lost * s.mouth) (g := fun y => 20 * (coreS s y (posS x s d)).lo + y.lost * s.mouth) l 0 0 (Int.le_refl _) fun y _ => ?_
    have := (core_lies (s := s) (y := y) h1).1
    omega
  · dsimp only
    refine fold_le (f := fun y => 20 * ((coreS s y (posS x s d)).hi + y.lost * s.mouth)) (g := fun y => 20 * ((coreS s y (posS c s k)).hi + y.lost * s.mouth)) l 0 0 (Int.le_refl _) fun y _ => ?_
    have := (core_lies (s := s) (y := y) h1).2
    omega
theorem rnd_lies {u v : Spn} {t b : Int} (ht : 0 ≤ t) (hb : 0 < b) (h : Lies u v) : Lies (rndS u t b) (rndS v t b) := by
  unfold Lies rndS at *
  dsimp only
  refine ⟨Int.ediv_le_ediv hb (Int.mul_le_mul_of_nonneg_right h.1 ht), Int.ediv_le_ediv hb ?_⟩
  have := Int.mul_le_mul_of_nonneg_right h.2 ht
  omega
/-! ### the six questions of CourseMore -/
def drR (c : Scl) (a k : Int) : Spn := if askE c [a, k] = 0 then drS c a k else ⟨0, 0⟩
def tnR (c : Scl) (a b k : Int) : Spn := if askE c [a, b, k] = 0 then tnS c a b k else ⟨0, 0⟩
theorem ask_13 {c : Scl} {l : List Int} (h : askE c l = 13) : scaleE c = 13 := by
  unfold askE at h
  split at h
  · split at h <;> omega
  · exact h
theorem ask_z {c : Scl} {l : List Int} (h : askE c l = 0) : scaleE c = 0 := (askE_0 h).1
theorem finer_no {c : Scl} {k : Int} {x : Scl} {d : Int} (h : Finer c k x d) (hc : scaleE c = 13) : scaleE x ≠ 0 := by
  rw [h.bad (by omega), hc]; decide
theorem narrow_drift {c : Scl} {k : Int} {x : Scl} {d : Int} (h : Finer c k x d) (a : Int) : Narrow (askE c [a, k]) (askE x [a, d]) (drR c a k) (drR x a d) := by
  refine ⟨fun h1 h2 => ?_, fun h1 h2 => finer_no h (ask_13 h1) (ask_z h2)⟩
  unfold drR; rw [if_pos h1, if_pos h2]; exact dr_lies h a
theorem narrow_turn {c : Scl} {k : Int} {x : Scl} {d : Int} (h : Finer c k x d) (a b : Int) : Narrow (askE c [a, b, k]) (askE x [a, b, d]) (tnR c a b k) (tnR x a b d) := by
  refine ⟨fun h1 h2 => ?_, fun h1 h2 => finer_no h (ask_13 h1) (ask_z h2)⟩
  unfold tnR; rw [if_pos h1, if_pos h2]; exact tn_lies h a b
theorem stake_z {c : Scl} {s : Sht} {i k : Int} (h : stakeE c s i k = 0) : scaleE c = 0 ∧ sheetB s = true := by
  unfold stakeE at h
  by_cases h1 : scaleE c = 0
  · rw [if_pos h1] at h
    refine ⟨h1, ?_⟩
    by_cases h2 : sheetB s = true
    · exact h2
    · rw [if_neg h2] at h; simp at h
  · rw [if_neg h1] at h; exact absurd h h1
theorem stake_13 {c : Scl} {s : Sht} {i k : Int} (h : stakeE c s i k = 13) : scaleE c = 13 := by
  unfold stakeE at h
  by_cases h1 : scaleE c = 0
  · rw [if_pos h1] at h
    split at h
    · split at h <;> omega
    · omega
  · rwa [if_neg h1] at h
theorem pos_0 {c : Scl} {s : Sht} {k : Int} (h : posE c s k = 0) : (posS c s k).lo ≤ (posS c s k).hi := by
  unfold posE at h; split at h <;> omega
theorem pos_13 {c : Scl} {s : Sht} {k : Int} (h : posE c s k = 13) : (posS c s k).hi < (posS c s k).lo := by
  unfold posE at h; split at h
  · assumption
  · omega
theorem pos_no {c : Scl} {k : Int} {x : Scl} {d : Int} (h : Finer c k x d) {s : Sht} (h1 : posE c s k = 13) (h2 : posE x s d = 0) : False := by
  have := pos_lies h s
  have := pos_13 h1
  have := pos_0 h2
  unfold Lies at *
  omega
theorem wat_0 {c : Scl} {s : Sht} {i k : Int} (h : watE c s i k = 0) : stakeE c s i k = 0 ∧ posE c s k = 0 := by
  unfold watE at h
  by_cases h1 : stakeE c s i k = 0
  · rw [if_pos h1] at h; exact ⟨h1, h⟩
  · rw [if_neg h1] at h; exact absurd h h1
theorem narrow_wat {c : Scl} {k : Int} {x : Scl} {d : Int} (h : Finer c k x d) (s : Sht) (i : Int) (h1 : watE c s i k = 13) : watE x s i d ≠ 0 := by
  intro h2
  have h3 := wat_0 h2
  unfold watE at h1
  by_cases h4 : stakeE c s i k = 0
  · rw [if_pos h4] at h1; exact pos_no h h1 h3.2
  · rw [if_neg h4] at h1; exact finer_no h (stake_13 h1) (stake_z h3.1).1
theorem narrow_core {c : Scl} {k : Int} {x : Scl} {d : Int} (h : Finer c k x d) (s : Sht) (i : Int) : Narrow (watE c s i k) (watE x s i d) (corR c s i k) (corR x s i d) := by
  refine ⟨fun h1 h2 => ?_, narrow_wat h s i⟩
  unfold corR; rw [if_pos h1, if_pos h2]; exact core_lies (pos_lies h s)
theorem narrow_water {c : Scl} {k : Int} {x : Scl} {d : Int} (h : Finer c k x d) (s : Sht) (i : Int) : Narrow (watE c s i k) (watE x s i d) (watR c s i k) (watR x s i d) := by
  refine ⟨fun h1 h2 => ?_, narrow_wat h s i⟩
  have hb := sheetB_bd (stake_z (wat_0 h1).1).2
  unfold watR; rw [if_pos h1, if_pos h2]; exact rnd_lies (by omega) (by omega) (sn_lies h s _)
theorem narrow_course {c : Scl} {k : Int} {x : Scl} {d : Int} (h : Finer c k x d) (s : Sht) : Narrow (watE c s 0 k) (watE x s 0 d) (couR c s k) (couR x s d) := by
  refine ⟨fun h1 h2 => ?_, narrow_wat h s 0⟩
  have hb := sheetB_bd (stake_z (wat_0 h1).1).2
  unfold couR; rw [if_pos h1, if_pos h2]
  refine rnd_lies (by omega) ?_ (sn_lies h s _)
  exact Int.mul_pos (by omega) (by omega)
theorem narrow_density {c : Scl} {k : Int} {x : Scl} {d : Int} (h : Finer c k x d) (s : Sht) (i : Int) : Narrow (denE c s i k) (denE x s i d) (denR c s i k) (denR x s i d) := by
  refine ⟨fun h1 h2 => ?_, fun h1 h2 => ?_⟩
  · have hz : stakeE c s i k = 0 := by
      unfold denE at h1
      by_cases h4 : stakeE c s i k = 0
      · exact h4
      · rw [if_neg h4] at h1; exact absurd h1 h4
    have hd : (kOf s i).depth ≠ 0 := by
      intro hh; unfold denE at h1; rw [if_pos hz, if_pos hh] at h1; simp at h1
    have hk := stakeE_0 hz
    have hb := sheetB_bd hk.2.1
    have hs := stakeB_bd (sheetB_stakes hk.2.1 _ (kOf_mem hk.2.2.2.1))
    unfold denR; rw [if_pos h1, if_pos h2]
    refine rnd_lies (by omega) ?_ (sn_lies h s _)
    exact Int.mul_pos (by omega) (by omega)
  · have h3 : stakeE x s i d = 0 ∧ (kOf s i).depth ≠ 0 ∧ posE x s d = 0 := by
      unfold denE at h2
      by_cases h4 : stakeE x s i d = 0
      · rw [if_pos h4] at h2
        by_cases h5 : (kOf s i).depth = 0
        · rw [if_pos h5] at h2; simp at h2
        · rw [if_neg h5] at h2; exact ⟨h4, h5, h2⟩
      · rw [if_neg h4] at h2; exact absurd h2 h4
    unfold denE at h1
    by_cases h4 : stakeE c s i k = 0
    · rw [if_pos h4, if_neg h3.2.1] at h1; exact pos_no h h1 h3.2.2
    · rw [if_neg h4] at h1; exact finer_no h (stake_13 h1) (stake_z h3.1).1
end Go.Proofs.YtphoomnonenalaaDoor
