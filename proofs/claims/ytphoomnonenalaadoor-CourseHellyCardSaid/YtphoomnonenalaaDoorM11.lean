/- The main theorem of the stage, plain. -/
import Derived.Test.YtphoomnonenalaaDoorM5
set_option linter.unusedSimpArgs false
set_option linter.unusedVariables false
namespace Go.Proofs.YtphoomnonenalaaDoor
open Go.Ab Go.RowKit
theorem drHi_top {r d : Int} {l : List Tst} : drHi r l d ≤ 1048576 ∧ ∀ t ∈ l, drHi r l d ≤ t.hi + r * far t.day d := le_drHi.1 (Int.le_refl _)
theorem drHi_lip {r a b : Int} {l : List Tst} (hr : 0 ≤ r) : drHi r l a - r * far a b ≤ drHi r l b := by
  have h := drHi_top (r := r) (d := a) (l := l)
  refine le_drHi.2 ⟨by have := mfar_pos hr a b; omega, fun t ht => ?_⟩
  have h1 := h.2 t ht
  have h2 := mfar_tri hr t.day b a
  rw [far_comm b a] at h2
  omega
theorem drHi_bd {r d : Int} {l : List Tst} (hr : 0 ≤ r) (h : ∀ t ∈ l, testB t = true) : -1048576 ≤ drHi r l d := by
  refine le_drHi.2 ⟨by omega, fun t ht => ?_⟩
  have h1 := h t ht
  unfold testB at h1
  simp only [Bool.and_eq_true] at h1
  have := driftB_bd h1.1.2
  have := mfar_pos hr t.day d
  omega
/-- What the pinned drifts and the known tests say does not contradict itself. -/
theorem pin_all {s : Scl} {k : Int} {days grams : List Int} (hs : scaleB s = true) (hd : daysB days = true) (h : pinB s k days grams = true) : ∀ a ∈ pinL s k days grams, ∀ b ∈ pinL s k days grams, okT s.rate a b := by
  unfold pinB at h
  rw [Bool.and_eq_true, Option.isNone_iff_eq_none, pairs_none] at h
  have hok := pinL_ok (known := k) hs hd h.1
  refine pairwise_all (fun a b => okT_symm) _ (fun x hx => okT_self (hok x hx)) (h.2.imp fun hab => contra_ok.1 hab)
theorem hi_test {s : Scl} {k : Int} {days grams : List Int} (hs : scaleB s = true) (hd : daysB days = true) (h : pinB s k days grams = true) {t : Tst} (ht : t ∈ pinL s k days grams) :
    t.lo ≤ drHi s.rate (pinL s k days grams) t.day ∧ drHi s.rate (pinL s k days grams) t.day ≤ t.hi := by
  have hg : grams.all driftB = true := by unfold pinB at h; rw [Bool.and_eq_true] at h; exact h.1
  have hall := pin_all hs hd h
  constructor
  · refine le_drHi.2 ⟨?_, fun u hu => ?_⟩
    · have h1 := pinL_ok (known := k) hs hd hg t ht
      unfold testB at h1
      simp only [Bool.and_eq_true] at h1
      exact (driftB_bd h1.1.1.2).2
    · have := (hall u hu t ht).2
      omega
  · have := (drHi_top (r := s.rate) (d := t.day)).2 t ht
    rw [far_self, Int.mul_zero] at this
    omega
theorem pins_app {a b c d : List Int} (h : a.length = c.length) : pins (a ++ b) (c ++ d) = pins a c ++ pins b d := by
  unfold pins; rw [List.zip_append h, List.map_append]
def insL (l : List Int) (n : Nat) (x : Int) : List Int := l.take n ++ x :: l.drop n
theorem insL_len (l : List Int) (n : Nat) (x : Int) : (insL l n x).length = l.length + 1 := by
  unfold insL
  rw [List.length_append, List.length_cons, List.length_take, List.length_drop]
  omega
theorem pins_ins {days grams : List Int} {n : Nat} {x g : Int} (he : days.length = grams.length) : pins (insL days n x) (insL grams n g) = pins (days.take n) (grams.take n) ++ ⟨x, 0, g, g⟩ :: pins (days.drop n) (grams.drop n) := by
  unfold insL
  rw [pins_app (by rw [List.length_take, List.length_take, he])]
  rfl
theorem pins_split {days grams : List Int} (n : Nat) (he : days.length = grams.length) : pins days grams = pins (days.take n) (grams.take n) ++ pins (days.drop n) (grams.drop n) := by
  rw [← pins_app (by rw [List.length_take, List.length_take, he]), List.take_append_drop, List.take_append_drop]
/-- No history is greater on a day. -/
theorem ins_le {s : Scl} {k : Int} {days grams : List Int} {n : Nat} {x g : Int} (hs : scaleB s = true) (he : days.length = grams.length) (hd : daysB (insL days n x) = true)
    (h : pinB s k (insL days n x) (insL grams n g) = true) : g ≤ drHi s.rate (pinL s k days grams) x := by
  have hall := pin_all hs hd h
  have hg : (insL grams n g).all driftB = true := by unfold pinB at h; rw [Bool.and_eq_true] at h; exact h.1
  have hp := pins_ins (n := n) (x := x) (g := g) he
  have hmem : ∀ t ∈ pinL s k days grams, t ∈ pinL s k (insL days n x) (insL grams n g) := fun t ht => by
    unfold pinL at ht ⊢
    rcases List.mem_append.1 ht with h1 | h1
    · exact List.mem_append.2 (.inl h1)
    · refine List.mem_append.2 (.inr ?_)
      rw [hp]
      rw [pins_split n he] at h1
      rcases List.mem_append.1 h1 with h2 | h2
      · exact List.mem_append.2 (.inl h2)
      · exact List.mem_append.2 (.inr (List.mem_cons_of_mem _ h2))
  have hx : (⟨x, 0, g, g⟩ : Tst) ∈ pinL s k (insL days n x) (insL grams n g) := by
    unfold pinL
    refine List.mem_append.2 (.inr ?_)
    rw [hp]
    exact List.mem_append.2 (.inr List.mem_cons_self)
  refine le_drHi.2 ⟨?_, fun t ht => ?_⟩
  · exact (driftB_bd (List.all_eq_true.1 hg g (by unfold insL; exact List.mem_append.2 (.inr List.mem_cons_self)))).2
  · have := (hall t (hmem t ht) _ hx).2
    dsimp only at this
    omega
theorem no_greater {s : Scl} {k : Int} {days grams : List Int} {n : Nat} {x : Int} (hs : scaleB s = true) (he : days.length = grams.length) (hd : daysB (insL days n x) = true) :
    pinB s k (insL days n x) (insL grams n (drHi s.rate (pinL s k days grams) x + 1)) = false := by
  cases h : pinB s k (insL days n x) (insL grams n (drHi s.rate (pinL s k days grams) x + 1)) with
  | false => rfl
  | true => have := ins_le hs he hd h; omega
theorem inc_of {m : Int} : ∀ (l : List Int) (a : Int), l.Pairwise (· < ·) → (∀ x ∈ l, a < x ∧ x ≤ m) → incB m a l = true := by
  intro l
  induction l with
  | nil => intro _ _ _; rfl
  | cons y l ih =>
    intro a hp hb
    have hy := hb y List.mem_cons_self
    have hc := List.pairwise_cons.1 hp
    simp only [incB, Bool.and_eq_true, Bool.not_eq_true', Bool.or_eq_false_iff, decide_eq_false_iff_not]
    exact ⟨⟨by omega, by omega⟩, ih y hc.2 fun x hx => ⟨hc.1 x hx, (hb x (List.mem_cons_of_mem _ hx)).2⟩⟩
theorem inc_pairs {m : Int} : ∀ (l : List Int) (a : Int), incB m a l = true → l.Pairwise (· < ·) := by
  intro l
  induction l with
  | nil => intro _ _; exact .nil
  | cons y l ih =>
    intro a h
    simp only [incB, Bool.and_eq_true] at h
    exact .cons (fun x hx => (inc_bd l y h.2 x hx).1) (ih y h.2)
theorem daysB_of {l : List Int} (hl : l.length ≤ 64) (hp : l.Pairwise (· < ·)) (hb : ∀ x ∈ l, 0 ≤ x ∧ x ≤ 1048576) : daysB l = true := by
  unfold daysB
  rw [Bool.and_eq_true]
  exact ⟨by simp; omega, inc_of l (-1) hp fun x hx => by have := hb x hx; omega⟩
theorem daysB_pw {l : List Int} (h : daysB l = true) : l.Pairwise (· < ·) := by
  unfold daysB at h
  rw [Bool.and_eq_true] at h
  exact inc_pairs _ _ h.2
theorem count_split {x : Int} : ∀ (l : List Int), l.Pairwise (· < ·) → (∀ y ∈ l.take (l.countP (· < x)), y < x) ∧ ∀ y ∈ l.drop (l.countP (· < x)), x ≤ y := by
  intro l
  induction l with
  | nil => intro _; exact ⟨fun y h => by simp at h, fun y h => by simp at h⟩
  | cons a l ih =>
    intro hp
    have hc := List.pairwise_cons.1 hp
    by_cases ha : a < x
    · rw [List.countP_cons_of_pos (by simpa using ha)]
      obtain ⟨h1, h2⟩ := ih hc.2
      constructor
      · intro y hy
        rw [List.take_succ_cons] at hy
        rcases List.mem_cons.1 hy with rfl | hy
        · exact ha
        · exact h1 y hy
      · intro y hy
        rw [List.drop_succ_cons] at hy
        exact h2 y hy
    · have h0 : (a :: l).countP (· < x) = 0 := by
        rw [List.countP_eq_zero]
        intro y hy
        rcases List.mem_cons.1 hy with rfl | hy
        · simpa using ha
        · have := hc.1 y hy
          simp; omega
      rw [h0]
      exact ⟨fun y hy => by simp at hy, fun y hy => by
        rcases List.mem_cons.1 hy with rfl | hy
        · omega
        · have := hc.1 y hy; omega⟩
theorem daysB_ins {l : List Int} {x : Int} (h : daysB l = true) (hl : l.length ≤ 63) (hx : 0 ≤ x ∧ x ≤ 1048576) (hn : l.contains x = false) : daysB (insL l (l.countP (· < x)) x) = true := by
  have hp := daysB_pw h
  obtain ⟨h1, h2⟩ := count_split (x := x) l hp
  have hn2 : ∀ y ∈ l.drop (l.countP (· < x)), x < y := fun y hy => by
    have := h2 y hy
    rcases Int.lt_or_eq_of_le this with h3 | h3
    · exact h3
    · exfalso
      subst h3
      have hm := List.mem_of_mem_drop hy
      rw [List.contains_iff_mem.2 hm] at hn
      cases hn
  refine daysB_of (by rw [insL_len]; omega) ?_ ?_
  · unfold insL
    rw [List.pairwise_append]
    refine ⟨hp.sublist (List.take_sublist ..), List.pairwise_cons.2 ⟨hn2, hp.sublist (List.drop_sublist ..)⟩, fun a ha b hb => ?_⟩
    have h3 := h1 a ha
    rcases List.mem_cons.1 hb with rfl | hb
    · exact h3
    · have := hn2 b hb; omega
  · intro y hy
    unfold insL at hy
    rcases List.mem_append.1 hy with hy | hy
    · exact daysB_bd h y (List.mem_of_mem_take hy)
    · rcases List.mem_cons.1 hy with rfl | hy
      · exact hx
      · exact daysB_bd h y (List.mem_of_mem_drop hy)
def moreL (fr : Int) (n : Nat) : List Int := (List.range n).map fun i : Nat => fr + (i : Int)
theorem moreL_succ (fr : Int) (n : Nat) : moreL fr (n + 1) = moreL fr n ++ [fr + (n : Int)] := by
  unfold moreL; rw [List.range_succ, List.map_append]; rfl
theorem moreL_len (fr : Int) (n : Nat) : (moreL fr n).length = n := by simp [moreL]
theorem moreL_get {fr : Int} {n i : Nat} (h : i < (moreL fr n).length) : (moreL fr n)[i] = fr + (i : Int) := by simp [moreL]
theorem moreL_days {fr : Int} (h : 0 ≤ fr ∧ fr ≤ 1048512) : daysB (moreL fr 64) = true := by
  refine daysB_of (by rw [moreL_len]; omega) ?_ ?_
  · refine List.pairwise_iff_getElem.2 fun i j hi hj hij => ?_
    rw [moreL_get, moreL_get]; omega
  · intro x hx
    obtain ⟨i, hi, rfl⟩ := List.mem_iff_getElem.1 hx
    rw [moreL_get]
    rw [moreL_len] at hi
    omega
/-- With one drift more. -/
theorem pin_step {s : Scl} {k : Int} {days grams : List Int} {i : Nat} (hz : scaleE s = 0) (he : days.length = grams.length) (hi : i < days.length) (hg : i < grams.length) :
    pinB s k (days.take (i + 1)) (grams.take (i + 1)) = ((pinB s k (days.take i) (grams.take i) && (List.range i).all fun j => pinB s k [days.getD j 0, days[i]] [grams.getD j 0, grams[i]]) && pinB s k [days[i]] [grams[i]]) := by
  rw [Bool.eq_iff_iff]
  simp only [Bool.and_eq_true, List.all_eq_true, List.mem_range]
  rw [pin_iff hz (by simp [he]), pin_iff hz (by simp [he]), pin1 hz, decide_eq_true_eq]
  have hget : ∀ (l : List Int) (j : Nat) (h : j < l.length), l.getD j 0 = l[j] := fun l j h => by simp [List.getD_eq_getElem?_getD, h]
  constructor
  · intro h
    have hi1 : i < (days.take (i + 1)).length := by rw [List.length_take]; omega
    have hi2 : i < (grams.take (i + 1)).length := by rw [List.length_take]; omega
    have hl := h i hi1 hi2
    rw [List.getElem_take, List.getElem_take] at hl
    refine ⟨⟨fun a ha hb => ?_, fun j hj => ?_⟩, hl.1⟩
    · rw [List.length_take] at ha hb
      have h2 := h a (by rw [List.length_take]; omega) (by rw [List.length_take]; omega)
      rw [List.getElem_take, List.getElem_take] at h2 ⊢
      refine ⟨h2.1, fun j hj => ?_⟩
      have h3 := h2.2 j hj
      rw [List.getElem_take, List.getElem_take] at h3 ⊢
      exact h3
    · rw [hget days j (by omega), hget grams j (by omega), pin2 hz, decide_eq_true_eq]
      have h2 := h j (by rw [List.length_take]; omega) (by rw [List.length_take]; omega)
      rw [List.getElem_take, List.getElem_take] at h2
      have h3 := hl.2 j hj
      rw [List.getElem_take, List.getElem_take] at h3
      exact ⟨h2.1, hl.1, h3⟩
  · rintro ⟨⟨h1, h2⟩, h3⟩ a ha hb
    rw [List.length_take] at ha hb
    rw [List.getElem_take, List.getElem_take]
    rcases Nat.lt_or_ge a i with hai | hai
    · have h4 := h1 a (by rw [List.length_take]; omega) (by rw [List.length_take]; omega)
      rw [List.getElem_take, List.getElem_take] at h4
      refine ⟨h4.1, fun j hj => ?_⟩
      have h5 := h4.2 j hj
      rw [List.getElem_take, List.getElem_take] at h5 ⊢
      exact h5
    · obtain rfl : a = i := by omega
      refine ⟨h3, fun j hj => ?_⟩
      have h4 := h2 j hj
      rw [hget days j (by omega), hget grams j (by omega), pin2 hz, decide_eq_true_eq] at h4
      rw [List.getElem_take, List.getElem_take]
      exact h4.2.2
end Go.Proofs.YtphoomnonenalaaDoor
