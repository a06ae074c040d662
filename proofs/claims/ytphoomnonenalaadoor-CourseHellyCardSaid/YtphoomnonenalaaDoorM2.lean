/- More of the chapter's functions, plain. -/
import Derived.Test.YtphoomnonenalaaDoorM1
import Derived.Test.YtphoomnonenalaaDoorAbB
namespace Go.Proofs.YtphoomnonenalaaDoor
open Go.Ab
theorem flat1 {α β : Type} (f : α → β) : ∀ (l : List α), (l.map fun x => [f x]).flatten = l.map f := by
  intro l
  induction l with
  | nil => rfl
  | cons a l ih => simp only [List.map_cons, List.flatten_cons, ih]; rfl
theorem flat_rep1 {β : Type} (u : β) : ∀ n, (List.replicate n [u]).flatten = List.replicate n u := by
  intro n
  induction n with
  | zero => rfl
  | succ n ih => simp only [List.replicate_succ, List.flatten_cons, ih]; rfl
/-! ### a further test -/
def lastBad (l : List Tst) (t : Tst) : Bool := match l.getLast? with | none => false | some q => decide (t.known < q.known)
def addE (s : Scl) (t : Tst) : Int := if scaleE s = 0 then (if testB t then (if s.tests.length = 64 then 2 else if lastBad s.tests t then 1 else if s.tests.any (fun x => contraB s.rate x t) then 13 else 0) else 10) else scaleE s
theorem anyc_at {r : Int} {t : Tst} {l : List Tst} {k : Nat} (h : k < l.length) : (l.drop k).any (fun x => contraB r x t) = (contraB r l[k] t || (l.drop (k + 1)).any (fun x => contraB r x t)) := by
  rw [List.drop_eq_getElem_cons h]; rfl
theorem lastBad_at {l : List Tst} {t : Tst} (h : l.length - 1 < l.length) : lastBad l t = decide (t.known < l[l.length - 1].known) := by
  unfold lastBad
  rw [List.getLast?_eq_getElem?, List.getElem?_eq_getElem h]
theorem lastBad_nil {l : List Tst} {t : Tst} (h : l.length = 0) : lastBad l t = false := by
  rw [List.length_eq_zero_iff] at h; subst h; rfl
/-! ### increasing lists -/
def incB (most : Int) : Int → List Int → Bool
  | _, [] => true
  | a, x :: l => !(decide (x ≤ a) || decide (x > most)) && incB most x l
def prevI (a : Int) (l : List Int) : Nat → Int
  | 0 => a
  | k + 1 => (l[k]?).getD a
theorem inc_at {m a : Int} {l : List Int} {k : Nat} (h : k < l.length) : incB m (prevI a l k) (l.drop k) = (!(decide (l[k] ≤ prevI a l k) || decide (l[k] > m)) && incB m (prevI a l (k + 1)) (l.drop (k + 1))) := by
  rw [List.drop_eq_getElem_cons h]
  simp [incB, prevI, h]
theorem inc_bd {m : Int} : ∀ (l : List Int) (a : Int), incB m a l = true → ∀ x ∈ l, a < x ∧ x ≤ m := by
  intro l
  induction l with
  | nil => intro a _ x h; simp at h
  | cons y l ih =>
    intro a h x hx
    simp only [incB, Bool.and_eq_true, Bool.not_eq_true', Bool.or_eq_false_iff, decide_eq_false_iff_not] at h
    rcases List.mem_cons.1 hx with hh | hh
    · subst hh; omega
    · have := ih y h.2 x hh; omega
def daysB (l : List Int) : Bool := decide ((l.length : Int) ≤ 64) && incB 1048576 (-1) l
theorem daysB_len {l : List Int} (h : daysB l = true) : l.length ≤ 64 := by simp [daysB] at h; omega
theorem daysB_bd {l : List Int} (h : daysB l = true) : ∀ x ∈ l, 0 ≤ x ∧ x ≤ 1048576 := by
  simp only [daysB, Bool.and_eq_true] at h
  intro x hx
  have := inc_bd l _ h.2 x hx
  omega
def givenE (s : Scl) (known : Int) (days grams : List Int) : Int := if askE s [known] = 0 then (if days.length = grams.length ∧ daysB days = true then 0 else 1) else askE s [known]
theorem givenE_0 {s : Scl} {known : Int} {days grams : List Int} (h : givenE s known days grams = 0) : askE s [known] = 0 ∧ days.length = grams.length ∧ daysB days = true := by
  unfold givenE at h
  by_cases h1 : askE s [known] = 0
  · rw [if_pos h1] at h
    by_cases h2 : days.length = grams.length ∧ daysB days = true
    · exact ⟨h1, h2⟩
    · rw [if_neg h2] at h; simp at h
  · rw [if_neg h1] at h; exact absurd h h1
/-! ### pinned drifts -/
def pins (days grams : List Int) : List Tst := (days.zip grams).map fun p => ⟨p.1, 0, p.2, p.2⟩
theorem pins_at {days grams : List Int} {k : Nat} (h : k < days.length) (h2 : k < grams.length) : pins (days.take (k + 1)) (grams.take (k + 1)) = pins (days.take k) (grams.take k) ++ [⟨days[k], 0, grams[k], grams[k]⟩] := by
  unfold pins
  rw [List.take_succ_eq_append_getElem h, List.take_succ_eq_append_getElem h2, List.zip_append (by simp; omega), List.map_append]
  rfl
theorem pins_len {days grams : List Int} : (pins days grams).length ≤ days.length := by
  unfold pins; rw [List.length_map, List.length_zip]; omega
def pinL (s : Scl) (known : Int) (days grams : List Int) : List Tst := knownL s known ++ pins days grams
def pinB (s : Scl) (known : Int) (days grams : List Int) : Bool := grams.all driftB && (pairs s.rate (pinL s known days grams) 0).isNone
theorem alld_at {l : List Int} {k : Nat} (h : k < l.length) : (l.drop k).all driftB = (driftB l[k] && (l.drop (k + 1)).all driftB) := by
  rw [List.drop_eq_getElem_cons h]; rfl
theorem driftB_bd {n : Int} (h : driftB n = true) : -1048576 ≤ n ∧ n ≤ 1048576 := by simp [driftB] at h; exact h
theorem pinL_ok {s : Scl} {known : Int} {days grams : List Int} (hs : scaleB s = true) (hd : daysB days = true) (hg : grams.all driftB = true) : ∀ t ∈ pinL s known days grams, testB t = true := by
  intro t ht
  rcases List.mem_append.1 ht with h | h
  · exact scaleB_tests hs t (mem_known h)
  · obtain ⟨⟨a, b⟩, hp, rfl⟩ := List.mem_map.1 h
    have h1 := daysB_bd hd a (List.of_mem_zip hp).1
    have h2 := driftB_bd (List.all_eq_true.1 hg b (List.of_mem_zip hp).2)
    simp [testB, dayB, driftB]; omega
theorem pinL_len {s : Scl} {known : Int} {days grams : List Int} (hs : scaleB s = true) (hd : daysB days = true) : (pinL s known days grams).length ≤ 128 := by
  have h1 := known_len s known
  have h2 := scaleB_len hs
  have h3 := daysB_len hd
  have h4 := @pins_len days grams
  unfold pinL; rw [List.length_append]; omega
def extL (s : Scl) (known : Int) (days grams more : List Int) : List Int := more.map fun d => drHi s.rate (pinL s known days grams) d
end Go.Proofs.YtphoomnonenalaaDoor
