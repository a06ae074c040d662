/- The chapter's data and functions, plain. -/
import Derived.Test.YtphoomnonenalaaDoorF1
import Derived.Test.YtphoomnonenalaaDoorProg
namespace Go.Proofs.YtphoomnonenalaaDoor
open Go.Ab
def I (n : Int) : AV := .sc (.int .i64 n)
def B (b : Bool) : AV := .sc (.bool b)
theorem mixed : Tryd.prog.follows .mixedOrders = true := by kernel_rfl

structure Tst where
  day : Int
  known : Int
  lo : Int
  hi : Int
structure Scl where
  no : Int
  rate : Int
  tests : List Tst
structure Stk where
  depth : Int
  core : Int
  full : Int
  lost : Int
  soil : Int
structure Sht where
  no : Int
  cell : Int
  day : Int
  known : Int
  scale : Int
  mouth : Int
  empty : Int
  emptyDay : Int
  stakes : List Stk
structure Spn where
  lo : Int
  hi : Int
  deriving DecidableEq

def ints (l : List Int) : List (List AV) := l.map fun x => [I x]
def eT (t : Tst) : List AV := [I t.day, I t.known, I t.lo, I t.hi]
def tests (l : List Tst) : List (List AV) := l.map eT
def eS (s : Scl) : List AV := [I s.no, I s.rate, .sl (tests s.tests)]
def eK (k : Stk) : List AV := [I k.depth, I k.core, I k.full, I k.lost, I k.soil]
def stakes (l : List Stk) : List (List AV) := l.map eK
def eH (h : Sht) : List AV := [I h.no, I h.cell, I h.day, I h.known, I h.scale, I h.mouth, I h.empty, I h.emptyDay, .sl (stakes h.stakes)]
def eP (s : Spn) : List AV := [I s.lo, I s.hi]

theorem ints_get {l : List Int} {k : Nat} (h : k < l.length) : (ints l)[((k : Nat) : Int).toNat]? = some [I l[k]] := by simp [ints, h]
theorem tests_get {l : List Tst} {k : Nat} (h : k < l.length) : (tests l)[((k : Nat) : Int).toNat]? = some (eT l[k]) := by simp [tests, h]
theorem stakes_get {l : List Stk} {k : Nat} (h : k < l.length) : (stakes l)[((k : Nat) : Int).toNat]? = some (eK l[k]) := by simp [stakes, h]
theorem ints_len (l : List Int) : (ints l).length = l.length := by simp [ints]
theorem tests_len (l : List Tst) : (tests l).length = l.length := by simp [tests]
theorem stakes_len (l : List Stk) : (stakes l).length = l.length := by simp [stakes]

def mn (a : Int) (l : List Int) : Int := l.foldl (fun m x => if x < m then x else m) a
def mx (a : Int) (l : List Int) : Int := l.foldl (fun m x => if m < x then x else m) a
theorem mn_take {a : Int} {l : List Int} {k : Nat} (h : k < l.length) : mn a (l.take (k + 1)) = if l[k] < mn a (l.take k) then l[k] else mn a (l.take k) := by
  unfold mn; rw [List.take_succ_eq_append_getElem h, List.foldl_append]; rfl
theorem mx_take {a : Int} {l : List Int} {k : Nat} (h : k < l.length) : mx a (l.take (k + 1)) = if mx a (l.take k) < l[k] then l[k] else mx a (l.take k) := by
  unfold mx; rw [List.take_succ_eq_append_getElem h, List.foldl_append]; rfl

def dayB (n : Int) : Bool := decide (0 ≤ n) && decide (n ≤ 1048576)
def noB (n : Int) : Bool := decide (0 ≤ n) && decide (n ≤ 4095)
def driftB (n : Int) : Bool := decide (-1048576 ≤ n) && decide (n ≤ 1048576)
def weightB (n : Int) : Bool := decide (0 ≤ n) && decide (n ≤ 1048576)
def far (a b : Int) : Int := if a < b then b - a else a - b
theorem mul_bd {r x : Int} (h1 : 0 ≤ r) (h2 : r ≤ 1000) (h3 : 0 ≤ x) (h4 : x ≤ 4194304) : 0 ≤ r * x ∧ r * x ≤ 4194304000 := by
  refine ⟨Int.mul_nonneg h1 h3, ?_⟩
  have := Int.mul_le_mul h2 h4 h3 (by omega)
  omega
def testB (t : Tst) : Bool := dayB t.day && dayB t.known && driftB t.lo && driftB t.hi && !decide (t.lo > t.hi)
def contraB (r : Int) (a b : Tst) : Bool := decide (mx (a.lo - b.hi) [b.lo - a.hi] > r * far a.day b.day)

theorem tests_z {l : List Tst} : ∀ e ∈ tests l, e.length = 4 := by intro e he; obtain ⟨_, _, rfl⟩ := List.mem_map.1 he; rfl
theorem ints_z {l : List Int} : ∀ e ∈ ints l, e.length = 1 := by intro e he; obtain ⟨_, _, rfl⟩ := List.mem_map.1 he; rfl
theorem stakes_z {l : List Stk} : ∀ e ∈ stakes l, e.length = 5 := by intro e he; obtain ⟨_, _, rfl⟩ := List.mem_map.1 he; rfl
theorem tests_from (l : List Tst) (k : Nat) : ((tests l).drop k).take ((tests l).length - k) = tests (l.drop k) := by
  simp only [tests, ← List.map_drop]
  rw [List.take_of_length_le (by simp)]

/-! ### valid scales -/
def prevT (l : List Tst) : Nat → Option Tst
  | 0 => none
  | k + 1 => l[k]?
def badP (p : Option Tst) (t : Tst) : Bool := !testB t || (match p with | none => false | some q => decide (t.known < q.known))
def oks (p : Option Tst) : List Tst → Bool
  | [] => true
  | t :: l => !badP p t && oks (some t) l
def scaleB (s : Scl) : Bool := noB s.no && !decide (s.rate < 0) && !decide (s.rate > 1000) && !decide (64 < s.tests.length) && oks none s.tests
theorem oks_at {l : List Tst} {k : Nat} (h : k < l.length) : oks (prevT l k) (l.drop k) = (!badP (prevT l k) l[k] && oks (prevT l (k + 1)) (l.drop (k + 1))) := by
  rw [List.drop_eq_getElem_cons h]
  simp [oks, prevT, h]
theorem oks_end {l : List Tst} : oks (prevT l l.length) (l.drop l.length) = true := by simp [oks]

/-! ### pairs of tests that contradict each other -/
def pairs (r : Int) : List Tst → Nat → Option (Nat × Nat)
  | [], _ => none
  | a :: l, i => match l.findIdx? (contraB r a) with
    | some j => some (i, i + 1 + j)
    | none => pairs r l (i + 1)
theorem find_at {r : Int} {a : Tst} {l : List Tst} {j : Nat} (h : j < l.length) : (l.drop j).findIdx? (contraB r a) = if contraB r a l[j] then some 0 else ((l.drop (j + 1)).findIdx? (contraB r a)).map (· + 1) := by
  rw [List.drop_eq_getElem_cons h, List.findIdx?_cons]
theorem pairs_at {r : Int} {l : List Tst} {k : Nat} (h : k < l.length) : pairs r (l.drop k) k = match (l.drop (k + 1)).findIdx? (contraB r l[k]) with
    | some j => some (k, k + 1 + j)
    | none => pairs r (l.drop (k + 1)) (k + 1) := by
  rw [List.drop_eq_getElem_cons h]; rfl

/-! ### errors of scales; known tests; drifts -/
def scaleE (s : Scl) : Int := if scaleB s then (if (pairs s.rate s.tests 0).isSome then 13 else 0) else 11
def knownL (s : Scl) (d : Int) : List Tst := s.tests.filter fun t => decide (t.known ≤ d)
theorem tests_snoc (l : List Tst) (t : Tst) : tests l ++ [eT t] = tests (l ++ [t]) := by simp [tests]
theorem ints_snoc (l : List Int) (t : Int) : ints l ++ [[I t]] = ints (l ++ [t]) := by simp [ints]
theorem known_take {s : Scl} {d : Int} {k : Nat} (h : k < s.tests.length) : (s.tests.take (k + 1)).filter (fun t => decide (t.known ≤ d)) = (s.tests.take k).filter (fun t => decide (t.known ≤ d)) ++ if s.tests[k].known ≤ d then [s.tests[k]] else [] := by
  rw [List.take_succ_eq_append_getElem h, List.filter_append]
  congr 1
  by_cases hc : s.tests[k].known ≤ d <;> simp [hc]
def drLo (r : Int) (l : List Tst) (d : Int) : Int := mx (-1048576) (l.map fun t => t.lo - r * far t.day d)
def drHi (r : Int) (l : List Tst) (d : Int) : Int := mn 1048576 (l.map fun t => t.hi + r * far t.day d)
theorem scaleB_rate {s : Scl} (h : scaleB s = true) : 0 ≤ s.rate ∧ s.rate ≤ 1000 := by
  simp [scaleB] at h; omega
theorem scaleB_len {s : Scl} (h : scaleB s = true) : s.tests.length ≤ 64 := by
  simp [scaleB] at h; omega
theorem oks_all : ∀ (l : List Tst) (p : Option Tst), oks p l = true → ∀ t ∈ l, testB t = true := by
  intro l
  induction l with
  | nil => intro p _ t h; simp at h
  | cons a l ih =>
    intro p h t ht
    simp only [oks, Bool.and_eq_true] at h
    rcases List.mem_cons.1 ht with hh | hh
    · subst hh
      have := h.1
      simp only [badP, Bool.not_or, Bool.and_eq_true, Bool.not_not] at this
      exact this.1
    · exact ih _ h.2 t hh
theorem scaleB_tests {s : Scl} (h : scaleB s = true) : ∀ t ∈ s.tests, testB t = true := by
  simp only [scaleB, Bool.and_eq_true] at h
  exact oks_all _ _ h.2
theorem testB_bd {t : Tst} (h : testB t = true) : 0 ≤ t.day ∧ t.day ≤ 1048576 ∧ 0 ≤ t.known ∧ t.known ≤ 1048576 ∧ -1048576 ≤ t.lo ∧ t.lo ≤ t.hi ∧ t.hi ≤ 1048576 := by
  simp [testB, dayB, driftB] at h; omega
theorem mem_known {s : Scl} {d : Int} {t : Tst} (h : t ∈ knownL s d) : t ∈ s.tests := (List.mem_filter.1 h).1
theorem known_len (s : Scl) (d : Int) : (knownL s d).length ≤ s.tests.length := List.length_filter_le _ _

def askE (s : Scl) (days : List Int) : Int := if scaleE s = 0 then (if days.all dayB then 0 else 1) else scaleE s
theorem scaleE_0 {s : Scl} (h : scaleE s = 0) : scaleB s = true := by
  unfold scaleE at h
  cases hs : scaleB s with
  | true => rfl
  | false => rw [hs] at h; simp at h
theorem askE_0 {s : Scl} {days : List Int} (h : askE s days = 0) : scaleE s = 0 ∧ days.all dayB = true := by
  unfold askE at h
  by_cases h1 : scaleE s = 0
  · rw [if_pos h1] at h
    refine ⟨h1, ?_⟩
    cases h2 : days.all dayB with
    | true => rfl
    | false => rw [h2] at h; simp at h
  · rw [if_neg h1] at h; exact absurd h h1
theorem dayB_bd {n : Int} (h : dayB n = true) : 0 ≤ n ∧ n ≤ 1048576 := by simp [dayB] at h; exact h
theorem all_at {l : List Int} {k : Nat} (h : k < l.length) : (l.drop k).all dayB = (dayB l[k] && (l.drop (k + 1)).all dayB) := by
  rw [List.drop_eq_getElem_cons h]; rfl
theorem far_bd {a b : Int} (h1 : 0 ≤ a ∧ a ≤ 1048576) (h2 : 0 ≤ b ∧ b ≤ 1048576) : 0 ≤ far a b ∧ far a b ≤ 4194304 := by unfold far; split <;> omega
theorem mx_ge (a : Int) : ∀ (l : List Int), a ≤ mx a l := by
  intro l
  unfold mx
  induction l generalizing a with
  | nil => exact Int.le_refl _
  | cons x l ih => simp only [List.foldl_cons]; exact Int.le_trans (by split <;> omega) (ih (if a < x then x else a))
theorem mn_le (a : Int) : ∀ (l : List Int), mn a l ≤ a := by
  intro l
  unfold mn
  induction l generalizing a with
  | nil => exact Int.le_refl _
  | cons x l ih => simp only [List.foldl_cons]; exact Int.le_trans (ih (if x < a then x else a)) (by split <;> omega)
theorem mx_bd {a b : Int} : ∀ (l : List Int), a ≤ b → (∀ x ∈ l, x ≤ b) → mx a l ≤ b := by
  intro l
  unfold mx
  induction l generalizing a with
  | nil => intro h _; exact h
  | cons x l ih =>
    intro h hl
    simp only [List.foldl_cons]
    refine ih ?_ fun y hy => hl y (by simp [hy])
    split
    · exact hl x (by simp)
    · exact h
theorem mn_bd {a b : Int} : ∀ (l : List Int), b ≤ a → (∀ x ∈ l, b ≤ x) → b ≤ mn a l := by
  intro l
  unfold mn
  induction l generalizing a with
  | nil => intro h _; exact h
  | cons x l ih =>
    intro h hl
    simp only [List.foldl_cons]
    refine ih ?_ fun y hy => hl y (by simp [hy])
    split
    · exact hl x (by simp)
    · exact h
theorem dr_bd {r : Int} {l : List Tst} {d : Int} (hr : 0 ≤ r ∧ r ≤ 1000) (hd : 0 ≤ d ∧ d ≤ 1048576) (hv : ∀ t ∈ l, testB t = true) : -1048576 ≤ drLo r l d ∧ drLo r l d ≤ 1048576 ∧ -1048576 ≤ drHi r l d ∧ drHi r l d ≤ 1048576 := by
  refine ⟨mx_ge _ _, mx_bd _ (by omega) fun x hx => ?_, mn_bd _ (by omega) fun x hx => ?_, mn_le _ _⟩
  · obtain ⟨t, ht, rfl⟩ := List.mem_map.1 hx
    have hb := testB_bd (hv t ht)
    have hf := far_bd (a := t.day) (b := d) ⟨hb.1, hb.2.1⟩ hd
    have := (mul_bd hr.1 hr.2 hf.1 hf.2).1
    omega
  · obtain ⟨t, ht, rfl⟩ := List.mem_map.1 hx
    have hb := testB_bd (hv t ht)
    have hf := far_bd (a := t.day) (b := d) ⟨hb.1, hb.2.1⟩ hd
    have := (mul_bd hr.1 hr.2 hf.1 hf.2).1
    omega
def drS (s : Scl) (day known : Int) : Spn := ⟨drLo s.rate (knownL s known) day, drHi s.rate (knownL s known) day⟩
def tnS (s : Scl) (a b known : Int) : Spn := ⟨mx (0 - s.rate * far a b) [(drS s b known).lo - (drS s a known).hi], mn (s.rate * far a b) [(drS s b known).hi - (drS s a known).lo]⟩
theorem drS_bd {s : Scl} {d k : Int} (hs : scaleB s = true) (hd : 0 ≤ d ∧ d ≤ 1048576) : -1048576 ≤ (drS s d k).lo ∧ (drS s d k).lo ≤ 1048576 ∧ -1048576 ≤ (drS s d k).hi ∧ (drS s d k).hi ≤ 1048576 :=
  dr_bd (scaleB_rate hs) hd fun t ht => scaleB_tests hs t (mem_known ht)
end Go.Proofs.YtphoomnonenalaaDoor
