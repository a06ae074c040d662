/- A word with at most two changed bytes has one code word: the mathematics. -/
import Derived.Test.YtnpcmealdfapjaaDoorR9O
set_option linter.unusedVariables false
set_option linter.unusedSimpArgs false
namespace Go.Ex
theorem pr_0l {x : Nat} (hx : x < 256) : pr 0 x = 0 := by rw [pr_comm (by omega) hx, pr_zero]
theorem mulK_pr : ∀ (k p x : Nat), mulK k (pr p x) x = pr (mulK k p x) x := by
  intro k
  induction k with
  | zero => intro p x; rfl
  | succ k ih => intro p x; exact ih (pr p x) x
theorem mulK_succ (k p x : Nat) : mulK (k + 1) p x = pr (mulK k p x) x := mulK_pr k p x
theorem mulK_xor {x : Nat} : ∀ (k a b : Nat), a < 256 → b < 256 → mulK k (a ^^^ b) x = mulK k a x ^^^ mulK k b x := by
  intro k
  induction k with
  | zero => intro a b _ _; rfl
  | succ k ih => intro a b ha hb; show mulK k (pr (a ^^^ b) x) x = _; rw [pr_xorL ha hb, ih _ _ (pr_lt _ _ ha) (pr_lt _ _ hb)]; rfl
theorem mulK_prL {x c : Nat} (hx : x < 256) (hc : c < 256) : ∀ (k a : Nat), a < 256 → mulK k (pr a c) x = pr (mulK k a x) c := by
  intro k
  induction k with
  | zero => intro a _; rfl
  | succ k ih =>
    intro a ha
    show mulK k (pr (pr a c) x) x = pr (mulK k (pr a x) x) c
    rw [pr_assoc ha hc hx, pr_comm hc hx, ← pr_assoc ha hx hc, ih _ (pr_lt _ _ ha)]
theorem mulK_zero {x : Nat} (hx : x < 256) : ∀ k, mulK k 0 x = 0 := by
  intro k
  induction k with
  | zero => rfl
  | succ k ih => show mulK k (pr 0 x) x = 0; rw [pr_0l hx, ih]
theorem pr_nz {d c : Nat} (hd : d < 256) (hc : c < 256) (h0 : 0 < c) (e : pr d c = 0) : d = 0 := by
  have h1 := pr_assoc hd hc (inv_lt c hc)
  rw [e, pr_inv hc h0, pr_one hd, pr_0l (inv_lt c hc)] at h1
  exact h1.symm
theorem xor_eq0 {a b : Nat} (h : a ^^^ b = 0) : a = b := by
  have : a ^^^ b ^^^ b = 0 ^^^ b := by rw [h]
  rw [Nat.xor_assoc, Nat.xor_self, Nat.xor_zero, Nat.zero_xor] at this; exact this
theorem xor_pos {a b : Nat} (h : a ≠ b) : 0 < a ^^^ b := by
  rcases Nat.eq_zero_or_pos (a ^^^ b) with h1 | h1
  · exact absurd (xor_eq0 h1) h
  · exact h1
/-- The sum of terms: (byte, point). -/
def tS : List (Nat × Nat) → Nat → Nat
  | [], _ => 0
  | p :: l, j => mulK j p.1 p.2 ^^^ tS l j
def t8 (l : List (Nat × Nat)) : Prop := ∀ p ∈ l, p.1 < 256 ∧ p.2 < 256
theorem tS_lt : ∀ (l : List (Nat × Nat)) (j : Nat), t8 l → tS l j < 256 := by
  intro l
  induction l with
  | nil => intro j _; exact (by decide : 0 < 256)
  | cons p l ih => intro j h; exact xor_lt (mulK_lt _ _ _ (h p List.mem_cons_self).1) (ih j fun q hq => h q (List.mem_cons_of_mem _ hq))
def tM (x : Nat) (p : Nat × Nat) : Nat × Nat := (pr p.1 (p.2 ^^^ x), p.2)
theorem one_step {b y x : Nat} (hb : b < 256) (hy : y < 256) (hx : x < 256) (j : Nat) : mulK (j + 1) b y ^^^ pr (mulK j b y) x = mulK j (pr b (y ^^^ x)) y := by
  rw [mulK_succ, ← pr_xorR, mulK_prL hy (xor_lt hy hx) _ _ hb]
theorem tS_step {x : Nat} (hx : x < 256) (j : Nat) : ∀ (l : List (Nat × Nat)), t8 l → tS l (j + 1) ^^^ pr (tS l j) x = tS (l.map (tM x)) j := by
  intro l
  induction l with
  | nil => intro _; show 0 ^^^ pr 0 x = 0; rw [pr_0l hx, Nat.xor_zero]
  | cons p l ih =>
    intro h
    have hp := h p List.mem_cons_self
    have hl : t8 l := fun q hq => h q (List.mem_cons_of_mem _ hq)
    show (mulK (j + 1) p.1 p.2 ^^^ tS l (j + 1)) ^^^ pr (mulK j p.1 p.2 ^^^ tS l j) x = mulK j (pr p.1 (p.2 ^^^ x)) p.2 ^^^ tS (l.map (tM x)) j
    rw [pr_xorL (mulK_lt _ _ _ hp.1) (tS_lt l j hl), x4, one_step hp.1 hp.2 hx, ih hl]
theorem VD : ∀ (N : Nat) (ts : List (Nat × Nat)) (d w : Nat), ts.length = N → t8 ts → d < 256 → w < 256 → (∀ j, j < N + 1 → tS ts j ^^^ mulK j d w = 0) → (∀ p ∈ ts, p.2 ≠ w) → d = 0 := by
  intro N
  induction N with
  | zero =>
    intro ts d w hN _ _ _ h _
    cases ts with
    | nil => have := h 0 (by omega); rw [show tS [] 0 = 0 from rfl, Nat.zero_xor] at this; exact this
    | cons p l => cases hN
  | succ N ih =>
    intro ts d w hN h8 hd hw h hne
    cases ts with
    | nil => cases hN
    | cons p l =>
      have hp := h8 p List.mem_cons_self
      have hl : t8 l := fun q hq => h8 q (List.mem_cons_of_mem _ hq)
      have hwx : w ^^^ p.2 < 256 := xor_lt hw hp.2
      have h0 : pr d (w ^^^ p.2) = 0 := by
        refine ih (l.map (tM p.2)) (pr d (w ^^^ p.2)) w (by rw [List.length_map]; simpa using hN) (fun q hq => ?_) (pr_lt _ _ hd) hw (fun j hj => ?_) (fun q hq => ?_)
        · obtain ⟨r, hr, rfl⟩ := List.mem_map.1 hq
          exact ⟨pr_lt _ _ (hl r hr).1, (hl r hr).2⟩
        · have e1 := h j (by omega)
          have e2 := h (j + 1) (by omega)
          have e3 := tS_step hp.2 j (p :: l) h8
          have e4 : tS ((p :: l).map (tM p.2)) j = tS (l.map (tM p.2)) j := by
            show mulK j (pr p.1 (p.2 ^^^ p.2)) p.2 ^^^ tS (l.map (tM p.2)) j = _
            rw [Nat.xor_self, pr_zero, mulK_zero hp.2, Nat.zero_xor]
          rw [← e4, ← e3, ← one_step hd hw hp.2, x4, e2, Nat.zero_xor, ← pr_xorL (tS_lt _ _ h8) (mulK_lt _ _ _ hd), e1, pr_0l hp.2]
        · obtain ⟨r, hr, rfl⟩ := List.mem_map.1 hq
          exact hne r (List.mem_cons_of_mem _ hr)
      exact pr_nz hd hwx (xor_pos fun e => hne p List.mem_cons_self e.symm) h0
/-- Patterns: (place, byte). -/
def pS (xs : List Nat) (P : List (Nat × Nat)) (j : Nat) : Nat := tS (P.map fun p => (p.2, xs.getD p.1 0)) j
def sel (k : Nat) : List (Nat × Nat) → Nat
  | [] => 0
  | p :: l => (if p.1 = k then p.2 else 0) ^^^ sel k l
theorem sel_lt {N : Nat} (k : Nat) : ∀ P : List (Nat × Nat), flOk N P → sel k P < 256 := by
  intro P
  induction P with
  | nil => intro _; exact (by decide : 0 < 256)
  | cons p l ih =>
    intro h
    refine xor_lt ?_ (ih fun q hq => h q (List.mem_cons_of_mem _ hq))
    split
    · exact (h p List.mem_cons_self).2
    · omega
theorem sel_zero {xs : List Nat} {N k : Nat} {P : List (Nat × Nat)} (x8 : all8 xs) (hk : 0 < xs.getD k 0) (hinj : ∀ i, i < N → i ≠ k → xs.getD i 0 ≠ xs.getD k 0) (hP : flOk N P) (h4 : P.length ≤ 5) (h : ∀ j, j < 6 → pS xs P j = 0) : sel k P = 0 := by
  have key : ∀ (P : List (Nat × Nat)), flOk N P → ∀ j, tS (P.map fun p => if p.1 = k then (0, 0) else (p.2, xs.getD p.1 0)) j ^^^ mulK j (sel k P) (xs.getD k 0) = pS xs P j := by
    intro P
    induction P with
    | nil => intro _ j; show 0 ^^^ mulK j 0 _ = 0; rw [mulK_zero (x8 k), Nat.xor_zero]
    | cons p l ih =>
      intro hP j
      have hl : flOk N l := fun q hq => hP q (List.mem_cons_of_mem _ hq)
      have hp := hP p List.mem_cons_self
      have e := ih hl j
      show (mulK j (if p.1 = k then ((0, 0) : Nat × Nat) else (p.2, xs.getD p.1 0)).1 (if p.1 = k then ((0, 0) : Nat × Nat) else (p.2, xs.getD p.1 0)).2 ^^^ _) ^^^ mulK j ((if p.1 = k then p.2 else 0) ^^^ sel k l) (xs.getD k 0) = mulK j p.2 (xs.getD p.1 0) ^^^ pS xs l j
      by_cases hpk : p.1 = k
      · rw [if_pos hpk, if_pos hpk, mulK_xor _ _ _ hp.2 (sel_lt k l hl), x4, e, mulK_zero (by omega), Nat.zero_xor, hpk]
      · rw [if_neg hpk, if_neg hpk, Nat.zero_xor, Nat.xor_assoc, e]
  refine VD P.length (P.map fun p => if p.1 = k then (0, 0) else (p.2, xs.getD p.1 0)) (sel k P) (xs.getD k 0) (by rw [List.length_map]) (fun q hq => ?_) (sel_lt k P hP) (x8 k) (fun j hj => by rw [key P hP]; exact h j (by omega)) (fun q hq => ?_)
  · obtain ⟨r, hr, rfl⟩ := List.mem_map.1 hq
    by_cases hrk : r.1 = k
    · simp [hrk]
    · simp only [if_neg hrk]; exact ⟨(hP r hr).2, x8 _⟩
  · obtain ⟨r, hr, rfl⟩ := List.mem_map.1 hq
    by_cases hrk : r.1 = k
    · simp only [if_pos hrk]; omega
    · simp only [if_neg hrk]; exact hinj _ (hP r hr).1 hrk
theorem tS_app : ∀ (l m : List (Nat × Nat)) (j : Nat), tS (l ++ m) j = tS l j ^^^ tS m j := by
  intro l
  induction l with
  | nil => intro m j; show tS m j = 0 ^^^ tS m j; rw [Nat.zero_xor]
  | cons p l ih => intro m j; show mulK j p.1 p.2 ^^^ tS (l ++ m) j = _; rw [ih, ← Nat.xor_assoc]; rfl
theorem sel_app (k : Nat) : ∀ (l m : List (Nat × Nat)), sel k (l ++ m) = sel k l ^^^ sel k m := by
  intro l
  induction l with
  | nil => intro m; show sel k m = 0 ^^^ sel k m; rw [Nat.zero_xor]
  | cons p l ih => intro m; show (if p.1 = k then p.2 else 0) ^^^ sel k (l ++ m) = _; rw [ih, ← Nat.xor_assoc]; rfl
theorem applyF_at {N : Nat} (k : Nat) : ∀ (P : List (Nat × Nat)) (w : List Nat), flOk w.length P → (applyF P w).getD k 0 = w.getD k 0 ^^^ sel k P := by
  intro P
  induction P with
  | nil => intro w _; show w.getD k 0 = w.getD k 0 ^^^ 0; rw [Nat.xor_zero]
  | cons p l ih =>
    intro w h
    have hp := h p List.mem_cons_self
    show (applyF l (w.set p.1 (w.getD p.1 0 ^^^ p.2))).getD k 0 = w.getD k 0 ^^^ ((if p.1 = k then p.2 else 0) ^^^ sel k l)
    rw [ih _ (by rw [List.length_set]; exact fun q hq => h q (List.mem_cons_of_mem _ hq)), getD_set hp.1]
    by_cases hk : k = p.1
    · subst hk; rw [if_pos rfl, if_pos rfl, Nat.xor_assoc]
    · rw [if_neg hk, if_neg (fun e => hk e.symm), Nat.zero_xor]
theorem list_ext {l m : List Nat} (hl : l.length = m.length) (h : ∀ k, k < l.length → l.getD k 0 = m.getD k 0) : l = m := by
  refine List.ext_getElem hl fun i h1 h2 => ?_
  have := h i h1
  rw [List.getD_eq_getElem?_getD, List.getD_eq_getElem?_getD, List.getElem?_eq_getElem h1, List.getElem?_eq_getElem h2] at this
  exact this
/-- Points that differ, and aren't 0. -/
def Pts (xs : List Nat) (N : Nat) : Prop := all8 xs ∧ (∀ k, k < N → 0 < xs.getD k 0) ∧ ∀ i k, i < N → k < N → i ≠ k → xs.getD i 0 ≠ xs.getD k 0
theorem same_word {xs : List Nat} {w : List Nat} {P P' : List (Nat × Nat)} (hx : Pts xs w.length) (hP : flOk w.length P) (hP' : flOk w.length P') (h2 : P.length ≤ 2) (h2' : P'.length ≤ 2) (h : ∀ j, j < 6 → pS xs P j = pS xs P' j) : applyF P w = applyF P' w := by
  refine list_ext (by rw [applyF_len, applyF_len]) fun k hk => ?_
  rw [applyF_len] at hk
  rw [applyF_at (N := 0) k P w hP, applyF_at (N := 0) k P' w hP']
  have h0 := sel_zero (xs := xs) (N := w.length) (k := k) (P := P ++ P') hx.1 (hx.2.1 k hk) (fun i hi hik => hx.2.2 i k hi hk hik) (fun q hq => (List.mem_append.1 hq).elim (hP q) (hP' q)) (by rw [List.length_append]; omega) (fun j hj => by unfold pS; rw [List.map_append, tS_app]; show pS xs P j ^^^ pS xs P' j = 0; rw [h j hj, Nat.xor_self])
  rw [sel_app] at h0
  rw [xor_eq0 h0]
end Go.Ex

