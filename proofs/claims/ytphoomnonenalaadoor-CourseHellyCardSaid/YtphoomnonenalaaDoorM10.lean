/- Which sheets stand, plain. -/
import Derived.Test.YtphoomnonenalaaDoorM9
set_option linter.unusedSimpArgs false
set_option linter.unusedVariables false
namespace Go.Proofs.YtphoomnonenalaaDoor
open Go.Ab Go.RowKit
theorem over_iff {s : Sht} {i : Nat} {k : Int} {t : Sht} {j : Nat} : overB s i k t j = true ↔ t.no = s.no ∧ t.known ≤ k ∧ (t.known > s.known ∨ t.known = s.known ∧ j > i) := by
  unfold overB
  simp only [Bool.and_eq_true, Bool.or_eq_true, decide_eq_true_eq]
  exact ⟨fun h => ⟨h.1.1, h.1.2, h.2⟩, fun h => ⟨⟨h.1, h.2.1⟩, h.2.2⟩⟩
theorem any_of {f : Sht → Nat → Bool} {l : List Sht} {i : Nat} (h : i < l.length) (hf : f l[i] i = true) : anyF f l 0 = true :=
  (anyF_iff l 0).2 ⟨i, h, by rw [Nat.zero_add]; exact hf⟩
theorem of_any {f : Sht → Nat → Bool} {l : List Sht} (h : anyF f l 0 = true) : ∃ (i : Nat) (hi : i < l.length), f l[i] i = true := by
  obtain ⟨i, hi, hf⟩ := (anyF_iff l 0).1 h
  rw [Nat.zero_add] at hf
  exact ⟨i, hi, hf⟩
theorem exists_top (l : List Sht) (k : Int) : ∀ (n i : Nat) (hi : i < l.length), (k - l[i].known).toNat * (l.length + 1) + (l.length - i) ≤ n → l[i].known ≤ k →
    ∃ (m : Nat) (hm : m < l.length), l[m].no = l[i].no ∧ l[m].known ≤ k ∧ anyF (overB l[m] m k) l 0 = false := by
  intro n
  induction n with
  | zero => intro i hi h _; omega
  | succ n ih =>
    intro i hi h hk
    cases ha : anyF (overB l[i] i k) l 0 with
    | false => exact ⟨i, hi, rfl, hk, ha⟩
    | true =>
      obtain ⟨j, hj, hf⟩ := of_any ha
      obtain ⟨h1, h2, h3⟩ := over_iff.1 hf
      obtain ⟨m, hm, e1, e2, e3⟩ := ih j hj (by
        rcases h3 with h3 | ⟨h3, h4⟩
        · have e : (k - l[j].known).toNat + 1 ≤ (k - l[i].known).toNat := by omega
          have := Nat.mul_le_mul_right (l.length + 1) e
          rw [Nat.add_mul, Nat.one_mul] at this
          omega
        · rw [h3]; omega) h2
      exact ⟨m, hm, e1.trans h1, e2, e3⟩
theorem ok_iff {l : List Sht} {wd : List Int} {k : Int} {i : Nat} (h : i < l.length) : okS l wd k i = true ↔ wd.contains l[i].no = false ∧ l[i].known ≤ k ∧ anyF (overB l[i] i k) l 0 = false := by
  rw [okS_at h]
  unfold standB
  simp only [Bool.and_eq_true, Bool.not_eq_true', decide_eq_true_eq]
def hasNo (l : List Sht) (s : Sht) (x : Int) : Bool := match l[x.toNat]? with | some t => t.no == s.no | none => false
theorem stands_iff (l : List Sht) (wd : List Int) (k : Int) (s : Sht) : (standL l wd k).any (hasNo l s) = (!wd.contains s.no && l.any (fun x => (x.no == s.no) && decide (x.known ≤ k))) := by
  rw [Bool.eq_iff_iff, List.any_eq_true, Bool.and_eq_true, Bool.not_eq_true', List.any_eq_true]
  constructor
  · rintro ⟨x, hx, hn⟩
    obtain ⟨i, hi, hp, rfl⟩ := pickL_mem.1 hx
    obtain ⟨h1, h2, h3⟩ := (ok_iff hi).1 hp
    have he : l[i].no = s.no := by
      unfold hasNo at hn
      rw [show ((i : Nat) : Int).toNat = i by omega, List.getElem?_eq_getElem hi] at hn
      simpa using hn
    exact ⟨by rw [← he]; exact h1, l[i], List.getElem_mem hi, by simp [he, h2]⟩
  · rintro ⟨h1, x, hx, hp⟩
    obtain ⟨i, hi, rfl⟩ := List.mem_iff_getElem.1 hx
    simp only [Bool.and_eq_true, beq_iff_eq, decide_eq_true_eq] at hp
    obtain ⟨m, hm, e1, e2, e3⟩ := exists_top l k _ i hi (Nat.le_refl _) hp.2
    refine ⟨m, pickL_mem.2 ⟨m, hm, (ok_iff hm).2 ⟨by rw [e1, hp.1]; exact h1, e2, e3⟩, rfl⟩, ?_⟩
    unfold hasNo
    rw [show ((m : Nat) : Int).toNat = m by omega, List.getElem?_eq_getElem hm]
    simp [e1, hp.1]
theorem pickL_sorted (p : Nat → Bool) (n : Nat) : (pickL p n).Pairwise (· < ·) := by
  induction n with
  | zero => simp [pickL]
  | succ n ih =>
    rw [pickL_succ]
    cases hp : p n with
    | false => simpa using ih
    | true =>
      rw [if_pos rfl, List.pairwise_append]
      refine ⟨ih, by simp, fun x hx y hy => ?_⟩
      obtain ⟨i, hi, _, rfl⟩ := pickL_mem.1 hx
      rw [List.mem_singleton.1 hy]
      omega
theorem pickL_contains {p : Nat → Bool} {n i : Nat} (h : i < n) : (pickL p n).contains (i : Int) = p i := by
  rw [Bool.eq_iff_iff, List.contains_iff_mem, pickL_mem]
  constructor
  · rintro ⟨j, _, h2, h3⟩
    obtain rfl : j = i := by omega
    exact h2
  · intro h2; exact ⟨i, h, h2, rfl⟩
/-! ### one sheet is left out -/
def up (u x : Nat) : Nat := if x < u then x else x + 1
def downI (u : Nat) (x : Int) : Int := if x > (u : Int) then x - 1 else x
theorem pickL_erase (p p' : Nat → Bool) (u : Nat) (hu : p u = false) (h : ∀ i, p' i = p (up u i)) : ∀ n, u < n → pickL p' (n - 1) = (pickL p n).map (downI u) := by
  have hlow : ∀ m, m ≤ u → pickL p' m = (pickL p m).map (downI u) := by
    intro m
    induction m with
    | zero => intro _; rfl
    | succ m ih =>
      intro hm
      rw [pickL_succ, pickL_succ, List.map_append, ih (by omega), h m, show up u m = m by unfold up; rw [if_pos (by omega)]]
      congr 1
      cases p m with
      | false => rfl
      | true => simp [downI]; omega
  intro n
  induction n with
  | zero => intro h; omega
  | succ n ih =>
    intro hn
    rw [Nat.add_sub_cancel]
    by_cases he : u = n
    · subst he
      rw [pickL_succ, hu, hlow u (Nat.le_refl _)]
      simp
    · have hun : u < n := by omega
      obtain ⟨m, rfl⟩ : ∃ m, n = m + 1 := ⟨n - 1, by omega⟩
      rw [pickL_succ p (m + 1), List.map_append, ← ih hun, Nat.add_sub_cancel, pickL_succ, h m, show up u m = m + 1 by unfold up; rw [if_neg (by omega)]]
      congr 1
      cases p (m + 1) with
      | false => rfl
      | true => simp [downI]; omega
theorem erase_get (l : List Sht) (u i : Nat) : (l.eraseIdx u)[i]? = l[up u i]? := by
  rw [List.getElem?_eraseIdx]; unfold up; split <;> rfl
theorem erase_ok {l : List Sht} {wd : List Int} {k : Int} {u : Nat} (hu : u < l.length) (hno : okS l wd k u = false) (i : Nat) : okS (l.eraseIdx u) wd k i = okS l wd k (up u i) := by
  unfold okS
  rw [erase_get]
  cases hs : l[up u i]? with
  | none => rfl
  | some s =>
    show (!wd.contains s.no && standB (l.eraseIdx u) i s k) = (!wd.contains s.no && standB l (up u i) s k)
    cases hc : wd.contains s.no with
    | true => rfl
    | false =>
      simp only [Bool.not_false, Bool.true_and]
      unfold standB
      congr 2
      rw [Bool.eq_iff_iff]
      have hlen : (l.eraseIdx u).length = l.length - 1 := List.length_eraseIdx_of_lt hu
      constructor
      · intro ha
        obtain ⟨j, hj, hf⟩ := of_any ha
        have hj2 : up u j < l.length := by unfold up; split <;> omega
        have he : (l.eraseIdx u)[j] = l[up u j] := by
          have := erase_get l u j
          rw [List.getElem?_eq_getElem hj, List.getElem?_eq_getElem hj2] at this
          exact Option.some.inj this
        rw [he] at hf
        obtain ⟨q1, q2, q3⟩ := over_iff.1 hf
        refine any_of hj2 (over_iff.2 ⟨q1, q2, ?_⟩)
        rcases q3 with q3 | ⟨q3, q4⟩
        · exact .inl q3
        · exact .inr ⟨q3, by unfold up; split <;> split <;> omega⟩
      · intro ha
        have key : ∀ (j : Nat) (hj : j < l.length), j ≠ u → overB s (up u i) k l[j] j = true → anyF (overB s i k) (l.eraseIdx u) 0 = true := fun j hj hju hf => by
          obtain ⟨q1, q2, q3⟩ := over_iff.1 hf
          let j' := if j < u then j else j - 1
          have hup : up u j' = j := by simp only [j', up]; split <;> (try split) <;> omega
          have hj' : j' < (l.eraseIdx u).length := by rw [hlen]; simp only [j']; split <;> omega
          have he : (l.eraseIdx u)[j'] = l[j] := by
            have := erase_get l u j'
            rw [List.getElem?_eq_getElem hj', hup, List.getElem?_eq_getElem hj] at this
            exact Option.some.inj this
          refine any_of hj' (over_iff.2 ⟨by rw [he]; exact q1, by rw [he]; exact q2, ?_⟩)
          rw [he]
          rcases q3 with q3 | ⟨q3, q4⟩
          · exact .inl q3
          · refine .inr ⟨q3, ?_⟩
            rw [← hup] at q4
            unfold up at q4
            split at q4 <;> split at q4 <;> omega
        obtain ⟨j, hj, hf⟩ := of_any ha
        by_cases hju : j = u
        · subst hju
          obtain ⟨q1, q2, q3⟩ := over_iff.1 hf
          have hx : anyF (overB l[j] j k) l 0 = true := by
            cases hx : anyF (overB l[j] j k) l 0 with
            | true => rfl
            | false =>
              have := (ok_iff hj).2 ⟨by rw [q1]; exact hc, q2, hx⟩
              rw [hno] at this; cases this
          obtain ⟨v, hv, hg⟩ := of_any hx
          obtain ⟨r1, r2, r3⟩ := over_iff.1 hg
          have hvj : v ≠ j := fun h => by subst h; omega
          refine key v hv hvj (over_iff.2 ⟨r1.trans q1, r2, ?_⟩)
          rcases r3 with r3 | ⟨r3, r4⟩ <;> rcases q3 with q3 | ⟨q3, q4⟩
          · exact .inl (by omega)
          · exact .inl (by omega)
          · exact .inl (by omega)
          · exact .inr ⟨by omega, by omega⟩
        · exact key j hj hju hf
theorem standL_erase {l : List Sht} {wd : List Int} {k : Int} {u : Nat} (hu : u < l.length) (hno : okS l wd k u = false) : standL (l.eraseIdx u) wd k = (standL l wd k).map (downI u) := by
  unfold standL
  rw [List.length_eraseIdx_of_lt hu]
  exact pickL_erase _ _ u hno (erase_ok hu hno) l.length hu
theorem sheetsE_erase {l : List Sht} {u : Nat} (h : sheetsE l = 0) : sheetsE (l.eraseIdx u) = 0 := by
  have h1 := sheetsE_len h
  unfold sheetsE at h ⊢
  rw [if_neg (by omega)] at h
  have h2 : l.all sheetB = true := by
    cases hh : l.all sheetB with
    | true => rfl
    | false => rw [hh] at h; simp at h
  have h3 : (l.eraseIdx u).length ≤ l.length := List.length_eraseIdx_le ..
  rw [if_neg (by omega), if_pos (List.all_eq_true.2 fun x hx => List.all_eq_true.1 h2 x (List.mem_of_mem_eraseIdx hx))]
end Go.Proofs.YtphoomnonenalaaDoor
