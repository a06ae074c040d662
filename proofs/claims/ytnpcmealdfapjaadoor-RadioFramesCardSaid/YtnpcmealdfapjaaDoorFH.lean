/- Decode of both sides. -/
import Derived.Test.YtnpcmealdfapjaaDoorFG
set_option linter.unusedVariables false
set_option linter.unusedSimpArgs false
namespace Go.Ex
open Go.Proofs
section
variable {v xs : List Nat} {N : Nat}
def FlK (v : List Nat) (fl : List (Nat × Nat)) : Prop := (fl = [] ∧ v = z6) ∨ (v ≠ z6 ∧ ∃ m a, fl = [(m, a)] ∧ a ≠ 0) ∨ (v ≠ z6 ∧ ∃ i a m b, fl = [(i, a), (m, b)] ∧ i ≠ m ∧ a ≠ 0 ∧ b ≠ 0)
theorem flOk1 {i a : Nat} (hi : i < N) (ha : a < 256) : flOk N [(i, a)] := fun p hp => by
  obtain rfl := List.mem_singleton.1 hp
  exact ⟨hi, ha⟩
theorem flOk2 {i a m b : Nat} (hi : i < N) (ha : a < 256) (hm : m < N) (hb : b < 256) : flOk N [(i, a), (m, b)] := fun p hp => by
  rcases List.mem_cons.1 hp with rfl | hp
  · exact ⟨hi, ha⟩
  · obtain rfl := List.mem_singleton.1 hp
    exact ⟨hm, hb⟩
theorem flawsL_some (hv : v.length = 6) (v8 : all8 v) (hx : Pts xs N) (hN : xs.length = N) {fl : List (Nat × Nat)} (h : flawsL v xs = some fl) : flOk N fl ∧ fl.length ≤ 2 ∧ Ag v xs fl ∧ FlK v fl := by
  unfold flawsL at h
  by_cases hz : v = z6
  · rw [if_pos hz] at h
    cases h
    refine ⟨(fun p hp => by cases hp), by simp, fun j hj => ?_, .inl ⟨rfl, hz⟩⟩
    rw [hz]
    match j, hj with
    | 0, _ => rfl
    | 1, _ => rfl
    | 2, _ => rfl
    | 3, _ => rfl
    | 4, _ => rfl
    | 5, _ => rfl
  · rw [if_neg hz, hN] at h
    cases hm : oneF v xs N 0 with
    | some m =>
      rw [hm] at h
      cases h
      obtain ⟨h1, h2⟩ := oneF_some _ _ _ hm
      have h3 := oneF_lt _ _ _ hm
      exact ⟨flOk1 (by omega) (v8 0), by simp, one_sound hv h2, .inr (.inl ⟨hz, m, _, rfl, h1⟩)⟩
    | none =>
      rw [hm] at h
      simp only at h
      unfold twoL at h
      rw [hN] at h
      cases ht : twoF v xs N 0 with
      | none => rw [ht] at h; cases h
      | some q =>
        obtain ⟨i, a, m, b⟩ := q
        rw [ht] at h
        cases h
        obtain ⟨_, h2, h3, h4, h5, h6⟩ := twoF_some _ _ _ _ _ _ ht
        have h7 := oneF_lt _ _ _ h3
        have h8 := (oneF_some _ _ _ h3).2
        have hag : Ag v xs [(i, a), (m, b)] := by
          have := two_sound v8 hx (i := i) (m := m) (by omega) (by omega) h4 h8
          rw [← h5, ← h6] at this; exact this
        have hb8 : b < 256 := by rw [h5]; exact pr_lt _ _ (left_8 _ v8 0)
        have ha8 : a < 256 := by rw [h6]; exact xor_lt (v8 0) hb8
        refine ⟨flOk2 (by omega) ha8 (by omega) hb8, by simp, hag, .inr (.inr ⟨hz, i, a, m, b, rfl, fun e => h4 e.symm, fun e => ?_, fun e => ?_⟩)⟩
        · subst e; exact one_comp hv hx hz (by omega) (ag_drop1 hx hag) hm
        · subst e; exact one_comp hv hx hz (by omega) (ag_drop2 hx hag) hm
theorem word_same (hv : v.length = 6) (v8 : all8 v) (hx : Pts xs N) (hN : xs.length = N) (hz : v ≠ z6) : (flawsL v xs = none ↔ wordF v xs N 0 = none) := by
  constructor
  · intro h
    unfold flawsL at h
    rw [if_neg hz, hN] at h
    cases hw : wordF v xs N 0 with
    | none => rfl
    | some fl =>
      exfalso
      cases hm : oneF v xs N 0 with
      | some m => rw [hm] at h; cases h
      | none =>
        rw [hm] at h
        simp only at h
        unfold twoL at h
        rw [hN] at h
        rcases wordF_some v8 _ _ _ hw with ⟨p, h1, rfl, h2⟩ | ⟨p, a, q, b, h1, h2, h3, h4, rfl, h5⟩
        · exact one_comp hv hx hz (by omega) h2 hm
        · have := two_comp hv v8 hx hN hz (by omega) (by omega) (by omega) h3 h4 hm h5
          cases ht : twoF v xs N 0 with
          | none => exact this ht
          | some r => rw [ht] at h; cases h
  · intro h
    cases hf : flawsL v xs with
    | none => rfl
    | some fl =>
      exfalso
      obtain ⟨h1, _, h3, h4⟩ := flawsL_some hv v8 hx hN hf
      rcases h4 with ⟨_, h5⟩ | ⟨_, m, a, rfl, h5⟩ | ⟨_, i, a, m, b, rfl, h5, _, _⟩
      · exact hz h5
      · obtain ⟨e, _⟩ := one_nz hv hx hz h3
        rw [← e] at h3
        exact word_comp1 (h1 _ List.mem_cons_self).1 h3 h
      · have hi := h1 (i, a) List.mem_cons_self
        have hm := h1 (m, b) (List.mem_cons_of_mem _ List.mem_cons_self)
        rcases Nat.lt_or_gt_of_ne h5 with h6 | h6
        · exact word_comp2 v8 hx h6 hm.1 hi.2 hm.2 h3 h
        · exact word_comp2 v8 hx h6 hi.1 hm.2 hi.2 (ag_swap h3) h
end
theorem toNat_ofNat {l : List Nat} (h : all8 l) : bytesN (l.map UInt8.ofNat) = l := by
  refine list_ext (by unfold bytesN; simp) fun k hk => ?_
  unfold bytesN at hk ⊢
  simp only [List.length_map] at hk
  rw [List.getD_eq_getElem?_getD, List.getElem?_map, List.getElem?_map, List.getElem?_eq_getElem hk]
  have := h k
  rw [List.getD_eq_getElem?_getD, List.getElem?_eq_getElem hk] at this ⊢
  simp only [Option.map_some, Option.getD_some] at this ⊢
  rw [UInt8.toNat_ofNat']; omega
theorem putL_bytes {N : Nat} : ∀ (fl : List (Nat × Nat)) (s : List UInt8), flOk N fl → bytesN (putL s fl) = applyF fl (bytesN s) := by
  intro fl
  induction fl with
  | nil => intro s _; rfl
  | cons p l ih =>
    intro s h
    have hp := h p List.mem_cons_self
    show bytesN (putL (withS s p.1 p.2) l) = applyF l ((bytesN s).set p.1 ((bytesN s).getD p.1 0 ^^^ p.2))
    rw [ih _ fun q hq => h q (List.mem_cons_of_mem _ hq)]
    unfold withS
    rw [toNat_ofNat (all8_set (bytesN_8 s) (xor_lt (bytesN_8 s _) hp.2))]
section
variable {w s : List UInt8}
theorem apF_none : ∀ (k i c : Nat), (∀ j, i ≤ j → j < i + k → w[j]? = s[j]?) → apF w s k i c = c := by
  intro k
  induction k with
  | zero => intro i c _; rfl
  | succ k ih => intro i c h; rw [apF, if_pos (h i (Nat.le_refl _) (by omega)), ih _ _ fun j h1 h2 => h j (by omega) (by omega)]
theorem apF_one {m : Nat} (hm : w[m]? ≠ s[m]?) : ∀ (k i c : Nat), i ≤ m → m < i + k → (∀ j, j ≠ m → w[j]? = s[j]?) → apF w s k i c = c + 1 := by
  intro k
  induction k with
  | zero => intro i c h1 h2 _; omega
  | succ k ih =>
    intro i c h1 h2 h
    rw [apF]
    by_cases hi : i = m
    · subst hi; rw [if_neg hm, apF_none _ _ _ fun j h3 _ => h j (by omega)]
    · rw [if_pos (h i hi), ih _ _ (by omega) (by omega) h]
theorem apF_two {p q : Nat} (hpq : p < q) (hp : w[p]? ≠ s[p]?) (hq : w[q]? ≠ s[q]?) : ∀ (k i c : Nat), i ≤ p → q < i + k → (∀ j, j ≠ p → j ≠ q → w[j]? = s[j]?) → apF w s k i c = c + 2 := by
  intro k
  induction k with
  | zero => intro i c h1 h2 _; omega
  | succ k ih =>
    intro i c h1 h2 h
    rw [apF]
    by_cases hi : i = p
    · subst hi
      rw [if_neg hp]
      have : ∀ (k i' c : Nat), i < i' → i' ≤ q → q < i' + k → apF w s k i' c = c + 1 := by
        intro k
        induction k with
        | zero => intro i' c h1 h2 h3; omega
        | succ k ih =>
          intro i' c h1 h2 h3
          rw [apF]
          by_cases hi : i' = q
          · subst hi; rw [if_neg hq, apF_none _ _ _ fun j h3 _ => h j (by omega) (by omega)]
          · rw [if_pos (h i' (by omega) hi), ih _ _ (by omega) (by omega) (by omega)]
      rw [this _ _ _ (by omega) (by omega) (by omega)]
    · rw [if_pos (h i hi (by omega)), ih _ _ (by omega) (by omega) h]
theorem same_at (hl : w.length = s.length) {fl : List (Nat × Nat)} (hf : flOk s.length fl) (hb : bytesN w = applyF fl (bytesN s)) (j : Nat) : w[j]? = s[j]? ↔ (j < s.length → sel j fl = 0) := by
  by_cases hj : j < s.length
  · have e := applyF_at (N := 0) j fl (bytesN s) (by rw [bytesN_len]; exact hf)
    rw [← hb] at e
    have ew : (bytesN w).getD j 0 = w[j].toNat := by unfold bytesN; rw [List.getD_eq_getElem?_getD, List.getElem?_map, List.getElem?_eq_getElem (by omega)]; rfl
    have es : (bytesN s).getD j 0 = s[j].toNat := by unfold bytesN; rw [List.getD_eq_getElem?_getD, List.getElem?_map, List.getElem?_eq_getElem hj]; rfl
    rw [ew, es] at e
    rw [List.getElem?_eq_getElem (by omega : j < w.length), List.getElem?_eq_getElem hj]
    constructor
    · intro h _
      rw [Option.some.inj h] at e
      have h2 : s[j].toNat ^^^ s[j].toNat = s[j].toNat ^^^ (s[j].toNat ^^^ sel j fl) := by rw [← e]
      rw [Nat.xor_self, ← Nat.xor_assoc, Nat.xor_self, Nat.zero_xor] at h2
      exact h2.symm
    · intro h
      rw [h hj, Nat.xor_zero] at e
      exact congrArg some (UInt8.toNat_inj.1 e)
  · rw [List.getElem?_eq_none (by omega), List.getElem?_eq_none (by omega)]
    exact ⟨fun _ h => absurd h hj, fun _ => rfl⟩
theorem count {v : List Nat} (hl : w.length = s.length) {fl : List (Nat × Nat)} (hf : flOk s.length fl) (hb : bytesN w = applyF fl (bytesN s)) (hk : FlK v fl) : apF w s w.length 0 0 = fl.length := by
  have hs := same_at hl hf hb
  rcases hk with ⟨rfl, _⟩ | ⟨_, m, a, rfl, ha⟩ | ⟨_, i, a, m, b, rfl, hne, ha, hbb⟩
  · exact apF_none _ _ _ fun j _ _ => (hs j).2 fun _ => rfl
  · have hm := (hf (m, a) List.mem_cons_self).1
    have sk : ∀ j, sel j [(m, a)] = if m = j then a else 0 := fun j => Nat.xor_zero _
    rw [apF_one (m := m) (fun e => ha (by have := (hs m).1 e hm; rw [sk, if_pos rfl] at this; exact this)) _ _ _ (Nat.zero_le _) (by omega) fun j hj => (hs j).2 fun _ => by rw [sk, if_neg fun e => hj e.symm]]
    rfl
  · have hi := (hf (i, a) List.mem_cons_self).1
    have hm := (hf (m, b) (List.mem_cons_of_mem _ List.mem_cons_self)).1
    have sk : ∀ j, sel j [(i, a), (m, b)] = (if i = j then a else 0) ^^^ (if m = j then b else 0) := fun j => by show (if i = j then a else 0) ^^^ ((if m = j then b else 0) ^^^ 0) = _; rw [Nat.xor_zero]
    have di : w[i]? ≠ s[i]? := fun e => ha (by have := (hs i).1 e hi; rw [sk, if_pos rfl, if_neg (fun e => hne e.symm), Nat.xor_zero] at this; exact this)
    have dm : w[m]? ≠ s[m]? := fun e => hbb (by have := (hs m).1 e hm; rw [sk, if_pos rfl, if_neg hne, Nat.zero_xor] at this; exact this)
    have ot : ∀ j, j ≠ i → j ≠ m → w[j]? = s[j]? := fun j h1 h2 => (hs j).2 fun _ => by rw [sk, if_neg (fun e => h1 e.symm), if_neg (fun e => h2 e.symm)]; rfl
    rcases Nat.lt_or_gt_of_ne hne with h6 | h6
    · rw [apF_two h6 di dm _ _ _ (Nat.zero_le _) (by omega) ot]; rfl
    · rw [apF_two h6 dm di _ _ _ (Nat.zero_le _) (by omega) fun j h1 h2 => ot j h2 h1]; rfl
end
end Go.Ex

