/- Numerals and tries: what is put is found. Nothing here speaks of one program. -/
import Derived.Test.YtnnohkbgjdmjdaaGreatEx1
set_option linter.unusedVariables false
namespace Go.Ex

theorem num_z : Pt.z.num = 0 := rfl
theorem num_l (p : Pt) : (Pt.l p).num = 2 * p.num + 1 := rfl
theorem num_r (p : Pt) : (Pt.r p).num = 2 * p.num + 2 := rfl
theorem num_inc : ∀ p : Pt, p.inc.num = p.num + 1 := by
  intro p
  induction p with
  | z => rfl
  | l p ih => show (Pt.r p).num = (Pt.l p).num + 1; rw [num_l, num_r]
  | r p ih => show (Pt.l p.inc).num = _; rw [num_l, num_r, ih]; omega
theorem num_inj : ∀ p q : Pt, p.num = q.num → p = q := by
  intro p
  induction p with
  | z => intro q h; cases q with
    | z => rfl
    | l q => rw [num_z, num_l] at h; omega
    | r q => rw [num_z, num_r] at h; omega
  | l p ih => intro q h; cases q with
    | z => rw [num_z, num_l] at h; omega
    | l q => rw [num_l, num_l] at h; rw [ih q (by omega)]
    | r q => rw [num_l, num_r] at h; omega
  | r p ih => intro q h; cases q with
    | z => rw [num_z, num_r] at h; omega
    | l q => rw [num_l, num_r] at h; omega
    | r q => rw [num_r, num_r] at h; rw [ih q (by omega)]
theorem num_ofNatF : ∀ f k, k ≤ f → (Pt.ofNatF f k).num = k := by
  intro f
  induction f with
  | zero => intro k h; have : k = 0 := by omega
            subst this; rfl
  | succ f ih =>
    intro k h
    unfold Pt.ofNatF
    cases h0 : Nat.beq k 0 with
    | true => have := Nat.eq_of_beq_eq_true h0; subst this; rfl
    | false =>
      have hk : k ≠ 0 := Nat.ne_of_beq_eq_false h0
      cases h1 : Nat.beq (k % 2) 1 with
      | true =>
        have := Nat.eq_of_beq_eq_true h1
        show (Pt.l _).num = k
        rw [num_l, ih _ (by omega)]; omega
      | false =>
        have := Nat.ne_of_beq_eq_false h1
        show (Pt.r _).num = k
        rw [num_r, ih _ (by omega)]; omega
theorem num_ofNat (k : Nat) : (Pt.ofNat k).num = k := num_ofNatF k k (Nat.le_refl _)
theorem ofNat_inj {i j : Nat} (h : Pt.ofNat i = Pt.ofNat j) : i = j := by rw [← num_ofNat i, ← num_ofNat j, h]

theorem incK_eq {β : Type} : ∀ (p : Pt) (k : Pt → β), p.incK k = k p.inc := by
  intro p
  induction p with
  | z => intro k; rfl
  | l p ih => intro k; rfl
  | r p ih => intro k; exact ih _

section
variable {α : Type}
theorem get_e : ∀ p : Pt, (T.e : T α).get p = none := by intro p; cases p <;> rfl
theorem get_z (l r : T α) (v : Option α) : (T.n l v r).get .z = v := rfl
theorem get_l (l r : T α) (v : Option α) (p : Pt) : (T.n l v r).get (.l p) = l.get p := rfl
theorem get_r (l r : T α) (v : Option α) (p : Pt) : (T.n l v r).get (.r p) = r.get p := rfl
theorem get_set (v : Option α) : ∀ (p : Pt) (t : T α) (q : Pt), (T.set v t p).get q = if q = p then v else t.get q := by
  intro p
  induction p with
  | z =>
    intro t q
    cases t with
    | e => cases q with
      | z => rfl
      | l q => show (T.e : T α).get q = _; rw [get_e, get_e]; simp
      | r q => show (T.e : T α).get q = _; rw [get_e, get_e]; simp
    | n l u r => cases q with
      | z => rfl
      | l q => show l.get q = _; rw [if_neg (by intro h; cases h)]
      | r q => show r.get q = _; rw [if_neg (by intro h; cases h)]
  | l p ih =>
    intro t q
    cases t with
    | e => cases q with
      | z => show none = _; rw [if_neg (by intro h; cases h), get_e]
      | l q => show (T.set v T.e p).get q = _; rw [ih]; simp [get_e]
      | r q => show (T.e : T α).get q = _; rw [if_neg (by intro h; cases h), get_e, get_e]
    | n l u r => cases q with
      | z => rfl
      | l q => show (T.set v l p).get q = _; rw [ih]; simp [get_l]
      | r q => show r.get q = _; rw [if_neg (by intro h; cases h)]
  | r p ih =>
    intro t q
    cases t with
    | e => cases q with
      | z => show none = _; rw [if_neg (by intro h; cases h), get_e]
      | r q => show (T.set v T.e p).get q = _; rw [ih]; simp [get_e]
      | l q => show (T.e : T α).get q = _; rw [if_neg (by intro h; cases h), get_e, get_e]
    | n l u r => cases q with
      | z => rfl
      | r q => show (T.set v r p).get q = _; rw [ih]; simp [get_r]
      | l q => show l.get q = _; rw [if_neg (by intro h; cases h)]
theorem get_put (t : T α) (p : Pt) (v : α) (q : Pt) : (t.put p v).get q = if q = p then some v else t.get q := get_set _ _ _ _
theorem get_del (t : T α) (p q : Pt) : (t.del p).get q = if q = p then none else t.get q := get_set _ _ _ _
theorem get_putL : ∀ (l : List α) (t : T α) (p q : Pt), (T.putL l t p).get q = if p.num ≤ q.num ∧ q.num < p.num + l.length then l[q.num - p.num]? else t.get q := by
  intro l
  induction l with
  | nil => intro t p q; rw [if_neg (by simp only [List.length_nil]; omega)]
  | cons v l ih =>
    intro t p q
    show (T.putL l (t.put p v) p.inc).get q = _
    rw [ih, num_inc, get_put]
    simp only [List.length_cons]
    by_cases h : q = p
    · subst h
      rw [if_neg (by omega), if_pos rfl, if_pos (by omega)]
      simp
    · have hne : q.num ≠ p.num := fun e => h (num_inj _ _ e)
      rw [if_neg h]
      by_cases h2 : p.num + 1 ≤ q.num ∧ q.num < p.num + 1 + l.length
      · rw [if_pos h2, if_pos (by omega)]
        obtain ⟨k, hk⟩ : ∃ k, q.num - p.num = k + 1 := ⟨q.num - p.num - 1, by omega⟩
        rw [hk, List.getElem?_cons_succ]
        congr 1; omega
      · rw [if_neg h2, if_neg (by omega)]
theorem get_ofList (l : List α) (i : Nat) : (T.ofList l).get (.ofNat i) = l[i]? := by
  unfold T.ofList
  rw [get_putL, num_ofNat, num_z]
  by_cases h : i < l.length
  · rw [if_pos (by omega)]; simp
  · rw [if_neg (by omega), get_e, List.getElem?_eq_none (by omega)]
end
end Go.Ex
