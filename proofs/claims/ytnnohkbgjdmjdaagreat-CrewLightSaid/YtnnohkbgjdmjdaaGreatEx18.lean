/- Regions of any order: whatever of a region has come. Nothing here speaks of one program. -/
import Derived.Test.YtnnohkbgjdmjdaaGreatEx17
set_option linter.unusedVariables false
set_option linter.unusedSimpArgs false
namespace Go.Ex

def Closed (ops : Array Oper) (S : Nat → Bool) : Prop := ∀ i o, ops[i]? = some o → S i = true → ∀ e ∈ o.after, Region.binds .any e = true → S e.on = true
/-- k comes ahead of i. -/
def Anc (ops : Array Oper) (i k : Nat) : Prop := ∀ S, Closed ops S → (∀ o, ops[i]? = some o → ∀ e ∈ o.after, Region.binds .any e = true → S e.on = true) → S k = true

structure SF (ops : Array Oper) (js : List J) (al : List (List Nat)) : Prop where
  len : js.length = ops.size
  down : ∀ i o, ops[i]? = some o → ∀ e ∈ o.after, Region.binds .any e = true → e.on < i
  uniq : ∀ (i i' : Nat) (j j' : J) (p : Pt), js[i]? = some j → js[i']? = some j' → j.dst = some p → j'.dst = some p → i = i'
  reads : ∀ (i : Nat) (j : J) (p : Pt), js[i]? = some j → p ∈ j.uses → ∀ (i' : Nat) (j' : J), js[i']? = some j' → j'.dst = some p → (i' < i ∧ Anc ops i i') ∨ (i < i' ∧ Anc ops i' i)
  chain : ∀ (i i' : Nat) (j j' : J), js[i]? = some j → js[i']? = some j' → j.kind = 3 → j'.kind = 3 → i < i' → Anc ops i' i
  flag : ∀ (i : Nat) (j : J) (q : Nat), js[i]? = some j → (j.kind = 1 ∨ j.kind = 2) → q ≤ js.length → (q = 0 ∨ ∃ j' : J, js[q - 1]? = some j' ∧ j'.kind = 3) → memN q ((al[i]?).getD []) = false →
    (0 < q ∧ Anc ops (q - 1) i) ∨ (∃ (k : Nat) (j' : J), q ≤ k ∧ js[k]? = some j' ∧ j'.kind = 3 ∧ Anc ops i k)

/-- The block of id is known. -/
def Al (js : List J) (st : Nat → DS) (S : Nat → Bool) (q : Nat) (id : Pt) : Prop :=
  ((st q).h.get id).isSome = true ∨ ∃ i, i < js.length ∧ Made st i ∧ S i = true ∧ q ≤ i ∧ id = (st i).na

/-- What holds when those of S have come, the last of them that changes memory right ahead of q. -/
structure RS (nt : Nat) (js : List J) (st : Nat → DS) (φ0 : Pl) (h0 : H) (n0 : Pt) (w0 : World) (S : Nat → Bool) (q : Nat) (φ : Pl) (a : Act) (w : World) : Prop where
  defers : a.defers = []
  size : a.tmps.size = nt
  tm : ∀ d x, (∀ i j, js[i]? = some j → j.dst = some (Pt.ofNat d) → S i = true) → (st js.length).t.get (.ofNat d) = some x → VR φ x (a.tmps.getD d undef)
  tm0 : ∀ d x, (∃ i j, js[i]? = some j ∧ j.dst = some (Pt.ofNat d) ∧ S i = false) → (st 0).t.get (.ofNat d) = some x → VR φ x (a.tmps.getD d undef)
  lt : ∀ id b s, φ id = some (b, s) → b < w.heap.size
  fresh : ∀ id p, φ id = some p → id.num < (st q).n.num
  resv : ∀ i, i < js.length → S i = false → Made st i → φ (st i).na = none
  old : ∀ id b s o, φ id = some (b, s) → (st q).h.get id = some o → ObjR φ w b s o
  new : ∀ i o b s, i < js.length → Made st i → S i = true → q ≤ i → φ (st i).na = some (b, s) → (st (i + 1)).h.get (st i).na = some o → ObjR φ w b s o
  inj : ∀ id id' b s s', φ id = some (b, s) → φ id' = some (b, s') → Al js st S q id → Al js st S q id' → id = id'
  ex : Ex φ0 φ
  nw : ∀ id p, φ id = some p → φ0 id = some p ∨ n0.num ≤ id.num
  kept : Kept w0 (Live φ0 h0) w
  mine : ∀ id b s, φ id = some (b, s) → Al js st S q id → w0.heap.size ≤ b ∨ Live φ0 h0 b
  domq : ∀ id o, (st q).h.get id = some o → (h0.get id).isSome = true ∨ (∃ k, k < q ∧ k < js.length ∧ Made st k ∧ id = (st k).na) ∨ n0.num + js.length ≤ id.num
  dlt : ∀ id o, (st q).h.get id = some o → id.num < (st q).n.num
  le : n0.num + js.length ≤ (st q).n.num
  cur : ∀ i j, js[i]? = some j → j.kind = 3 → (S i = true ↔ i < q)
  curq : q ≤ js.length ∧ (q = 0 ∨ ∃ j, js[q - 1]? = some j ∧ j.kind = 3)

section
variable {nt : Nat} {P : Program} {tab : Tab} {eqs : List (TypeId × List IntKind)} {call : CallT} {ops : Array Oper} {js : List J} {al : List (List Nat)} {st : Nat → DS} {φ0 : Pl} {h0 : H} {n0 : Pt} {w0 : World} {S : Nat → Bool} {q : Nat} {φ : Pl} {a : Act} {w : World}

/-- A block of the region's own that has not been made when q was the last change. -/
theorem own_none (T : Tr call js st h0 n0) (h00 : ∀ id o, h0.get id = some o → id.num < n0.num) (R : RS nt js st φ0 h0 n0 w0 S q φ a w) {i : Nat} (hi : i < js.length) (hm : Made st i) (hq : q ≤ i) : (st q).h.get (st i).na = none := by
  cases h : (st q).h.get (st i).na with
  | none => rfl
  | some o =>
    exfalso
    have hr := T.made_lt hi
    rcases R.domq _ o h with h1 | ⟨k, h1, h2, h3, h4⟩ | h1
    · obtain ⟨o', h2⟩ := Option.isSome_iff_exists.1 h1
      have := h00 _ o' h2; omega
    · have := T.made_inj hi h2 hm h3 h4; omega
    · omega

theorem al_text (T : Tr call js st h0 n0) (R : RS nt js st φ0 h0 n0 w0 S q φ a w) {i : Nat} (hi : i ≤ js.length) (hq : q = (st i).q) {id : Pt} {p : Nat × Nat} (hp : φ id = some p) (hl : ((st i).h.get id).isSome = true) : Al js st S q id := by
  obtain ⟨o, ho⟩ := Option.isSome_iff_exists.1 hl
  rcases T.hh i hi id o ho with h1 | ⟨k, h1, h2, h3, h4, h5⟩
  · rw [← hq] at h1; exact .inl (by rw [h1]; rfl)
  · refine .inr ⟨k, by omega, h3, ?_, by omega, h4⟩
    cases hS : S k with
    | true => rfl
    | false =>
      have := R.resv k (by omega) hS h3
      rw [← h4, hp] at this; cases this

/-- The memory as the text has it. -/
theorem hp_text (T : Tr call js st h0 n0) (R : RS nt js st φ0 h0 n0 w0 S q φ a w) {i : Nat} (hi : i ≤ js.length) (hq : q = (st i).q) : Hp (st i).h (st q).n w φ where
  lt := R.lt
  fresh := R.fresh
  dom id o ho := by
    rcases T.hh i hi id o ho with h1 | ⟨k, h1, h2, h3, h4, h5⟩
    · rw [← hq] at h1; exact R.dlt id o h1
    · have := T.made_lt (show k < js.length by omega)
      have := R.le
      rw [h4]; omega
  inj id id' b s s' h1 h2 h3 h4 := R.inj id id' b s s' h1 h2 (al_text T R hi hq h1 h3) (al_text T R hi hq h2 h4)
  obj id b s o h1 ho := by
    rcases T.hh i hi id o ho with h2 | ⟨k, h2, h3, h4, h5, h6⟩
    · rw [← hq] at h2; exact R.old id b s o h1 h2
    · have hS : S k = true := by
        cases hS : S k with
        | true => rfl
        | false =>
          have := R.resv k (by omega) hS h4
          rw [← h5, h1] at this; cases this
      subst h5
      exact R.new k o b s (by omega) h4 hS (by omega) h1 h6
theorem hp_cur (T : Tr call js st h0 n0) (R : RS nt js st φ0 h0 n0 w0 S q φ a w) : Hp (st q).h (st q).n w φ :=
  ⟨R.lt, R.fresh, R.dlt, fun id id' b s s' h1 h2 h3 h4 => R.inj id id' b s s' h1 h2 (.inl h3) (.inl h4), R.old⟩

/-- The temporaries that are known. -/
theorem known (js : List J) (t t0 : T X) (S : Nat → Bool) : ∃ t' : T X, ∀ p, ((∃ i j, js[i]? = some j ∧ j.dst = some p ∧ S i = false) → t'.get p = t0.get p) ∧ ((∀ i j, js[i]? = some j → j.dst = some p → S i = true) → t'.get p = t.get p) := by
  have key : ∀ (l : List J) (k : Nat), ∃ t' : T X, ∀ p, ((∃ i j, l[i]? = some j ∧ j.dst = some p ∧ S (k + i) = false) → t'.get p = t0.get p) ∧ ((∀ i j, l[i]? = some j → j.dst = some p → S (k + i) = true) → t'.get p = t.get p) := by
    intro l
    induction l with
    | nil => intro k; exact ⟨t, fun p => ⟨fun ⟨i, j, h, _⟩ => by simp at h, fun _ => rfl⟩⟩
    | cons j l ih =>
      intro k
      obtain ⟨t', ht⟩ := ih (k + 1)
      have sh : ∀ i, k + 1 + i = k + (i + 1) := fun i => by omega
      cases hS : S k with
      | true =>
        refine ⟨t', fun p => ⟨fun ⟨i, j', h1, h2, h3⟩ => ?_, fun hall => ?_⟩⟩
        · cases i with
          | zero => rw [Nat.add_zero, hS] at h3; cases h3
          | succ i => exact (ht p).1 ⟨i, j', by simpa using h1, h2, by rw [sh]; exact h3⟩
        · exact (ht p).2 fun i j' h1 h2 => by rw [sh]; exact hall (i + 1) j' (by simpa using h1) h2
      | false =>
        cases hd : j.dst with
        | none =>
          refine ⟨t', fun p => ⟨fun ⟨i, j', h1, h2, h3⟩ => ?_, fun hall => ?_⟩⟩
          · cases i with
            | zero => simp at h1; subst h1; rw [hd] at h2; cases h2
            | succ i => exact (ht p).1 ⟨i, j', by simpa using h1, h2, by rw [sh]; exact h3⟩
          · exact (ht p).2 fun i j' h1 h2 => by rw [sh]; exact hall (i + 1) j' (by simpa using h1) h2
        | some d =>
          refine ⟨T.set (t0.get d) t' d, fun p => ⟨fun ⟨i, j', h1, h2, h3⟩ => ?_, fun hall => ?_⟩⟩
          · rw [get_set]
            split
            · rename_i he; rw [he]
            · rename_i hne
              cases i with
              | zero => simp at h1; subst h1; rw [hd] at h2; cases h2; exact absurd rfl hne
              | succ i => exact (ht p).1 ⟨i, j', by simpa using h1, h2, by rw [sh]; exact h3⟩
          · rw [get_set, if_neg]
            · exact (ht p).2 fun i j' h1 h2 => by rw [sh]; exact hall (i + 1) j' (by simpa using h1) h2
            · intro e
              subst e
              have := hall 0 j rfl hd
              rw [Nat.add_zero, hS] at this; cases this
  obtain ⟨t', ht⟩ := key js 0
  exact ⟨t', fun p => by simpa only [Nat.zero_add] using ht p⟩

/-- i may come next. -/
structure Rdy (ops : Array Oper) (S : Nat → Bool) (i : Nat) : Prop where
  closed : Closed ops S
  un : S i = false
  deps : ∀ o, ops[i]? = some o → ∀ e ∈ o.after, Region.binds .any e = true → S e.on = true
theorem Rdy.anc {i : Nat} (r : Rdy ops S i) {k : Nat} (h : Anc ops i k) : S k = true := h S r.closed r.deps
theorem Rdy.noDesc {i : Nat} (r : Rdy ops S i) {k : Nat} (hk : S k = true) (h : Anc ops k i) : False := by
  have := h S r.closed fun o ho e he hb => r.closed k o ho hk e he hb
  rw [r.un] at this; cases this

theorem in_flag (F : SF ops js al) (R : RS nt js st φ0 h0 n0 w0 S q φ a w) {i : Nat} (r : Rdy ops S i) {j : J} (hj : js[i]? = some j) (hk : j.kind = 1 ∨ j.kind = 2) : memN q ((al[i]?).getD []) = true := by
  cases hm : memN q ((al[i]?).getD []) with
  | true => rfl
  | false =>
    exfalso
    rcases F.flag i j q hj hk R.curq.1 R.curq.2 hm with ⟨h1, h2⟩ | ⟨k, j', h1, h2, h3, h4⟩
    · rcases R.curq.2 with h3 | ⟨j', h3, h4⟩
      · omega
      · have hS := (R.cur (q - 1) j' h3 h4).2 (by omega)
        exact r.noDesc hS h2
    · have := (R.cur k j' h2 h3).1 (r.anc h4); omega

def add (S : Nat → Bool) (i : Nat) : Nat → Bool := fun k => bif Nat.beq k i then true else S k
theorem add_self (S : Nat → Bool) (i : Nat) : add S i i = true := by simp [add]
theorem add_ne {S : Nat → Bool} {i k : Nat} (h : k ≠ i) : add S i k = S k := by simp only [add, beq_ff h]; rfl
theorem add_false {S : Nat → Bool} {i k : Nat} (h : add S i k = false) : k ≠ i ∧ S k = false := by
  by_cases hk : k = i
  · subst hk; rw [add_self] at h; cases h
  · rw [add_ne hk] at h; exact ⟨hk, h⟩
theorem add_true {S : Nat → Bool} {i k : Nat} (h : add S i k = true) (hk : k ≠ i) : S k = true := by rw [add_ne hk] at h; exact h

/-- The temporaries behind an operation. -/
theorem tm_put (F : SF ops js al) (T : Tr call js st h0 n0) (R : RS nt js st φ0 h0 n0 w0 S q φ a w) {i : Nat} {j : J} (hj : js[i]? = some j) {dst : Option Tmp} (hd : j.dst = dst.map .ofNat) (hlt : ∀ p, dst = some p → p < nt) {φ' : Pl} (he : Ex φ φ') {x : X} {v : Value} (hv : VR φ' x v)
    (hx : (st (i + 1)).t = putO (st i).t j.dst x) : ∀ d y, (∀ i' j', js[i']? = some j' → j'.dst = some (Pt.ofNat d) → add S i i' = true) → (st js.length).t.get (.ofNat d) = some y → VR φ' y ((a.put dst v).tmps.getD d undef) := by
  intro d y hall hy
  have hi : i < js.length := (List.getElem?_eq_some_iff.1 hj).1
  by_cases hdd : dst = some d
  · subst hdd
    have hs : (st js.length).t.get (.ofNat d) = (st (i + 1)).t.get (.ofNat d) := T.slot js.length (by omega) (Nat.le_refl _) fun l j' h1 h2 h3 h4 => by
      have := F.uniq l i j' j (.ofNat d) h3 hj h4 (by rw [hd]; rfl); omega
    rw [hs, hx, hd] at hy
    have : ((st i).t.put (Pt.ofNat d) x).get (.ofNat d) = some y := hy
    rw [get_put, if_pos rfl] at this
    cases this
    rw [getD_put a d d v (by rw [R.size]; exact hlt d rfl), if_pos rfl]
    exact hv
  · have hne : j.dst ≠ some (Pt.ofNat d) := fun e => by
      rw [hd] at e
      cases dst with
      | none => cases e
      | some p =>
        simp only [Option.map_some, Option.some.injEq] at e
        exact hdd (by rw [ofNat_inj e])
    have hS : ∀ i' j', js[i']? = some j' → j'.dst = some (Pt.ofNat d) → S i' = true := fun i' j' h1 h2 => by
      refine add_true (hall i' j' h1 h2) fun e => ?_
      subst e
      rw [hj] at h1; cases h1
      exact hne h2
    have h1 := (R.tm d y hS hy).mono he
    cases dst with
    | none => exact h1
    | some p =>
      rw [getD_put a p d v (by rw [R.size]; exact hlt p rfl), if_neg (fun e => hdd (by rw [e]))]
      exact h1

theorem tm0_put (F : SF ops js al) (R : RS nt js st φ0 h0 n0 w0 S q φ a w) {i : Nat} {j : J} (hj : js[i]? = some j) {dst : Option Tmp} (hd : j.dst = dst.map .ofNat) (hlt : ∀ p, dst = some p → p < nt) {φ' : Pl} (he : Ex φ φ') {v : Value} :
    ∀ d y, (∃ i' j', js[i']? = some j' ∧ j'.dst = some (Pt.ofNat d) ∧ add S i i' = false) → (st 0).t.get (.ofNat d) = some y → VR φ' y ((a.put dst v).tmps.getD d undef) := by
  intro d y ⟨i', j', h1, h2, h3⟩ hy
  obtain ⟨hne, hS⟩ := add_false h3
  have h4 := (R.tm0 d y ⟨i', j', h1, h2, hS⟩ hy).mono he
  cases dst with
  | none => exact h4
  | some p =>
    have hpd : p ≠ d := fun e => by
      subst e
      exact hne (F.uniq i' i j' j _ h1 hj h2 (by rw [hd]; rfl))
    rw [getD_put a p d v (by rw [R.size]; exact hlt p rfl), if_neg (fun e => hpd e.symm)]
    exact h4

theorem beqX1_eq {x y : X} (h : beqX1 x y = true) : x = y := by
  unfold beqX1 at h
  split at h <;> simp_all
theorem beqL_eq : ∀ {a b : List X}, beqL a b = true → a = b := by
  intro a
  induction a with
  | nil => intro b h; cases b with
    | nil => rfl
    | cons y b => simp [beqL] at h
  | cons x a ih =>
    intro b h
    cases b with
    | nil => simp [beqL] at h
    | cons y b =>
      simp only [beqL, Bool.and_eq_true] at h
      rw [beqX1_eq h.1, ih h.2]
theorem beqX_eq {x y : X} (h : beqX x y = true) : x = y := by
  unfold beqX at h
  split at h
  · rw [beqL_eq h]
  · simp only [Bool.and_eq_true] at h
    rw [Nat.eq_of_beq_eq_true h.1, beqL_eq h.2]
  · rw [beqL_eq h]
  · exact beqX1_eq h
theorem beqO_eq {x y : O} (h : beqO x y = true) : x = y := by
  unfold beqO at h
  split at h
  · rw [beqL_eq h]
  · simp at h; rw [h]
  · simp at h; rw [h]
  · cases h
end
end Go.Ex
