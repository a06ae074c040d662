/- Regions of any order: the run in the order of the text. Nothing here speaks of one program. -/
import Derived.Test.YtnpcmealdfapjaaDoorExB
import Derived.LoopN
import Derived.ScopeJumps
set_option linter.unusedVariables false
set_option linter.unusedSimpArgs false
namespace Go.Ex
variable {G : GEnv}

noncomputable def dKind (call : CallT) (k : Nat) (j : J) (s : DS) : Option DS := match k with
  | 0 => dPure call j s
  | 1 => dPure call j s
  | 2 => dAlc call j s
  | _ => dWr call j s
theorem dStep_kind (call : CallT) (j : J) (s : DS) : dStep call j s = dKind call j.kind j s := by
  have key : ∀ (j j0 : J) (s : DS), (J.rec (motive := fun _ => J → DS → Option DS) (fun _ _ => dPure call) (fun _ _ => dPure call) (fun _ _ => dAlc call) (fun _ _ => dWr call) (fun _ _ _ _ f => f) j) j0 s = dKind call j.kind j0 s := by
    intro j
    induction j with
    | p => intro _ _; rfl
    | r => intro _ _; rfl
    | a => intro _ _; rfl
    | w => intro _ _; rfl
    | g _ _ _ j ih => intro j0 s; exact ih j0 s
  exact key j j s
theorem kind_le (j : J) : j.kind = 0 ∨ j.kind = 1 ∨ j.kind = 2 ∨ j.kind = 3 := by
  induction j with
  | p => exact .inl rfl
  | r => exact .inr (.inl rfl)
  | a => exact .inr (.inr (.inl rfl))
  | w => exact .inr (.inr (.inr rfl))
  | g _ _ _ j ih => exact ih

section
variable {call : CallT}
/-- What one operation does in the run. -/
inductive D1 (call : CallT) (j : J) (s : DS) : DS → Prop
  | val (x : X) (hk : j.kind = 0 ∨ j.kind = 1) (he : Eff call s.t s.h s.n j x s.h s.n) : D1 call j s ⟨putO s.t j.dst x, s.h, s.n, s.na, s.i + 1, s.q, s.hs⟩
  | pass (x : X) (hk : j.kind = 2) (he : ∀ h n, Eff call s.t h n j x h n) : D1 call j s ⟨putO s.t j.dst x, s.h, s.n, s.na, s.i + 1, s.q, s.hs⟩
  | alc (x : X) (o : O) (hk : j.kind = 2) (he : ∀ h, Eff call s.t h s.na j x (h.put s.na o) s.na.inc) : D1 call j s ⟨putO s.t j.dst x, s.h.put s.na o, s.n, s.na.inc, s.i + 1, s.q, s.hs⟩
  | wr (x : X) (h' : H) (n' : Pt) (hk : j.kind = 3) (he : Eff call s.t s.h s.n j x h' n') : D1 call j s ⟨putO s.t j.dst x, h', n', s.na, s.i + 1, s.i + 1, (s.i + 1, h') :: s.hs⟩

theorem dStep_d1 {j : J} {s s' : DS} (hf : j.fine) (h : dStep call j s = some s') : D1 call j s s' := by
  rw [dStep_kind] at h
  have val : (j.kind = 0 ∨ j.kind = 1) → dPure call j s = some s' → D1 call j s s' := fun hk h => by
    unfold dPure at h
    cases hs : step j call s.t s.h s.n with
    | no => rw [hs] at h; cases h
    | ok t h1 n1 =>
      rw [hs] at h
      cases h
      obtain ⟨x, g1, g2⟩ := step_eff hf hs
      obtain ⟨rfl, rfl⟩ := g1.value hk
      subst g2
      exact .val x hk g1
  rcases kind_le j with hk | hk | hk | hk
  · rw [hk] at h; exact val (.inl hk) h
  · rw [hk] at h; exact val (.inr hk) h
  · rw [hk] at h
    have h' : dAlc call j s = some s' := h
    unfold dAlc at h'
    cases hs : step j call s.t s.h s.na with
    | no => rw [hs] at h'; cases h'
    | ok t h1 n1 =>
      rw [hs] at h'
      cases h'
      obtain ⟨x, g1, g2⟩ := step_eff hf hs
      subst g2
      rcases g1.alc hk with ⟨rfl, rfl, g3⟩ | ⟨o, rfl, rfl, g3⟩
      · exact .pass x hk g3
      · exact .alc x o hk g3
  · rw [hk] at h
    have h' : dWr call j s = some s' := h
    unfold dWr at h'
    cases hs : step j call s.t s.h s.n with
    | no => rw [hs] at h'; cases h'
    | ok t h1 n1 =>
      rw [hs] at h'
      cases h'
      obtain ⟨x, g1, g2⟩ := step_eff hf hs
      subst g2
      exact .wr x h1 n1 hk g1

theorem drawGo_tr : ∀ (l : List (J × List Nat)) (s sF : DS), drawGo call l s = some sF →
    ∃ st : Nat → DS, st 0 = s ∧ st l.length = sF ∧ ∀ i q, l[i]? = some q → dStep call q.1 (st i) = some (st (i + 1)) := by
  intro l
  induction l with
  | nil => intro s sF h; have : some s = some sF := h; cases this; exact ⟨fun _ => s, rfl, rfl, fun i q h => by simp at h⟩
  | cons q l ih =>
    intro s sF h
    have h' : (match dStep call q.1 s with | some s => drawGo call l s | none => none) = some sF := h
    cases hs : dStep call q.1 s with
    | none => rw [hs] at h'; cases h'
    | some s1 =>
      rw [hs] at h'
      obtain ⟨st, g1, g2, g3⟩ := ih s1 sF h'
      refine ⟨fun i => match i with | 0 => s | i + 1 => st i, rfl, g2, fun i q' hq => ?_⟩
      cases i with
      | zero => simp at hq; subst hq; show dStep call q.1 s = some (st 0); rw [hs, g1]
      | succ i => exact g3 i q' (by simpa using hq)

/-- What the check behind the run says of one operation. -/
def Chk (call : CallT) (hs : List (Nat × H)) (p : J × List Nat) (s s' : DS) : Prop :=
  (p.1.kind = 1 → reAll (reR call p.1 p.1.dst s'.t) (fun q => memN q p.2 && !Nat.beq q s.q) hs = true) ∧
  (p.1.kind = 2 → ∀ c, s'.h.get s.na = some c → reAll (reA s.na c) (fun q => memN q p.2 && Nat.blt s.q q) hs = true)

theorem drawRe_chk {hs : List (Nat × H)} : ∀ (l : List (J × List Nat)) (s : DS) (st : Nat → DS), drawRe call hs l s = true → st 0 = s → (∀ i q, l[i]? = some q → dStep call q.1 (st i) = some (st (i + 1))) →
    ∀ i q, l[i]? = some q → Chk call hs q (st i) (st (i + 1)) := by
  intro l
  induction l with
  | nil => intro s st _ _ _ i q h; simp at h
  | cons p l ih =>
    intro s st h h0 hst i q hq
    have h' : (match dStep call p.1 s with
      | none => false
      | some s' => (match p.1.kind with
        | 1 => reAll (reR call p.1 p.1.dst s'.t) (fun q => memN q p.2 && !Nat.beq q s.q) hs
        | 2 => match s'.h.get s.na with
          | some c => reAll (reA s.na c) (fun q => memN q p.2 && Nat.blt s.q q) hs
          | none => true
        | _ => true) && drawRe call hs l s') = true := h
    have h1 := hst 0 p rfl
    rw [h0] at h1
    rw [h1] at h'
    simp only [Bool.and_eq_true] at h'
    cases i with
    | zero =>
      simp at hq
      subst hq
      rw [h0]
      refine ⟨fun hk => ?_, fun hk c hc => ?_⟩
      · have := h'.1; rw [hk] at this; exact this
      · have := h'.1; rw [hk] at this; simp only [hc] at this; exact this
    | succ i => exact ih (st 1) (fun i => st (i + 1)) h'.2 rfl (fun i q hq => hst (i + 1) q (by simpa using hq)) i q (by simpa using hq)

theorem reAll_mem {f : H → Bool} {ok : Nat → Bool} : ∀ {hs : List (Nat × H)}, reAll f ok hs = true → ∀ q h, (q, h) ∈ hs → ok q = true → f h = true := by
  intro hs
  induction hs with
  | nil => intro _ q h hm; cases hm
  | cons p hs ih =>
    intro hr q h hm hq
    obtain ⟨q', h''⟩ := p
    simp only [reAll, Bool.and_eq_true] at hr
    rcases List.mem_cons.1 hm with h1 | h1
    · cases h1
      have := hr.1
      rw [hq] at this
      exact this
    · exact ih hr.2 q h h1 hq

/-- The run. -/
structure Tr (call : CallT) (js : List J) (st : Nat → DS) (h0 : H) (n0 : Pt) : Prop where
  i0 : (st 0).i = 0
  q0 : (st 0).q = 0
  h00 : (st 0).h = h0
  n00 : (st 0).n.num = n0.num + js.length
  na0 : (st 0).na = n0
  hs0 : (st 0).hs = [(0, h0)]
  go : ∀ i j, js[i]? = some j → D1 call j (st i) (st (i + 1))

def Made (st : Nat → DS) (i : Nat) : Prop := (st (i + 1)).na ≠ (st i).na

section
variable {js : List J} {st : Nat → DS} {h0 : H} {n0 : Pt}
theorem get_js {i : Nat} (hi : i < js.length) : js[i]? = some js[i] := List.getElem?_eq_getElem hi
theorem Tr.ii (T : Tr call js st h0 n0) : ∀ i, i ≤ js.length → (st i).i = i := by
  intro i
  induction i with
  | zero => intro _; exact T.i0
  | succ i ih =>
    intro hi
    have h := T.go i _ (get_js (show i < js.length by omega))
    have h1 := ih (by omega)
    generalize st (i + 1) = s1 at h ⊢
    cases h <;> simp [h1]

theorem Tr.na (T : Tr call js st h0 n0) : ∀ i, i ≤ js.length → n0.num ≤ (st i).na.num ∧ (st i).na.num ≤ n0.num + i := by
  intro i
  induction i with
  | zero => intro _; rw [T.na0]; omega
  | succ i ih =>
    intro hi
    have h := T.go i _ (get_js (show i < js.length by omega))
    have h1 := ih (by omega)
    generalize st (i + 1) = s1 at h ⊢
    cases h <;> simp only [num_inc] <;> omega
theorem Tr.na1 (T : Tr call js st h0 n0) {i : Nat} (hi : i < js.length) : (st i).na.num ≤ (st (i + 1)).na.num ∧ (Made st i → (st (i + 1)).na.num = (st i).na.num + 1) := by
  have h := T.go i _ (get_js hi)
  unfold Made
  generalize st (i + 1) = s1 at h ⊢
  cases h with
  | val => exact ⟨Nat.le_refl _, fun h => absurd rfl h⟩
  | pass => exact ⟨Nat.le_refl _, fun h => absurd rfl h⟩
  | alc => simp only [num_inc]; exact ⟨by omega, fun _ => trivial⟩
  | wr => exact ⟨Nat.le_refl _, fun h => absurd rfl h⟩
theorem Tr.naM (T : Tr call js st h0 n0) {i : Nat} : ∀ k, i ≤ k → k ≤ js.length → (st i).na.num ≤ (st k).na.num := by
  intro k
  induction k with
  | zero => intro h _; have : i = 0 := by omega
            subst this; exact Nat.le_refl _
  | succ k ih =>
    intro h hk
    rcases Nat.lt_or_ge k i with h1 | h1
    · have : i = k + 1 := by omega
      subst this; exact Nat.le_refl _
    · exact Nat.le_trans (ih h1 (by omega)) (T.na1 (by omega)).1
theorem Tr.made_inj (T : Tr call js st h0 n0) {i k : Nat} (hi : i < js.length) (hk : k < js.length) (mi : Made st i) (mk : Made st k) (h : (st i).na = (st k).na) : i = k := by
  have key : ∀ i k, i < k → k < js.length → Made st i → (st i).na.num < (st k).na.num := fun i k hik hk mi => by
    have h1 := (T.na1 (show i < js.length by omega)).2 mi
    have h2 := T.naM (i := i + 1) k (by omega) (by omega)
    omega
  rcases Nat.lt_trichotomy i k with h1 | h1 | h1
  · have := key i k h1 hk mi; rw [h] at this; omega
  · exact h1
  · have := key k i h1 hi mk; rw [h] at this; omega
/-- A block that the region makes: its number is one of those kept for it. -/
theorem Tr.made_lt (T : Tr call js st h0 n0) {i : Nat} (hi : i < js.length) : n0.num ≤ (st i).na.num ∧ (st i).na.num < n0.num + js.length := by
  have := T.na i (by omega); omega

theorem Tr.qq (T : Tr call js st h0 n0) : ∀ i, i ≤ js.length → (st i).q ≤ i ∧ (∀ k j, (st i).q ≤ k → k < i → js[k]? = some j → j.kind ≠ 3) ∧ ((st i).q = 0 ∨ ∃ j, js[(st i).q - 1]? = some j ∧ j.kind = 3) := by
  intro i
  induction i with
  | zero => intro _; rw [T.q0]; exact ⟨Nat.le_refl _, fun k j _ h => by omega, .inl rfl⟩
  | succ i ih =>
    intro hi
    have hj := get_js (show i < js.length by omega)
    have h := T.go i _ hj
    have hi1 := T.ii i (by omega)
    obtain ⟨h1, h2, h3⟩ := ih (by omega)
    have ext : js[i].kind ≠ 3 → (st i).q ≤ i + 1 ∧ (∀ k j, (st i).q ≤ k → k < i + 1 → js[k]? = some j → j.kind ≠ 3) ∧ ((st i).q = 0 ∨ ∃ j, js[(st i).q - 1]? = some j ∧ j.kind = 3) := fun hk => by
      refine ⟨by omega, fun k j hk1 hk2 hkj => ?_, h3⟩
      rcases Nat.lt_or_ge k i with h4 | h4
      · exact h2 k j hk1 h4 hkj
      · have : k = i := by omega
        subst this
        rw [hj] at hkj; cases hkj; exact hk
    generalize st (i + 1) = s1 at h ⊢
    cases h with
    | val x hk => exact ext (by rcases hk with hk | hk <;> omega)
    | pass x hk => exact ext (by omega)
    | alc x o hk => exact ext (by omega)
    | wr x h' n' hk =>
      simp only [hi1]
      refine ⟨Nat.le_refl _, fun k j h1 h2 => by omega, .inr ⟨js[i], ?_, hk⟩⟩
      simp

theorem Tr.nn (T : Tr call js st h0 n0) : ∀ i, i ≤ js.length → (st i).n = (st (st i).q).n := by
  intro i
  induction i with
  | zero => intro _; rw [T.q0]
  | succ i ih =>
    intro hi
    have h := T.go i _ (get_js (show i < js.length by omega))
    have hi1 := T.ii i (by omega)
    have h1 := ih (by omega)
    generalize hs : st (i + 1) = s1 at h ⊢
    cases h with
    | val => exact h1
    | pass => exact h1
    | alc => exact h1
    | wr => simp only [hi1]; rw [hs]

theorem Tr.hh (T : Tr call js st h0 n0) : ∀ i, i ≤ js.length → ∀ id o, (st i).h.get id = some o → (st (st i).q).h.get id = some o ∨ ∃ k, (st i).q ≤ k ∧ k < i ∧ Made st k ∧ id = (st k).na ∧ (st (k + 1)).h.get id = some o := by
  intro i
  induction i with
  | zero => intro _ id o h; rw [T.q0]; exact .inl h
  | succ i ih =>
    intro hi id o ho
    have h := T.go i _ (get_js (show i < js.length by omega))
    have hi1 := T.ii i (by omega)
    have ext : ∀ id o, (st i).h.get id = some o → (st (st i).q).h.get id = some o ∨ ∃ k, (st i).q ≤ k ∧ k < i + 1 ∧ Made st k ∧ id = (st k).na ∧ (st (k + 1)).h.get id = some o := fun id o ho => by
      rcases ih (by omega) id o ho with h1 | ⟨k, h1, h2, h3⟩
      · exact .inl h1
      · exact .inr ⟨k, h1, by omega, h3⟩
    have hq := (T.qq i (by omega)).1
    generalize hs : st (i + 1) = s1 at h ho ⊢
    cases h with
    | val => exact ext id o ho
    | pass => exact ext id o ho
    | alc x o' hk =>
      simp only at ho ⊢
      rw [get_put] at ho
      split at ho
      · rename_i he
        refine .inr ⟨i, hq, by omega, ?_, he, by rw [hs]; simp only [get_put]; rw [if_pos he]; exact ho⟩
        unfold Made
        rw [hs]
        intro e
        have := congrArg Pt.num e
        simp only [num_inc] at this
        omega
      · exact ext id o ho
    | wr => simp only [hi1]; rw [hs]; exact .inl ho
theorem Tr.made_get (T : Tr call js st h0 n0) {i : Nat} (hi : i < js.length) (hm : Made st i) : js[i].kind = 2 ∧ ∃ x o, (∀ h, Eff call (st i).t h (st i).na js[i] x (h.put (st i).na o) (st i).na.inc) ∧ (st (i + 1)).h.get (st i).na = some o ∧ (st (i + 1)).t = putO (st i).t js[i].dst x := by
  have h := T.go i _ (get_js hi)
  unfold Made at hm
  generalize st (i + 1) = s1 at h hm ⊢
  cases h with
  | val => exact absurd rfl hm
  | pass => exact absurd rfl hm
  | wr => exact absurd rfl hm
  | alc x o hk he => exact ⟨hk, x, o, he, by simp [get_put], rfl⟩

theorem Tr.hsM (T : Tr call js st h0 n0) {i : Nat} : ∀ k, i ≤ k → k ≤ js.length → ∀ p, p ∈ (st i).hs → p ∈ (st k).hs := by
  intro k
  induction k with
  | zero => intro h _ p hp; have : i = 0 := by omega
            subst this; exact hp
  | succ k ih =>
    intro h hk p hp
    rcases Nat.lt_or_ge k i with h1 | h1
    · have : i = k + 1 := by omega
      subst this; exact hp
    · have h2 := ih h1 (by omega) p hp
      have h3 := T.go k _ (get_js (show k < js.length by omega))
      generalize st (k + 1) = s1 at h3 ⊢
      cases h3 with
      | val => exact h2
      | pass => exact h2
      | alc => exact h2
      | wr => exact List.mem_cons_of_mem _ h2
/-- The memory behind the last operation that changed it is among those that are kept. -/
theorem Tr.hs_mem (T : Tr call js st h0 n0) {q : Nat} (hq : q ≤ js.length) (hc : q = 0 ∨ ∃ j, js[q - 1]? = some j ∧ j.kind = 3) : (q, (st q).h) ∈ (st js.length).hs := by
  refine T.hsM js.length hq (Nat.le_refl _) _ ?_
  rcases hc with h1 | ⟨j, h1, h2⟩
  · subst h1; rw [T.hs0, T.h00]; simp
  · cases q with
    | zero => rw [T.hs0, T.h00]; simp
    | succ q =>
      simp at h1
      have h3 := T.go q j h1
      have hi1 := T.ii q (by omega)
      generalize hs : st (q + 1) = s1 at h3 ⊢
      cases h3 with
      | val x hk => omega
      | pass x hk => omega
      | alc x o hk => omega
      | wr x h' n' hk => simp [hi1]

/-- A slot that no later operation writes. -/
theorem Tr.slot (T : Tr call js st h0 n0) {i : Nat} {p : Pt} : ∀ k, i ≤ k → k ≤ js.length → (∀ l j, i ≤ l → l < k → js[l]? = some j → j.dst ≠ some p) → (st k).t.get p = (st i).t.get p := by
  intro k
  induction k with
  | zero => intro h _ _; have : i = 0 := by omega
            subst this; rfl
  | succ k ih =>
    intro h hk hno
    rcases Nat.lt_or_ge k i with h1 | h1
    · have : i = k + 1 := by omega
      subst this; rfl
    · have hj := get_js (show k < js.length by omega)
      have h2 := ih h1 (by omega) fun l j a b c => hno l j a (by omega) c
      have h3 := T.go k _ hj
      have h4 := hno k _ h1 (by omega) hj
      rw [← h2]
      have hput : ∀ x, (putO (st k).t js[k].dst x).get p = (st k).t.get p := fun x => by
        cases hd : js[k].dst with
        | none => rfl
        | some d =>
          show ((st k).t.put d x).get p = _
          rw [get_put, if_neg (fun e => h4 (by rw [hd, e]))]
      generalize st (k + 1) = s1 at h3 ⊢
      cases h3 <;> exact hput _
theorem Tr.tt (T : Tr call js st h0 n0) {i : Nat} (hi : i < js.length) : ∃ x, (st (i + 1)).t = putO (st i).t js[i].dst x := by
  have h := T.go i _ (get_js hi)
  generalize st (i + 1) = s1 at h ⊢
  cases h <;> exact ⟨_, rfl⟩
end
end
end Go.Ex

/- Regions of any order: whatever of a region has come. Nothing here speaks of one program. -/
set_option linter.unusedVariables false
set_option linter.unusedSimpArgs false
namespace Go.Ex

def Closed (ops : Array Oper) (S : Nat → Bool) : Prop := ∀ i o, ops[i]? = some o → S i = true → ∀ e ∈ o.after, Region.binds .any e = true → S e.on = true
/-- k comes ahead of i. -/
def Anc (ops : Array Oper) (i k : Nat) : Prop := ∀ S, Closed ops S → (∀ o, ops[i]? = some o → ∀ e ∈ o.after, Region.binds .any e = true → S e.on = true) → S k = true

structure SF (ops : Array Oper) (js : List J) (al : List (List Nat)) : Prop where
  len : js.length = ops.size
  down : ∀ i o, ops[i]? = some o → ∀ e ∈ o.after, Region.binds .any e = true → e.on < i
  uniq : ∀ (i i' : Nat) (j j' : J) (p : Pt), js[i]? = some j → js[i']? = some j' → j.dst = some p → j'.dst = some p → i = i'
  reads : ∀ (i : Nat) (j : J) (p : Pt), js[i]? = some j → p ∈ j.uses → ∀ (i' : Nat) (j' : J), js[i']? = some j' → j'.dst = some p → (i' < i ∧ Anc ops i i') ∨ (i < i' ∧ Anc ops i' i)
  chain : ∀ (i i' : Nat) (j j' : J), js[i]? = some j → js[i']? = some j' → j.kind = 3 → j'.kind = 3 → i < i' → Anc ops i' i
  flag : ∀ (i : Nat) (j : J) (q : Nat), js[i]? = some j → (j.kind = 1 ∨ j.kind = 2) → q ≤ js.length → (q = 0 ∨ ∃ j' : J, js[q - 1]? = some j' ∧ j'.kind = 3) → memN q ((al[i]?).getD []) = false →
    (0 < q ∧ Anc ops (q - 1) i) ∨ (∃ (k : Nat) (j' : J), q ≤ k ∧ js[k]? = some j' ∧ j'.kind = 3 ∧ Anc ops i k)

/-- The block of id is known. -/
def Al (js : List J) (st : Nat → DS) (S : Nat → Bool) (q : Nat) (id : Pt) : Prop :=
  ((st q).h.get id).isSome = true ∨ ∃ i, i < js.length ∧ Made st i ∧ S i = true ∧ q ≤ i ∧ id = (st i).na

/-- What holds when those of S have come, the last of them that changes memory right ahead of q. -/
structure RS {G : GEnv} (nt : Nat) (js : List J) (st : Nat → DS) (φ0 : Pl G) (h0 : H) (n0 : Pt) (w0 : World) (S : Nat → Bool) (q : Nat) (φ : Pl G) (a : Act) (w : World) : Prop where
  defers : a.defers = []
  size : a.tmps.size = nt
  tm : ∀ d x, (∀ i j, js[i]? = some j → j.dst = some (Pt.ofNat d) → S i = true) → (st js.length).t.get (.ofNat d) = some x → VR φ x (a.tmps.getD d undef)
  tm0 : ∀ d x, (∃ i j, js[i]? = some j ∧ j.dst = some (Pt.ofNat d) ∧ S i = false) → (st 0).t.get (.ofNat d) = some x → VR φ x (a.tmps.getD d undef)
  lt : ∀ id b s, φ id = some (b, s) → b < w.heap.size
  fresh : ∀ id p, φ id = some p → id.num < (st q).n.num
  resv : ∀ i, i < js.length → S i = false → Made st i → φ (st i).na = none
  old : ∀ id b s o, φ id = some (b, s) → (st q).h.get id = some o → ObjR φ w b s o
  new : ∀ i o b s, i < js.length → Made st i → S i = true → q ≤ i → φ (st i).na = some (b, s) → (st (i + 1)).h.get (st i).na = some o → ObjR φ w b s o
  inj : ∀ id id' b s s', φ id = some (b, s) → φ id' = some (b, s') → Al js st S q id → Al js st S q id' → id = id'
  ex : Ex φ0 φ
  nw : ∀ id p, φ id = some p → φ0 id = some p ∨ n0.num ≤ id.num
  kept : Kept w0 (Live φ0 h0) w
  mine : ∀ id b s, φ id = some (b, s) → Al js st S q id → w0.heap.size ≤ b ∨ Live φ0 h0 b
  domq : ∀ id o, (st q).h.get id = some o → (h0.get id).isSome = true ∨ (∃ k, k < q ∧ k < js.length ∧ Made st k ∧ id = (st k).na) ∨ n0.num + js.length ≤ id.num
  dlt : ∀ id o, (st q).h.get id = some o → id.num < (st q).n.num
  le : n0.num + js.length ≤ (st q).n.num
  cur : ∀ i j, js[i]? = some j → j.kind = 3 → (S i = true ↔ i < q)
  curq : q ≤ js.length ∧ (q = 0 ∨ ∃ j, js[q - 1]? = some j ∧ j.kind = 3)
  ro0 : Ro φ0 h0 w0

section
variable {nt : Nat} {P : Program} {tab : Tab} {eqs : Env} {call : CallT} {ops : Array Oper} {js : List J} {al : List (List Nat)} {st : Nat → DS} {φ0 : Pl eqs.gs} {h0 : H} {n0 : Pt} {w0 : World} {S : Nat → Bool} {q : Nat} {φ : Pl eqs.gs} {a : Act} {w : World}

/-- A block of the region's own that has not been made when q was the last change. -/
theorem own_none (T : Tr call js st h0 n0) (h00 : ∀ id o, h0.get id = some o → id.num < n0.num) (R : RS nt js st φ0 h0 n0 w0 S q φ a w) {i : Nat} (hi : i < js.length) (hm : Made st i) (hq : q ≤ i) : (st q).h.get (st i).na = none := by
  cases h : (st q).h.get (st i).na with
  | none => rfl
  | some o =>
    exfalso
    have hr := T.made_lt hi
    rcases R.domq _ o h with h1 | ⟨k, h1, h2, h3, h4⟩ | h1
    · obtain ⟨o', h2⟩ := Option.isSome_iff_exists.1 h1
      have := h00 _ o' h2; omega
    · have := T.made_inj hi h2 hm h3 h4; omega
    · omega

theorem al_text (T : Tr call js st h0 n0) (R : RS nt js st φ0 h0 n0 w0 S q φ a w) {i : Nat} (hi : i ≤ js.length) (hq : q = (st i).q) {id : Pt} {p : Nat × Nat} (hp : φ id = some p) (hl : ((st i).h.get id).isSome = true) : Al js st S q id := by
  obtain ⟨o, ho⟩ := Option.isSome_iff_exists.1 hl
  rcases T.hh i hi id o ho with h1 | ⟨k, h1, h2, h3, h4, h5⟩
  · rw [← hq] at h1; exact .inl (by rw [h1]; rfl)
  · refine .inr ⟨k, by omega, h3, ?_, by omega, h4⟩
    cases hS : S k with
    | true => rfl
    | false =>
      have := R.resv k (by omega) hS h3
      rw [← h4, hp] at this; cases this

/-- The memory as the text has it. -/
theorem hp_text (T : Tr call js st h0 n0) (R : RS nt js st φ0 h0 n0 w0 S q φ a w) {i : Nat} (hi : i ≤ js.length) (hq : q = (st i).q) : Hp (st i).h (st q).n w φ where
  lt := R.lt
  fresh := R.fresh
  dom id o ho := by
    rcases T.hh i hi id o ho with h1 | ⟨k, h1, h2, h3, h4, h5⟩
    · rw [← hq] at h1; exact R.dlt id o h1
    · have := T.made_lt (show k < js.length by omega)
      have := R.le
      rw [h4]; omega
  inj id id' b s s' h1 h2 h3 h4 := R.inj id id' b s s' h1 h2 (al_text T R hi hq h1 h3) (al_text T R hi hq h2 h4)
  obj id b s o h1 ho := by
    rcases T.hh i hi id o ho with h2 | ⟨k, h2, h3, h4, h5, h6⟩
    · rw [← hq] at h2; exact R.old id b s o h1 h2
    · have hS : S k = true := by
        cases hS : S k with
        | true => rfl
        | false =>
          have := R.resv k (by omega) hS h4
          rw [← h5, h1] at this; cases this
      subst h5
      exact R.new k o b s (by omega) h4 hS (by omega) h1 h6
  ro := Ro.of R.ro0 R.kept (fun b ⟨id, s, h1, h2⟩ => R.mine id b s h1 (al_text T R hi hq h1 h2)) R.ex.1
theorem hp_cur (T : Tr call js st h0 n0) (R : RS nt js st φ0 h0 n0 w0 S q φ a w) : Hp (st q).h (st q).n w φ :=
  ⟨R.lt, R.fresh, R.dlt, fun id id' b s s' h1 h2 h3 h4 => R.inj id id' b s s' h1 h2 (.inl h3) (.inl h4), R.old, Ro.of R.ro0 R.kept (fun b ⟨id, s, h1, h2⟩ => R.mine id b s h1 (.inl h2)) R.ex.1⟩

/-- The temporaries that are known. -/
theorem known (js : List J) (t t0 : T X) (S : Nat → Bool) : ∃ t' : T X, ∀ p, ((∃ i j, js[i]? = some j ∧ j.dst = some p ∧ S i = false) → t'.get p = t0.get p) ∧ ((∀ i j, js[i]? = some j → j.dst = some p → S i = true) → t'.get p = t.get p) := by
  have key : ∀ (l : List J) (k : Nat), ∃ t' : T X, ∀ p, ((∃ i j, l[i]? = some j ∧ j.dst = some p ∧ S (k + i) = false) → t'.get p = t0.get p) ∧ ((∀ i j, l[i]? = some j → j.dst = some p → S (k + i) = true) → t'.get p = t.get p) := by
    intro l
    induction l with
    | nil => intro k; exact ⟨t, fun p => ⟨fun ⟨i, j, h, _⟩ => by simp at h, fun _ => rfl⟩⟩
    | cons j l ih =>
      intro k
      obtain ⟨t', ht⟩ := ih (k + 1)
      have sh : ∀ i, k + 1 + i = k + (i + 1) := fun i => by omega
      cases hS : S k with
      | true =>
        refine ⟨t', fun p => ⟨fun ⟨i, j', h1, h2, h3⟩ => ?_, fun hall => ?_⟩⟩
        · cases i with
          | zero => rw [Nat.add_zero, hS] at h3; cases h3
          | succ i => exact (ht p).1 ⟨i, j', by simpa using h1, h2, by rw [sh]; exact h3⟩
        · exact (ht p).2 fun i j' h1 h2 => by rw [sh]; exact hall (i + 1) j' (by simpa using h1) h2
      | false =>
        cases hd : j.dst with
        | none =>
          refine ⟨t', fun p => ⟨fun ⟨i, j', h1, h2, h3⟩ => ?_, fun hall => ?_⟩⟩
          · cases i with
            | zero => simp at h1; subst h1; rw [hd] at h2; cases h2
            | succ i => exact (ht p).1 ⟨i, j', by simpa using h1, h2, by rw [sh]; exact h3⟩
          · exact (ht p).2 fun i j' h1 h2 => by rw [sh]; exact hall (i + 1) j' (by simpa using h1) h2
        | some d =>
          refine ⟨T.set (t0.get d) t' d, fun p => ⟨fun ⟨i, j', h1, h2, h3⟩ => ?_, fun hall => ?_⟩⟩
          · rw [get_set]
            split
            · rename_i he; rw [he]
            · rename_i hne
              cases i with
              | zero => simp at h1; subst h1; rw [hd] at h2; cases h2; exact absurd rfl hne
              | succ i => exact (ht p).1 ⟨i, j', by simpa using h1, h2, by rw [sh]; exact h3⟩
          · rw [get_set, if_neg]
            · exact (ht p).2 fun i j' h1 h2 => by rw [sh]; exact hall (i + 1) j' (by simpa using h1) h2
            · intro e
              subst e
              have := hall 0 j rfl hd
              rw [Nat.add_zero, hS] at this; cases this
  obtain ⟨t', ht⟩ := key js 0
  exact ⟨t', fun p => by simpa only [Nat.zero_add] using ht p⟩

/-- i may come next. -/
structure Rdy (ops : Array Oper) (S : Nat → Bool) (i : Nat) : Prop where
  closed : Closed ops S
  un : S i = false
  deps : ∀ o, ops[i]? = some o → ∀ e ∈ o.after, Region.binds .any e = true → S e.on = true
theorem Rdy.anc {i : Nat} (r : Rdy ops S i) {k : Nat} (h : Anc ops i k) : S k = true := h S r.closed r.deps
theorem Rdy.noDesc {i : Nat} (r : Rdy ops S i) {k : Nat} (hk : S k = true) (h : Anc ops k i) : False := by
  have := h S r.closed fun o ho e he hb => r.closed k o ho hk e he hb
  rw [r.un] at this; cases this

theorem in_flag (F : SF ops js al) (R : RS nt js st φ0 h0 n0 w0 S q φ a w) {i : Nat} (r : Rdy ops S i) {j : J} (hj : js[i]? = some j) (hk : j.kind = 1 ∨ j.kind = 2) : memN q ((al[i]?).getD []) = true := by
  cases hm : memN q ((al[i]?).getD []) with
  | true => rfl
  | false =>
    exfalso
    rcases F.flag i j q hj hk R.curq.1 R.curq.2 hm with ⟨h1, h2⟩ | ⟨k, j', h1, h2, h3, h4⟩
    · rcases R.curq.2 with h3 | ⟨j', h3, h4⟩
      · omega
      · have hS := (R.cur (q - 1) j' h3 h4).2 (by omega)
        exact r.noDesc hS h2
    · have := (R.cur k j' h2 h3).1 (r.anc h4); omega

def add (S : Nat → Bool) (i : Nat) : Nat → Bool := fun k => bif Nat.beq k i then true else S k
theorem add_self (S : Nat → Bool) (i : Nat) : add S i i = true := by simp [add]
theorem add_ne {S : Nat → Bool} {i k : Nat} (h : k ≠ i) : add S i k = S k := by simp only [add, beq_ff h]; rfl
theorem add_false {S : Nat → Bool} {i k : Nat} (h : add S i k = false) : k ≠ i ∧ S k = false := by
  by_cases hk : k = i
  · subst hk; rw [add_self] at h; cases h
  · rw [add_ne hk] at h; exact ⟨hk, h⟩
theorem add_true {S : Nat → Bool} {i k : Nat} (h : add S i k = true) (hk : k ≠ i) : S k = true := by rw [add_ne hk] at h; exact h

/-- The temporaries behind an operation. -/
theorem tm_put (F : SF ops js al) (T : Tr call js st h0 n0) (R : RS nt js st φ0 h0 n0 w0 S q φ a w) {i : Nat} {j : J} (hj : js[i]? = some j) {dst : Option Tmp} (hd : j.dst = dst.map .ofNat) (hlt : ∀ p, dst = some p → p < nt) {φ' : Pl eqs.gs} (he : Ex φ φ') {x : X} {v : Value} (hv : VR φ' x v)
    (hx : (st (i + 1)).t = putO (st i).t j.dst x) : ∀ d y, (∀ i' j', js[i']? = some j' → j'.dst = some (Pt.ofNat d) → add S i i' = true) → (st js.length).t.get (.ofNat d) = some y → VR φ' y ((a.put dst v).tmps.getD d undef) := by
  intro d y hall hy
  have hi : i < js.length := (List.getElem?_eq_some_iff.1 hj).1
  by_cases hdd : dst = some d
  · subst hdd
    have hs : (st js.length).t.get (.ofNat d) = (st (i + 1)).t.get (.ofNat d) := T.slot js.length (by omega) (Nat.le_refl _) fun l j' h1 h2 h3 h4 => by
      have := F.uniq l i j' j (.ofNat d) h3 hj h4 (by rw [hd]; rfl); omega
    rw [hs, hx, hd] at hy
    have : ((st i).t.put (Pt.ofNat d) x).get (.ofNat d) = some y := hy
    rw [get_put, if_pos rfl] at this
    cases this
    rw [getD_put a d d v (by rw [R.size]; exact hlt d rfl), if_pos rfl]
    exact hv
  · have hne : j.dst ≠ some (Pt.ofNat d) := fun e => by
      rw [hd] at e
      cases dst with
      | none => cases e
      | some p =>
        simp only [Option.map_some, Option.some.injEq] at e
        exact hdd (by rw [ofNat_inj e])
    have hS : ∀ i' j', js[i']? = some j' → j'.dst = some (Pt.ofNat d) → S i' = true := fun i' j' h1 h2 => by
      refine add_true (hall i' j' h1 h2) fun e => ?_
      subst e
      rw [hj] at h1; cases h1
      exact hne h2
    have h1 := (R.tm d y hS hy).mono he
    cases dst with
    | none => exact h1
    | some p =>
      rw [getD_put a p d v (by rw [R.size]; exact hlt p rfl), if_neg (fun e => hdd (by rw [e]))]
      exact h1

theorem tm0_put (F : SF ops js al) (R : RS nt js st φ0 h0 n0 w0 S q φ a w) {i : Nat} {j : J} (hj : js[i]? = some j) {dst : Option Tmp} (hd : j.dst = dst.map .ofNat) (hlt : ∀ p, dst = some p → p < nt) {φ' : Pl eqs.gs} (he : Ex φ φ') {v : Value} :
    ∀ d y, (∃ i' j', js[i']? = some j' ∧ j'.dst = some (Pt.ofNat d) ∧ add S i i' = false) → (st 0).t.get (.ofNat d) = some y → VR φ' y ((a.put dst v).tmps.getD d undef) := by
  intro d y ⟨i', j', h1, h2, h3⟩ hy
  obtain ⟨hne, hS⟩ := add_false h3
  have h4 := (R.tm0 d y ⟨i', j', h1, h2, hS⟩ hy).mono he
  cases dst with
  | none => exact h4
  | some p =>
    have hpd : p ≠ d := fun e => by
      subst e
      exact hne (F.uniq i' i j' j _ h1 hj h2 (by rw [hd]; rfl))
    rw [getD_put a p d v (by rw [R.size]; exact hlt p rfl), if_neg (fun e => hpd e.symm)]
    exact h4

theorem beqX1_eq {x y : X} (h : beqX1 x y = true) : x = y := by
  unfold beqX1 at h
  split at h <;> simp_all
theorem beqL_eq : ∀ {a b : List X}, beqL a b = true → a = b := by
  intro a
  induction a with
  | nil => intro b h; cases b with
    | nil => rfl
    | cons y b => simp [beqL] at h
  | cons x a ih =>
    intro b h
    cases b with
    | nil => simp [beqL] at h
    | cons y b =>
      simp only [beqL, Bool.and_eq_true] at h
      rw [beqX1_eq h.1, ih h.2]
theorem beqX0_eq {x y : X} (h : beqX0 x y = true) : x = y := by
  unfold beqX0 at h
  split at h
  · rw [beqL_eq h]
  · simp only [Bool.and_eq_true] at h
    rw [Nat.eq_of_beq_eq_true h.1, beqL_eq h.2]
  · rw [beqL_eq h]
  · exact beqX1_eq h
theorem beqX_eq {x y : X} (h : beqX x y = true) : x = y := by
  unfold beqX at h
  rcases Bool.or_eq_true_iff.1 h with h | h
  · exact beqX0_eq h
  · exact @of_decide_eq_true _ (Classical.propDecidable _) h
theorem beqX_refl (x : X) : beqX x x = true := by
  unfold beqX
  rw [@decide_eq_true _ (Classical.propDecidable _) rfl, Bool.or_true]
theorem beqO0_eq {x y : O} (h : beqO0 x y = true) : x = y := by
  unfold beqO0 at h
  split at h
  · rw [beqL_eq h]
  · simp at h; rw [h]
  · simp at h; rw [h]
  · cases h
theorem beqO_eq {x y : O} (h : beqO x y = true) : x = y := by
  unfold beqO at h
  rcases Bool.or_eq_true_iff.1 h with h | h
  · exact beqO0_eq h
  · exact @of_decide_eq_true _ (Classical.propDecidable _) h
theorem beqO_refl (x : O) : beqO x x = true := by
  unfold beqO
  rw [@decide_eq_true _ (Classical.propDecidable _) rfl, Bool.or_true]
end
end Go.Ex

/- Regions of any order: one operation more. Nothing here speaks of one program. -/
set_option linter.unusedVariables false
set_option linter.unusedSimpArgs false
namespace Go.Ex
section
variable {nt : Nat} {P : Program} {tab : Tab} {eqs : Env} {call : CallT} {ops : Array Oper} {js : List J} {al : List (List Nat)} {st : Nat → DS} {φ0 : Pl eqs.gs} {h0 : H} {n0 : Pt} {w0 : World} {S : Nat → Bool} {q : Nat} {φ : Pl eqs.gs} {a : Act} {w : World}

/-- A value is put, nothing else. -/
theorem rs_val (F : SF ops js al) (T : Tr call js st h0 n0) (R : RS nt js st φ0 h0 n0 w0 S q φ a w) {i : Nat} {j : J} (hj : js[i]? = some j) (hk : j.kind ≠ 3) (hm : ¬ Made st i) {dst : Option Tmp} (hd : j.dst = dst.map .ofNat) (hlt : ∀ p, dst = some p → p < nt) {x : X} {v : Value} (hv : VR φ x v)
    (hx : (st (i + 1)).t = putO (st i).t j.dst x) : RS nt js st φ0 h0 n0 w0 (add S i) q φ (a.put dst v) w := by
  have hal : ∀ id, Al js st (add S i) q id → Al js st S q id := fun id h => by
    rcases h with h | ⟨k, h1, h2, h3, h4, h5⟩
    · exact .inl h
    · exact .inr ⟨k, h1, h2, add_true h3 (fun e => hm (by rw [← e]; exact h2)), h4, h5⟩
  exact {
    defers := by rw [put_defers]; exact R.defers
    size := by rw [put_size]; exact R.size
    tm := tm_put F T R hj hd hlt (Ex.refl φ) hv hx
    tm0 := tm0_put F R hj hd hlt (Ex.refl φ)
    lt := R.lt
    fresh := R.fresh
    resv := fun k h1 h2 h3 => R.resv k h1 (add_false h2).2 h3
    old := R.old
    new := fun k o b s h1 h2 h3 h4 h5 h6 => R.new k o b s h1 h2 (add_true h3 (fun e => hm (by rw [← e]; exact h2))) h4 h5 h6
    inj := fun id id' b s s' h1 h2 h3 h4 => R.inj id id' b s s' h1 h2 (hal _ h3) (hal _ h4)
    ex := R.ex
    nw := R.nw
    kept := R.kept
    mine := fun id b s h1 h2 => R.mine id b s h1 (hal _ h2)
    domq := R.domq
    dlt := R.dlt
    le := R.le
    cur := fun k j' h1 h2 => by
      rw [add_ne (fun e => by subst e; rw [hj] at h1; cases h1; exact hk h2)]
      exact R.cur k j' h1 h2
    curq := R.curq
    ro0 := R.ro0 }

/-- A block is made. -/
theorem rs_alc (F : SF ops js al) (T : Tr call js st h0 n0) (h00 : ∀ id o, h0.get id = some o → id.num < n0.num) (R : RS nt js st φ0 h0 n0 w0 S q φ a w) {i : Nat} {j : J} (hj : js[i]? = some j) (hk : j.kind = 2) (hun : S i = false) (hm : Made st i) {dst : Option Tmp} (hd : j.dst = dst.map .ofNat) (hlt : ∀ p, dst = some p → p < nt)
    {x : X} {v : Value} {obj : Obj} {s : Nat} {ob : O} (hob : (st (i + 1)).h.get (st i).na = some ob) (ho : ∀ φ' : Pl eqs.gs, Ex φ φ' → ObjR φ' (w.alloc obj) w.heap.size s ob) (hv : ∀ φ' : Pl eqs.gs, φ' (st i).na = some (w.heap.size, s) → VR φ' x v)
    (hlate : i < q → ∀ o, (st q).h.get (st i).na = some o → o = ob) (hx : (st (i + 1)).t = putO (st i).t j.dst x) : RS nt js st φ0 h0 n0 w0 (add S i) q (addPl φ (st i).na (w.heap.size, s)) (a.put dst v) (w.alloc obj) := by
  have hi : i < js.length := (List.getElem?_eq_some_iff.1 hj).1
  have hrg := T.made_lt hi
  have hno : φ (st i).na = none := R.resv i hi hun hm
  have hex : Ex φ (addPl φ (st i).na (w.heap.size, s)) := addPl_ex hno
  have hcase : ∀ id p, addPl φ (st i).na (w.heap.size, s) id = some p → (id = (st i).na ∧ p = (w.heap.size, s)) ∨ (id ≠ (st i).na ∧ φ id = some p) := fun id p h1 => by
    rw [addPl_eq] at h1
    split at h1
    · rename_i h2; exact .inl ⟨h2, by cases h1; rfl⟩
    · rename_i h2; exact .inr ⟨h2, h1⟩
  have hsz : w0.heap.size ≤ w.heap.size := R.kept.size
  have hal : ∀ id, id ≠ (st i).na → Al js st (add S i) q id → Al js st S q id := fun id hne h => by
    rcases h with h | ⟨k, h1, h2, h3, h4, h5⟩
    · exact .inl h
    · exact .inr ⟨k, h1, h2, add_true h3 (fun e => hne (by rw [h5, e])), h4, h5⟩
  exact {
    defers := by rw [put_defers]; exact R.defers
    size := by rw [put_size]; exact R.size
    tm := tm_put F T R hj hd hlt hex (hv _ (by simp [addPl])) hx
    tm0 := tm0_put F R hj hd hlt hex
    lt := fun id b s' h1 => by
      rcases hcase id _ h1 with ⟨_, h2⟩ | ⟨_, h2⟩
      · cases h2; simp
      · have := R.lt id b s' h2; simp; omega
    fresh := fun id p h1 => by
      rcases hcase id p h1 with ⟨h2, _⟩ | ⟨_, h2⟩
      · subst h2; have := R.le; omega
      · exact R.fresh id p h2
    resv := fun k h1 h2 h3 => by
      obtain ⟨g1, g2⟩ := add_false h2
      have hne : (st k).na ≠ (st i).na := fun e => g1 (T.made_inj h1 hi h3 hm e)
      rw [addPl_eq]
      rw [if_neg hne]
      exact R.resv k h1 g2 h3
    old := fun id b s' o h1 h2 => by
      rcases hcase id _ h1 with ⟨g1, g2⟩ | ⟨g1, g2⟩
      · subst g1; cases g2
        rcases Nat.lt_or_ge i q with h3 | h3
        · rw [hlate h3 o h2]; exact ho _ hex
        · rw [own_none T h00 R hi hm h3] at h2; cases h2
      · exact (R.old id b s' o g2 h2).mono hex (heap_old w obj (R.lt id b s' g2))
    new := fun k o b s' h1 h2 h3 h4 h5 h6 => by
      rcases hcase _ _ h5 with ⟨g1, g2⟩ | ⟨g1, g2⟩
      · have := T.made_inj h1 hi h2 hm g1
        subst this
        cases g2
        rw [hob] at h6; cases h6
        exact ho _ hex
      · have hki : k ≠ i := fun e => g1 (by rw [e])
        exact (R.new k o b s' h1 h2 (add_true h3 hki) h4 g2 h6).mono hex (heap_old w obj (R.lt _ b s' g2))
    inj := fun id id' b s1 s2 h1 h2 h3 h4 => by
      rcases hcase id _ h1 with ⟨g1, g2⟩ | ⟨g1, g2⟩
      · rcases hcase id' _ h2 with ⟨g3, g4⟩ | ⟨g3, g4⟩
        · rw [g1, g3]
        · cases g2; have := R.lt id' _ _ g4; omega
      · rcases hcase id' _ h2 with ⟨g3, g4⟩ | ⟨g3, g4⟩
        · cases g4; have := R.lt id _ _ g2; omega
        · exact R.inj id id' b s1 s2 g2 g4 (hal _ g1 h3) (hal _ g3 h4)
    ex := R.ex.trans hex
    nw := fun id p h1 => by
      rcases hcase id p h1 with ⟨h2, _⟩ | ⟨_, h2⟩
      · subst h2; exact .inr hrg.1
      · exact R.nw id p h2
    kept := ⟨R.kept.os, R.kept.tape, R.kept.output, by simp; omega, fun k hk hl => by rw [heap_old w obj (by omega)]; exact R.kept.block k hk hl⟩
    mine := fun id b s' h1 h2 => by
      rcases hcase id _ h1 with ⟨_, g2⟩ | ⟨g1, g2⟩
      · cases g2; exact .inl hsz
      · exact R.mine id b s' g2 (hal _ g1 h2)
    domq := R.domq
    dlt := R.dlt
    le := R.le
    cur := fun k j' h1 h2 => by
      rw [add_ne (fun e => by subst e; rw [hj] at h1; cases h1; omega)]
      exact R.cur k j' h1 h2
    curq := R.curq
    ro0 := R.ro0 }

/-- What was there may have changed. -/
theorem rs_wr (F : SF ops js al) (T : Tr call js st h0 n0) (h00 : ∀ id o, h0.get id = some o → id.num < n0.num) (R : RS nt js st φ0 h0 n0 w0 S q φ a w) {i : Nat} {j : J} (hj : js[i]? = some j) (hk : j.kind = 3) (r : Rdy ops S i) (hq : q = (st i).q)
    {t1 : Go.Ex.T X} (htk : ∀ p, ((∃ i j, js[i]? = some j ∧ j.dst = some p ∧ S i = false) → t1.get p = (st 0).t.get p) ∧ ((∀ i j, js[i]? = some j → j.dst = some p → S i = true) → t1.get p = (st js.length).t.get p)) {x : X} {φ' : Pl eqs.gs} {a' : Act} {w' : World}
    (hs : Step φ (st i).h (st i).n w φ' (st (i + 1)).h (st (i + 1)).n w') (hst : St nt φ' (putO t1 j.dst x) (st (i + 1)).h (st (i + 1)).n a' w') (hx : (st (i + 1)).t = putO (st i).t j.dst x) (hqi : (st (i + 1)).q = i + 1) : RS nt js st φ0 h0 n0 w0 (add S i) (i + 1) φ' a' w' := by
  have hi : i < js.length := (List.getElem?_eq_some_iff.1 hj).1
  have hnn : (st i).n = (st q).n := by rw [hq]; exact T.nn i (by omega)
  have hqle : q ≤ i := by rw [hq]; exact (T.qq i (by omega)).1
  have hal0 : ∀ id p, φ id = some p → ((st i).h.get id).isSome = true → Al js st S q id := fun id p h1 h2 => al_text T R (by omega) hq h1 h2
  -- a block of the region's own that the text makes later is not there
  have hnone : ∀ k, k < js.length → Made st k → i + 1 ≤ k → (st i).h.get (st k).na = none := fun k h1 h2 h3 => by
    cases h : (st i).h.get (st k).na with
    | none => rfl
    | some o =>
      exfalso
      rcases T.hh i (by omega) _ o h with h4 | ⟨k', h4, h5, h6, h7, _⟩
      · rw [← hq, own_none T h00 R h1 h2 (by omega)] at h4; cases h4
      · have := T.made_inj h1 (by omega) h2 h6 h7; omega
  have hback : ∀ k p, k < js.length → Made st k → φ' (st k).na = some p → φ (st k).na = some p := fun k p h1 h2 h3 => by
    rcases hs.new _ p h3 with h4 | h4
    · exact h4
    · have h5 := T.made_lt h1
      have h6 := R.le
      rw [hnn] at h4; omega
  -- its block is none of those that the operation may change
  have hapart : ∀ k b s, k < js.length → Made st k → S k = true → i + 1 ≤ k → φ (st k).na = some (b, s) → ¬ Live φ (st i).h b := fun k b s h1 h2 h3 h4 h5 ⟨id, s', h6, h7⟩ => by
    have h8 := R.inj id (st k).na b s' s h6 h5 (hal0 id _ h6 h7) (.inr ⟨k, h1, h2, h3, by omega, rfl⟩)
    rw [h8, hnone k h1 h2 h4] at h7
    cases h7
  have hnew : ∀ k, k < js.length → Made st k → add S i k = true → i + 1 ≤ k → S k = true := fun k _ _ h3 h4 => add_true h3 (by omega)
  exact {
    defers := hst.defers
    size := hst.size
    tm := fun d y hall hy => by
      by_cases hdd : j.dst = some (Pt.ofNat d)
      · have hs2 : (st js.length).t.get (.ofNat d) = (st (i + 1)).t.get (.ofNat d) := T.slot js.length (by omega) (Nat.le_refl _) fun l j' h1 h2 h3 h4 => by
          have := F.uniq l i j' j (.ofNat d) h3 hj h4 hdd; omega
        rw [hs2, hx, hdd] at hy
        have hy2 : ((st i).t.put (Pt.ofNat d) x).get (.ofNat d) = some y := hy
        rw [get_put, if_pos rfl] at hy2
        cases hy2
        refine hst.tm d x ?_
        rw [hdd]
        show (t1.put (Pt.ofNat d) x).get _ = _
        rw [get_put, if_pos rfl]
      · refine hst.tm d y ?_
        have : (putO t1 j.dst x).get (.ofNat d) = t1.get (.ofNat d) := by
          cases hjd : j.dst with
          | none => rfl
          | some p => show (t1.put p x).get _ = _; rw [get_put, if_neg (fun e => hdd (by rw [hjd, e]))]
        rw [this, (htk (.ofNat d)).2 fun i' j' h1 h2 => add_true (hall i' j' h1 h2) (fun e => by subst e; rw [hj] at h1; cases h1; exact hdd h2)]
        exact hy
    tm0 := fun d y ⟨i', j', h1, h2, h3⟩ hy => by
      obtain ⟨hne, hS⟩ := add_false h3
      refine hst.tm d y ?_
      have : (putO t1 j.dst x).get (.ofNat d) = t1.get (.ofNat d) := by
        cases hjd : j.dst with
        | none => rfl
        | some p => show (t1.put p x).get _ = _; rw [get_put, if_neg (fun e => hne (F.uniq i' i j' j _ h1 hj h2 (by rw [hjd, e])))]
      rw [this, (htk (.ofNat d)).1 ⟨i', j', h1, h2, hS⟩]
      exact hy
    lt := hst.hp.lt
    fresh := hst.hp.fresh
    resv := fun k h1 h2 h3 => by
      cases h : φ' (st k).na with
      | none => rfl
      | some p =>
        have h4 := hback k p h1 h3 h
        rw [R.resv k h1 (add_false h2).2 h3] at h4; cases h4
    old := hst.hp.obj
    new := fun k o b s h1 h2 h3 h4 h5 h6 => by
      have hS := hnew k h1 h2 h3 h4
      have h7 := hback k _ h1 h2 h5
      exact (R.new k o b s h1 h2 hS (by omega) h7 h6).mono hs.ex (hs.kept.block b (R.lt _ b s h7) (hapart k b s h1 h2 hS h4 h7))
    inj := fun id id' b s s' h1 h2 h3 h4 => by
      have cross : ∀ id b s k s', φ' id = some (b, s) → ((st (i + 1)).h.get id).isSome = true → k < js.length → Made st k → add S i k = true → i + 1 ≤ k → φ' (st k).na = some (b, s') → False := fun id b s k s' g1 g2 g3 g4 g5 g6 g7 => by
        have hS := hnew k g3 g4 g5 g6
        have g8 := hback k _ g3 g4 g7
        rcases hs.mine b ⟨id, s, g1, g2⟩ with g9 | g9
        · have := R.lt _ _ _ g8; omega
        · exact hapart k b s' g3 g4 hS g6 g8 g9
      rcases h3 with h3 | ⟨k, k1, k2, k3, k4, k5⟩
      · rcases h4 with h4 | ⟨k, k1, k2, k3, k4, k5⟩
        · exact hst.hp.inj id id' b s s' h1 h2 h3 h4
        · subst k5; exact (cross id b s k s' h1 h3 k1 k2 k3 k4 h2).elim
      · rcases h4 with h4 | ⟨k', l1, l2, l3, l4, l5⟩
        · subst k5; exact (cross id' b s' k s h2 h4 k1 k2 k3 k4 h1).elim
        · subst k5; subst l5
          exact R.inj _ _ b s s' (hback k _ k1 k2 h1) (hback k' _ l1 l2 h2) (.inr ⟨k, k1, k2, hnew k k1 k2 k3 k4, by omega, rfl⟩) (.inr ⟨k', l1, l2, hnew k' l1 l2 l3 l4, by omega, rfl⟩)
    ex := R.ex.trans hs.ex
    nw := fun id p h1 => by
      rcases hs.new id p h1 with h2 | h2
      · exact R.nw id p h2
      · have := R.le; rw [hnn] at h2; exact .inr (by omega)
    kept := ⟨hs.kept.os.trans R.kept.os, hs.kept.tape.trans R.kept.tape, hs.kept.output.trans R.kept.output, Nat.le_trans R.kept.size hs.kept.size, fun k hk hl => by
      rw [hs.kept.block k (Nat.lt_of_lt_of_le hk R.kept.size) fun ⟨id, s, h1, h2⟩ => ?_]
      · exact R.kept.block k hk hl
      · rcases R.mine id k s h1 (hal0 id _ h1 h2) with h3 | h3
        · omega
        · exact hl h3⟩
    mine := fun id b s h1 h2 => by
      rcases h2 with h2 | ⟨k, k1, k2, k3, k4, k5⟩
      · rcases hs.mine b ⟨id, s, h1, h2⟩ with h3 | ⟨id', s', h3, h4⟩
        · exact .inl (Nat.le_trans R.kept.size h3)
        · exact R.mine id' b s' h3 (hal0 id' _ h3 h4)
      · subst k5
        exact R.mine _ b s (hback k _ k1 k2 h1) (.inr ⟨k, k1, k2, hnew k k1 k2 k3 k4, by omega, rfl⟩)
    domq := fun id o h1 => by
      rcases hs.grow id o h1 with h2 | h2
      · obtain ⟨o', h3⟩ := Option.isSome_iff_exists.1 h2
        rcases T.hh i (by omega) id o' h3 with h4 | ⟨k, h4, h5, h6, h7, _⟩
        · rw [← hq] at h4
          rcases R.domq id o' h4 with h5 | ⟨k, k1, k2, k3, k4⟩ | h5
          · exact .inl h5
          · exact .inr (.inl ⟨k, by omega, k2, k3, k4⟩)
          · exact .inr (.inr h5)
        · exact .inr (.inl ⟨k, by omega, by omega, h6, h7⟩)
      · have := R.le; rw [hnn] at h2; exact .inr (.inr (by omega))
    dlt := hst.hp.dom
    le := by have h1 := R.le; have h2 := hs.le; rw [hnn] at h2; omega
    cur := fun k j' h1 h2 => by
      rcases Nat.lt_trichotomy k i with h3 | h3 | h3
      · rw [add_ne (by omega)]
        have h4 : S k = true := r.anc (F.chain k i j' j h1 hj h2 hk h3)
        exact ⟨fun _ => by omega, fun _ => h4⟩
      · subst h3; rw [add_self]; exact ⟨fun _ => by omega, fun _ => rfl⟩
      · rw [add_ne (by omega)]
        refine ⟨fun h4 => (r.noDesc h4 (F.chain i k j j' hj h1 hk h2 h3)).elim, fun h4 => by omega⟩
    curq := ⟨by omega, .inr ⟨j, by simpa using hj, hk⟩⟩
    ro0 := R.ro0 }
end
end Go.Ex

/- Regions of any order. Nothing here speaks of one program. -/
set_option linter.unusedVariables false
set_option linter.unusedSimpArgs false
namespace Go.Ex

theorem cJ_fine {tab : Tab} {eqs : Env} {nt : Nat} {ops : Array Oper} {o : Oper} : (cJ tab eqs nt ops o).fine := by
  unfold cJ
  split
  · rename_i j1 h1
    unfold cJ1 at h1
    split at h1
    · exact (cJ0_dst h1).1
    · split at h1
      · rename_i g j0 hq h0
        obtain ⟨g1, g2, g3⟩ := cJ0_dst h0
        split at h1
        · rename_i d hd
          cases hb : (Nat.blt g nt && Nat.blt d nt) with
          | false => rw [hb] at h1; cases h1
          | true => rw [hb] at h1; cases h1; exact ⟨by rw [g2, hd]; rfl, g1⟩
        · rename_i hd
          cases hb : Nat.blt g nt with
          | false => rw [hb] at h1; cases h1
          | true => rw [hb] at h1; cases h1; exact ⟨by rw [g2, hd]; rfl, g1⟩
      · cases h1
  · trivial

theorem eff_a {call : CallT} {t : T X} {h : H} {n : Pt} {d : Pt} {i : IA} {x : X} {h' : H} {n' : Pt} (he : Eff call t h n (.a d i) x h' n') : n' = n.inc := by
  generalize hj : J.a d i = j at he
  cases he with
  | a => rfl
  | _ => cases hj

section
variable {nt : Nat} {P : Program} {tab : Tab} {eqs : Env} {call : CallT} {ops : Array Oper} {js : List J} {al : List (List Nat)} {st : Nat → DS} {φ0 : Pl eqs.gs} {h0 : H} {n0 : Pt} {w0 : World} {S : Nat → Bool} {q : Nat} {φ : Pl eqs.gs} {a : Act} {w : World}

theorem rs_step (ht : TabOk P tab) (hq : EqsOk P eqs) (hcall : CallOk eqs.gs P call) (hjs : ∀ (i : Nat) (o : Oper), ops[i]? = some o → js[i]? = some (cJ tab eqs nt ops o)) (F : SF ops js al) (T : Tr call js st h0 n0) (h00 : ∀ id o, h0.get id = some o → id.num < n0.num)
    (C : ∀ (i : Nat) (j : J), js[i]? = some j → Chk call (st js.length).hs (j, (al[i]?).getD []) (st i) (st (i + 1))) (R : RS nt js st φ0 h0 n0 w0 S q φ a w) {i : Nat} (r : Rdy ops S i) {o : Oper} (ho : ops[i]? = some o)
    (K : Act → World → Prop) (Q : Exit → Act → World → Prop) (hK : ∀ q' φ' a' w', RS nt js st φ0 h0 n0 w0 (add S i) q' φ' a' w' → K a' w') : wpOp P ops Q i K a w := by
  have hj := hjs i o ho
  have hi : i < js.length := (List.getElem?_eq_some_iff.1 hj).1
  have hji : js[i] = cJ tab eqs nt ops o := by rw [List.getElem?_eq_getElem hi] at hj; exact Option.some.inj hj
  obtain ⟨t1, htk⟩ := known js (st js.length).t (st 0).t S
  have hdone : ∀ p, (∀ i j, js[i]? = some j → j.dst = some p → S i = true) ∨ ∃ i j, js[i]? = some j ∧ j.dst = some p ∧ S i = false := fun p => by
    by_cases h : ∃ i j, js[i]? = some j ∧ j.dst = some p ∧ S i = false
    · exact .inr h
    · refine .inl fun i' j' h1 h2 => ?_
      cases hS : S i' with
      | true => rfl
      | false => exact absurd ⟨i', j', h1, h2, hS⟩ h
  have htm : TmR φ t1 a := fun d x hx => by
    rcases hdone (.ofNat d) with hall | hex
    · rw [(htk (.ofNat d)).2 hall] at hx
      exact R.tm d x hall hx
    · rw [(htk (.ofNat d)).1 hex] at hx
      exact R.tm0 d x hex hx
  -- what an operand held, whatever has come since
  have hboth : ∀ p ∈ (cJ tab eqs nt ops o).uses, t1.get p = (st i).t.get p ∧ t1.get p = (st (i + 1)).t.get p := fun p hp => by
    rcases hdone p with hall | ⟨i', j', h1, h2, h3⟩
    · have hw : ∀ i' j', js[i']? = some j' → j'.dst = some p → i' < i := fun i' j' h1 h2 => by
        rcases F.reads i _ p hj hp i' j' h1 h2 with g | ⟨_, g⟩
        · exact g.1
        · exact (r.noDesc (hall i' j' h1 h2) g).elim
      rw [(htk p).2 hall]
      exact ⟨T.slot js.length (by omega) (Nat.le_refl _) fun l j' g1 g2 g3 g4 => (by have := hw l j' g3 g4; omega),
        T.slot js.length (by omega) (Nat.le_refl _) fun l j' g1 g2 g3 g4 => (by have := hw l j' g3 g4; omega)⟩
    · have hw : i < i' := by
        rcases F.reads i _ p hj hp i' j' h1 h2 with ⟨_, g⟩ | g
        · rw [r.anc g] at h3; cases h3
        · exact g.1
      rw [(htk p).1 ⟨i', j', h1, h2, h3⟩]
      exact ⟨(T.slot i (Nat.zero_le _) (by omega) fun l j'' g1 g2 g3 g4 => (by have := F.uniq l i' j'' j' p g3 h1 g4 h2; omega)).symm,
        (T.slot (i + 1) (Nat.zero_le _) (by omega) fun l j'' g1 g2 g3 g4 => (by have := F.uniq l i' j'' j' p g3 h1 g4 h2; omega)).symm⟩
  have hsameF : Same (st (i + 1)).t t1 (cJ tab eqs nt ops o).uses := fun p hp => (hboth p hp).2
  have hsame : Same (st i).t t1 (cJ tab eqs nt ops o).uses := fun p hp => (hboth p hp).1
  have hD := T.go i _ hj
  generalize hs1 : st (i + 1) = s1 at hD
  cases hD with
  | val x hk he =>
    have hm : ¬ Made st i := fun h => by unfold Made at h; rw [hs1] at h; exact h rfl
    have hxt : (st (i + 1)).t = putO (st i).t (cJ tab eqs nt ops o).dst x := by rw [hs1]
    obtain ⟨_, hd, hlt, _⟩ := cJ_form rfl he
    have hk3 : (cJ tab eqs nt ops o).kind ≠ 3 := by rcases hk with hk | hk <;> omega
    rcases hk with hk | hk
    · obtain ⟨v, g1, g2⟩ := real_val (w := w) ht hq ho rfl (.inl hk) (he.same hsame) htm R.size (fun h => by omega)
      exact g2 K Q (hK q φ _ w (rs_val F T R hj hk3 hm hd hlt g1 hxt))
    · -- it looks into memory
      have main : ∀ hh, Eff call t1 hh (st q).n (cJ tab eqs nt ops o) x hh (st q).n → Hp hh (st q).n w φ → wpOp P ops Q i K a w := fun hh he' hp => by
        obtain ⟨v, g1, g2⟩ := real_val (w := w) ht hq ho rfl (.inr hk) he' htm R.size (fun _ => hp)
        exact g2 K Q (hK q φ _ w (rs_val F T R hj hk3 hm hd hlt g1 hxt))
      by_cases hqq : q = (st i).q
      · exact main _ ((he.read hk (st q).n).same hsame) (hp_text T R (by omega) hqq)
      · have hfl := in_flag F R r hj (.inl hk)
        have hc := reAll_mem ((C i _ hj).1 hk) q (st q).h (T.hs_mem R.curq.1 R.curq.2) (by simp only [hfl, beq_ff hqq]; rfl)
        -- its value on this memory is what it was
        unfold reR at hc
        cases hdst : (cJ tab eqs nt ops o).dst with
        | none => rw [hdst] at hc; cases hc
        | some d =>
          rw [hdst] at hc
          simp only at hc
          split at hc
          · rename_i x0 t2 h2 n2 hx0 hst2
            split at hc
            · rename_i y hy
              obtain ⟨y', e1, e2⟩ := step_eff cJ_fine hst2
              rw [e2, hdst] at hy
              have hy2 : ((st (i + 1)).t.put d y').get d = some y := hy
              rw [get_put, if_pos rfl] at hy2
              cases hy2
              have hyx := beqX_eq hc
              subst hyx
              -- x0 is x
              have hxx : y = x := by
                rw [hxt, hdst] at hx0
                have : ((st i).t.put d x).get d = some y := hx0
                rw [get_put, if_pos rfl] at this
                exact (Option.some.inj this).symm
              subst hxx
              obtain ⟨rfl, rfl⟩ := e1.value (.inr hk)
              exact main _ ((e1.read hk (st q).n).same hsameF) (hp_cur T R)
            · cases hc
          · cases hc
  | pass x hk he =>
    have hm : ¬ Made st i := fun h => by unfold Made at h; rw [hs1] at h; exact h rfl
    have hxt : (st (i + 1)).t = putO (st i).t (cJ tab eqs nt ops o).dst x := by rw [hs1]
    obtain ⟨_, hd, hlt, _⟩ := cJ_form rfl (he .e .z)
    obtain ⟨j0, h0', hk0, hc⟩ := cJ_comes (φ := φ) rfl ((he .e .z).same hsame) htm R.size
    rcases hc with ⟨hw, he0⟩ | ⟨hw, g1, _, _⟩
    · -- it would make a block
      exfalso
      have hk2 : j0.kind = 2 := by rw [hk0, hk]
      unfold cJ0 at h0'
      split at h0'
      · split at h0'
        · rename_i d _
          cases hb : Nat.blt d nt with
          | false => rw [hb] at h0'; cases h0'
          | true => rw [hb] at h0'; cases h0'; simp [kind_p] at hk2
        · cases h0'
      · split at h0'
        · rename_i d _
          cases hb : Nat.blt d nt with
          | false => rw [hb] at h0'; cases h0'
          | true => rw [hb] at h0'; cases h0'; simp [kind_r] at hk2
        · cases h0'
      · split at h0'
        · rename_i d _
          cases hb : Nat.blt d nt with
          | false => rw [hb] at h0'; cases h0'
          | true =>
            rw [hb] at h0'; cases h0'
            have := congrArg Pt.num (eff_a he0); rw [num_inc] at this; omega
        · cases h0'
      · split at h0'
        · rename_i d _
          cases hb : Nat.blt d nt with
          | false => rw [hb] at h0'; cases h0'
          | true => rw [hb] at h0'; cases h0'; simp [kind_w] at hk2
        · cases h0'; simp [kind_w] at hk2
      · cases h0'
    · subst g1
      unfold wpOp
      simp only [ho]
      rw [if_neg (by rw [hw]; simp)]
      exact hK q φ _ w (rs_val F T R hj (by omega) hm hd hlt (.tup [] [] rfl (fun i c v h => by simp at h)) hxt)
  | alc x ob hk he =>
    have hm : Made st i := by
      unfold Made; rw [hs1]; intro e
      have := congrArg Pt.num e
      simp only [num_inc] at this
      omega
    have hxt : (st (i + 1)).t = putO (st i).t (cJ tab eqs nt ops o).dst x := by rw [hs1]
    have hob : (st (i + 1)).h.get (st i).na = some ob := by rw [hs1]; simp [get_put]
    obtain ⟨_, hd, hlt, _⟩ := cJ_form rfl (he .e)
    obtain ⟨v, obj, s, g1, g2, g3⟩ := real_alc (w := w) ht ho rfl hk ((he .e).same hsame) htm R.size
    refine g3 K Q (hK q _ _ _ (rs_alc F T h00 R hj hk r.un hm hd hlt hob g1 g2 (fun hlate o' ho' => ?_) hxt))
    have hfl := in_flag F R r hj (.inr hk)
    have hqi := (T.qq i (by omega)).1
    have hc := reAll_mem ((C i _ hj).2 hk ob hob) q (st q).h (T.hs_mem R.curq.1 R.curq.2) (by
      simp only [hfl, Bool.true_and]
      exact Nat.ble_eq_true_of_le (show (st i).q + 1 ≤ q by omega))
    unfold reA at hc
    rw [ho'] at hc
    exact (beqO_eq hc).symm
  | wr x h' n' hk he =>
    have hii := T.ii i (by omega)
    have hxt : (st (i + 1)).t = putO (st i).t (cJ tab eqs nt ops o).dst x := by rw [hs1]
    have hqq : q = (st i).q := by
      obtain ⟨g1, g2, g3⟩ := T.qq i (by omega)
      rcases Nat.lt_trichotomy q (st i).q with h1 | h1 | h1
      · exfalso
        rcases g3 with h2 | ⟨j', h2, h3⟩
        · omega
        · have hS : S ((st i).q - 1) = true := r.anc (F.chain _ i j' _ h2 hj h3 hk (by omega))
          have := (R.cur _ j' h2 h3).1 hS
          omega
      · exact h1
      · exfalso
        rcases R.curq.2 with h2 | ⟨j', h2, h3⟩
        · omega
        · have hS := (R.cur (q - 1) j' h2 h3).2 (by omega)
          rcases Nat.lt_trichotomy (q - 1) i with h4 | h4 | h4
          · exact g2 (q - 1) j' (by omega) h4 h2 h3
          · rw [h4, r.un] at hS; cases hS
          · exact r.noDesc hS (F.chain i (q - 1) _ j' hj h2 hk h3 h4)
    have hnn : (st i).n = (st q).n := by rw [hqq]; exact T.nn i (by omega)
    have hp := hp_text T R (by omega) hqq
    rw [← hnn] at hp
    have hSt : St nt φ t1 (st i).h (st i).n a w := ⟨R.defers, R.size, htm, hp⟩
    refine real_wr ht hq hcall ho rfl (he.same hsame) hSt K Q fun a' w' φ' k1 k2 => hK (i + 1) φ' a' w' ?_
    refine rs_wr F T h00 R hj hk r hqq htk (x := x) ?_ ?_ hxt (by rw [hs1]; simp [hii])
    · rw [hs1]; exact k1
    · rw [hs1]; exact k2
end
end Go.Ex

/- Regions of any order, whole. Nothing here speaks of one program. -/
set_option linter.unusedVariables false
set_option linter.unusedSimpArgs false
namespace Go.Ex

def cnt (S : Nat → Bool) : Nat → Nat
  | 0 => 0
  | n + 1 => cnt S n + bif S n then 0 else 1
theorem bltT {i n : Nat} (h : i < n) : Nat.blt i n = true := Nat.ble_eq_true_of_le h
theorem bltF {i n : Nat} (h : ¬ i < n) : Nat.blt i n = false := by
  cases hb : Nat.blt i n with
  | false => rfl
  | true => exact absurd (Nat.le_of_ble_eq_true hb) h
theorem cnt_add {S : Nat → Bool} {i : Nat} (hi : S i = false) : ∀ n, cnt S n = cnt (add S i) n + bif Nat.blt i n then 1 else 0 := by
  intro n
  induction n with
  | zero => rw [bltF (by omega)]; rfl
  | succ n ih =>
    simp only [cnt]
    rw [ih]
    by_cases h : n = i
    · subst h
      rw [add_self, hi, bltF (by omega), bltT (by omega)]
      simp
    · rw [add_ne h]
      by_cases h3 : i < n
      · rw [bltT h3, bltT (by omega)]; simp only [cond_true]; omega
      · rw [bltF h3, bltF (by omega)]; simp only [cond_false]; omega
theorem cnt_zero {S : Nat → Bool} : ∀ {n}, cnt S n = 0 → ∀ j, j < n → S j = true := by
  intro n
  induction n with
  | zero => intro _ j h; omega
  | succ n ih =>
    intro h j hj
    simp only [cnt] at h
    cases hS : S n with
    | false => rw [hS] at h; simp at h
    | true =>
      rw [hS] at h
      rcases Nat.lt_or_ge j n with h1 | h1
      · exact ih (by simpa using h) j h1
      · have : j = n := by omega
        rw [this]; exact hS
theorem cnt_pos {S : Nat → Bool} : ∀ {n}, cnt S n ≠ 0 → ∃ j, j < n ∧ S j = false ∧ ∀ i, i < j → S i = true := by
  intro n
  induction n with
  | zero => intro h; exact absurd rfl h
  | succ n ih =>
    intro h
    by_cases h1 : cnt S n = 0
    · have h2 := cnt_zero h1
      simp only [cnt, h1] at h
      cases hS : S n with
      | true => rw [hS] at h; simp at h
      | false => exact ⟨n, by omega, hS, h2⟩
    · obtain ⟨j, g1, g2, g3⟩ := ih h1
      exact ⟨j, by omega, g2, g3⟩

theorem mem_ready' {ops : Array Oper} {listed : Array Bool} {i : Nat} : i ∈ Region.ready .any ops listed ↔ i < ops.size ∧ listed.getD i true = false ∧ ∃ o, ops[i]? = some o ∧ ∀ e ∈ o.after, Region.binds .any e = true → listed.getD e.on false = true := by
  unfold Region.ready
  rw [List.mem_filter, List.mem_range]
  constructor
  · intro ⟨h1, h2⟩
    simp only [Bool.and_eq_true, Bool.not_eq_true'] at h2
    refine ⟨h1, h2.1, ops[i], Array.getElem?_eq_getElem h1, fun e he hb => ?_⟩
    have h3 := h2.2
    rw [Array.getElem?_eq_getElem h1] at h3
    simp only [Option.map_some, Option.getD_some] at h3
    have := Array.all_eq_true_iff_forall_mem.1 h3 e he
    simpa [hb] using this
  · intro ⟨h1, h2, o, h3, h4⟩
    refine ⟨h1, ?_⟩
    simp only [h2, h3, Bool.not_false, Bool.true_and, Option.map_some, Option.getD_some]
    refine Array.all_eq_true_iff_forall_mem.2 fun e he => ?_
    cases hb : Region.binds .any e with
    | false => rfl
    | true => simp [h4 e he hb]

section
variable {nt : Nat} {P : Program} {tab : Tab} {eqs : Env} {call : CallT} {ops : Array Oper} {js : List J} {al : List (List Nat)} {st : Nat → DS} {φ0 : Pl eqs.gs} {h0 : H} {n0 : Pt} {w0 : World} {S : Nat → Bool} {q : Nat} {φ : Pl eqs.gs} {a : Act} {w : World}

theorem rs_end (F : SF ops js al) (T : Tr call js st h0 n0) (R : RS nt js st φ0 h0 n0 w0 S q φ a w) (hall : ∀ j, j < js.length → S j = true) :
    Step φ0 h0 n0 w0 φ (st js.length).h (st js.length).n w ∧ St nt φ (st js.length).t (st js.length).h (st js.length).n a w := by
  have hqq : q = (st js.length).q := by
    obtain ⟨g1, g2, g3⟩ := T.qq js.length (Nat.le_refl _)
    rcases Nat.lt_trichotomy q (st js.length).q with h1 | h1 | h1
    · exfalso
      rcases g3 with h2 | ⟨j', h2, h3⟩
      · omega
      · have hlt : (st js.length).q - 1 < js.length := (List.getElem?_eq_some_iff.1 h2).1
        have := (R.cur _ j' h2 h3).1 (hall _ hlt)
        omega
    · exact h1
    · exfalso
      rcases R.curq.2 with h2 | ⟨j', h2, h3⟩
      · omega
      · have hlt : q - 1 < js.length := (List.getElem?_eq_some_iff.1 h2).1
        exact g2 (q - 1) j' (by omega) hlt h2 h3
  have hnn : (st js.length).n = (st q).n := by rw [hqq]; exact T.nn _ (Nat.le_refl _)
  have hp := hp_text T R (Nat.le_refl _) hqq
  rw [← hnn] at hp
  refine ⟨⟨R.ex, R.nw, by have := R.le; rw [hnn]; omega, hp, R.kept, fun b ⟨id, s, h1, h2⟩ => R.mine id b s h1 (al_text T R (Nat.le_refl _) hqq h1 h2), fun id o ho => ?_⟩, ⟨R.defers, R.size, fun d x hx => R.tm d x (fun i j h1 _ => hall i (List.getElem?_eq_some_iff.1 h1).1) hx, hp⟩⟩
  rcases T.hh _ (Nat.le_refl _) id o ho with h1 | ⟨k, h1, h2, h3, h4, _⟩
  · rw [← hqq] at h1
    rcases R.domq id o h1 with h2 | ⟨k, h2, h3, h4, h5⟩ | h2
    · exact .inl h2
    · exact .inr (by rw [h5]; exact (T.made_lt h3).1)
    · exact .inr (by omega)
  · exact .inr (by rw [h4]; exact (T.made_lt h2).1)

theorem rs_any (ht : TabOk P tab) (hq : EqsOk P eqs) (hcall : CallOk eqs.gs P call) (hjs : ∀ (i : Nat) (o : Oper), ops[i]? = some o → js[i]? = some (cJ tab eqs nt ops o)) (F : SF ops js al) (T : Tr call js st h0 n0) (h00 : ∀ id o, h0.get id = some o → id.num < n0.num)
    (C : ∀ (i : Nat) (j : J), js[i]? = some j → Chk call (st js.length).hs (j, (al[i]?).getD []) (st i) (st (i + 1))) (Q : Exit → Act → World → Prop)
    (hQ : ∀ a' w' φ', Step φ0 h0 n0 w0 φ' (st js.length).h (st js.length).n w' → St nt φ' (st js.length).t (st js.length).h (st js.length).n a' w' → Q .normal a' w') :
    ∀ (k : Nat) (listed : Array Bool) (a : Act) (w : World) (q : Nat) (φ : Pl eqs.gs), listed.size = ops.size → Closed ops (fun j => listed.getD j false) → cnt (fun j => listed.getD j false) ops.size = k →
      RS nt js st φ0 h0 n0 w0 (fun j => listed.getD j false) q φ a w → wpAny P .any ops Q k listed a w := by
  intro k
  induction k with
  | zero =>
    intro listed a w q φ hsz hcl hc R
    have hall := cnt_zero hc
    refine ⟨?_, ?_⟩
    · rw [List.eq_nil_iff_forall_not_mem]
      intro i hi
      obtain ⟨h1, h2, _⟩ := mem_ready'.1 hi
      have h3 := hall i h1
      have h4 : i < listed.size := by omega
      simp [Array.getD, h4] at h2 h3
      rw [h2] at h3; cases h3
    · obtain ⟨g1, g2⟩ := rs_end F T R (fun j hj => hall j (by rw [← F.len]; exact hj))
      exact hQ a w φ g1 g2
  | succ k ih =>
    intro listed a w q φ hsz hcl hc R
    refine ⟨fun hno => ?_, fun i hi => ?_⟩
    · exfalso
      obtain ⟨j, h1, h2, h3⟩ := cnt_pos (S := fun j => listed.getD j false) (n := ops.size) (by omega)
      have : j ∈ Region.ready .any ops listed := by
        refine mem_ready'.2 ⟨h1, ?_, ops[j], Array.getElem?_eq_getElem h1, fun e he hb => h3 e.on (F.down j _ (Array.getElem?_eq_getElem h1) e he hb)⟩
        have h4 : j < listed.size := by omega
        simp [Array.getD, h4] at h2 ⊢
        exact h2
      rw [hno] at this; cases this
    · obtain ⟨h1, h2, o, h3, h4⟩ := mem_ready'.1 hi
      have hil : i < listed.size := by omega
      have hun : (fun j => listed.getD j false) i = false := by simp [Array.getD, hil] at h2 ⊢; exact h2
      have r : Rdy ops (fun j => listed.getD j false) i := ⟨hcl, hun, fun o' ho' e he hb => by rw [h3] at ho'; cases ho'; exact h4 e he hb⟩
      have hS : (fun j => (listed.setIfInBounds i true).getD j false) = add (fun j => listed.getD j false) i := by
        funext j
        by_cases hj : j = i
        · subst hj; rw [add_self]; simp [Array.getD, hil]
        · rw [add_ne hj]
          simp only [Array.getD_eq_getD_getElem?, Array.getElem?_setIfInBounds, if_neg (Ne.symm hj)]
      refine rs_step ht hq hcall hjs F T h00 C R r h3 _ Q fun q' φ' a' w' R' => ih (listed.setIfInBounds i true) a' w' q' φ' (by simp [hsz]) ?_ ?_ ?_
      · rw [hS]
        intro i' o' ho' hS' e he hb
        by_cases hii : i' = i
        · subst hii
          rw [h3] at ho'; cases ho'
          have := h4 e he hb
          by_cases heo : e.on = i'
          · rw [heo]; exact add_self _ _
          · rw [add_ne heo]; exact this
        · have := hcl i' o' ho' (add_true hS' hii) e he hb
          by_cases heo : e.on = i
          · rw [heo]; exact add_self _ _
          · rw [add_ne heo]; exact this
      · rw [hS]
        have h5 := cnt_add (S := fun j => listed.getD j false) (i := i) hun ops.size
        have h6 : Nat.blt i ops.size = true := bltT h1
        rw [h6] at h5
        simp only [cond_true] at h5
        omega
      · rw [hS]; exact R'

theorem num_skip (n : Pt) : ∀ m, (skipN n m).num = n.num + m := by
  intro m
  induction m with
  | zero => rfl
  | succ m ih => show (skipN n m).inc.num = _; rw [num_inc, ih]; omega

theorem draw_ok (ht : TabOk P tab) (hq : EqsOk P eqs) (hcall : CallOk eqs.gs P call) (hmx : P.follows .mixedOrders = true) {l : List (J × List Nat)} (hjs : ∀ (i : Nat) (o : Oper), ops[i]? = some o → (l.map (·.1))[i]? = some (cJ tab eqs nt ops o)) (F : SF ops (l.map (·.1)) (l.map (·.2))) {t t' : T X} {h h' : H} {n n' : Pt} {e : E}
    (hx : drawX call l.length l t h n = .go e t' h' n') (st0 : St nt φ t h n a w) (Q : Exit → Act → World → Prop) (hQ : ∀ a' w' φ', Step φ h n w φ' h' n' w' → St nt φ' t' h' n' a' w' → Q .normal a' w') (id : Nat) :
    e = .normal ∧ (Code.region id ops true).wp P Q a w := by
  unfold drawX at hx
  split at hx
  · cases hx
  · rename_i s hgo
    cases hre : drawRe call s.hs l ⟨t, h, skipN n l.length, n, 0, 0, [(0, h)]⟩ with
    | false => rw [hre] at hx; cases hx
    | true =>
      rw [hre] at hx
      cases hx
      refine ⟨rfl, wp_region_any hmx ?_⟩
      obtain ⟨st, g1, g2, g3⟩ := drawGo_tr l _ _ hgo
      have hlen : (l.map (·.1)).length = l.length := by simp
      have hfin : ∀ (i : Nat) (j : J), (l.map (·.1))[i]? = some j → j.fine := fun i j hj => by
        have hi : i < ops.size := by rw [← F.len]; exact (List.getElem?_eq_some_iff.1 hj).1
        rw [hjs i _ (Array.getElem?_eq_getElem hi)] at hj
        cases hj; exact cJ_fine
      have T : Tr call (l.map (·.1)) st h n := {
        i0 := by rw [g1]
        q0 := by rw [g1]
        h00 := by rw [g1]
        n00 := by rw [g1]; simp only [num_skip, hlen]
        na0 := by rw [g1]
        hs0 := by rw [g1]
        go := fun i j hj => by
          have hj' := hj
          rw [List.getElem?_map, Option.map_eq_some_iff] at hj'
          obtain ⟨p, hp, rfl⟩ := hj'
          exact dStep_d1 (hfin i _ hj) (g3 i p hp) }
      have hchk := drawRe_chk l _ st hre g1 g3
      have hend : st (l.map (·.1)).length = s := by rw [hlen]; exact g2
      have C : ∀ (i : Nat) (j : J), (l.map (·.1))[i]? = some j → Chk call (st (l.map (·.1)).length).hs (j, ((l.map (·.2))[i]?).getD []) (st i) (st (i + 1)) := fun i j hj => by
        rw [List.getElem?_map, Option.map_eq_some_iff] at hj
        obtain ⟨p, hp, rfl⟩ := hj
        rw [hend]
        have := hchk i p hp
        have he : ((l.map (·.2))[i]?).getD [] = p.2 := by simp [hp]
        rw [he]
        exact this
      have hS0 : (fun j => (Array.replicate ops.size false).getD j false) = fun _ => false := by
        funext j
        by_cases hj : j < ops.size
        · simp [Array.getD, hj]
        · simp [Array.getD, hj]
      have hcnt : ∀ n, cnt (fun _ => false) n = n := by
        intro n
        induction n with
        | zero => rfl
        | succ n ih => simp only [cnt, ih]; rfl
      refine rs_any (φ0 := φ) (h0 := h) (n0 := n) (w0 := w) ht hq hcall hjs F T st0.hp.dom C Q (fun a' w' φ' k1 k2 => hQ a' w' φ' (by rw [← hend]; exact k1) (by rw [← hend]; exact k2)) ops.size (Array.replicate ops.size false) a _ 0 φ (by simp) ?_ ?_ ?_
      · rw [hS0]; intro i o _ h1; cases h1
      · rw [hS0]; exact hcnt _
      · rw [hS0]
        have hd := st0.hp.drew
        have hn0 : (st 0).n.num = n.num + (l.map (·.1)).length := T.n00
        exact {
          defers := st0.defers
          size := st0.size
          tm := fun d x hall hx => by
            have hs := T.slot (i := 0) (p := .ofNat d) (l.map (·.1)).length (Nat.zero_le _) (Nat.le_refl _) fun k j _ _ h3 h4 => by have := hall k j h3 h4; cases this
            rw [hs, g1] at hx
            exact st0.tm d x hx
          tm0 := fun d x _ hx => by rw [g1] at hx; exact st0.tm d x hx
          lt := st0.hp.lt
          fresh := fun id p h1 => by have := st0.hp.fresh id p h1; omega
          resv := fun i h1 _ _ => st0.hp.none (T.na i (by omega)).1
          old := fun id b s o h1 h2 => by rw [T.h00] at h2; exact hd.obj id b s o h1 h2
          new := fun i o b s _ _ h3 => by cases h3
          inj := fun id id' b s s' h1 h2 h3 h4 => by
            have f : ∀ id, Al (l.map (·.1)) st (fun _ => false) 0 id → (h.get id).isSome = true := fun id h => by
              rcases h with h | ⟨_, _, _, h, _⟩
              · rw [T.h00] at h; exact h
              · cases h
            exact st0.hp.inj id id' b s s' h1 h2 (f id h3) (f id' h4)
          ex := Ex.refl _
          nw := fun _ _ h => .inl h
          kept := (Kept.refl _ _).drew
          mine := fun id b s h1 h2 => by
            rcases h2 with h2 | ⟨_, _, _, h2, _⟩
            · rw [T.h00] at h2; exact .inr ⟨id, s, h1, h2⟩
            · cases h2
          domq := fun id o h1 => by rw [T.h00] at h1; exact .inl (by rw [h1]; rfl)
          dlt := fun id o h1 => by rw [T.h00] at h1; have := st0.hp.dom id o h1; omega
          le := by omega
          cur := fun i j _ _ => ⟨fun h => (by cases h), fun h => (by omega)⟩
          curq := ⟨Nat.zero_le _, .inl rfl⟩
          ro0 := st0.hp.ro }
end
end Go.Ex

/- What is made of a region of any order. Nothing here speaks of one program. -/
set_option linter.unusedVariables false
set_option linter.unusedSimpArgs false
namespace Go.Ex

/-- Which operations come ahead of one: bits. -/
def maskE (acc : List Nat) : List Edge → Nat
  | [] => 0
  | e :: es => bif Region.binds .any e then (2 ^ e.on ||| (acc[e.on]?).getD 0) ||| maskE acc es else maskE acc es
def masks : List Oper → List Nat → List Nat
  | [], acc => acc
  | o :: os, acc => masks os (acc ++ [maskE acc o.after.toList])

section
variable {ops : Array Oper}
theorem maskE_anc {acc : List Nat} (ha : ∀ (i m k : Nat), acc[i]? = some m → m.testBit k = true → Anc ops i k) : ∀ (es : List Edge) (k : Nat), (maskE acc es).testBit k = true → ∃ e ∈ es, Region.binds .any e = true ∧ (k = e.on ∨ Anc ops e.on k) := by
  intro es
  induction es with
  | nil => intro k h; simp [maskE] at h
  | cons e es ih =>
    intro k h
    cases hb : Region.binds .any e with
    | false =>
      simp only [maskE, hb, cond_false] at h
      obtain ⟨e', h1, h2⟩ := ih k h
      exact ⟨e', List.mem_cons_of_mem _ h1, h2⟩
    | true =>
      simp only [maskE, hb, cond_true, Nat.testBit_or, Bool.or_eq_true] at h
      rcases h with (h | h) | h
      · rw [Nat.testBit_two_pow] at h
        have h' : e.on = k := by simpa using h
        exact ⟨e, by simp, hb, .inl h'.symm⟩
      · cases hg : acc[e.on]? with
        | none => rw [hg] at h; simp at h
        | some m => rw [hg] at h; exact ⟨e, by simp, hb, .inr (ha _ m k hg h)⟩
      · obtain ⟨e', h1, h2⟩ := ih k h
        exact ⟨e', List.mem_cons_of_mem _ h1, h2⟩

theorem masks_anc : ∀ (l : List Oper) (acc : List Nat), (∀ j, l[j]? = ops[acc.length + j]?) → (∀ (i m k : Nat), acc[i]? = some m → m.testBit k = true → Anc ops i k) →
    ∀ (i m k : Nat), (masks l acc)[i]? = some m → m.testBit k = true → Anc ops i k := by
  intro l
  induction l with
  | nil => intro acc _ ha; exact ha
  | cons o l ih =>
    intro acc hl ha
    refine ih _ (fun j => ?_) fun i m k hm hb => ?_
    · have := hl (j + 1)
      rw [List.getElem?_cons_succ] at this
      rw [this, List.length_append]
      congr 1
      simp; omega
    · rcases Nat.lt_or_ge i acc.length with h | h
      · rw [List.getElem?_append_left h] at hm; exact ha i m k hm hb
      · rw [List.getElem?_append_right h] at hm
        have hi : i = acc.length := by
          have := (List.getElem?_eq_some_iff.1 hm).1
          simp at this; omega
        subst hi
        simp at hm
        subst hm
        obtain ⟨e, h1, h2, h3⟩ := maskE_anc ha _ k hb
        have ho : ops[acc.length]? = some o := by have := hl 0; simpa using this.symm
        intro S hc hd
        have hS := hd o ho e (by simpa using h1) h2
        rcases h3 with h3 | h3
        · subst h3; exact hS
        · exact h3 S hc fun o' ho' e' he' hb' => hc _ o' ho' hS e' he' hb'
end

def ord (ms : List Nat) (i k : Nat) : Bool := Nat.testBit ((ms[i]?).getD 0) k
def allB (n : Nat) (f : Nat → Bool) : Bool := (List.range n).all f
theorem allB_get {n : Nat} {f : Nat → Bool} (h : allB n f = true) {i : Nat} (hi : i < n) : f i = true := List.all_eq_true.1 h i (List.mem_range.2 hi)
noncomputable def dsts (js : List J) : List (Option Pt) := js.map J.dst
noncomputable def kinds (js : List J) : List Nat := js.map J.kind
/-- Who writes p comes ahead of i. -/
def readB (ms : List Nat) (i : Nat) (p : Pt) : List (Option Pt) → Nat → Bool
  | [], _ => true
  | d :: ds, k => (match d with | some p' => bif decide (p' = p) then (Nat.blt k i && ord ms i k) || (Nat.blt i k && ord ms k i) else true | none => true) && readB ms i p ds (k + 1)
def usesB (ms : List Nat) (i : Nat) (ds : List (Option Pt)) : List Pt → Bool
  | [] => true
  | p :: ps => readB ms i p ds 0 && usesB ms i ds ps
def readsB (ms : List Nat) (ds : List (Option Pt)) : List J → Nat → Bool
  | [], _ => true
  | j :: js, i => usesB ms i ds j.uses && readsB ms ds js (i + 1)
def freshB (p : Pt) : List (Option Pt) → Bool
  | [] => true
  | d :: ds => (match d with | some p' => !decide (p' = p) | none => true) && freshB p ds
def uniqB : List (Option Pt) → Bool
  | [] => true
  | d :: ds => (match d with | some p => freshB p ds | none => true) && uniqB ds
def edgesB (i : Nat) : List Edge → Bool
  | [] => true
  | e :: es => (!Region.binds .any e || Nat.blt e.on i) && edgesB i es
def downB : List Oper → Nat → Bool
  | [], _ => true
  | o :: os, i => edgesB i o.after.toList && downB os (i + 1)
/-- The operations that may change memory, from w on. -/
def wrs : List Nat → Nat → List Nat
  | [], _ => []
  | k :: ks, i => bif Nat.beq k 3 then i :: wrs ks (i + 1) else wrs ks (i + 1)
def chainB (ms : List Nat) : List Nat → Bool
  | [] => true
  | w :: ws => ws.all (fun w' => ord ms w' w) && chainB ms ws
def badQ (ms : List Nat) (ws : List Nat) (i q : Nat) : Bool := (Nat.blt 0 q && ord ms (q - 1) i) || ws.any fun k => Nat.ble q k && ord ms i k
def curs (ws : List Nat) : List Nat := 0 :: ws.map (· + 1)
def alOf (ms ws : List Nat) (i : Nat) : List Nat := (curs ws).filter fun q => !badQ ms ws i q
noncomputable def sOk (ops : List Oper) (js : List J) (ms ws : List Nat) : Bool := downB ops 0 && (uniqB (dsts js) && (readsB ms (dsts js) js 0 && chainB ms ws))

theorem edgesB_ok {i : Nat} : ∀ {es : List Edge}, edgesB i es = true → ∀ e ∈ es, Region.binds .any e = true → e.on < i := by
  intro es
  induction es with
  | nil => intro _ e he; cases he
  | cons e es ih =>
    intro h e' he' hb
    simp only [edgesB, Bool.and_eq_true, Bool.or_eq_true, Bool.not_eq_true'] at h
    rcases List.mem_cons.1 he' with h1 | h1
    · subst h1
      rcases h.1 with h2 | h2
      · rw [hb] at h2; cases h2
      · exact Nat.le_of_ble_eq_true h2
    · exact ih h.2 e' h1 hb
theorem downB_ok : ∀ {l : List Oper} {k : Nat}, downB l k = true → ∀ i o, l[i]? = some o → ∀ e ∈ o.after, Region.binds .any e = true → e.on < k + i := by
  intro l
  induction l with
  | nil => intro k _ i o h; simp at h
  | cons o l ih =>
    intro k h i o' ho e he hb
    simp only [downB, Bool.and_eq_true] at h
    cases i with
    | zero => simp at ho; subst ho; exact edgesB_ok h.1 e (by simpa using he) hb
    | succ i =>
      have := ih h.2 i o' (by simpa using ho) e he hb
      omega
theorem freshB_ok {p : Pt} : ∀ {ds : List (Option Pt)}, freshB p ds = true → ∀ (i : Nat), ds[i]? ≠ some (some p) := by
  intro ds
  induction ds with
  | nil => intro _ i h; simp at h
  | cons d ds ih =>
    intro h i hi
    simp only [freshB, Bool.and_eq_true] at h
    cases i with
    | zero =>
      simp at hi
      subst hi
      have := h.1
      simp at this
    | succ i => exact ih h.2 i (by simpa using hi)
theorem uniqB_ok : ∀ {ds : List (Option Pt)}, uniqB ds = true → ∀ (i i' : Nat) (p : Pt), ds[i]? = some (some p) → ds[i']? = some (some p) → i = i' := by
  intro ds
  induction ds with
  | nil => intro _ i i' p h; simp at h
  | cons d ds ih =>
    intro h i i' p h1 h2
    simp only [uniqB, Bool.and_eq_true] at h
    cases i with
    | zero =>
      simp at h1
      subst h1
      cases i' with
      | zero => rfl
      | succ i' => exact absurd (by simpa using h2) (freshB_ok h.1 i')
    | succ i =>
      cases i' with
      | zero =>
        simp at h2
        subst h2
        exact absurd (by simpa using h1) (freshB_ok h.1 i)
      | succ i' => rw [ih h.2 i i' p (by simpa using h1) (by simpa using h2)]
theorem readB_ok {ms : List Nat} {i : Nat} {p : Pt} : ∀ {ds : List (Option Pt)} {k : Nat}, readB ms i p ds k = true → ∀ i', ds[i']? = some (some p) → (k + i' < i ∧ ord ms i (k + i') = true) ∨ (i < k + i' ∧ ord ms (k + i') i = true) := by
  intro ds
  induction ds with
  | nil => intro k _ i' h; simp at h
  | cons d ds ih =>
    intro k h i' hi
    simp only [readB, Bool.and_eq_true] at h
    cases i' with
    | zero =>
      simp at hi
      subst hi
      have := h.1
      simp only [decide_true, cond_true, Bool.and_eq_true, Bool.or_eq_true] at this
      exact this.imp (fun g => ⟨Nat.le_of_ble_eq_true g.1, g.2⟩) fun g => ⟨Nat.le_of_ble_eq_true g.1, g.2⟩
    | succ i' =>
      have := ih h.2 i' (by simpa using hi)
      rw [show k + (i' + 1) = k + 1 + i' by omega]
      exact this
theorem usesB_ok {ms : List Nat} {i : Nat} {ds : List (Option Pt)} : ∀ {ps : List Pt}, usesB ms i ds ps = true → ∀ p ∈ ps, readB ms i p ds 0 = true := by
  intro ps
  induction ps with
  | nil => intro _ p h; cases h
  | cons q ps ih =>
    intro h p hp
    simp only [usesB, Bool.and_eq_true] at h
    rcases List.mem_cons.1 hp with h1 | h1
    · subst h1; exact h.1
    · exact ih h.2 p h1
theorem readsB_ok {ms : List Nat} {ds : List (Option Pt)} : ∀ {js : List J} {k : Nat}, readsB ms ds js k = true → ∀ i j, js[i]? = some j → usesB ms (k + i) ds j.uses = true := by
  intro js
  induction js with
  | nil => intro k _ i j h; simp at h
  | cons j0 js ih =>
    intro k h i j hj
    simp only [readsB, Bool.and_eq_true] at h
    cases i with
    | zero => simp at hj; subst hj; exact h.1
    | succ i =>
      have := ih h.2 i j (by simpa using hj)
      rw [show k + (i + 1) = k + 1 + i by omega]
      exact this
theorem wrs_mem : ∀ {ks : List Nat} {k i : Nat}, ks[i]? = some 3 → k + i ∈ wrs ks k := by
  intro ks
  induction ks with
  | nil => intro k i h; simp at h
  | cons x ks ih =>
    intro k i h
    cases i with
    | zero => simp at h; subst h; simp [wrs]
    | succ i =>
      have := ih (k := k + 1) (i := i) (by simpa using h)
      rw [show k + (i + 1) = k + 1 + i by omega]
      simp only [wrs]
      cases Nat.beq x 3 with
      | true => exact List.mem_cons_of_mem _ this
      | false => exact this
theorem wrs_ge : ∀ {ks : List Nat} {k x : Nat}, x ∈ wrs ks k → k ≤ x ∧ ks[x - k]? = some 3 := by
  intro ks
  induction ks with
  | nil => intro k x h; simp [wrs] at h
  | cons y ks ih =>
    intro k x h
    have tail : x ∈ wrs ks (k + 1) → k ≤ x ∧ (y :: ks)[x - k]? = some 3 := fun h => by
      obtain ⟨h1, h2⟩ := ih h
      refine ⟨by omega, ?_⟩
      rw [show x - k = (x - (k + 1)) + 1 by omega, List.getElem?_cons_succ]; exact h2
    simp only [wrs] at h
    cases hb : Nat.beq y 3 with
    | true =>
      rw [hb] at h
      rcases List.mem_cons.1 h with h1 | h1
      · subst h1
        have := Nat.eq_of_beq_eq_true hb
        subst this
        exact ⟨Nat.le_refl _, by simp⟩
      · exact tail h1
    | false => rw [hb] at h; exact tail h
theorem chain_wrs {ms : List Nat} : ∀ {ks : List Nat} {k : Nat}, chainB ms (wrs ks k) = true → ∀ i i', ks[i]? = some 3 → ks[i']? = some 3 → i < i' → ord ms (k + i') (k + i) = true := by
  intro ks
  induction ks with
  | nil => intro k _ i i' h; simp at h
  | cons x ks ih =>
    intro k h i i' h1 h2 hlt
    have htail : chainB ms (wrs ks (k + 1)) = true := by
      simp only [wrs] at h
      cases hb : Nat.beq x 3 with
      | true => rw [hb] at h; simp only [cond_true, chainB, Bool.and_eq_true] at h; exact h.2
      | false => rw [hb] at h; exact h
    cases i' with
    | zero => omega
    | succ i' =>
      cases i with
      | zero =>
        simp at h1
        subst h1
        simp only [wrs] at h
        have hb : Nat.beq 3 3 = true := rfl
        rw [hb] at h
        simp only [cond_true, chainB, Bool.and_eq_true] at h
        have := List.all_eq_true.1 h.1 (k + 1 + i') (wrs_mem (by simpa using h2))
        rw [show k + (i' + 1) = k + 1 + i' by omega]
        exact this
      | succ i =>
        have := ih htail i i' (by simpa using h1) (by simpa using h2) (by omega)
        rw [show k + (i + 1) = k + 1 + i by omega, show k + (i' + 1) = k + 1 + i' by omega]
        exact this
theorem memN_of {q : Nat} : ∀ {l : List Nat}, q ∈ l → memN q l = true := by
  intro l
  induction l with
  | nil => intro h; cases h
  | cons x l ih =>
    intro h
    simp only [memN, Bool.or_eq_true]
    rcases List.mem_cons.1 h with h1 | h1
    · subst h1; exact .inl (by simp)
    · exact .inr (ih h1)

theorem sf_of {ops : Array Oper} {js : List J} (hlen : js.length = ops.size) (h : sOk ops.toList js (masks ops.toList []) (wrs (kinds js) 0) = true) :
    SF ops js ((List.range js.length).map (alOf (masks ops.toList []) (wrs (kinds js) 0))) := by
  have hanc : ∀ i k, ord (masks ops.toList []) i k = true → Anc ops i k := fun i k h => by
    unfold ord at h
    cases hg : (masks ops.toList [])[i]? with
    | none => rw [hg] at h; simp at h
    | some m =>
      rw [hg] at h
      exact masks_anc ops.toList [] (fun j => by simp) (fun i m k h => by simp at h) i m k hg h
  unfold sOk at h
  simp only [Bool.and_eq_true] at h
  obtain ⟨h1, h2, h3, h4⟩ := h
  have hkind : ∀ (i : Nat) (j : J), js[i]? = some j → j.kind = 3 → (kinds js)[i]? = some 3 := fun i j hj hk => by simp [kinds, hj, hk]
  refine ⟨hlen, fun i o ho e he hb => ?_, fun i i' j j' p g1 g2 g3 g4 => ?_, fun i j p hj hp i' j' g1 g2 => ?_, fun i i' j j' g1 g2 g3 g4 g5 => ?_, fun i j q hj hk hq hc hm => ?_⟩
  · have := downB_ok h1 i o (by simpa using ho) e he hb; omega
  · exact uniqB_ok h2 i i' p (by simp [dsts, g1, g3]) (by simp [dsts, g2, g4])
  · have k1 := usesB_ok (readsB_ok h3 i j hj) p hp
    have k2 := readB_ok k1 i' (by simp [dsts, g1, g2])
    simp only [Nat.zero_add] at k2
    exact k2.imp (fun g => ⟨g.1, hanc _ _ g.2⟩) fun g => ⟨g.1, hanc _ _ g.2⟩
  · have := chain_wrs h4 i i' (hkind i j g1 g3) (hkind i' j' g2 g4) g5
    simp only [Nat.zero_add] at this
    exact hanc _ _ this
  · have hi : i < js.length := (List.getElem?_eq_some_iff.1 hj).1
    have he : (((List.range js.length).map (alOf (masks ops.toList []) (wrs (kinds js) 0)))[i]?).getD [] = alOf (masks ops.toList []) (wrs (kinds js) 0) i := by simp [hi]
    rw [he] at hm
    have hcur : q ∈ curs (wrs (kinds js) 0) := by
      rcases hc with hc | ⟨j', g1, g2⟩
      · subst hc; simp [curs]
      · cases q with
        | zero => simp [curs]
        | succ q =>
          simp at g1
          refine List.mem_cons_of_mem _ (List.mem_map.2 ⟨q, ?_, rfl⟩)
          have := wrs_mem (k := 0) (hkind q j' g1 g2)
          rwa [Nat.zero_add] at this
    cases hbq : badQ (masks ops.toList []) (wrs (kinds js) 0) i q with
    | false =>
      have : q ∈ alOf (masks ops.toList []) (wrs (kinds js) 0) i := List.mem_filter.2 ⟨hcur, by rw [hbq]; rfl⟩
      rw [memN_of this] at hm; cases hm
    | true =>
      unfold badQ at hbq
      simp only [Bool.or_eq_true, Bool.and_eq_true] at hbq
      rcases hbq with ⟨g1, g2⟩ | g
      · exact .inl ⟨Nat.le_of_ble_eq_true g1, hanc _ _ g2⟩
      · obtain ⟨k, g1, g2⟩ := List.any_eq_true.1 g
        simp only [Bool.and_eq_true] at g2
        obtain ⟨_, g3⟩ := wrs_ge g1
        have g3' : (kinds js)[k]? = some 3 := by simpa using g3
        simp only [kinds, List.getElem?_map, Option.map_eq_some_iff] at g3'
        obtain ⟨j', g4, g5⟩ := g3'
        exact .inr ⟨k, j', Nat.le_of_ble_eq_true g2.1, g4, g5, hanc _ _ g2.2⟩

section
variable (tab : Tab) (eqs : Env) (nt : Nat)
/-- A region of any order. -/
noncomputable def drawK (n : Nat) (js : List J) (ops : List Oper) (ms ws : List Nat) : K :=
  bif sOk ops js ms ws then .draw n (js.zip ((List.range n).map (alOf ms ws))) else .bad
noncomputable def cDraw (ops : Array Oper) : K :=
  drawK ops.size (cJL tab eqs nt ops ops.toList) ops.toList (masks ops.toList []) (wrs (kinds (cJL tab eqs nt ops ops.toList)) 0)
end
theorem cJL_get {tab : Tab} {eqs : Env} {nt : Nat} {ops : Array Oper} : ∀ (l : List Oper), (cJL tab eqs nt ops l).length = l.length ∧ ∀ (i : Nat) o, l[i]? = some o → (cJL tab eqs nt ops l)[i]? = some (cJ tab eqs nt ops o) := by
  intro l
  induction l with
  | nil => exact ⟨rfl, fun i o h => by simp at h⟩
  | cons o l ih =>
    refine ⟨by simp [cJL, ih.1], fun i o' h => ?_⟩
    cases i with
    | zero => simp at h; subst h; rfl
    | succ i => exact ih.2 i o' (by simpa using h)

theorem cDraw_ok {tab : Tab} {eqs : Env} {nt : Nat} {ops : Array Oper} {P : Program} {call : CallT} (ht : TabOk P tab) (hq : EqsOk P eqs) (hcall : CallOk eqs.gs P call) (hmx : P.follows .mixedOrders = true) {fuel : Nat} {t t' : T X} {h h' : H} {n n' : Pt} {e : E}
    (hx : codeX call fuel (cDraw tab eqs nt ops) t h n = .go e t' h' n') {φ : Pl eqs.gs} {a : Act} {w : World} (st0 : St nt φ t h n a w) (Q : Exit → Act → World → Prop) (hQ : ∀ a' w' φ', Step φ h n w φ' h' n' w' → St nt φ' t' h' n' a' w' → Q .normal a' w') (id : Nat) :
    e = .normal ∧ (Code.region id ops true).wp P Q a w := by
  unfold cDraw drawK at hx
  obtain ⟨hl, hg⟩ := cJL_get (tab := tab) (eqs := eqs) (nt := nt) (ops := ops) ops.toList
  have hlen : (cJL tab eqs nt ops ops.toList).length = ops.size := by rw [hl, Array.length_toList]
  cases hs : sOk ops.toList (cJL tab eqs nt ops ops.toList) (masks ops.toList []) (wrs (kinds (cJL tab eqs nt ops ops.toList)) 0) with
  | false => rw [hs] at hx; cases hx
  | true =>
    rw [hs] at hx
    have F := sf_of hlen hs
    rw [hlen] at F
    have hx' : drawX call ops.size ((cJL tab eqs nt ops ops.toList).zip ((List.range ops.size).map (alOf (masks ops.toList []) (wrs (kinds (cJL tab eqs nt ops ops.toList)) 0)))) t h n = .go e t' h' n' := hx
    generalize hal : (List.range ops.size).map (alOf (masks ops.toList []) (wrs (kinds (cJL tab eqs nt ops ops.toList)) 0)) = al at F hx'
    have hall : al.length = ops.size := by rw [← hal]; simp
    have hm1 : ((cJL tab eqs nt ops ops.toList).zip al).map (·.1) = cJL tab eqs nt ops ops.toList := List.map_fst_zip (by rw [hlen, hall]; exact Nat.le_refl _)
    have hm2 : ((cJL tab eqs nt ops ops.toList).zip al).map (·.2) = al := List.map_snd_zip (by rw [hlen, hall]; exact Nat.le_refl _)
    have hzl : ((cJL tab eqs nt ops ops.toList).zip al).length = ops.size := by rw [List.length_zip, hlen, hall, Nat.min_self]
    rw [← hzl] at hx'
    refine draw_ok ht hq hcall hmx (fun i o ho => ?_) ?_ hx' st0 Q hQ id
    · rw [hm1]; exact hg i o (by simpa using ho)
    · rw [hm1, hm2]; exact F
end Go.Ex

/- Code: loops, jumps, branches. Nothing here speaks of one program. -/
set_option linter.unusedVariables false
set_option linter.unusedSimpArgs false
namespace Go.Ex

/-- What is left of a code behind its first label. -/
def restK : K → Option K
  | .seq a b => match restK a with
    | some r => some (.seq r b)
    | none => restK b
  | .label => some .skip
  | _ => none
def labelOf : Code → Option Nat
  | .seq a b => match labelOf a with | some l => some l | none => labelOf b
  | .label l => some l
  | _ => none
section
variable (tab : Tab) (eqs : Env) (nt : Nat)
noncomputable def cK : Code → K
  | .skip => .skip
  | .region _ ops draw => match draw with
    | true => cDraw tab eqs nt ops
    | false => .reg (cJL tab eqs nt ops ops.toList)
  | .seq a b => .seq (cK a) (cK b)
  | .cond c a b => match cD eqs.gs c with | some d => .cond d (cK a) (cK b) | none => .bad
  | .block i b => .block i (cK b)
  | .loop b => .loop (cK b)
  | .exit i => .exit i
  | .scope b => match labelOf b with
    | some l => match restK (cK b) with
      | some r => .scope (cK b) l r
      | none => .bad
    | none => .bad
  | .label l => .label
  | .goto l => .goto l
  | .ret => .ret
  | _ => .bad
end

section
variable {tab : Tab} {eqs : Env} {nt : Nat}
theorem restK_draw (ops : Array Oper) : restK (cDraw tab eqs nt ops) = none := by
  unfold cDraw drawK
  cases sOk ops.toList (cJL tab eqs nt ops ops.toList) (masks ops.toList []) (wrs (kinds (cJL tab eqs nt ops ops.toList)) 0) <;> rfl
theorem rest_ok : ∀ (c : Code), (labelOf c = none → restK (cK tab eqs nt c) = none ∧ ∀ l, findLabel c l = none) ∧
    ∀ l, labelOf c = some l → ∃ r, findLabel c l = some r ∧ restK (cK tab eqs nt c) = some (cK tab eqs nt r) := by
  intro c
  induction c with
  | seq a b iha ihb =>
    refine ⟨fun h => ?_, fun l h => ?_⟩
    · simp only [labelOf] at h
      cases ha : labelOf a with
      | some l => rw [ha] at h; cases h
      | none =>
        rw [ha] at h
        obtain ⟨h1, h2⟩ := iha.1 ha
        obtain ⟨h3, h4⟩ := ihb.1 h
        exact ⟨by simp only [cK, restK, h1, h3], fun l => by simp only [findLabel, h2, h4]⟩
    · simp only [labelOf] at h
      cases ha : labelOf a with
      | some l' =>
        rw [ha] at h
        cases h
        obtain ⟨r, h1, h2⟩ := iha.2 _ ha
        exact ⟨.seq r b, by simp only [findLabel, h1], by simp only [cK, restK, h2]⟩
      | none =>
        rw [ha] at h
        obtain ⟨h1, h2⟩ := iha.1 ha
        obtain ⟨r, h3, h4⟩ := ihb.2 l h
        exact ⟨r, by simp only [findLabel, h2, h3], by simp only [cK, restK, h1, h4]⟩
  | label l' =>
    refine ⟨fun h => (by cases h), fun l h => ?_⟩
    cases h
    refine ⟨.skip, ?_, rfl⟩
    simp [findLabel]
  | region id ops d =>
    refine ⟨fun _ => ⟨?_, fun l => rfl⟩, fun l h => by cases h⟩
    cases d with
    | true => exact restK_draw ops
    | false => rfl
  | cond c a b => 
    refine ⟨fun _ => ⟨?_, fun l => rfl⟩, fun l h => by cases h⟩
    simp only [cK]
    cases cD eqs.gs c <;> rfl
  | scope b =>
    refine ⟨fun _ => ⟨?_, fun l => rfl⟩, fun l h => by cases h⟩
    simp only [cK]
    cases labelOf b with
    | none => rfl
    | some l => cases restK (cK tab eqs nt b) <;> rfl
  | _ => exact ⟨fun _ => ⟨rfl, fun l => rfl⟩, fun l h => by cases h⟩

def eX : E → Exit
  | .normal => .normal
  | .exit i => .exit i
  | .ret => .ret
  | .goto l => .goto l

/-- What the code does by hand it does in the model. -/
def CodeOk (P : Program) (tab : Tab) (eqs : Env) (nt : Nat) (call : CallT) (fuel : Nat) (c : Code) : Prop :=
  ∀ {t h n e t' h' n'}, codeX call fuel (cK tab eqs nt c) t h n = .go e t' h' n' → ∀ {φ : Pl eqs.gs} {a w}, St nt φ t h n a w → ∀ Q : Exit → Act → World → Prop,
    (∀ a' w' φ', Step φ h n w φ' h' n' w' → St nt φ' t' h' n' a' w' → Q (eX e) a' w') → c.wp P Q a w

variable {P : Program} {call : CallT} {fuel : Nat}
theorem seq_okC {a b : Code} (ha : CodeOk P tab eqs nt call fuel a) (hb : CodeOk P tab eqs nt call fuel b) : CodeOk P tab eqs nt call fuel (.seq a b) := by
  intro t h n e t' h' n' hx φ A w st Q hQ
  have hx' : thenR (codeX call fuel (cK tab eqs nt a) t h n) (codeX call fuel (cK tab eqs nt b)) = .go e t' h' n' := hx
  apply wp_seq
  cases hr : codeX call fuel (cK tab eqs nt a) t h n with
  | no => rw [hr] at hx'; cases hx'
  | go e1 t1 h1 n1 =>
    rw [hr] at hx'
    refine ha hr st _ fun a1 w1 φ1 s1 st1 => ?_
    cases e1 with
    | normal => exact hb hx' st1 _ fun a2 w2 φ2 s2 st2 => hQ a2 w2 φ2 (s1.trans s2) st2
    | exit i => cases hx'; exact hQ a1 w1 φ1 s1 st1
    | ret => cases hx'; exact hQ a1 w1 φ1 s1 st1
    | goto l => cases hx'; exact hQ a1 w1 φ1 s1 st1

theorem cond_okC {c : Operand} {a b : Code} (ha : CodeOk P tab eqs nt call fuel a) (hb : CodeOk P tab eqs nt call fuel b) : CodeOk P tab eqs nt call fuel (.cond c a b) := by
  intro t h n e t' h' n' hx φ A w st Q hQ
  simp only [cK] at hx
  cases hd : cD eqs.gs c with
  | none => rw [hd] at hx; cases hx
  | some d =>
    rw [hd] at hx
    have hx' : condR t d (codeX call fuel (cK tab eqs nt a) t h n) (codeX call fuel (cK tab eqs nt b) t h n) = .go e t' h' n' := hx
    unfold condR at hx'
    split at hx'
    · rename_i hv
      exact wp_cond_true (inv_bool (ev_ok st.tm hd hv)) (ha hx' st Q hQ)
    · rename_i hv
      exact wp_cond_false (inv_bool (ev_ok st.tm hd hv)) (hb hx' st Q hQ)
    · cases hx'

theorem block_okC {id : Nat} {b : Code} (hb : CodeOk P tab eqs nt call fuel b) : CodeOk P tab eqs nt call fuel (.block id b) := by
  intro t h n e t' h' n' hx φ A w st Q hQ
  have hx' : blockR id (codeX call fuel (cK tab eqs nt b) t h n) = .go e t' h' n' := hx
  apply wp_block
  cases hr : codeX call fuel (cK tab eqs nt b) t h n with
  | no => rw [hr] at hx'; cases hx'
  | go e1 t1 h1 n1 =>
    rw [hr] at hx'
    refine hb hr st _ fun a1 w1 φ1 s1 st1 => ?_
    cases e1 with
    | exit i =>
      simp only [blockR] at hx'
      show (if i = id then Q .normal a1 w1 else Q (.exit i) a1 w1)
      cases hi : Nat.beq i id with
      | true =>
        rw [hi] at hx'
        have : i = id := Nat.eq_of_beq_eq_true hi
        subst this
        cases hx'
        rw [if_pos rfl]
        exact hQ a1 w1 φ1 s1 st1
      | false =>
        rw [hi] at hx'
        cases hx'
        rw [if_neg (Nat.ne_of_beq_eq_false hi)]
        exact hQ a1 w1 φ1 s1 st1
    | normal => cases hx'; exact hQ a1 w1 φ1 s1 st1
    | ret => cases hx'; exact hQ a1 w1 φ1 s1 st1
    | goto l => cases hx'; exact hQ a1 w1 φ1 s1 st1

theorem rounds_ok {b : Code} (hb : CodeOk P tab eqs nt call fuel b) : ∀ (f : Nat) {t h n e t' h' n'}, loopX (codeX call fuel (cK tab eqs nt b)) f t h n = .go e t' h' n' → ∀ {φ : Pl eqs.gs} {a w}, St nt φ t h n a w → ∀ Q : Exit → Act → World → Prop,
    (∀ a' w' φ', Step φ h n w φ' h' n' w' → St nt φ' t' h' n' a' w' → Q (eX e) a' w') → Code.rounds P b Q f a w := by
  intro f
  induction f with
  | zero => intro t h n e t' h' n' hx; cases hx
  | succ f ih =>
    intro t h n e t' h' n' hx φ A w st Q hQ
    have hx' : thenR (codeX call fuel (cK tab eqs nt b) t h n) (loopX (codeX call fuel (cK tab eqs nt b)) f) = .go e t' h' n' := hx
    rw [rounds_succ]
    cases hr : codeX call fuel (cK tab eqs nt b) t h n with
    | no => rw [hr] at hx'; cases hx'
    | go e1 t1 h1 n1 =>
      rw [hr] at hx'
      refine hb hr st _ fun a1 w1 φ1 s1 st1 => ?_
      cases e1 with
      | normal => exact ih hx' st1 _ fun a2 w2 φ2 s2 st2 => hQ a2 w2 φ2 (s1.trans s2) st2
      | exit i => cases hx'; exact hQ a1 w1 φ1 s1 st1
      | ret => cases hx'; exact hQ a1 w1 φ1 s1 st1
      | goto l => cases hx'; exact hQ a1 w1 φ1 s1 st1

theorem scope_okC {b : Code} (hb : CodeOk P tab eqs nt call fuel b) (hrest : ∀ l r, findLabel b l = some r → CodeOk P tab eqs nt call fuel r) : CodeOk P tab eqs nt call fuel (.scope b) := by
  intro t h n e t' h' n' hx φ A w st Q hQ
  simp only [cK] at hx
  cases hl : labelOf b with
  | none => rw [hl] at hx; cases hx
  | some l =>
    obtain ⟨r, hf, hk⟩ := (rest_ok (tab := tab) (eqs := eqs) (nt := nt) b).2 l hl
    rw [hl, hk] at hx
    have hx' : scopeR l (codeX call fuel (cK tab eqs nt b) t h n) (codeX call fuel (cK tab eqs nt r)) = .go e t' h' n' := hx
    cases hr : codeX call fuel (cK tab eqs nt b) t h n with
    | no => rw [hr] at hx'; cases hx'
    | go e1 t1 h1 n1 =>
      rw [hr] at hx'
      have other : (∀ l', e1 ≠ .goto l') → Res.go e1 t1 h1 n1 = .go e t' h' n' → (Code.scope b).wp P Q A w := fun hne he => by
        cases he
        refine wp_scope_jumps l (fun _ _ => False) (fun _ _ => 0) hf (hb hr st _ fun a1 w1 φ1 s1 st1 => ?_) fun _ _ h => h.elim
        have := hQ a1 w1 φ1 s1 st1
        cases e with
        | goto l' => exact absurd rfl (hne l')
        | _ => exact this
      cases e1 with
      | goto l' =>
        simp only [scopeR] at hx'
        cases hll : Nat.beq l' l with
        | false => rw [hll] at hx'; cases hx'
        | true =>
          rw [hll] at hx'
          have := Nat.eq_of_beq_eq_true hll
          subst this
          refine wp_scope_jumps l' (fun a1 w1 => ∃ φ1 : Pl eqs.gs, Step φ h n w φ1 h1 n1 w1 ∧ St nt φ1 t1 h1 n1 a1 w1) (fun _ _ => 0) hf (hb hr st _ fun a1 w1 φ1 s1 st1 => ⟨rfl, φ1, s1, st1⟩) ?_
          rintro a1 w1 ⟨φ1, s1, st1⟩
          simp only [cond_true] at hx'
          cases hr2 : codeX call fuel (cK tab eqs nt r) t1 h1 n1 with
          | no => rw [hr2] at hx'; cases hx'
          | go e2 t2 h2 n2 =>
            rw [hr2] at hx'
            refine hrest l' r hf hr2 st1 _ fun a2 w2 φ2 s2 st2 => ?_
            cases e2 with
            | goto l2 => cases hx'
            | normal => cases hx'; exact hQ a2 w2 φ2 (s1.trans s2) st2
            | exit i => cases hx'; exact hQ a2 w2 φ2 (s1.trans s2) st2
            | ret => cases hx'; exact hQ a2 w2 φ2 (s1.trans s2) st2
      | normal => exact other (fun _ h => by cases h) hx'
      | exit i => exact other (fun _ h => by cases h) hx'
      | ret => exact other (fun _ h => by cases h) hx'

theorem skip_okC : CodeOk P tab eqs nt call fuel .skip := by
  intro t h n e t' h' n' hx φ A w st Q hQ
  cases hx
  exact wp_skip (hQ A w φ (Step.refl st.hp) st)

theorem region_okC (ht : TabOk P tab) (hq : EqsOk P eqs) (hcall : CallOk eqs.gs P call) (hmx : P.follows .mixedOrders = true) {id : Nat} {ops : Array Oper} {d : Bool} : CodeOk P tab eqs nt call fuel (.region id ops d) := by
  intro t h n e t' h' n' hx φ A w st Q hQ
  cases d with
  | true =>
    have hx' : codeX call fuel (cDraw tab eqs nt ops) t h n = .go e t' h' n' := hx
    have := cDraw_ok ht hq hcall hmx hx' st (fun e' a' w' => e = .normal → Q e' a' w') (fun a' w' φ' s1 st1 he => by have := hQ a' w' φ' s1 st1; rw [he] at this; exact this) id
    exact wp_mono this.2 fun e' a' w' h1 => h1 this.1
  | false =>
    have hx' : opsX call (cJL tab eqs nt ops ops.toList) t h n = .go e t' h' n' := hx
    have h0 := (ops_ok ht hq hcall (nt := nt) ops.toList 0 (fun j => by simp) hx' st (fun _ _ _ => True) (fun _ _ _ _ _ => trivial)).1
    subst h0
    have h2 := (ops_ok ht hq hcall (nt := nt) ops.toList 0 (fun j => by simp) hx' st Q hQ).2
    refine wp_region ?_
    rw [List.range_eq_range']
    rw [Array.length_toList] at h2
    exact h2

theorem code_ok (ht : TabOk P tab) (hq : EqsOk P eqs) (hcall : CallOk eqs.gs P call) (hmx : P.follows .mixedOrders = true) : ∀ (c : Code), CodeOk P tab eqs nt call fuel c ∧ ∀ l r, findLabel c l = some r → CodeOk P tab eqs nt call fuel r := by
  intro c
  induction c with
  | skip => exact ⟨skip_okC, fun l r h => by cases h⟩
  | region id ops d => exact ⟨region_okC ht hq hcall hmx, fun l r h => by cases h⟩
  | seq a b iha ihb =>
    refine ⟨seq_okC iha.1 ihb.1, fun l r h => ?_⟩
    simp only [findLabel] at h
    split at h
    · rename_i r1 h1
      cases h
      exact seq_okC (iha.2 l r1 h1) ihb.1
    · exact ihb.2 l r h
  | cond c a b iha ihb => exact ⟨cond_okC iha.1 ihb.1, fun l r h => by cases h⟩
  | block id b ih => exact ⟨block_okC ih.1, fun l r h => by cases h⟩
  | loop b ih =>
    refine ⟨?_, fun l r h => by cases h⟩
    intro t h n e t' h' n' hx φ A w st Q hQ
    exact wp_loop_rounds fuel (rounds_ok ih.1 fuel hx st Q hQ)
  | scope b ih => exact ⟨scope_okC ih.1 ih.2, fun l r h => by cases h⟩
  | exit i =>
    refine ⟨?_, fun l r h => by cases h⟩
    intro t h n e t' h' n' hx φ A w st Q hQ
    cases hx
    exact wp_exit (hQ A w φ (Step.refl st.hp) st)
  | label l =>
    refine ⟨?_, fun l' r h => ?_⟩
    · intro t h n e t' h' n' hx φ A w st Q hQ
      cases hx
      exact wp_label (hQ A w φ (Step.refl st.hp) st)
    · simp only [findLabel] at h
      split at h
      · cases h; exact skip_okC
      · cases h
  | goto l =>
    refine ⟨?_, fun l r h => by cases h⟩
    intro t h n e t' h' n' hx φ A w st Q hQ
    cases hx
    exact wp_goto (hQ A w φ (Step.refl st.hp) st)
  | ret =>
    refine ⟨?_, fun l r h => by cases h⟩
    intro t h n e t' h' n' hx φ A w st Q hQ
    cases hx
    exact wp_ret (hQ A w φ (Step.refl st.hp) st)
  | _ =>
    refine ⟨?_, fun l r h => by cases h⟩
    intro t h n e t' h' n' hx
    cases hx
end
end Go.Ex

/- Functions: what is run by hand for the kernel the model does, in whatever memory, on whatever tape. Nothing here speaks of one program. -/
set_option linter.unusedVariables false
set_option linter.unusedSimpArgs false
namespace Go.Ex

noncomputable def cRs (tab : Tab) : List ResultVar → Option (List R)
  | [] => some []
  | .tmp i :: rs => match cRs tab rs with | some l => some (.tmp (.ofNat i) :: l) | none => none
  | .cell a t :: rs => match ty tab t with
    | some ti => match cRs tab rs with
      | some l => some ((match ti.agg with | true => .cellA (.ofNat a) ti.size | false => .cell1 (.ofNat a)) :: l)
      | none => none
    | none => none
noncomputable def cF (tab : Tab) (eqs : Env) (f : Func) : Option FI := match f.body with
  | some c => match cRs tab f.results.toList with
    | some rs => some ⟨cK tab eqs f.ntmps c, rs, f.ntmps⟩
    | none => none
  | none => none
noncomputable def mkFnsGo (tab : Tab) (eqs : Env) : List Func → Nat → T FI → T FI
  | [], _, t => t
  | f :: fs, k, t => mkFnsGo tab eqs fs (k + 1) (T.set (cF tab eqs f) t (.ofNat k))
noncomputable def mkFns (P : Program) (eqs : Env) : T FI := mkFnsGo (mkTab P) eqs P.funcs.toList 0 .e

section
variable {eqs : Env} {φ : Pl eqs.gs} {t : T X} {a : Act} {P : Program} {tab : Tab}  {h : H} {n : Pt} {w : World}

theorem run_loadVar {a : Act} (hp : Hp h n w φ) (ht : TabOk P tab) (hm : TmR φ t a) {i : Tmp} {e : TypeId} {ti : TI} {x : X} (he : ty tab e = some ti)
    (hr : (match ti.agg with | true => rLoadA ti.size (.t (.ofNat i)) t h | false => rLoad1 (.t (.ofNat i)) t h) = some x) :
    ∃ v, ((do loadVar e (← asAddr (a.tmps.getD i undef)) : Sem Value)).run P w = .ok v w ∧ VR φ x v := by
  obtain ⟨k, u, hti⟩ := ty_ok ht he
  have ha := hti.isAgg w
  have hc : cD eqs.gs (.tmp i) = some (.t (.ofNat i)) := rfl
  cases hag : ti.agg with
  | false =>
    rw [hag] at hr ha
    simp only [rLoad1] at hr
    split at hr
    · rename_i id off h1
      split at hr
      · rename_i cs h2
        obtain ⟨b, s, h3, h4⟩ := inv_ptr (ev_ok hm hc h1)
        have h4 : a.tmps.getD i undef = .pointer (some ⟨b, off, none⟩) := h4
        obtain ⟨v, g1, g2, g3⟩ := (hp.obj id b s _ h3 h2).cell hr
        rw [h4]
        exact ⟨v, by simp [asAddr, Instr.loadAt, Instr.sureAddr, loadVar, ha, Result.andThen, g1], g3⟩
      · cases hr
    · rename_i cs h1
      obtain ⟨b, off, vs, h4, g1, g2⟩ := inv_rp (ev_ok hm hc h1)
      have h4 : a.tmps.getD i undef = .pointer (some ⟨b, off, none⟩) := h4
      have hcell := hp.ro.cell (g1 0 x hr).1
      rw [Nat.add_zero] at hcell
      rw [h4]
      exact ⟨vs 0, by simp [asAddr, Instr.loadAt, Instr.sureAddr, loadVar, ha, Result.andThen, hcell], g2 0 x hr⟩
    · cases hr
  | true =>
    rw [hag] at hr ha
    simp only [rLoadA] at hr
    split at hr
    · rename_i id off h1
      split at hr
      · rename_i cs h2
        split at hr
        · rename_i l hl
          cases hr
          obtain ⟨b, s, h3, h4⟩ := inv_ptr (ev_ok hm hc h1)
          have h4 : a.tmps.getD i undef = .pointer (some ⟨b, off, none⟩) := h4
          obtain ⟨us, g1, g2, g3⟩ := (hp.obj id b s _ h3 h2).row hl
          have hrun := run_loadCells_list (P := P) w ⟨b, off, none⟩ us g3
          rw [g1] at hrun
          rw [h4]
          exact ⟨.agg us.toArray, by simp [asAddr, Instr.loadAt, Instr.sureAddr, loadVar, ha, hti.size, Result.andThen, hrun], VR.agg' g2⟩
        · cases hr
      · cases hr
    · rename_i cs h1
      split at hr
      · rename_i l hl
        cases hr
        obtain ⟨b, off, vs, h4, k1, k2⟩ := inv_rp (ev_ok hm hc h1)
        have h4 : a.tmps.getD i undef = .pointer (some ⟨b, off, none⟩) := h4
        obtain ⟨us, g1, g2, g3⟩ := rp_row hp.ro k1 k2 hl
        have hrun := run_loadCells_list (P := P) w ⟨b, off, none⟩ us g3
        rw [g1] at hrun
        rw [h4]
        exact ⟨.agg us.toArray, by simp [asAddr, Instr.loadAt, Instr.sureAddr, loadVar, ha, hti.size, Result.andThen, hrun], VR.agg' g2⟩
      · cases hr
    · cases hr

theorem res_ok {a : Act} (hp : Hp h n w φ) (ht : TabOk P tab) (hm : TmR φ t a) : ∀ {rs : List ResultVar} {rl : List R} {xs : List X}, cRs tab rs = some rl → resX t h rl = some xs →
    ∃ cvs : List Value, (rs.mapM fun
      | .tmp t => pure (a.tmps.getD t undef)
      | .cell c t => do loadVar t (← asAddr (a.tmps.getD c undef)) : Sem (List Value)).run P w = .ok cvs w ∧ VRL φ xs cvs := by
  intro rs
  induction rs with
  | nil =>
    intro rl xs h1 h2
    cases h1; cases h2
    exact ⟨[], by simp, VRL.nil⟩
  | cons r rs ih =>
    intro rl xs h1 h2
    have : ∃ x xs' rl' cv, xs = x :: xs' ∧ cRs tab rs = some rl' ∧ resX t h rl' = some xs' ∧ ((fun r : ResultVar => match r with
          | .tmp t => pure (a.tmps.getD t undef)
          | .cell c t => do loadVar t (← asAddr (a.tmps.getD c undef)) : ResultVar → Sem Value) r).run P w = .ok cv w ∧ VR φ x cv := by
      cases r with
      | tmp i =>
        simp only [cRs] at h1
        split at h1
        · rename_i l hl
          cases h1
          simp only [resX] at h2
          split at h2
          · rename_i x xs' k1 k2
            cases h2
            exact ⟨x, xs', l, _, rfl, hl, k2, rfl, hm i x k1⟩
          · cases h2
        · cases h1
      | cell c e =>
        simp only [cRs] at h1
        split at h1
        · rename_i ti he
          split at h1
          · rename_i l hl
            cases h1
            cases hag : ti.agg with
            | true =>
              rw [hag] at h2
              simp only [resX] at h2
              split at h2
              · rename_i x xs' k1 k2
                cases h2
                obtain ⟨v, g1, g2⟩ := run_loadVar (a := a) hp ht hm (i := c) he (x := x) (by rw [hag]; exact k1)
                exact ⟨x, xs', l, v, rfl, hl, k2, g1, g2⟩
              · cases h2
            | false =>
              rw [hag] at h2
              simp only [resX] at h2
              split at h2
              · rename_i x xs' k1 k2
                cases h2
                obtain ⟨v, g1, g2⟩ := run_loadVar (a := a) hp ht hm (i := c) he (x := x) (by rw [hag]; exact k1)
                exact ⟨x, xs', l, v, rfl, hl, k2, g1, g2⟩
              · cases h2
          · cases h1
        · cases h1
    obtain ⟨x, xs', rl', cv, e1, e2, e3, e4, e5⟩ := this
    subst e1
    obtain ⟨cvs, g1, g2⟩ := ih e2 e3
    refine ⟨cv :: cvs, ?_, VRL.cons e5 g2⟩
    rw [List.mapM_cons]
    simp only [Sem.run_bind, e4, g1, Result.andThen_ok, Sem.run_pure]

theorem results_ok {a : Act} (hp : Hp h n w φ) (ht : TabOk P tab) (hm : TmR φ t a) {fn : Func} {rl : List R} {xs : List X} (h1 : cRs tab fn.results.toList = some rl) (h2 : resX t h rl = some xs) :
    ∃ cv, (results fn a.tmps).run P w = .ok cv w ∧ VR φ (packX xs) cv := by
  obtain ⟨cvs, g1, g2⟩ := res_ok hp ht hm h1 h2
  have hrun : (results fn a.tmps).run P w = .ok (if h : cvs.toArray.size = 1 then cvs.toArray[0] else .tuple cvs.toArray) w := by
    unfold results
    rw [Array.mapM_eq_mapM_toList]
    simp only [Sem.run_bind, Sem.run_map]
    exact congrArg (fun q : Result (List Value) => (q.andThen fun a w' => Result.ok a.toArray w').andThen fun a w' => Result.ok (if h : a.size = 1 then a[0] else .tuple a) w') g1
  refine ⟨_, hrun, ?_⟩
  match xs, cvs, g2 with
  | [x], [cv], g2 => simpa [packX] using g2.2 0 x cv rfl rfl
  | [], [], g2 => simpa [packX] using VR.tup' VRL.nil
  | x1 :: x2 :: xs, c1 :: c2 :: cvs, g2 => simpa [packX] using VR.tup' g2
  | [], _ :: _, g2 => cases g2.1
  | _ :: _, [], g2 => cases g2.1
  | [_], _ :: _ :: _, g2 => exact absurd g2.1 (by simp)
  | _ :: _ :: _, [_], g2 => exact absurd g2.1 (by simp)

def FnsOk (P : Program) (tab : Tab) (eqs : Env) (fns : T FI) : Prop := ∀ f fi, fns.get (.ofNat f) = some fi →
  ∃ fn c rs, P.funcs[f]? = some fn ∧ fn.body = some c ∧ cRs tab fn.results.toList = some rs ∧ fi = ⟨cK tab eqs fn.ntmps c, rs, fn.ntmps⟩

theorem mkFnsGo_ok (P : Program) (tab : Tab) (eqs : Env) : ∀ (l : List Func) (k : Nat) (t : T FI), (∀ j i, l[j]? = some i → P.funcs[k + j]? = some i) → FnsOk P tab eqs t → FnsOk P tab eqs (mkFnsGo tab eqs l k t) := by
  intro l
  induction l with
  | nil => intro k t _ h; exact h
  | cons fn l ih =>
    intro k t hl h
    unfold mkFnsGo
    refine ih (k + 1) _ (fun j i' h1 => by rw [Nat.add_assoc, Nat.add_comm 1 j]; exact hl (j + 1) i' (by simpa using h1)) ?_
    have h0 := hl 0 fn rfl
    intro f fi hf
    rw [get_set] at hf
    split at hf
    · rename_i he
      have := ofNat_inj he
      subst this
      unfold cF at hf
      split at hf
      · rename_i c hc
        split at hf
        · rename_i rs hrs
          cases hf
          exact ⟨fn, c, rs, h0, hc, hrs, rfl⟩
        · cases hf
      · cases hf
    · exact h f fi hf
theorem mkFns_ok (P : Program) (eqs : Env) : FnsOk P (mkTab P) eqs (mkFns P eqs) := mkFnsGo_ok P _ eqs _ 0 _ (fun j i h => by simpa using h) fun t ti h => by rw [get_e] at h; cases h

/-- No function bears the name of the one that is not entered. -/
def namesB : List Func → Bool
  | [] => true
  | f :: fs => !(f.name == "runtime.NumGoroutine") && namesB fs
theorem namesB_ok : ∀ {l : List Func}, namesB l = true → ∀ f ∈ l, (f.name == "runtime.NumGoroutine") = false := by
  intro l
  induction l with
  | nil => intro _ f h; cases h
  | cons g l ih =>
    intro h f hf
    simp only [namesB, Bool.and_eq_true, Bool.not_eq_true'] at h
    rcases List.mem_cons.1 hf with h1 | h1
    · subst h1; exact h.1
    · exact ih h.2 f h1
theorem body_ok (hn : namesB P.funcs.toList = true) {f : FuncId} {fn : Func} {c : Code} (hf : P.funcs[f]? = some fn) (hb : fn.body = some c) : Body P f := by
  intro args w
  have hm : fn ∈ P.funcs.toList := by
    rw [← Array.getElem?_toList] at hf
    exact List.mem_of_getElem? hf
  have := namesB_ok hn fn hm
  unfold callFunc
  simp only [Sem.run_bind, run_program, Result.andThen_ok, hf, this, hb, Option.isNone_some, Bool.false_eq_true, if_false, Sem.run_pure]

theorem callG_ok (hn : namesB P.funcs.toList = true) (ht : TabOk P tab) (hq : EqsOk P eqs) (hmx : P.follows .mixedOrders = true) {fns : T FI} (hfns : FnsOk P tab eqs fns) (fu : Nat) : ∀ d, CallOk eqs.gs P (callG fns fu d) := by
  intro d
  induction d with
  | zero => intro f args h n x h' n' hx; cases hx
  | succ d ih =>
    intro f args h n x h' n' hx
    have hx : (match fns.get (.ofNat f) with
      | none => none
      | some fi => bif Nat.ble args.length fi.nt then outR fi.results (codeX (callG fns fu d) fu fi.code (T.ofList args) h n) else none) = some (x, h', n') := hx
    split at hx
    · cases hx
    · rename_i fi hfi
      obtain ⟨fn, c, rs, h1, h2, h3, h4⟩ := hfns f fi hfi
      subst h4
      cases hle : Nat.ble args.length fn.ntmps with
      | false => simp only [hle] at hx; cases hx
      | true =>
        simp only [hle] at hx
        have hle := Nat.le_of_ble_eq_true hle
        have hx : outR rs (codeX (callG fns fu d) fu (cK tab eqs fn.ntmps c) (T.ofList args) h n) = some (x, h', n') := hx
        refine ⟨body_ok hn h1 h2, fun w φ vals hp hv => calls_of_wp h1 h2 ?_⟩
        have hlen : vals.length ≤ fn.ntmps := by rw [← hv.1]; exact hle
        have hsz : (vals.toArray ++ Array.replicate (fn.ntmps - vals.toArray.size) undef).size = fn.ntmps := by simp; omega
        have st : St fn.ntmps φ (T.ofList args) h n { tmps := vals.toArray ++ Array.replicate (fn.ntmps - vals.toArray.size) undef, defers := [] } w := by
          refine ⟨rfl, hsz, fun i y hy => ?_, hp⟩
          rw [get_ofList] at hy
          have hi : i < vals.length := by rw [← hv.1]; exact (List.getElem?_eq_some_iff.1 hy).1
          have : (vals.toArray ++ Array.replicate (fn.ntmps - vals.toArray.size) undef).getD i undef = vals[i] := by
            simp [Array.getD, show i < vals.length + (fn.ntmps - vals.length) by omega, Array.getElem_append_left, hi]
          show VR φ y (Array.getD _ i undef)
          rw [this]
          exact hv.2 i y _ hy (List.getElem?_eq_getElem hi)
        cases hr : codeX (callG fns fu d) fu (cK tab eqs fn.ntmps c) (T.ofList args) h n with
        | no => rw [hr] at hx; cases hx
        | go e t' h2' n2' =>
          rw [hr] at hx
          refine (code_ok ht hq ih hmx c).1 hr st _ fun a' w' φ' s1 st1 => ?_
          have fin : ∀ xs, resX t' h2' rs = some xs → packX xs = x → h2' = h' → n2' = n' → a'.defers = [] ∧ ∃ v, (results fn a'.tmps).run P w' = .ok v w' ∧ ∃ v' φ', Ending.returned v = .returned v' ∧ Step φ h n w φ' h' n' w' ∧ VR φ' x v' := by
            intro xs k1 k2 k3 k4
            subst k2; subst k3; subst k4
            obtain ⟨cv, g1, g2⟩ := results_ok (a := a') st1.hp ht st1.tm h3 k1
            exact ⟨st1.defers, cv, g1, cv, φ', rfl, s1, g2⟩
          cases e with
          | normal =>
            simp only [outR] at hx
            split at hx
            · rename_i xs hxs
              cases hx
              exact fin xs hxs rfl rfl rfl
            · cases hx
          | ret =>
            simp only [outR] at hx
            split at hx
            · rename_i xs hxs
              cases hx
              exact fin xs hxs rfl rfl rfl
            · cases hx
          | exit i => cases hx
          | goto l => cases hx

/-- What no block of one's own stands behind. -/
theorem Hp.start {G : GEnv} (w : World) (hg : GOk G w) : Hp T.e Pt.z w (⟨fun _ => Option.none, w, hg⟩ : Pl G) :=
  ⟨fun _ _ _ h => (by cases h), fun _ _ h => (by cases h), fun id o h => (by rw [get_e] at h; cases h), fun _ _ _ _ _ h => (by cases h), fun _ _ _ _ h => (by cases h), ⟨Nat.le_refl _, fun _ _ => rfl, fun _ ⟨_, _, h, _⟩ => (by cases h)⟩⟩

/-- A call from outside: what it is given lies in the world as it is; it returns, and leaves alone what was there. -/
theorem call_open (hn : namesB P.funcs.toList = true) (hmx : P.follows .mixedOrders = true) (hq : EqsOk P eqs) {fu d : Nat} {f : FuncId} {args : List X} {x : X} {h' : H} {n' : Pt} (hx : callG (mkFns P eqs) fu d f args .e .z = some (x, h', n')) :
    Body P f ∧ ∀ (w : World) (hg : GOk eqs.gs w) (vals : List Value), VRL (⟨fun _ => Option.none, w, hg⟩ : Pl eqs.gs) args vals →
      Calls P f vals.toArray w fun e w' => ∃ v, ∃ φ' : Pl eqs.gs, e = .returned v ∧ VR φ' x v ∧ Hp h' n' w' φ' ∧ φ'.W = w ∧ Kept w (fun _ => False) w' := by
  obtain ⟨hb, hc⟩ := callG_ok hn (mkTab_ok P) hq hmx (mkFns_ok P eqs) fu d f args .e .z _ _ _ hx
  refine ⟨hb, fun w hg vals hv => (hc w _ vals (Hp.start w hg) hv).mono fun e w' ⟨v, φ', h1, h2, h3⟩ => ⟨v, φ', h1, h3, h2.hp, h2.ex.1, h2.kept.os, h2.kept.tape, h2.kept.output, h2.kept.size, fun k hk _ => h2.kept.block k hk fun ⟨id, s, g1, _⟩ => by cases g1⟩⟩

/-- A closed call: it returns, whatever the world, and leaves alone what was there. -/
theorem call_closed (hn : namesB P.funcs.toList = true) (hmx : P.follows .mixedOrders = true) (hq : EqsOk P eqs) {d : Nat} {f : FuncId} {b : Bool} {h' : H} {n' : Pt} (hx : callF (mkFns P eqs) d f [] .e .z = some (.bool b, h', n')) (w : World) (hg : GOk eqs.gs w) :
    Body P f ∧ Calls P f #[] w fun e w' => e = .returned (.bool b) ∧ Kept w (fun _ => False) w' := by
  obtain ⟨hb, hc⟩ := call_open hn hmx hq hx
  refine ⟨hb, (hc w hg [] VRL.nil).mono fun e w' ⟨v, φ', h1, h2, _, _, h3⟩ => ⟨?_, h3⟩⟩
  rw [inv_bool h2] at h1
  exact h1
end
end Go.Ex

/- A run told in parts: each part is worked out by itself, and what the next one does not need is forgotten. Nothing here speaks of one program. -/
set_option linter.unusedVariables false
set_option linter.unusedSimpArgs false
namespace Go.Ex

def subV {α : Type} (eq : α → α → Bool) (v u : Option α) : Bool := match v with
  | none => true
  | some x => match u with
    | some y => eq x y
    | none => false
/-- Each entry of the first is one of the second. -/
noncomputable def subT {α : Type} (eq : α → α → Bool) (s : T α) : T α → Bool :=
  T.rec (motive := fun _ => T α → Bool) (fun _ => true)
    (fun _ v _ gl gr t => T.rec (motive := fun _ => Bool) false (fun l u r _ _ => subV eq v u && (gl l && gr r)) t) s
theorem subT_ok {α : Type} {eq : α → α → Bool} (heq : ∀ x y, eq x y = true → x = y) : ∀ {s t : T α}, subT eq s t = true → ∀ p x, s.get p = some x → t.get p = some x := by
  intro s
  induction s with
  | e => intro t _ p x h; rw [get_e] at h; cases h
  | n l v r ihl ihr =>
    intro t h p x hx
    cases t with
    | e => cases h
    | n l' u r' =>
      have h : (subV eq v u && (subT eq l l' && subT eq r r')) = true := h
      simp only [Bool.and_eq_true] at h
      cases p with
      | z =>
        rw [get_z] at hx ⊢
        subst hx
        have h1 := h.1
        cases u with
        | none => cases h1
        | some y => rw [heq _ _ h1]
      | l p => rw [get_l] at hx ⊢; exact ihl h.2.1 p x hx
      | r p => rw [get_r] at hx ⊢; exact ihr h.2.2 p x hx

section
variable {eqs : Env} {φ φ' : Pl eqs.gs} {t t1 : T X} {a : Act} {P : Program} {h h1 h' : H} {n n' : Pt} {w w' : World} {nt : Nat}

theorem Hp.less (hp : Hp h n w φ) (hs : ∀ id o, h1.get id = some o → h.get id = some o) : Hp h1 n w φ := by
  have hl : ∀ id, (h1.get id).isSome = true → (h.get id).isSome = true := fun id hh => by
    obtain ⟨o, ho⟩ := Option.isSome_iff_exists.1 hh
    rw [hs id o ho]; rfl
  exact ⟨hp.lt, hp.fresh, fun id o ho => hp.dom id o (hs id o ho), fun id id' b s s' g1 g2 g3 g4 => hp.inj id id' b s s' g1 g2 (hl _ g3) (hl _ g4), fun id b s o g1 g2 => hp.obj id b s o g1 (hs id o g2), ⟨hp.ro.size, hp.ro.old, fun b ⟨id, s, g1, g2⟩ => hp.ro.live b ⟨id, s, g1, hl _ g2⟩⟩⟩
theorem St.less (st : St nt φ t h n a w) (ht : ∀ p x, t1.get p = some x → t.get p = some x) (hs : ∀ id o, h1.get id = some o → h.get id = some o) : St nt φ t1 h1 n a w :=
  ⟨st.defers, st.size, fun i x hx => st.tm i x (ht _ x hx), st.hp.less hs⟩
theorem Step.less (s : Step φ h n w φ' h' n' w') (hs : ∀ id o, h1.get id = some o → h'.get id = some o) : Step φ h n w φ' h1 n' w' := by
  refine ⟨s.ex, s.new, s.le, s.hp.less hs, s.kept, fun b ⟨id, s', g1, g2⟩ => ?_, fun id o ho => s.grow id o (hs id o ho)⟩
  obtain ⟨o, ho⟩ := Option.isSome_iff_exists.1 g2
  exact s.mine b ⟨id, s', g1, by rw [hs id o ho]; rfl⟩

/-- The code takes one known state to another. -/
def Tri (eqs : Env) (P : Program) (nt : Nat) (c : Code) (t : T X) (h : H) (n : Pt) (e : E) (t' : T X) (h' : H) (n' : Pt) : Prop :=
  ∀ {φ : Pl eqs.gs} {a w}, St nt φ t h n a w → ∀ Q : Exit → Act → World → Prop, (∀ a' w' φ', Step φ h n w φ' h' n' w' → St nt φ' t' h' n' a' w' → Q (eX e) a' w') → c.wp P Q a w

def beqE : E → E → Bool
  | .normal, .normal => true
  | .ret, .ret => true
  | .exit i, .exit j => Nat.beq i j
  | _, _ => false
theorem beqE_eq {x y : E} (h : beqE x y = true) : x = y := by
  unfold beqE at h
  split at h
  · rfl
  · rfl
  · rw [Nat.eq_of_beq_eq_true h]
  · cases h
/-- The run ended so, with at least so much. -/
noncomputable def endB (r : Res) (e1 : E) (t1 : T X) (h1 : H) (n1 : Pt) : Bool := match r with
  | .go e t h n => beqE e1 e && (decide (n1 = n) && (subT beqX t1 t && subT beqO h1 h))
  | .no => false

theorem Tri.run (hn : namesB P.funcs.toList = true) (hmx : P.follows .mixedOrders = true) (hq : EqsOk P eqs) {d : Nat} {c : Code} {e : E} {t1 : T X} {h1 : H} {n1 : Pt}
    (hx : endB (codeX (callF (mkFns P eqs) d) 1000000 (cK (mkTab P) eqs nt c) t h n) e t1 h1 n1 = true) : Tri eqs P nt c t h n e t1 h1 n1 := by
  intro φ a w st Q hQ
  unfold endB at hx
  split at hx
  · rename_i e' t' h' n' hr
    simp only [Bool.and_eq_true, decide_eq_true_eq] at hx
    obtain ⟨g1, g2, g3, g4⟩ := hx
    have := beqE_eq g1
    subst this
    subst g2
    refine (code_ok (mkTab_ok P) hq (callG_ok hn (mkTab_ok P) hq hmx (mkFns_ok P eqs) 1000000 d) hmx c).1 hr st Q fun a' w' φ' s1 st1 => hQ a' w' φ' (s1.less (subT_ok (fun _ _ => beqO_eq) g4)) (st1.less (subT_ok (fun _ _ => beqX_eq) g3) (subT_ok (fun _ _ => beqO_eq) g4))
  · cases hx

theorem Tri.seq {x y : Code} {e : E} {t t1 t2 : T X} {h h1 h2 : H} {n n1 n2 : Pt} (hx : Tri eqs P nt x t h n .normal t1 h1 n1) (hy : Tri eqs P nt y t1 h1 n1 e t2 h2 n2) : Tri eqs P nt (.seq x y) t h n e t2 h2 n2 := by
  intro φ a w st Q hQ
  exact wp_seq (hx st _ fun a1 w1 φ1 s1 st1 => hy st1 _ fun a2 w2 φ2 s2 st2 => hQ a2 w2 φ2 (s1.trans s2) st2)
theorem Tri.exit {x y : Code} {e : E} {t t1 : T X} {h h1 : H} {n n1 : Pt} (he : beqE e .normal = false) (hx : Tri eqs P nt x t h n e t1 h1 n1) : Tri eqs P nt (.seq x y) t h n e t1 h1 n1 := by
  intro φ a w st Q hQ
  refine wp_seq (hx st _ fun a1 w1 φ1 s1 st1 => ?_)
  cases e with
  | normal => cases he
  | _ => exact hQ a1 w1 φ1 s1 st1

/-- A closed function out of what its body does. -/
theorem Tri.call (hn : namesB P.funcs.toList = true) {f : FuncId} {fn : Func} {c : Code} (hf : P.funcs[f]? = some fn) (hb : fn.body = some c) {e : E} (he : beqE e .normal || beqE e .ret = true) {t' : T X} {h' : H} {n' : Pt} {rs : List R} {b : Bool}
    (hr : cRs (mkTab P) fn.results.toList = some rs) (hx : resX t' h' rs = some [.bool b]) (hc : Tri eqs P fn.ntmps c .e .e .z e t' h' n') (w : World) (hg : GOk eqs.gs w) :
    Body P f ∧ Calls P f #[] w fun e w' => e = .returned (.bool b) ∧ Kept w (fun _ => False) w' := by
  refine ⟨body_ok hn hf hb, calls_of_wp hf hb ?_⟩
  have st : St fn.ntmps (⟨fun _ => none, w, hg⟩ : Pl eqs.gs) T.e T.e Pt.z { tmps := #[] ++ Array.replicate (fn.ntmps - (#[] : Array Value).size) undef, defers := [] } w :=
    ⟨rfl, by simp, fun i y hy => (by rw [get_e] at hy; cases hy), Hp.start w hg⟩
  refine hc st _ fun a' w' φ' s1 st1 => ?_
  obtain ⟨cv, g1, g2⟩ := results_ok (a := a') (fn := fn) st1.hp (mkTab_ok P) st1.tm hr hx
  have g3 : cv = .bool b := inv_bool g2
  subst g3
  have hk : Kept w (fun _ => False) w' := ⟨s1.kept.os, s1.kept.tape, s1.kept.output, s1.kept.size, fun k hk _ => s1.kept.block k hk fun ⟨id, s, g1, _⟩ => by cases g1⟩
  have he' : e = .normal ∨ e = .ret := by
    cases e with
    | normal => exact .inl rfl
    | ret => exact .inr rfl
    | exit i => cases he
    | goto l => cases he
  rcases he' with rfl | rfl
  · exact ⟨st1.defers, _, g1, rfl, hk⟩
  · exact ⟨st1.defers, _, g1, rfl, hk⟩
end
end Go.Ex

