/- Regions of any order: the run in the order of the text. Nothing here speaks of one program. -/
import Derived.Test.YtnnohkbgjdmjdaaGreatEx16
set_option linter.unusedVariables false
set_option linter.unusedSimpArgs false
namespace Go.Ex

noncomputable def dKind (call : CallT) (k : Nat) (j : J) (s : DS) : Option DS := match k with
  | 0 => dPure call j s
  | 1 => dPure call j s
  | 2 => dAlc call j s
  | _ => dWr call j s
theorem dStep_kind (call : CallT) (j : J) (s : DS) : dStep call j s = dKind call j.kind j s := by
  have key : ∀ (j j0 : J) (s : DS), (J.rec (motive := fun _ => J → DS → Option DS) (fun _ _ => dPure call) (fun _ _ => dPure call) (fun _ _ => dAlc call) (fun _ _ => dWr call) (fun _ _ _ _ f => f) j) j0 s = dKind call j.kind j0 s := by
    intro j
    induction j with
    | p => intro _ _; rfl
    | r => intro _ _; rfl
    | a => intro _ _; rfl
    | w => intro _ _; rfl
    | g _ _ _ j ih => intro j0 s; exact ih j0 s
  exact key j j s
theorem kind_le (j : J) : j.kind = 0 ∨ j.kind = 1 ∨ j.kind = 2 ∨ j.kind = 3 := by
  induction j with
  | p => exact .inl rfl
  | r => exact .inr (.inl rfl)
  | a => exact .inr (.inr (.inl rfl))
  | w => exact .inr (.inr (.inr rfl))
  | g _ _ _ j ih => exact ih

section
variable {call : CallT}
/-- What one operation does in the run. -/
inductive D1 (call : CallT) (j : J) (s : DS) : DS → Prop
  | val (x : X) (hk : j.kind = 0 ∨ j.kind = 1) (he : Eff call s.t s.h s.n j x s.h s.n) : D1 call j s ⟨putO s.t j.dst x, s.h, s.n, s.na, s.i + 1, s.q, s.hs⟩
  | pass (x : X) (hk : j.kind = 2) (he : ∀ h n, Eff call s.t h n j x h n) : D1 call j s ⟨putO s.t j.dst x, s.h, s.n, s.na, s.i + 1, s.q, s.hs⟩
  | alc (x : X) (o : O) (hk : j.kind = 2) (he : ∀ h, Eff call s.t h s.na j x (h.put s.na o) s.na.inc) : D1 call j s ⟨putO s.t j.dst x, s.h.put s.na o, s.n, s.na.inc, s.i + 1, s.q, s.hs⟩
  | wr (x : X) (h' : H) (n' : Pt) (hk : j.kind = 3) (he : Eff call s.t s.h s.n j x h' n') : D1 call j s ⟨putO s.t j.dst x, h', n', s.na, s.i + 1, s.i + 1, (s.i + 1, h') :: s.hs⟩

theorem dStep_d1 {j : J} {s s' : DS} (hf : j.fine) (h : dStep call j s = some s') : D1 call j s s' := by
  rw [dStep_kind] at h
  have val : (j.kind = 0 ∨ j.kind = 1) → dPure call j s = some s' → D1 call j s s' := fun hk h => by
    unfold dPure at h
    cases hs : step j call s.t s.h s.n with
    | no => rw [hs] at h; cases h
    | ok t h1 n1 =>
      rw [hs] at h
      cases h
      obtain ⟨x, g1, g2⟩ := step_eff hf hs
      obtain ⟨rfl, rfl⟩ := g1.value hk
      subst g2
      exact .val x hk g1
  rcases kind_le j with hk | hk | hk | hk
  · rw [hk] at h; exact val (.inl hk) h
  · rw [hk] at h; exact val (.inr hk) h
  · rw [hk] at h
    have h' : dAlc call j s = some s' := h
    unfold dAlc at h'
    cases hs : step j call s.t s.h s.na with
    | no => rw [hs] at h'; cases h'
    | ok t h1 n1 =>
      rw [hs] at h'
      cases h'
      obtain ⟨x, g1, g2⟩ := step_eff hf hs
      subst g2
      rcases g1.alc hk with ⟨rfl, rfl, g3⟩ | ⟨o, rfl, rfl, g3⟩
      · exact .pass x hk g3
      · exact .alc x o hk g3
  · rw [hk] at h
    have h' : dWr call j s = some s' := h
    unfold dWr at h'
    cases hs : step j call s.t s.h s.n with
    | no => rw [hs] at h'; cases h'
    | ok t h1 n1 =>
      rw [hs] at h'
      cases h'
      obtain ⟨x, g1, g2⟩ := step_eff hf hs
      subst g2
      exact .wr x h1 n1 hk g1

theorem drawGo_tr : ∀ (l : List (J × List Nat)) (s sF : DS), drawGo call l s = some sF →
    ∃ st : Nat → DS, st 0 = s ∧ st l.length = sF ∧ ∀ i q, l[i]? = some q → dStep call q.1 (st i) = some (st (i + 1)) := by
  intro l
  induction l with
  | nil => intro s sF h; have : some s = some sF := h; cases this; exact ⟨fun _ => s, rfl, rfl, fun i q h => by simp at h⟩
  | cons q l ih =>
    intro s sF h
    have h' : (match dStep call q.1 s with | some s => drawGo call l s | none => none) = some sF := h
    cases hs : dStep call q.1 s with
    | none => rw [hs] at h'; cases h'
    | some s1 =>
      rw [hs] at h'
      obtain ⟨st, g1, g2, g3⟩ := ih s1 sF h'
      refine ⟨fun i => match i with | 0 => s | i + 1 => st i, rfl, g2, fun i q' hq => ?_⟩
      cases i with
      | zero => simp at hq; subst hq; show dStep call q.1 s = some (st 0); rw [hs, g1]
      | succ i => exact g3 i q' (by simpa using hq)

/-- What the check behind the run says of one operation. -/
def Chk (call : CallT) (hs : List (Nat × H)) (p : J × List Nat) (s s' : DS) : Prop :=
  (p.1.kind = 1 → reAll (reR call p.1 p.1.dst s'.t) (fun q => memN q p.2 && !Nat.beq q s.q) hs = true) ∧
  (p.1.kind = 2 → ∀ c, s'.h.get s.na = some c → reAll (reA s.na c) (fun q => memN q p.2 && Nat.blt s.q q) hs = true)

theorem drawRe_chk {hs : List (Nat × H)} : ∀ (l : List (J × List Nat)) (s : DS) (st : Nat → DS), drawRe call hs l s = true → st 0 = s → (∀ i q, l[i]? = some q → dStep call q.1 (st i) = some (st (i + 1))) →
    ∀ i q, l[i]? = some q → Chk call hs q (st i) (st (i + 1)) := by
  intro l
  induction l with
  | nil => intro s st _ _ _ i q h; simp at h
  | cons p l ih =>
    intro s st h h0 hst i q hq
    have h' : (match dStep call p.1 s with
      | none => false
      | some s' => (match p.1.kind with
        | 1 => reAll (reR call p.1 p.1.dst s'.t) (fun q => memN q p.2 && !Nat.beq q s.q) hs
        | 2 => match s'.h.get s.na with
          | some c => reAll (reA s.na c) (fun q => memN q p.2 && Nat.blt s.q q) hs
          | none => true
        | _ => true) && drawRe call hs l s') = true := h
    have h1 := hst 0 p rfl
    rw [h0] at h1
    rw [h1] at h'
    simp only [Bool.and_eq_true] at h'
    cases i with
    | zero =>
      simp at hq
      subst hq
      rw [h0]
      refine ⟨fun hk => ?_, fun hk c hc => ?_⟩
      · have := h'.1; rw [hk] at this; exact this
      · have := h'.1; rw [hk] at this; simp only [hc] at this; exact this
    | succ i => exact ih (st 1) (fun i => st (i + 1)) h'.2 rfl (fun i q hq => hst (i + 1) q (by simpa using hq)) i q (by simpa using hq)

theorem reAll_mem {f : H → Bool} {ok : Nat → Bool} : ∀ {hs : List (Nat × H)}, reAll f ok hs = true → ∀ q h, (q, h) ∈ hs → ok q = true → f h = true := by
  intro hs
  induction hs with
  | nil => intro _ q h hm; cases hm
  | cons p hs ih =>
    intro hr q h hm hq
    obtain ⟨q', h''⟩ := p
    simp only [reAll, Bool.and_eq_true] at hr
    rcases List.mem_cons.1 hm with h1 | h1
    · cases h1
      have := hr.1
      rw [hq] at this
      exact this
    · exact ih hr.2 q h h1 hq

/-- The run. -/
structure Tr (call : CallT) (js : List J) (st : Nat → DS) (h0 : H) (n0 : Pt) : Prop where
  i0 : (st 0).i = 0
  q0 : (st 0).q = 0
  h00 : (st 0).h = h0
  n00 : (st 0).n.num = n0.num + js.length
  na0 : (st 0).na = n0
  hs0 : (st 0).hs = [(0, h0)]
  go : ∀ i j, js[i]? = some j → D1 call j (st i) (st (i + 1))

def Made (st : Nat → DS) (i : Nat) : Prop := (st (i + 1)).na ≠ (st i).na

section
variable {js : List J} {st : Nat → DS} {h0 : H} {n0 : Pt}
theorem get_js {i : Nat} (hi : i < js.length) : js[i]? = some js[i] := List.getElem?_eq_getElem hi
theorem Tr.ii (T : Tr call js st h0 n0) : ∀ i, i ≤ js.length → (st i).i = i := by
  intro i
  induction i with
  | zero => intro _; exact T.i0
  | succ i ih =>
    intro hi
    have h := T.go i _ (get_js (show i < js.length by omega))
    have h1 := ih (by omega)
    generalize st (i + 1) = s1 at h ⊢
    cases h <;> simp [h1]

theorem Tr.na (T : Tr call js st h0 n0) : ∀ i, i ≤ js.length → n0.num ≤ (st i).na.num ∧ (st i).na.num ≤ n0.num + i := by
  intro i
  induction i with
  | zero => intro _; rw [T.na0]; omega
  | succ i ih =>
    intro hi
    have h := T.go i _ (get_js (show i < js.length by omega))
    have h1 := ih (by omega)
    generalize st (i + 1) = s1 at h ⊢
    cases h <;> simp only [num_inc] <;> omega
theorem Tr.na1 (T : Tr call js st h0 n0) {i : Nat} (hi : i < js.length) : (st i).na.num ≤ (st (i + 1)).na.num ∧ (Made st i → (st (i + 1)).na.num = (st i).na.num + 1) := by
  have h := T.go i _ (get_js hi)
  unfold Made
  generalize st (i + 1) = s1 at h ⊢
  cases h with
  | val => exact ⟨Nat.le_refl _, fun h => absurd rfl h⟩
  | pass => exact ⟨Nat.le_refl _, fun h => absurd rfl h⟩
  | alc => simp only [num_inc]; exact ⟨by omega, fun _ => trivial⟩
  | wr => exact ⟨Nat.le_refl _, fun h => absurd rfl h⟩
theorem Tr.naM (T : Tr call js st h0 n0) {i : Nat} : ∀ k, i ≤ k → k ≤ js.length → (st i).na.num ≤ (st k).na.num := by
  intro k
  induction k with
  | zero => intro h _; have : i = 0 := by omega
            subst this; exact Nat.le_refl _
  | succ k ih =>
    intro h hk
    rcases Nat.lt_or_ge k i with h1 | h1
    · have : i = k + 1 := by omega
      subst this; exact Nat.le_refl _
    · exact Nat.le_trans (ih h1 (by omega)) (T.na1 (by omega)).1
theorem Tr.made_inj (T : Tr call js st h0 n0) {i k : Nat} (hi : i < js.length) (hk : k < js.length) (mi : Made st i) (mk : Made st k) (h : (st i).na = (st k).na) : i = k := by
  have key : ∀ i k, i < k → k < js.length → Made st i → (st i).na.num < (st k).na.num := fun i k hik hk mi => by
    have h1 := (T.na1 (show i < js.length by omega)).2 mi
    have h2 := T.naM (i := i + 1) k (by omega) (by omega)
    omega
  rcases Nat.lt_trichotomy i k with h1 | h1 | h1
  · have := key i k h1 hk mi; rw [h] at this; omega
  · exact h1
  · have := key k i h1 hi mk; rw [h] at this; omega
/-- A block that the region makes: its number is one of those kept for it. -/
theorem Tr.made_lt (T : Tr call js st h0 n0) {i : Nat} (hi : i < js.length) : n0.num ≤ (st i).na.num ∧ (st i).na.num < n0.num + js.length := by
  have := T.na i (by omega); omega

theorem Tr.qq (T : Tr call js st h0 n0) : ∀ i, i ≤ js.length → (st i).q ≤ i ∧ (∀ k j, (st i).q ≤ k → k < i → js[k]? = some j → j.kind ≠ 3) ∧ ((st i).q = 0 ∨ ∃ j, js[(st i).q - 1]? = some j ∧ j.kind = 3) := by
  intro i
  induction i with
  | zero => intro _; rw [T.q0]; exact ⟨Nat.le_refl _, fun k j _ h => by omega, .inl rfl⟩
  | succ i ih =>
    intro hi
    have hj := get_js (show i < js.length by omega)
    have h := T.go i _ hj
    have hi1 := T.ii i (by omega)
    obtain ⟨h1, h2, h3⟩ := ih (by omega)
    have ext : js[i].kind ≠ 3 → (st i).q ≤ i + 1 ∧ (∀ k j, (st i).q ≤ k → k < i + 1 → js[k]? = some j → j.kind ≠ 3) ∧ ((st i).q = 0 ∨ ∃ j, js[(st i).q - 1]? = some j ∧ j.kind = 3) := fun hk => by
      refine ⟨by omega, fun k j hk1 hk2 hkj => ?_, h3⟩
      rcases Nat.lt_or_ge k i with h4 | h4
      · exact h2 k j hk1 h4 hkj
      · have : k = i := by omega
        subst this
        rw [hj] at hkj; cases hkj; exact hk
    generalize st (i + 1) = s1 at h ⊢
    cases h with
    | val x hk => exact ext (by rcases hk with hk | hk <;> omega)
    | pass x hk => exact ext (by omega)
    | alc x o hk => exact ext (by omega)
    | wr x h' n' hk =>
      simp only [hi1]
      refine ⟨Nat.le_refl _, fun k j h1 h2 => by omega, .inr ⟨js[i], ?_, hk⟩⟩
      simpa using hj

theorem Tr.nn (T : Tr call js st h0 n0) : ∀ i, i ≤ js.length → (st i).n = (st (st i).q).n := by
  intro i
  induction i with
  | zero => intro _; rw [T.q0]
  | succ i ih =>
    intro hi
    have h := T.go i _ (get_js (show i < js.length by omega))
    have hi1 := T.ii i (by omega)
    have h1 := ih (by omega)
    generalize hs : st (i + 1) = s1 at h ⊢
    cases h with
    | val => exact h1
    | pass => exact h1
    | alc => exact h1
    | wr => simp only [hi1]; rw [hs]

theorem Tr.hh (T : Tr call js st h0 n0) : ∀ i, i ≤ js.length → ∀ id o, (st i).h.get id = some o → (st (st i).q).h.get id = some o ∨ ∃ k, (st i).q ≤ k ∧ k < i ∧ Made st k ∧ id = (st k).na ∧ (st (k + 1)).h.get id = some o := by
  intro i
  induction i with
  | zero => intro _ id o h; rw [T.q0]; exact .inl h
  | succ i ih =>
    intro hi id o ho
    have h := T.go i _ (get_js (show i < js.length by omega))
    have hi1 := T.ii i (by omega)
    have ext : ∀ id o, (st i).h.get id = some o → (st (st i).q).h.get id = some o ∨ ∃ k, (st i).q ≤ k ∧ k < i + 1 ∧ Made st k ∧ id = (st k).na ∧ (st (k + 1)).h.get id = some o := fun id o ho => by
      rcases ih (by omega) id o ho with h1 | ⟨k, h1, h2, h3⟩
      · exact .inl h1
      · exact .inr ⟨k, h1, by omega, h3⟩
    have hq := (T.qq i (by omega)).1
    generalize hs : st (i + 1) = s1 at h ho ⊢
    cases h with
    | val => exact ext id o ho
    | pass => exact ext id o ho
    | alc x o' hk =>
      simp only at ho ⊢
      rw [get_put] at ho
      split at ho
      · rename_i he
        refine .inr ⟨i, hq, by omega, ?_, he, by rw [hs]; simp only [get_put]; rw [if_pos he]; exact ho⟩
        unfold Made
        rw [hs]
        intro e
        have := congrArg Pt.num e
        simp only [num_inc] at this
        omega
      · exact ext id o ho
    | wr => simp only [hi1]; rw [hs]; exact .inl ho
theorem Tr.made_get (T : Tr call js st h0 n0) {i : Nat} (hi : i < js.length) (hm : Made st i) : js[i].kind = 2 ∧ ∃ x o, (∀ h, Eff call (st i).t h (st i).na js[i] x (h.put (st i).na o) (st i).na.inc) ∧ (st (i + 1)).h.get (st i).na = some o ∧ (st (i + 1)).t = putO (st i).t js[i].dst x := by
  have h := T.go i _ (get_js hi)
  unfold Made at hm
  generalize st (i + 1) = s1 at h hm ⊢
  cases h with
  | val => exact absurd rfl hm
  | pass => exact absurd rfl hm
  | wr => exact absurd rfl hm
  | alc x o hk he => exact ⟨hk, x, o, he, by simp [get_put], rfl⟩

theorem Tr.hsM (T : Tr call js st h0 n0) {i : Nat} : ∀ k, i ≤ k → k ≤ js.length → ∀ p, p ∈ (st i).hs → p ∈ (st k).hs := by
  intro k
  induction k with
  | zero => intro h _ p hp; have : i = 0 := by omega
            subst this; exact hp
  | succ k ih =>
    intro h hk p hp
    rcases Nat.lt_or_ge k i with h1 | h1
    · have : i = k + 1 := by omega
      subst this; exact hp
    · have h2 := ih h1 (by omega) p hp
      have h3 := T.go k _ (get_js (show k < js.length by omega))
      generalize st (k + 1) = s1 at h3 ⊢
      cases h3 with
      | val => exact h2
      | pass => exact h2
      | alc => exact h2
      | wr => exact List.mem_cons_of_mem _ h2
/-- The memory behind the last operation that changed it is among those that are kept. -/
theorem Tr.hs_mem (T : Tr call js st h0 n0) {q : Nat} (hq : q ≤ js.length) (hc : q = 0 ∨ ∃ j, js[q - 1]? = some j ∧ j.kind = 3) : (q, (st q).h) ∈ (st js.length).hs := by
  refine T.hsM js.length hq (Nat.le_refl _) _ ?_
  rcases hc with h1 | ⟨j, h1, h2⟩
  · subst h1; rw [T.hs0, T.h00]; simp
  · cases q with
    | zero => rw [T.hs0, T.h00]; simp
    | succ q =>
      simp at h1
      have h3 := T.go q j h1
      have hi1 := T.ii q (by omega)
      generalize hs : st (q + 1) = s1 at h3 ⊢
      cases h3 with
      | val x hk => omega
      | pass x hk => omega
      | alc x o hk => omega
      | wr x h' n' hk => simp [hi1]

/-- A slot that no later operation writes. -/
theorem Tr.slot (T : Tr call js st h0 n0) {i : Nat} {p : Pt} : ∀ k, i ≤ k → k ≤ js.length → (∀ l j, i ≤ l → l < k → js[l]? = some j → j.dst ≠ some p) → (st k).t.get p = (st i).t.get p := by
  intro k
  induction k with
  | zero => intro h _ _; have : i = 0 := by omega
            subst this; rfl
  | succ k ih =>
    intro h hk hno
    rcases Nat.lt_or_ge k i with h1 | h1
    · have : i = k + 1 := by omega
      subst this; rfl
    · have hj := get_js (show k < js.length by omega)
      have h2 := ih h1 (by omega) fun l j a b c => hno l j a (by omega) c
      have h3 := T.go k _ hj
      have h4 := hno k _ h1 (by omega) hj
      rw [← h2]
      have hput : ∀ x, (putO (st k).t js[k].dst x).get p = (st k).t.get p := fun x => by
        cases hd : js[k].dst with
        | none => rfl
        | some d =>
          show ((st k).t.put d x).get p = _
          rw [get_put, if_neg (fun e => h4 (by rw [hd, e]))]
      generalize st (k + 1) = s1 at h3 ⊢
      cases h3 <;> exact hput _
theorem Tr.tt (T : Tr call js st h0 n0) {i : Nat} (hi : i < js.length) : ∃ x, (st (i + 1)).t = putO (st i).t js[i].dst x := by
  have h := T.go i _ (get_js hi)
  generalize st (i + 1) = s1 at h ⊢
  cases h <;> exact ⟨_, rfl⟩
end
end
end Go.Ex
