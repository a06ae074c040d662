/- Calls to which variables are lent. Nothing here speaks of one program. -/
import Derived.Test.YtphoomnonenalaaDoorAb19
namespace Go.Ab
open Go.RowKit

def idxA : List OId → Nat → OId → Option Nat
  | [], _, _ => none
  | x :: l, k, id => bif Nat.beq x.1 id.1 && Nat.beq x.2 id.2 then some k else idxA l (k + 1) id
theorem idxA_some : ∀ (l : List OId) (k : Nat) (id : OId) (j : Nat), idxA l k id = some j → ∃ i, j = k + i ∧ l[i]? = some id := by
  intro l
  induction l with
  | nil => intro k id j h; cases h
  | cons x l ih =>
    intro k id j h
    simp only [idxA] at h
    cases hb : Nat.beq x.1 id.1 && Nat.beq x.2 id.2 with
    | true =>
      rw [hb] at h; cases h
      simp only [Bool.and_eq_true] at hb
      exact ⟨0, rfl, by rw [show x = id from Prod.ext (Nat.eq_of_beq_eq_true hb.1) (Nat.eq_of_beq_eq_true hb.2)]; rfl⟩
    | false =>
      rw [hb] at h
      obtain ⟨i, h1, h2⟩ := ih (k + 1) id j h
      exact ⟨i + 1, by omega, h2⟩
/-- A value, as a function is given it to which the variables ids are lent. -/
def lendA (ids : List OId) : AV → Option AV
  | .ref id off => (idxA ids 0 id).map fun k => .ref (1000000 + k, 0) off
  | .arr id off n => (idxA ids 0 id).map fun k => .arr (1000000 + k, 0) off n
  | x => x.close
/-- A value that came out of such a function. -/
def backA (ids : List OId) : AV → Option AV
  | .ref id off => bif isLent ids.length id then (ids[id.1 - 1000000]?).map fun i => .ref i off else none
  | .arr id off n => bif isLent ids.length id then (ids[id.1 - 1000000]?).map fun i => .arr i off n else none
  | .tup cs => (backL ids cs).map .tup
  | x => x.close
where
  backL (ids : List OId) : List AV → Option (List AV)
    | [] => some []
    | c :: cs => match backA ids c, backL ids cs with
      | some d, some ds => some (d :: ds)
      | _, _ => none
theorem backL_get {ids : List OId} : ∀ (cs ds : List AV), backA.backL ids cs = some ds → cs.length = ds.length ∧ ∀ (i : Nat) (c d : AV), cs[i]? = some c → ds[i]? = some d → backA ids c = some d := by
  intro cs
  induction cs with
  | nil => intro ds h; simp [backA.backL] at h; subst h; exact ⟨rfl, by simp⟩
  | cons c cs ih =>
    intro ds h
    simp only [backA.backL] at h
    split at h
    · rename_i d ds' h1 h2
      simp at h; subst h
      obtain ⟨hl, hg⟩ := ih ds' h2
      refine ⟨by simp [hl], fun i c' d' hc hd => ?_⟩
      cases i with
      | zero => simp at hc hd; subst hc; subst hd; exact h1
      | succ i => simp at hc hd; exact hg i c' d' hc hd
    · simp at h
section
variable {w : World} {M : Nat → Option Nat} {V : OId → Option Nat} {G : OId → Option GL} {ids : List OId} {bs : List Nat}
theorem VR.lent (hb : bs.length = ids.length) (hV : ∀ (k : Nat) id b, ids[k]? = some id → bs[k]? = some b → V id = some b) {x y v} (h : VR w M V G x v) (hy : lendA ids x = some y) : VR w M (lentV bs) noG y v := by
  have hk : ∀ {id k b}, idxA ids 0 id = some k → V id = some b → lentV bs (1000000 + k, 0) = some b := fun {id k b} h1 h2 => by
    obtain ⟨i, hi, h3⟩ := idxA_some ids 0 id k h1
    rw [Nat.zero_add] at hi; subst hi
    have hlt : k < bs.length := by rw [hb]; exact (List.getElem?_eq_some_iff.1 h3).1
    rw [lentV_get, List.getElem?_eq_getElem hlt]
    exact (hV k id _ h3 (List.getElem?_eq_getElem hlt)).symm.trans h2
  cases h with
  | ref id off b h =>
    simp only [lendA, Option.map_eq_some_iff] at hy
    obtain ⟨k, h1, rfl⟩ := hy
    exact .ref _ _ _ (hk h1 h)
  | arr id off n b cap h hc =>
    simp only [lendA, Option.map_eq_some_iff] at hy
    obtain ⟨k, h1, rfl⟩ := hy
    exact .arr _ _ _ _ _ (hk h1 h) hc
  | any v => exact (VR.any (V := V) (G := G) v).closed y hy _ _
  | sc v => exact (VR.sc (V := V) (G := G) v).closed y hy _ _
  | agg cs vs hl h1 h => exact (VR.agg cs vs hl h1 h).closed y hy _ _
  | tup cs vs hl h => exact (VR.tup cs vs hl h).closed y hy _ _
  | rd cs b off X hc hv => exact (VR.rd (V := V) (G := G) cs b off X hc hv).closed y hy _ _
  | sl0 a c => exact (VR.sl0 (V := V) (G := G) a c).closed y hy _ _
  | sl es z b off cap X hz hcap hc hv => exact (VR.sl (V := V) (G := G) es z b off cap X hz hcap hc hv).closed y hy _ _
  | own id es v h g hg hle heq => exact (VR.own (V := V) id es v h g hg hle heq).closed y hy _ _
  | clo f cs vs hl h => exact (VR.clo f cs vs hl h).closed y hy _ _
  | ifc t x v h => exact (VR.ifc t x v h).closed y hy _ _
theorem VR.back (hb : bs.length = ids.length) (hV : ∀ (k : Nat) id b, ids[k]? = some id → bs[k]? = some b → V id = some b) {x v} {V' G'} (h : VR w M V' G' x v) : V' = lentV bs → ∀ y, backA ids x = some y → VR w M V G y v := by
  have hk : ∀ {id i b}, isLent ids.length id = true → ids[id.1 - 1000000]? = some i → lentV bs id = some b → V i = some b := fun {id i b} h1 h2 h3 => by
    obtain ⟨_, _, h4⟩ := lentV_some h3
    exact hV _ i b h2 h4
  induction h with
  | ref id off b h =>
    intro he y hy; subst he
    simp only [backA] at hy
    cases hc : isLent ids.length id with
    | false => rw [hc] at hy; cases hy
    | true =>
      rw [hc] at hy
      obtain ⟨i, h1, rfl⟩ := Option.map_eq_some_iff.1 hy
      exact .ref _ _ _ (hk hc h1 h)
  | arr id off n b cap h hcp =>
    intro he y hy; subst he
    simp only [backA] at hy
    cases hc : isLent ids.length id with
    | false => rw [hc] at hy; cases hy
    | true =>
      rw [hc] at hy
      obtain ⟨i, h1, rfl⟩ := Option.map_eq_some_iff.1 hy
      exact .arr _ _ _ _ _ (hk hc h1 h) hcp
  | tup cs vs hl _ ih =>
    intro he y hy
    simp only [backA, Option.map_eq_some_iff] at hy
    obtain ⟨ds, hd, rfl⟩ := hy
    obtain ⟨hl2, hg⟩ := backL_get cs ds hd
    refine .tup ds vs (by omega) fun i d v hdi hvi => ?_
    have hi : i < cs.length := by have := (List.getElem?_eq_some_iff.1 hdi).1; omega
    exact ih i cs[i] v (List.getElem?_eq_getElem hi) hvi he d (hg i _ d (List.getElem?_eq_getElem hi) hdi)
  | any v => intro _ y hy; exact (VR.any (V := V) (G := G) v).closed y hy _ _
  | sc v => intro _ y hy; exact (VR.sc (V := V) (G := G) v).closed y hy _ _
  | agg cs vs hl h1 h _ => intro _ y hy; exact (VR.agg cs vs hl h1 h).closed y hy _ _
  | rd cs b off X hc hv _ => intro _ y hy; exact (VR.rd (V := V) (G := G) cs b off X hc hv).closed y hy _ _
  | sl0 a c => intro _ y hy; exact (VR.sl0 (V := V) (G := G) a c).closed y hy _ _
  | sl es z b off cap X hz hcap hc hv _ => intro _ y hy; exact (VR.sl (V := V) (G := G) es z b off cap X hz hcap hc hv).closed y hy _ _
  | own id es v h g hg hle heq _ => intro _ y hy; exact (VR.own (V := V) id es v h g hg hle heq).closed y hy _ _
  | clo f cs vs hl h _ => intro _ y hy; exact (VR.clo f cs vs hl h).closed y hy _ _
  | ifc t x v h _ => intro _ y hy; exact (VR.ifc t x v h).closed y hy _ _
end

theorem setVas_va : ∀ (ids : List OId) (ls : List (List AV)) (σ : AS) (id : OId) cs, (σ.setVas ids ls).va id = some cs → (∃ k : Nat, ids[k]? = some id ∧ ls[k]? = some cs) ∨ ((∀ k : Nat, k < ls.length → ids[k]? ≠ some id) ∧ σ.va id = some cs) := by
  intro ids
  induction ids with
  | nil => intro ls σ id cs h; exact .inr ⟨fun k _ => by simp, h⟩
  | cons x ids ih =>
    intro ls σ id cs h
    cases ls with
    | nil => exact .inr ⟨fun k hk => absurd hk (Nat.not_lt_zero _), h⟩
    | cons c ls =>
      simp only [AS.setVas] at h
      rcases ih ls _ id cs h with ⟨k, h1, h2⟩ | ⟨h1, h2⟩
      · exact .inl ⟨k + 1, h1, h2⟩
      · change updO σ.va x (some c) id = some cs at h2
        by_cases hx : id = x
        · subst hx
          rw [updO_same] at h2; cases h2
          exact .inl ⟨0, rfl, rfl⟩
        · rw [updO_ne _ _ hx] at h2
          refine .inr ⟨fun k hk => ?_, h2⟩
          cases k with
          | zero => exact fun hh => hx (Option.some.inj hh).symm
          | succ k => exact h1 k (by simpa using hk)
theorem setVas_eq : ∀ (ids : List OId) (ls : List (List AV)) (σ : AS), (σ.setVas ids ls).n = σ.n ∧ (σ.setVas ids ls).tm = σ.tm ∧ (σ.setVas ids ls).gr = σ.gr ∧ (σ.setVas ids ls).gen = σ.gen := by
  intro ids
  induction ids with
  | nil => intro ls σ; exact ⟨rfl, rfl, rfl, rfl⟩
  | cons x ids ih =>
    intro ls σ
    cases ls with
    | nil => exact ⟨rfl, rfl, rfl, rfl⟩
    | cons c ls => exact ih ls _

/-- What the lent variables hold, told without names. -/
def lentOf (σ : AS) : List OId → Option (List (List AV))
  | [] => some []
  | id :: ids => match (σ.va id).bind AV.close.closeL, lentOf σ ids with
    | some cs, some l => some (cs :: l)
    | _, _ => none
theorem lentOf_get {σ : AS} : ∀ (ids : List OId) (l : List (List AV)), lentOf σ ids = some l → l.length = ids.length ∧ ∀ (k : Nat) id, ids[k]? = some id → ∃ cs cs', σ.va id = some cs ∧ AV.close.closeL cs = some cs' ∧ l[k]? = some cs' := by
  intro ids
  induction ids with
  | nil => intro l h; simp [lentOf] at h; subst h; exact ⟨rfl, by simp⟩
  | cons x ids ih =>
    intro l h
    simp only [lentOf] at h
    split at h
    · rename_i cs l' h1 h2
      simp at h; subst h
      obtain ⟨hl, hg⟩ := ih l' h2
      refine ⟨by simp [hl], fun k id hk => ?_⟩
      cases k with
      | zero =>
        simp at hk; subst hk
        obtain ⟨cs0, q1, q2⟩ := Option.bind_eq_some_iff.1 h1
        exact ⟨cs0, cs, q1, q2, rfl⟩
      | succ k => simp at hk; exact hg k id hk
    · simp at h
def nodupB : List OId → Bool
  | [] => true
  | x :: l => (l.all fun y => !(Nat.beq x.1 y.1 && Nat.beq x.2 y.2)) && nodupB l
theorem nodupB_spec : ∀ (l : List OId), nodupB l = true → l.Pairwise (· ≠ ·) := by
  intro l
  induction l with
  | nil => intro _; exact .nil
  | cons x l ih =>
    intro h
    simp only [nodupB, Bool.and_eq_true] at h
    refine .cons (fun y hy e => ?_) (ih h.2)
    have := List.all_eq_true.1 h.1 y hy
    subst e
    simp at this

section
variable {w0 : World} {M0 : MT} {σ : AS} {a : Act} {w : World} {x : Wit}
theorem RelW.lend (h : RelW w0 M0 σ a w x) {ids : List OId} {bs : List Nat} {lent' : List (List AV)} (hbl : bs.length = ids.length) (hll : lent'.length = ids.length)
    (hb : ∀ (k : Nat) id b, ids[k]? = some id → bs[k]? = some b → x.V id = some b ∧ Mine w0 M0 b ∧ x.ow b = some (true, id) ∧ x.M b = some 0 ∧ ∃ cs, σ.va id = some cs)
    {t : OId → Option Nat} {w' : World} (hk : Kept w ⟨x.M, fun k => bs.contains k, t⟩ w') (hh : ∀ (k : Nat) b cs, bs[k]? = some b → lent'[k]? = some cs → Held w' x.M b cs) : RelW w0 M0 (σ.setVas ids lent') a w' x := by
  obtain ⟨e1, e2, e3, e4⟩ := setVas_eq ids lent' σ
  have hbs : ∀ b, bs.contains b = true → ∃ id, x.ow b = some (true, id) ∧ x.M b = some 0 ∧ Mine w0 M0 b ∧ ∃ k, ids[k]? = some id := fun b hc => by
    obtain ⟨k, hk, rfl⟩ := List.mem_iff_getElem.1 (List.contains_iff_mem.1 hc)
    have hki : k < ids.length := by rw [← hbl]; exact hk
    obtain ⟨_, h2, h3, h4, _⟩ := hb k ids[k] bs[k] (List.getElem?_eq_getElem hki) (List.getElem?_eq_getElem hk)
    exact ⟨ids[k], h3, h4, h2, k, List.getElem?_eq_getElem hki⟩
  have hsame : ∀ b, b < w.heap.size → (∀ id, x.ow b = some (true, id) → ∀ k, ids[k]? ≠ some id) → w'.heap[b]? = w.heap[b]? := fun b hlt hne => by
    refine hk.block b hlt ?_
    show bs.contains b = false
    cases hc : bs.contains b with
    | false => rfl
    | true =>
      obtain ⟨id, q1, _, _, k, q4⟩ := hbs b hc
      exact absurd q4 (hne id q1 k)
  have himm : ∀ b off y, Imm w x.M b off y → Imm w' x.M b off y := fun b off y hi => by
    have hlt : b < w.heap.size := by
      rcases Nat.lt_or_ge b w.heap.size with h' | h'
      · exact h'
      · have := hi.1; simp [World.cell?, Array.getElem?_eq_none h'] at this
    have hc : bs.contains b = false := by
      cases hc : bs.contains b with
      | false => rfl
      | true =>
        obtain ⟨_, _, q2, _⟩ := hbs b hc
        exact absurd (hi.2.2 0 q2) (Nat.not_lt_zero _)
    exact ⟨by rw [cell?_same (hk.block b hlt hc)]; exact hi.1, hi.2⟩
  constructor
  · refine ⟨hk.os.trans h.below.os, hk.tape.trans h.below.tape, hk.output.trans h.below.output, Nat.le_trans h.below.size hk.size, fun b hlt ht => ?_⟩
    refine (hk.block b (Nat.lt_of_lt_of_le hlt h.below.size) ?_).trans (h.below.block b hlt ht)
    show bs.contains b = false
    cases hc : bs.contains b with
    | false => rfl
    | true =>
      obtain ⟨_, _, _, q3, _⟩ := hbs b hc
      exact absurd rfl (q3.ne hlt ht)
  · exact h.defers
  · rw [e1]; exact h.size
  · rw [e2]; exact fun i => (h.tm i).mono himm
  · exact h.m0
  · exact fun b hb' => h.mlt b (Nat.le_trans hk.size hb')
  · rw [e4]; exact h.fresh
  · rw [e1, e4]; exact h.lent
  · intro id cs hv
    rcases setVas_va ids lent' σ id cs hv with ⟨k, h1, h2⟩ | ⟨h1, h2⟩
    · have hkb : k < bs.length := by rw [hbl]; exact (List.getElem?_eq_some_iff.1 h1).1
      obtain ⟨q1, q2, q3, q4, _⟩ := hb k id bs[k] h1 (List.getElem?_eq_getElem hkb)
      obtain ⟨_, vs, ty, r1, r2, r3⟩ := hh k bs[k] cs (List.getElem?_eq_getElem hkb) h2
      refine ⟨bs[k], vs, ty, q1, q2, q3, q4, r1, r2, fun j c hj => ?_⟩
      obtain ⟨v, s1, s2, s3⟩ := r3 j c hj
      exact ⟨v, s1, s2, s3.open' _ _⟩
    · obtain ⟨b, vs, ty, q1, q2, q3, q4, q5, q6, q7⟩ := h.va id cs h2
      refine ⟨b, vs, ty, q1, q2, q3, q4, ?_, q6, fun j c hj => ?_⟩
      · rw [hsame b (lt_of_cells q5) fun id' ho k hid => ?_]
        · exact q5
        · rw [q3] at ho
          cases ho
          exact h1 k (by rw [hll]; exact (List.getElem?_eq_some_iff.1 hid).1) hid
      · obtain ⟨v, s1, s2, s3⟩ := q7 j c hj
        exact ⟨v, s1, s2, s3.mono himm⟩
  · intro d g cs hv
    rw [e4]
    rcases setVas_va ids lent' σ (d, g) cs hv with ⟨k, h1, h2⟩ | ⟨h1, h2⟩
    · have hkb : k < bs.length := by rw [hbl]; exact (List.getElem?_eq_some_iff.1 h1).1
      obtain ⟨_, _, _, _, cs', q5⟩ := hb k (d, g) bs[k] h1 (List.getElem?_eq_getElem hkb)
      exact h.vgen d g cs' q5
    · exact h.vgen d g cs h2
  · intro id n z e hg
    rw [e3] at hg
    obtain ⟨l, h1, h2, h3, h3', h4, h5⟩ := h.gr id n z e hg
    refine ⟨l, h1, h2, h3, h3', h4, fun b hbl => ?_⟩
    obtain ⟨g1, g2, g3, vs, g4, g5⟩ := h5 b hbl
    refine ⟨g1, g2, g3, vs, ?_, g5⟩
    rw [hsame b (lt_of_cells g4) fun id' ho => by rw [g2] at ho; cases ho]
    exact g4
  · intro d g nz hg
    rw [e3] at hg; rw [e4]
    exact h.ggen d g nz hg
end

section
variable {P : Program} {w0 : World} {M0 : MT} {σ : AS} {ty : TypeId} {pos : String} {after : Array Edge} {guard : Option (Nat × Bool)}
theorem ok_callM {f : FuncId} {args : Array Operand} {tys : Array TypeId} {cl : List AV} {lent lent' : List (List AV)} {r r' : AV} {d : Option Tmp} (ids : List OId) (hs : FSpecM P f cl lent r none lent') (hb : Body P f) (hnd : nodupB ids = true)
    (hcl : (args.toList.map fun o => lendA ids (σ.ev o)) = cl.map some) (hva : lentOf σ ids = some lent) (hll : Nat.beq lent'.length ids.length = true) (hr' : backA ids r = some r') (hd : okDB σ d = true) :
    OpSeq P w0 M0 σ ⟨d, .call ⟨.value (.func f), args, tys⟩, ty, pos, after, guard⟩ (.lend ids lent' r') := by
  intro a w ⟨X, hr⟩ K Q hK
  obtain ⟨hl1, hl2⟩ := lentOf_get ids lent hva
  have hll := Nat.eq_of_beq_eq_true hll
  let bs : List Nat := ids.map fun id => (X.V id).getD 0
  have hbl : bs.length = ids.length := by simp [bs]
  have hbs : ∀ (k : Nat) id b, ids[k]? = some id → bs[k]? = some b → X.V id = some b ∧ Mine w0 M0 b ∧ X.ow b = some (true, id) ∧ X.M b = some 0 ∧ ∃ cs, σ.va id = some cs := fun k id b h1 h2 => by
    obtain ⟨cs, cs', q1, _, _⟩ := hl2 k id h1
    obtain ⟨b', vs, ty', m1, m2, m3, m4, _⟩ := hr.va id cs q1
    have : b = b' := by
      have h3 : bs[k]? = some ((X.V id).getD 0) := by simp [bs, h1]
      rw [m1] at h3
      exact Option.some.inj (h2.symm.trans h3)
    subst this
    exact ⟨m1, m2, m3, m4, cs, q1⟩
  have hV : ∀ (k : Nat) id b, ids[k]? = some id → bs[k]? = some b → X.V id = some b := fun k id b h1 h2 => (hbs k id b h1 h2).1
  have hheld : ∀ (k : Nat) b cs, bs[k]? = some b → lent[k]? = some cs → Held w X.M b cs := fun k b cs h1 h2 => by
    have hki : k < ids.length := by rw [← hl1]; exact (List.getElem?_eq_some_iff.1 h2).1
    obtain ⟨cs0, cs', q1, q2, q3⟩ := hl2 k ids[k] (List.getElem?_eq_getElem hki)
    have : cs' = cs := Option.some.inj (q3.symm.trans h2)
    subst this
    obtain ⟨b', vs, ty', m1, m2, m3, m4, m5, m6, m7⟩ := hr.va _ cs0 q1
    have : b = b' := Option.some.inj ((hV k _ b (List.getElem?_eq_getElem hki) h1).symm.trans m1)
    subst this
    obtain ⟨p1, p2⟩ := closeL_get _ _ q2
    refine ⟨m4, vs, ty', m5, by rw [← p1]; exact m6, fun j c hj => ?_⟩
    have hj' : j < cs0.length := by rw [p1]; exact (List.getElem?_eq_some_iff.1 hj).1
    obtain ⟨v, n1, n2, n3⟩ := m7 j _ (List.getElem?_eq_getElem hj')
    exact ⟨v, n1, n2, n3.closed c (p2 j _ c (List.getElem?_eq_getElem hj') hj) _ _⟩
  have hndb : bs.Nodup := by
    refine List.pairwise_iff_getElem.2 fun i j hi hj hij he => ?_
    have hi' : i < ids.length := by rw [← hbl]; exact hi
    have hj' : j < ids.length := by rw [← hbl]; exact hj
    have h1 := (hbs i ids[i] bs[i] (List.getElem?_eq_getElem hi') (List.getElem?_eq_getElem hi)).2.2.1
    have h2 := (hbs j ids[j] bs[j] (List.getElem?_eq_getElem hj') (List.getElem?_eq_getElem hj)).2.2.1
    rw [he, h2] at h1
    exact (List.pairwise_iff_getElem.1 (nodupB_spec ids hnd)) i j hi' hj' hij (Prod.mk.inj (Option.some.inj h1)).2.symm
  have hrun : (execOp a.eval ⟨d, .call ⟨.value (.func f), args, tys⟩, ty, pos, after, guard⟩).run P w = .ok (.enter f (args.map a.eval)) w := by
    simp [execOp, resolve, Deferred.ofValue, Act.eval, invoke]
    exact hb _ _
  unfold Oper.wp
  rw [hrun, Oper.upon_enter]
  have hlen : args.toList.length = cl.length := by simpa using congrArg List.length hcl
  have hcall := hs w X.M bs (args.toList.map a.eval) (by simp [hlen]) (fun i x v hx hv => by
      simp only [List.getElem?_map, Option.map_eq_some_iff] at hv
      obtain ⟨o, ho, rfl⟩ := hv
      have h1 : (args.toList.map fun o => lendA ids (σ.ev o))[i]? = some (lendA ids (σ.ev o)) := by rw [List.getElem?_map, ho]; rfl
      rw [hcl, List.getElem?_map, hx] at h1
      exact (hr.ev o).lent hbl hV (Option.some.inj h1).symm) (fun b hbb => (hr.mlt b hbb).1) hndb (by rw [hbl, hl1]) hheld
  have harr : (args.toList.map a.eval).toArray = args.map a.eval := by apply Array.ext'; simp
  rw [harr] at hcall
  refine hcall.mono fun e w' ⟨v, he, hkept, hh, hres⟩ => ?_
  subst he
  have hR := hr.lend hbl hll hbs hkept hh
  have hd1 : okDst (σ.setVas ids lent') d := by
    have := okD hd
    unfold okDst at *
    cases d with
    | none => trivial
    | some d => rw [(setVas_eq ids lent' σ).1]; exact this
  exact hK _ _ ⟨X, hR.put hd1 (VR.back hbl hV hres rfl r' hr')⟩
end
end Go.Ab
