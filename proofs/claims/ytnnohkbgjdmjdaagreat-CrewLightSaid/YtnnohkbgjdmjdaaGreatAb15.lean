/- Regions in any order, with one store that may come ahead of some of the operations before it. Nothing here speaks of one program. -/
import Derived.Test.YtnnohkbgjdmjdaaGreatAb14
namespace Go.Ab
open Go.RowKit

def noRefs (sid : OId) (σ : AS) (op : Op) : Bool := op.operands.toList.all fun x => match σ.ev x with | .ref id _ => !(Nat.beq id.1 sid.1 && Nat.beq id.2 sid.2) | _ => true
def valEv : Option Ev → Bool
  | none => true
  | some (.val _) => true
  | _ => false

/-- Those that the store does not wait for: they make a value, and look at no object that is stored into. -/
def ChainL (late : Nat → Bool) (sid : OId) : Nat → List Oper → AS → List (Option Ev) → Prop
  | _, [], _, _ => True
  | i, o :: l, σ, e :: es => (late i = true → noRefs sid σ o.op = true ∧ valEv e = true) ∧ ChainL late sid (i + 1) l (appO σ o.dst e) es
  | _, _, _, [] => True

def AHeadS (P : Program) (w0 : World) (M0 : MT) (ops : Array Oper) (late : Nat → Bool) (sid : OId) (i : Nat) (l : List Oper) (R : AS → Prop) (σ : AS) : Prop :=
  ∃ evs σF, Chain P w0 M0 ops l σ evs σF ∧ ChainL late sid i l σ evs ∧ R σF

section
variable {P : Program} {w0 : World} {M0 : MT} {ops : Array Oper} {R : AS → Prop} {rest : List Oper} {σ : AS} {late : Nat → Bool} {sid : OId} {i : Nat}
theorem AHeadS.nil (h : R σ) : AHeadS P w0 M0 ops late sid i [] R σ := ⟨[], σ, ⟨rfl, rfl⟩, trivial, h⟩
theorem AHeadS.call {d : Option Tmp} {op : Op} {ty : TypeId} {pos : String} {after : Array Edge} {e : Ev} (ho : OpAny P w0 M0 σ ⟨d, op, ty, pos, after, none⟩ e) (he : headEv e = true) (hl : late i = false)
    (h : AHeadS P w0 M0 ops late sid (i + 1) rest R (σ.app d e)) : AHeadS P w0 M0 ops late sid i (⟨d, op, ty, pos, after, none⟩ :: rest) R σ := by
  obtain ⟨evs, σF, h1, h2, h3⟩ := h
  exact ⟨some e :: evs, σF, ⟨some e, evs, rfl, ⟨rfl, ho, he⟩, h1⟩, ⟨fun hh => (by rw [hl] at hh; cases hh), h2⟩, h3⟩
theorem AHeadS.callL {d : Option Tmp} {op : Op} {ty : TypeId} {pos : String} {after : Array Edge} {v : AV} (ho : OpAny P w0 M0 σ ⟨d, op, ty, pos, after, none⟩ (.val v)) (hn : noRefs sid σ op = true)
    (h : AHeadS P w0 M0 ops late sid (i + 1) rest R (σ.app d (.val v))) : AHeadS P w0 M0 ops late sid i (⟨d, op, ty, pos, after, none⟩ :: rest) R σ := by
  obtain ⟨evs, σF, h1, h2, h3⟩ := h
  exact ⟨some (.val v) :: evs, σF, ⟨some (.val v), evs, rfl, ⟨rfl, ho, rfl⟩, h1⟩, ⟨fun _ => ⟨hn, rfl⟩, h2⟩, h3⟩
theorem AHeadS.split {o : Oper} {j t : Nat} {want b : Bool} (_ : o.guard = some (j, want)) (_ : (ops[j]?).bind (·.dst) = some t) (_ : exact (σ.tm t) = some (.bool b))
    (h1 : b = want → AHeadS P w0 M0 ops late sid i (o :: rest) R σ) (h2 : b = !want → AHeadS P w0 M0 ops late sid i (o :: rest) R σ) : AHeadS P w0 M0 ops late sid i (o :: rest) R σ := by
  cases b <;> cases want <;> first | exact h1 rfl | exact h2 rfl
theorem AHeadS.go {d : Option Tmp} {op : Op} {ty : TypeId} {pos : String} {after : Array Edge} {j t : Nat} {want b : Bool} {e : Ev} (hj : (ops[j]?).bind (·.dst) = some t) (ht : Nat.blt t σ.n = true) (hv : exact (σ.tm t) = some (.bool b)) (hb : b = want)
    (ho : OpAny P w0 M0 σ ⟨d, op, ty, pos, after, some (j, want)⟩ e) (he : headEv e = true) (hl : late i = false) (h : AHeadS P w0 M0 ops late sid (i + 1) rest R (σ.app d e)) :
    AHeadS P w0 M0 ops late sid i (⟨d, op, ty, pos, after, some (j, want)⟩ :: rest) R σ := by
  obtain ⟨evs, σF, h1, h2, h3⟩ := h
  exact ⟨some e :: evs, σF, ⟨some e, evs, rfl, ⟨⟨t, _, hj, ltB ht, hv, by subst hb; simp⟩, ho, he⟩, h1⟩, ⟨fun hh => (by rw [hl] at hh; cases hh), h2⟩, h3⟩
theorem AHeadS.pass {d : Option Tmp} {op : Op} {ty : TypeId} {pos : String} {after : Array Edge} {j t : Nat} {want b : Bool} (hj : (ops[j]?).bind (·.dst) = some t) (ht : Nat.blt t σ.n = true) (hv : exact (σ.tm t) = some (.bool b))
    (hb : b = !want) (hd : okDB σ d = true) (hl : late i = false) (h : AHeadS P w0 M0 ops late sid (i + 1) rest R (σ.put d (.sc undef))) :
    AHeadS P w0 M0 ops late sid i (⟨d, op, ty, pos, after, some (j, want)⟩ :: rest) R σ := by
  obtain ⟨evs, σF, h1, h2, h3⟩ := h
  exact ⟨none :: evs, σF, ⟨none, evs, rfl, ⟨⟨t, _, hj, ltB ht, hv, by subst hb; cases want <;> rfl⟩, okD hd⟩, h1⟩, ⟨fun hh => (by rw [hl] at hh; cases hh), h2⟩, h3⟩
theorem AHeadS.passU {d : Option Tmp} {op : Op} {ty : TypeId} {pos : String} {after : Array Edge} {j t : Nat} {want : Bool} (hj : (ops[j]?).bind (·.dst) = some t) (ht : Nat.blt t σ.n = true) (hv : exact (σ.tm t) = some undef)
    (hd : okDB σ d = true) (hl : late i = false) (h : AHeadS P w0 M0 ops late sid (i + 1) rest R (σ.put d (.sc undef))) :
    AHeadS P w0 M0 ops late sid i (⟨d, op, ty, pos, after, some (j, want)⟩ :: rest) R σ := by
  obtain ⟨evs, σF, h1, h2, h3⟩ := h
  exact ⟨none :: evs, σF, ⟨none, evs, rfl, ⟨⟨t, _, hj, ltB ht, hv, rfl⟩, okD hd⟩, h1⟩, ⟨fun hh => (by rw [hl] at hh; cases hh), h2⟩, h3⟩
end

theorem ChainL.at {late : Nat → Bool} {sid : OId} : ∀ (l : List Oper) (k : Nat) (σ : AS) (evs : List (Option Ev)) (st : Nat → AS), ChainL late sid k l σ evs → evs.length = l.length → st 0 = σ →
    (∀ (i : Nat) o e, l[i]? = some o → evs[i]? = some e → st (i + 1) = appO (st i) o.dst e) → ∀ (i : Nat) o e, l[i]? = some o → evs[i]? = some e → late (k + i) = true → noRefs sid (st i) o.op = true ∧ valEv e = true := by
  intro l
  induction l with
  | nil => intro k σ evs st _ _ _ _ i o e h; simp at h
  | cons o l ih =>
    intro k σ evs st h hl h0 hs i o' e' ho he hlate
    cases evs with
    | nil => simp at he
    | cons e es =>
      cases i with
      | zero => simp at ho he; subst ho; subst he; rw [h0]; exact h.1 hlate
      | succ i =>
        simp at ho he
        refine ih (k + 1) _ es (fun i => st (i + 1)) h.2 (by simpa using hl) ?_ (fun i o e ho he => hs (i + 1) o e (by simpa using ho) (by simpa using he)) i o' e' ho he (by rw [show k + 1 + i = k + (i + 1) by omega]; exact hlate)
        have := hs 0 o e (by simp) (by simp)
        rw [this, h0]

theorem Chain.len {P : Program} {w0 : World} {M0 : MT} {ops : Array Oper} : ∀ (l : List Oper) (σ : AS) (evs : List (Option Ev)) (σF : AS), Chain P w0 M0 ops l σ evs σF → evs.length = l.length := by
  intro l
  induction l with
  | nil => intro σ evs σF h; rw [h.1]; rfl
  | cons o l ih => intro σ evs σF ⟨e, es, h1, _, h3⟩; rw [h1, List.length_cons, List.length_cons, ih _ _ _ h3]

def drawSOk (ops : Array Oper) (m : Nat) (late : Nat → Bool) : Bool :=
  Nat.blt m ops.size &&
  ((List.range m).all fun i => match ops[i]? with
    | none => false
    | some o => match o.dst with
      | none => false
      | some d => ((List.range m).all fun j => Nat.beq j i || !(match dstOf ops j with | some d' => Nat.beq d' d | none => false)) &&
        ((readsOf ops o).all fun t => (List.range m).all fun j => !(match dstOf ops j with | some d' => Nat.beq d' t | none => false) || (Nat.blt j i && Region.waitsFor .any ops i j))) &&
  ((List.range ops.size).all fun i => match ops[i]? with
    | none => true
    | some o => o.after.all fun e => !Region.binds .any e || Nat.blt e.on i) &&
  (match ops[m]? with
    | none => false
    | some o => o.dst.isNone && o.guard.isNone && (readsOf ops o).all fun t => (List.range m).all fun j => !(match dstOf ops j with | some d' => Nat.beq d' t | none => false) || Region.waitsFor .any ops m j) &&
  ((List.range m).all fun i => late i || Region.waitsFor .any ops m i) &&
  (Nat.beq (m + 1) ops.size || (Region.sinkB .any ops (m + 1) && Region.chainB .any ops (m + 1))) &&
  Region.seqB .any ops (ops.size - (m + 1)) (m + 1) (headL (m + 1) ops.size)

structure DrawSFacts (ops : Array Oper) (m : Nat) (late : Nat → Bool) : Prop where
  le : m < ops.size
  dst : ∀ i, i < m → ∃ o d, ops[i]? = some o ∧ o.dst = some d ∧ (∀ j, j < m → dstOf ops j = some d → j = i) ∧
    ∀ t ∈ readsOf ops o, ∀ j, j < m → dstOf ops j = some t → j < i ∧ Region.waitsFor .any ops i j = true
  down : ∀ i o, ops[i]? = some o → ∀ e ∈ o.after, Region.binds .any e = true → e.on < i
  store : ∃ o, ops[m]? = some o ∧ o.dst = none ∧ o.guard = none ∧ ∀ t ∈ readsOf ops o, ∀ j, j < m → dstOf ops j = some t → Region.waitsFor .any ops m j = true
  late : ∀ i, i < m → late i = true ∨ Region.waitsFor .any ops m i = true
  tail : m + 1 < ops.size → Region.sinkB .any ops (m + 1) = true ∧ Region.chainB .any ops (m + 1) = true
  seq : Region.seqB .any ops (ops.size - (m + 1)) (m + 1) (headL (m + 1) ops.size) = true

theorem beq_opt {x : Option Nat} {t : Nat} {b : Bool} (h : (!(match x with | some d' => Nat.beq d' t | none => false) || b) = true) (hx : x = some t) : b = true := by
  subst hx
  simpa using h

theorem drawSFacts {ops : Array Oper} {m : Nat} {late : Nat → Bool} (h : drawSOk ops m late = true) : DrawSFacts ops m late := by
  unfold drawSOk at h
  simp only [Bool.and_eq_true] at h
  obtain ⟨⟨⟨⟨⟨⟨h1, h2⟩, h3⟩, h6⟩, h7⟩, h4⟩, h5⟩ := h
  refine ⟨ltB h1, fun i hi => ?_, fun i o ho e he hb => ?_, ?_, fun i hi => ?_, fun hlt => ?_, h5⟩
  · have := List.all_eq_true.1 h2 i (List.mem_range.2 hi)
    split at this
    · cases this
    · rename_i o ho
      split at this
      · cases this
      · rename_i d hd
        simp only [Bool.and_eq_true] at this
        refine ⟨o, d, ho, hd, fun j hj hdj => ?_, fun t ht j hj hdj => ?_⟩
        · have := List.all_eq_true.1 this.1 j (List.mem_range.2 hj)
          rw [hdj] at this
          simp only [Bool.or_eq_true] at this
          rcases this with hh | hh
          · exact Nat.eq_of_beq_eq_true hh
          · simp at hh
        · have := beq_opt (List.all_eq_true.1 (List.all_eq_true.1 this.2 t ht) j (List.mem_range.2 hj)) hdj
          simp only [Bool.and_eq_true] at this
          exact ⟨ltB this.1, this.2⟩
  · have hi : i < ops.size := (Array.getElem?_eq_some_iff.1 ho).1
    have := List.all_eq_true.1 h3 i (List.mem_range.2 hi)
    rw [ho] at this
    have := Array.all_eq_true_iff_forall_mem.1 this e he
    simp only [hb, Bool.not_true, Bool.false_or] at this
    exact ltB this
  · split at h6
    · cases h6
    · rename_i o ho
      simp only [Bool.and_eq_true] at h6
      refine ⟨o, ho, by simpa using h6.1.1, by simpa using h6.1.2, fun t ht j hj hdj => ?_⟩
      exact beq_opt (List.all_eq_true.1 (List.all_eq_true.1 h6.2 t ht) j (List.mem_range.2 hj)) hdj
  · have := List.all_eq_true.1 h7 i (List.mem_range.2 hi)
    simpa using this
  · simp only [Bool.or_eq_true, Bool.and_eq_true] at h4
    rcases h4 with hh | hh
    · have := Nat.eq_of_beq_eq_true hh; omega
    · exact hh

theorem writerS_iff {ops : Array Oper} {m : Nat} {late : Nat → Bool} (F : DrawSFacts ops m late) (t j : Nat) : writer ops m t = some j ↔ j < m ∧ dstOf ops j = some t := by
  constructor
  · intro h
    have h1 := List.find?_some h
    have h2 := List.mem_of_find?_eq_some h
    exact ⟨List.mem_range.1 h2, by simpa using h1⟩
  · intro ⟨h1, h2⟩
    cases hw : writer ops m t with
    | none =>
      have := List.find?_eq_none.1 hw j (List.mem_range.2 h1)
      simp [h2] at this
    | some k =>
      have hk1 := List.find?_some hw
      have hk2 := List.mem_range.1 (List.mem_of_find?_eq_some hw)
      obtain ⟨o, d, p1, p2, p3, _⟩ := F.dst j h1
      have hd : dstOf ops j = some d := by simp [dstOf, p1, p2]
      have hdt : d = t := Option.some.inj (hd.symm.trans h2)
      subst hdt
      rw [p3 k hk2 (by simpa using hk1)]

/-- Another store ahead of an operation that makes a value. -/
def stored (σ : AS) (id : OId) (cs : List AV) : AS := { σ with va := updO σ.va id (some cs) }
theorem stored_app {σ : AS} {id : OId} {cs : List AV} : σ.app none (.stor id cs) = stored σ id cs := rfl
theorem stored_appO {σ : AS} {id : OId} {cs : List AV} {d : Tmp} {e : Option Ev} (h : valEv e = true) : appO (stored σ id cs) (some d) e = stored (appO σ (some d) e) id cs := by
  cases e with
  | none => rfl
  | some e => cases e <;> first | rfl | cases h


theorem ok_storeAny {P : Program} {w0 : World} {M0 : MT} {σ : AS} {d : Option Tmp} {ty : TypeId} {pos : String} {after : Array Edge} {guard : Option (Nat × Bool)} {t off sz : Nat} {id : OId} {cs new cs' : List AV} (x y : Operand) (hx : nf (σ.ev x) = some (.ref id off)) (hva : σ.va id = some cs)
    (hs : ∀ w, (sizeOf t).run P w = .ok sz w) (hy : cellsA (σ.ev y) = some new) (hn : new.length = sz) (hfit : Nat.ble (off + sz) cs.length = true) (hc : nfL (splice cs new off) = some cs') (hd : okDB σ d = true) :
    OpAny P w0 M0 σ ⟨d, .store t x y, ty, pos, after, guard⟩ (.stor id cs') := fun σ' hag => by
  have h1 := nf_eq hx
  rw [← nfL_eq hc]
  refine ok_store x y (by rw [hag.ev x (by simp [Op.operands]), h1]) (hag.va x (by simp [Op.operands]) id off cs h1 hva) hs (by rw [hag.ev y (by simp [Op.operands])]; exact hy) hn (leB hfit) ?_
  cases d with
  | none => trivial
  | some d => show d < σ'.n; rw [hag.n]; exact okD hd

set_option maxHeartbeats 2000000 in
theorem AWP.drawnS {P : Program} {w0 : World} {M0 : MT} {Q : Exit → AS → Prop} {σ : AS} {id : Nat} {ops : Array Oper} (m : Nat) (late : Nat → Bool) (sid : OId) (hm : P.follows .mixedOrders = true) (hc : drawSOk ops m late = true)
    (h : AHeadS P w0 M0 ops late sid 0 (ops.toList.take m) (fun σF => ∃ scs so, ops[m]? = some so ∧ OpAny P w0 M0 σF so (.stor sid scs) ∧ AOps P w0 M0 ops (ops.toList.drop (m + 1)) (Q .normal) (stored σF sid scs)) σ) : AWP P w0 M0 (.region id ops true) Q σ := by
  intro a w ⟨x0, hr0⟩ Q' hQ
  obtain ⟨evs, σF, hch, hchL, scs, so, hso1, hso2, htail⟩ := h
  have F := drawSFacts hc
  have hevl := hch.len
  obtain ⟨st, st0, stF, hst⟩ := hch.states
  have hlen : (ops.toList.take m).length = m := by have := F.le; simp; omega
  rw [hlen] at stF
  let W : Nat → Option Nat := writer ops m
  let E : Nat → Option Ev := fun i => (evs[i]?).getD none
  have hget : ∀ i, i < m → ∀ o, ops[i]? = some o → (ops.toList.take m)[i]? = some o := fun i hi o ho => by
    rw [List.getElem?_take, if_pos hi, Array.getElem?_toList]; exact ho
  have hstep : ∀ i, i < m → ∀ o, ops[i]? = some o → StepOk P w0 M0 ops (st i) o (E i) ∧ st (i + 1) = appO (st i) o.dst (E i) := fun i hi o ho => by
    obtain ⟨e, g1, g2, g3⟩ := hst i o (hget i hi o ho)
    simp only [E, g1, Option.getD_some]
    exact ⟨g2, g3⟩
  have hlateF : ∀ i, i < m → ∀ o, ops[i]? = some o → late i = true → noRefs sid (st i) o.op = true ∧ valEv (E i) = true := fun i hi o ho hl => by
    obtain ⟨e, g1, _, _⟩ := hst i o (hget i hi o ho)
    have := ChainL.at _ 0 σ evs st hchL hevl st0 (fun i o e ho he => by
      obtain ⟨e', g1, _, g3⟩ := hst i o ho
      rw [he] at g1; cases g1; exact g3) i o e (hget i hi o ho) g1 (by rw [Nat.zero_add]; exact hl)
    simp only [E, g1, Option.getD_some]
    exact this
  have hhead : ∀ i, i < m → headO (E i) = true := fun i hi => by
    obtain ⟨o, d, p1, _⟩ := F.dst i hi
    have := (hstep i hi o p1).1
    cases hE : E i with
    | none => rfl
    | some e => rw [hE] at this; exact this.2.2
  have hW : ∀ i, i < m → ∀ d, dstOf ops i = some d → ∀ t, W t = some i ↔ t = d := fun i hi d hd t => by
    rw [writerS_iff F t i]
    exact ⟨fun ⟨_, h2⟩ => Option.some.inj (h2.symm.trans hd), fun h => by subst h; exact ⟨hi, hd⟩⟩
  have hcanon : ∀ i, i ≤ m → st i = mix σ W E (fun j => Nat.blt j i) := by
    intro i
    induction i with
    | zero =>
      intro _
      rw [st0]
      refine (mix_none σ W E).symm.trans ?_
      congr 1
    | succ i ih =>
      intro hi
      obtain ⟨o, d, p1, p2, _⟩ := F.dst i hi
      have hd : dstOf ops i = some d := by simp [dstOf, p1, p2]
      rw [(hstep i hi o p1).2, p2, ih (by omega), mix_step σ W E (fun j => Nat.blt j i) (hW i hi d hd) (bltF (by omega)) (hhead i hi)]
      congr 1
      funext j
      by_cases hj : j = i
      · subst hj; rw [bltT (Nat.lt_succ_self _)]; simp
      · rw [beq_ff hj]
        by_cases hb : j < i
        · rw [bltT hb, bltT (by omega)]; rfl
        · rw [bltF hb, bltF (by omega)]; rfl
  have hmixF : ∀ listed : Array Bool, (∀ j, j < m → listed.getD j false = true) → mix σ W E (fun j => listed.getD j false) = σF := fun listed hall => by
    rw [← stF, hcanon m (Nat.le_refl _)]
    have : ∀ t j, W t = some j → listed.getD j false = Nat.blt j m := fun t j hj => by
      have := ((writerS_iff F t j).1 hj).1
      rw [hall j this, bltT this]
    apply AS.ext'
    · rfl
    · intro t; simp only [mix]; cases hw : W t with
      | none => rfl
      | some j => simp only [this t j hw]
    · intro t; simp only [mix]; cases hw : W t.1 with
      | none => rfl
      | some j => simp only [this t.1 j hw]
    · intro t; simp only [mix]; cases hw : W t.1 with
      | none => rfl
      | some j => simp only [this t.1 j hw]
    · intro t; simp only [mix]; cases hw : W t with
      | none => rfl
      | some j => simp only [this t j hw]
  have hcnt0 : ∀ listed : Array Bool, ((List.range m).filter fun j => !listed.getD j false).length = 0 → ∀ j, j < m → listed.getD j false = true := fun listed hcount j hj => by
    have : (List.range m).filter (fun j => !listed.getD j false) = [] := List.eq_nil_of_length_eq_zero hcount
    have := List.filter_eq_nil_iff.1 this j (List.mem_range.2 hj)
    simpa using this
  have hcnt : ∀ (listed : Array Bool) (i : Nat), listed.size = ops.size → i < ops.size → listed.getD i false = false → ∀ l : List Nat, l.Nodup → i ∈ l → (l.filter fun j => !listed.getD j false).length = ((l.filter fun j => !(listed.setIfInBounds i true).getD j false)).length + 1 := by
    intro listed i hsz hin hunF l
    induction l with
    | nil => intro _ h; cases h
    | cons b l ihl =>
      intro hnd hmem
      have hnd' := List.nodup_cons.1 hnd
      by_cases hb : b = i
      · subst hb
        have hsame : (l.filter fun j => !(listed.setIfInBounds b true).getD j false) = l.filter fun j => !listed.getD j false := by
          apply List.filter_congr
          intro j hj
          have : b ≠ j := fun h => hnd'.1 (h ▸ hj)
          rw [getD_set_ne false this]
        have hset : (listed.setIfInBounds b true).getD b false = true := by simp [Array.getD, hsz, hin]
        rw [List.filter_cons_of_pos (by simpa using hunF), List.filter_cons_of_neg (by rw [hset]; simp), hsame]
        rfl
      · have hmem' : i ∈ l := by rcases List.mem_cons.1 hmem with h | h; exact absurd h.symm hb; exact h
        have := ihl hnd'.2 hmem'
        have hbne : (listed.setIfInBounds i true).getD b false = listed.getD b false := getD_set_ne false (Ne.symm hb)
        cases hl : listed.getD b false with
        | true => rw [List.filter_cons_of_neg (by rw [hl]; simp), List.filter_cons_of_neg (by rw [hbne, hl]; simp)]; exact this
        | false => rw [List.filter_cons_of_pos (by rw [hl]; simp), List.filter_cons_of_pos (by rw [hbne, hl]; simp), List.length_cons, List.length_cons, this]
  have hmin : ∀ (listed : Array Bool) (j : Nat), listed.getD j false = false → ∃ j', j' ≤ j ∧ listed.getD j' false = false ∧ ∀ i, i < j' → listed.getD i false = true := by
    intro listed j
    induction j using Nat.strongRecOn with
    | _ j ihn =>
      intro h2
      by_cases hh : ∃ i, i < j ∧ listed.getD i false = false
      · obtain ⟨i, hi1, hi2⟩ := hh
        obtain ⟨j', q1, q2, q3⟩ := ihn i hi1 hi2
        exact ⟨j', by omega, q2, q3⟩
      · refine ⟨j, Nat.le_refl _, h2, fun i hi => ?_⟩
        cases hl : listed.getD i false with
        | true => rfl
        | false => exact absurd ⟨i, hi, hl⟩ hh
  have hreads : ∀ i, i ≤ m → ∀ o, ops[i]? = some o → (∀ t ∈ readsOf ops o, ∀ j, j < m → dstOf ops j = some t → j < i ∧ Region.waitsFor .any ops i j = true) →
      ∀ listed : Array Bool, (∀ e ∈ o.after, Region.binds .any e = true → listed.getD e.on false = true) → ∀ t ∈ readsOf ops o, (mix σ W E fun j => listed.getD j false).tm t = (st i).tm t := by
    intro i him o hoi p4 listed hdeps t ht
    rw [hcanon i him]
    simp only [mix]
    cases hw : W t with
    | none => rfl
    | some j =>
      obtain ⟨q1, q2⟩ := (writerS_iff F t j).1 hw
      obtain ⟨q3, q4⟩ := p4 t ht j q1 q2
      obtain ⟨o', ho', e, he, hb, hon⟩ := Region.waitsFor_spec q4
      have : o' = o := Option.some.inj (ho'.symm.trans hoi)
      subst this
      have hl := hdeps e he hb
      rw [hon] at hl
      simp only [hl, bltT q3]
  have hevs : ∀ i, ∀ o : Oper, ∀ σ' : AS, (∀ t ∈ readsOf ops o, σ'.tm t = (st i).tm t) → ∀ y ∈ o.op.operands, σ'.ev y = (st i).ev y := by
    intro i o σ' htm y hy
    cases y with
    | tmp t => exact htm t (List.mem_append.2 (.inl (List.mem_filterMap.2 ⟨.tmp t, Array.mem_toList_iff.2 hy, rfl⟩)))
    | const v => exact ev_const _ _ v
    | global g => rfl
    | func f => rfl
  have hn : ∀ i, i ≤ m → ∀ listed : Array Bool, (mix σ W E fun j => listed.getD j false).n = (st i).n := fun i hi listed => by rw [hcanon i hi]; rfl
  have hag : ∀ i, i ≤ m → ∀ o, ∀ listed : Array Bool, (∀ t ∈ readsOf ops o, (mix σ W E fun j => listed.getD j false).tm t = (st i).tm t) →
      ∀ σs a w X, σs.tm = (mix σ W E fun j => listed.getD j false).tm → σs.gen = (mix σ W E fun j => listed.getD j false).gen → RelW w0 M0 σs a w X → Agree (st i) (mix σ W E fun j => listed.getD j false) o.op := by
    intro i him o listed htm σs a w X hs1 hs2 hx
    refine ⟨hn i him listed, hevs i o _ htm, fun y hy id off cs hyr hycs => ?_⟩
    have hev : (mix σ W E fun j => listed.getD j false).ev y = .ref id off := (hevs i o _ htm y hy).trans hyr
    have hse : σs.ev y = (mix σ W E fun j => listed.getD j false).ev y := by
      cases y with
      | tmp t => exact congrFun hs1 t
      | const v => exact ev_const _ _ v
      | global g => rfl
      | func f => rfl
    have hVR := hx.ev y
    rw [hse, hev] at hVR
    have hVs : ∃ b, X.V id = some b := by
      generalize a.eval y = cv at hVR
      cases hVR with
      | ref _ _ b hb => exact ⟨b, hb⟩
    obtain ⟨b, hVb⟩ := hVs
    have hglt : id.2 < (mix σ W E fun j => listed.getD j false).gen id.1 := by
      rcases Nat.lt_or_ge id.2 ((mix σ W E fun j => listed.getD j false).gen id.1) with h | h
      · exact h
      · have := (hx.fresh id.1 id.2 (by rw [hs2]; exact h)).1
        have h2 : X.V (id.1, id.2) = some b := hVb
        rw [this] at h2; cases h2
    rw [hcanon i him] at hycs
    simp only [mix] at hycs hglt ⊢
    cases hw : W id.1 with
    | none => rw [hw] at hycs; exact hycs
    | some j =>
      simp only [hw] at hycs hglt ⊢
      have hσ0 : ∀ cs, σ.va id = some cs → id.2 < σ.gen id.1 := fun cs h => hr0.vgen id.1 id.2 cs h
      cases hji : Nat.blt j i with
      | true =>
        rw [hji] at hycs
        cases hlj : listed.getD j false with
        | true => exact hycs
        | false =>
          simp only [hlj, cond_false] at hglt ⊢
          simp only [cond_true] at hycs
          cases hEj : E j with
          | none => rw [hEj] at hycs; exact hycs
          | some ej =>
            rw [hEj] at hycs
            cases ej with
            | alloc cs' =>
              simp only [vaA] at hycs
              rw [beq_ff (by omega : id.2 ≠ σ.gen id.1)] at hycs
              exact hycs
            | allocA cs' _ =>
              simp only [vaA] at hycs
              rw [beq_ff (by omega : id.2 ≠ σ.gen id.1)] at hycs
              exact hycs
            | val v => exact hycs
            | fresh v n z e => exact hycs
            | grow => exact hycs
            | stor => exact hycs
            | lend => exact hycs
            | spend => exact hycs
      | false =>
        rw [hji] at hycs
        simp only [cond_false] at hycs
        cases hlj : listed.getD j false with
        | false => exact hycs
        | true =>
          simp only [cond_true]
          have := hσ0 cs hycs
          cases hEj : E j with
          | none => exact hycs
          | some ej =>
            cases ej with
            | alloc cs' =>
              simp only [vaA]
              rw [beq_ff (by omega : id.2 ≠ σ.gen id.1)]
              exact hycs
            | allocA cs' _ =>
              simp only [vaA]
              rw [beq_ff (by omega : id.2 ≠ σ.gen id.1)]
              exact hycs
            | val v => exact hycs
            | fresh v n z e => exact hycs
            | grow => exact hycs
            | stor => exact hycs
            | lend => exact hycs
            | spend => exact hycs
  -- what is left when the store has come
  have main2 : ∀ (k : Nat) (listed : Array Bool) (a : Act) (w : World), listed.size = ops.size → (∀ j oj, ops[j]? = some oj → listed.getD j false = true → ∀ e ∈ oj.after, Region.binds .any e = true → listed.getD e.on false = true) →
      (∀ t, m + 1 ≤ t → t < ops.size → listed.getD t true = false) → listed.getD m false = true → ((List.range m).filter fun j => !listed.getD j false).length = k →
      Rel w0 M0 (stored (mix σ W E fun j => listed.getD j false) sid scs) a w → wpAny P .any ops Q' (k + (ops.size - (m + 1))) listed a w := by
    intro k
    induction k with
    | zero =>
      intro listed a w hsz hclosed htl hlm hcount hr
      have hall := hcnt0 listed hcount
      have hL : listed = headL (m + 1) ops.size := by
        refine arr_ext_getD (by rw [hsz]; simp [headL]; have := F.le; omega) fun j => ?_
        rw [headL_get (m + 1) ops.size j F.le]
        by_cases h1 : j < m + 1
        · rw [if_pos h1]
          by_cases h3 : j = m
          · rw [h3]; exact hlm
          · exact hall j (by omega)
        · rw [if_neg h1]
          by_cases h2 : j < ops.size
          · rw [if_pos h2]; exact getD_both (htl j (by omega) h2)
          · rw [if_neg h2]; simp [Array.getD, hsz, h2]
      rw [hmixF listed hall] at hr
      subst hL
      have hdl : (ops.toList.drop (m + 1)).length = ops.size - (m + 1) := by simp
      have := wpAny_of_seq (P := P) (md := .any) (ops := ops) (Q' := Q') (ops.toList.drop (m + 1)) (m + 1) (headL (m + 1) ops.size) a w (fun j => by rw [List.getElem?_drop, Array.getElem?_toList]) (by rw [hdl]; exact F.seq)
        (htail a w hr Q' fun σ' a' w' h1 h2 => hQ _ σ' a' w' h1 h2)
      rw [hdl] at this
      rw [Nat.zero_add]
      exact this
    | succ k ih =>
      intro listed a w hsz hclosed htl hlm hcount hr
      rw [show k + 1 + (ops.size - (m + 1)) = (k + (ops.size - (m + 1))) + 1 by omega]
      have hex : ∃ j, j < m ∧ listed.getD j false = false := by
        have : (List.range m).filter (fun j => !listed.getD j false) ≠ [] := fun h => by rw [h] at hcount; simp at hcount
        obtain ⟨j, hj⟩ := List.exists_mem_of_ne_nil _ this
        obtain ⟨h1, h2⟩ := List.mem_filter.1 hj
        exact ⟨j, List.mem_range.1 h1, by simpa using h2⟩
      obtain ⟨j0, hj0, hj0'⟩ := hex
      obtain ⟨j, hj1, hj2, hj3⟩ := hmin listed j0 hj0'
      have hjm : j < m := by omega
      have hjs : j < ops.size := Nat.lt_trans hjm F.le
      refine ⟨fun hno => ?_, fun i hi => ?_⟩
      · exfalso
        have hready : j ∈ Region.ready .any ops listed := mem_ready.2 ⟨getD_in (by rw [hsz]; exact hjs) hj2, ops[j], Array.getElem?_eq_getElem hjs, fun e he hb => hj3 e.on (F.down j _ (Array.getElem?_eq_getElem hjs) e he hb)⟩
        rw [hno] at hready
        cases hready
      · obtain ⟨hun, oi, hoi, hdeps⟩ := mem_ready.1 hi
        have hin : i < ops.size := (Array.getElem?_eq_some_iff.1 hoi).1
        have hunF : listed.getD i false = false := getD_both hun
        have him : i < m := by
          rcases Nat.lt_or_ge i m with h | h
          · exact h
          · exfalso
            by_cases hIm : i = m
            · rw [hIm, hlm] at hunF; cases hunF
            · have hmn : m + 1 < ops.size := by omega
              obtain ⟨s1, s2⟩ := F.tail hmn
              exact tail_waits s1 s2 hmn ⟨hsz, hclosed, htl⟩ _ j rfl (by omega) (getD_in (by rw [hsz]; omega) hj2) i (by omega) hi
        have hlate : late i = true := by
          rcases F.late i him with h | h
          · exact h
          · exfalso
            obtain ⟨o', ho', e, he, hb, hon⟩ := Region.waitsFor_spec h
            have := hclosed m o' ho' hlm e he hb
            rw [hon, hunF] at this; cases this
        obtain ⟨o, d, p1, p2, p3, p4⟩ := F.dst i him
        have : o = oi := Option.some.inj (p1.symm.trans hoi)
        subst this
        have hd : dstOf ops i = some d := by simp [dstOf, p1, p2]
        obtain ⟨hnr, hve⟩ := hlateF i him o hoi hlate
        have next : ∀ a' w', Rel w0 M0 (appO (stored (mix σ W E fun j => listed.getD j false) sid scs) (some d) (E i)) a' w' → wpAny P .any ops Q' (k + (ops.size - (m + 1))) (listed.setIfInBounds i true) a' w' := fun a' w' hr' => by
          rw [stored_appO hve, mix_step σ W E _ (hW i him d hd) hunF (hhead i him)] at hr'
          have hS : (fun j => bif Nat.beq j i then true else listed.getD j false) = fun j => (listed.setIfInBounds i true).getD j false := by
            funext j
            by_cases hj : j = i
            · subst hj; simp [Array.getD, hsz, hin]
            · rw [beq_ff hj, getD_set_ne false (Ne.symm hj)]; rfl
          rw [hS] at hr'
          refine ih (listed.setIfInBounds i true) a' w' (by simp [hsz]) (fun j oj hj hl e he hb => ?_) (fun t ht ht' => by rw [getD_set_ne true (by omega)]; exact htl t ht ht') (by rw [getD_set_ne false (by omega)]; exact hlm) ?_ hr'
          · by_cases hij : i = j
            · subst hij
              have : oj = o := Option.some.inj (hj.symm.trans hoi)
              subst this
              exact getD_set_true (hdeps e he hb)
            · rw [getD_set_ne false hij] at hl
              exact getD_set_true (hclosed j oj hj hl e he hb)
          · have := hcnt listed i hsz hin hunF (List.range m) List.nodup_range (List.mem_range.2 him)
            omega
        have htm := hreads i (Nat.le_of_lt him) o hoi p4 listed hdeps
        obtain ⟨X, hx⟩ := hr
        have hguard : ∀ w, GoOk ops (st i) o w → Region.wanted o (yielded ops a.tmps) = w := fun w hg => wanted_of hx (hn i (Nat.le_of_lt him) listed) htm hg
        unfold wpOp
        simp only [hoi]
        have hso := (hstep i him o hoi).1
        cases hE : E i with
        | none =>
          rw [hE] at hso next
          rw [hguard false hso.1]
          simp only [Bool.false_eq_true, if_false]
          rw [p2]
          refine next _ _ ⟨X, hx.put (d := some d) ?_ (.sc undef)⟩
          have := hso.2
          rw [p2] at this
          show d < (mix σ W E fun j => listed.getD j false).n
          rw [hn i (Nat.le_of_lt him) listed]
          exact this
        | some e =>
          rw [hE] at hso next
          obtain ⟨s1, s2, s3⟩ := hso
          rw [hguard true s1]
          simp only [if_true]
          refine .inl (s2 (stored (mix σ W E fun j => listed.getD j false) sid scs) ⟨hn i (Nat.le_of_lt him) listed, hevs i o _ htm, fun y hy id off cs hyr hycs => ?_⟩ a w ⟨X, hx⟩ _ _ fun a' w' hr' => next a' w' (by rw [p2] at hr'; exact hr'))
          have h9 := List.all_eq_true.1 hnr y (Array.mem_toList_iff.2 hy)
          rw [hyr] at h9
          have hne : id ≠ sid := fun hh => by subst hh; simp at h9
          show updO (mix σ W E fun j => listed.getD j false).va sid (some scs) id = some cs
          rw [updO_ne _ _ hne]
          exact (hag i (Nat.le_of_lt him) o listed htm (stored (mix σ W E fun j => listed.getD j false) sid scs) a w X rfl rfl hx).va y hy id off cs hyr hycs
  refine wp_region_any hm ?_
  have main : ∀ (k : Nat) (listed : Array Bool) (a : Act) (w : World), listed.size = ops.size → (∀ j oj, ops[j]? = some oj → listed.getD j false = true → ∀ e ∈ oj.after, Region.binds .any e = true → listed.getD e.on false = true) →
      (∀ t, m ≤ t → t < ops.size → listed.getD t true = false) → ((List.range m).filter fun j => !listed.getD j false).length = k →
      Rel w0 M0 (mix σ W E fun j => listed.getD j false) a w → wpAny P .any ops Q' (k + 1 + (ops.size - (m + 1))) listed a w := by
    intro k
    induction k using Nat.strongRecOn with
    | _ k ih =>
      intro listed a w hsz hclosed htl hcount hr
      rw [show k + 1 + (ops.size - (m + 1)) = (k + (ops.size - (m + 1))) + 1 by omega]
      have hlm : listed.getD m false = false := getD_both (htl m (Nat.le_refl _) F.le)
      obtain ⟨j, hj1, hj2, hj3⟩ := hmin listed m hlm
      have hjs : j < ops.size := Nat.lt_of_le_of_lt hj1 F.le
      refine ⟨fun hno => ?_, fun i hi => ?_⟩
      · exfalso
        have hready : j ∈ Region.ready .any ops listed := mem_ready.2 ⟨getD_in (by rw [hsz]; exact hjs) hj2, ops[j], Array.getElem?_eq_getElem hjs, fun e he hb => hj3 e.on (F.down j _ (Array.getElem?_eq_getElem hjs) e he hb)⟩
        rw [hno] at hready
        cases hready
      · obtain ⟨hun, oi, hoi, hdeps⟩ := mem_ready.1 hi
        have hin : i < ops.size := (Array.getElem?_eq_some_iff.1 hoi).1
        have hunF : listed.getD i false = false := getD_both hun
        have hile : i ≤ m := by
          rcases Nat.lt_or_ge m i with h | h
          · exfalso
            have hmn : m + 1 < ops.size := by omega
            obtain ⟨s1, s2⟩ := F.tail hmn
            exact tail_waits s1 s2 hmn ⟨hsz, hclosed, fun t h1 h2 => htl t (by omega) h2⟩ _ j rfl (by omega) (getD_in (by rw [hsz]; omega) hj2) i (by omega) hi
          · exact h
        obtain ⟨X, hx⟩ := hr
        by_cases hIm : i = m
        · subst hIm
          obtain ⟨o, p1, p2, p3, p4⟩ := F.store
          have : o = oi := Option.some.inj (p1.symm.trans hoi)
          subst this
          have : so = o := Option.some.inj (hso1.symm.trans hoi)
          subst this
          have htm := hreads i (Nat.le_refl _) so hoi (fun t ht j hj hdj => ⟨hj, p4 t ht j hj hdj⟩) listed hdeps
          have hA := hag i (Nat.le_refl _) so listed htm _ a w X rfl rfl hx
          rw [stF] at hA
          unfold wpOp
          simp only [hoi]
          have hw : Region.wanted so (yielded ops a.tmps) = true := by unfold Region.wanted; rw [p3]
          rw [hw]
          simp only [if_true]
          refine .inl (hso2 _ hA a w ⟨X, hx⟩ _ _ fun a' w' hr' => ?_)
          rw [p2, stored_app] at hr'
          have hmixS : (mix σ W E fun j => listed.getD j false) = mix σ W E fun j => (listed.setIfInBounds i true).getD j false := by
            have : ∀ t j, W t = some j → listed.getD j false = (listed.setIfInBounds i true).getD j false := fun t j hj => by
              have := ((writerS_iff F t j).1 hj).1
              rw [getD_set_ne false (by omega)]
            apply AS.ext'
            · rfl
            · intro t; simp only [mix]; cases hw : W t with
              | none => rfl
              | some j => simp only [this t j hw]
            · intro t; simp only [mix]; cases hw : W t.1 with
              | none => rfl
              | some j => simp only [this t.1 j hw]
            · intro t; simp only [mix]; cases hw : W t.1 with
              | none => rfl
              | some j => simp only [this t.1 j hw]
            · intro t; simp only [mix]; cases hw : W t with
              | none => rfl
              | some j => simp only [this t j hw]
          rw [hmixS] at hr'
          refine main2 k (listed.setIfInBounds i true) a' w' (by simp [hsz]) (fun j oj hj hl e he hb => ?_) (fun t ht ht' => by rw [getD_set_ne true (by omega)]; exact htl t (by omega) ht') (by simp [Array.getD, hsz, hin]) ?_ hr'
          · by_cases hij : i = j
            · subst hij
              have : oj = so := Option.some.inj (hj.symm.trans hoi)
              subst this
              exact getD_set_true (hdeps e he hb)
            · rw [getD_set_ne false hij] at hl
              exact getD_set_true (hclosed j oj hj hl e he hb)
          · rw [← hcount]
            congr 1
            apply List.filter_congr
            intro j hj
            have := List.mem_range.1 hj
            rw [getD_set_ne false (by omega)]
        · have him : i < m := by omega
          obtain ⟨o, d, p1, p2, p3, p4⟩ := F.dst i him
          have : o = oi := Option.some.inj (p1.symm.trans hoi)
          subst this
          have hd : dstOf ops i = some d := by simp [dstOf, p1, p2]
          have hone := hcnt listed i hsz hin hunF (List.range m) List.nodup_range (List.mem_range.2 him)
          have next : ∀ a' w', Rel w0 M0 (appO (mix σ W E fun j => listed.getD j false) (some d) (E i)) a' w' → wpAny P .any ops Q' (k + (ops.size - (m + 1))) (listed.setIfInBounds i true) a' w' := fun a' w' hr' => by
            rw [mix_step σ W E _ (hW i him d hd) hunF (hhead i him)] at hr'
            have hS : (fun j => bif Nat.beq j i then true else listed.getD j false) = fun j => (listed.setIfInBounds i true).getD j false := by
              funext j
              by_cases hj : j = i
              · subst hj; simp [Array.getD, hsz, hin]
              · rw [beq_ff hj, getD_set_ne false (Ne.symm hj)]; rfl
            rw [hS] at hr'
            have := ih (k - 1) (by omega) (listed.setIfInBounds i true) a' w' (by simp [hsz]) (fun j oj hj hl e he hb => by
              by_cases hij : i = j
              · subst hij
                have : oj = o := Option.some.inj (hj.symm.trans hoi)
                subst this
                exact getD_set_true (hdeps e he hb)
              · rw [getD_set_ne false hij] at hl
                exact getD_set_true (hclosed j oj hj hl e he hb)) (fun t ht ht' => by rw [getD_set_ne true (by omega)]; exact htl t ht ht') (by omega) hr'
            rw [show k - 1 + 1 + (ops.size - (m + 1)) = k + (ops.size - (m + 1)) by omega] at this
            exact this
          have htm := hreads i hile o hoi p4 listed hdeps
          have hguard : ∀ w, GoOk ops (st i) o w → Region.wanted o (yielded ops a.tmps) = w := fun w hg => wanted_of hx (hn i hile listed) htm hg
          unfold wpOp
          simp only [hoi]
          have hso := (hstep i him o hoi).1
          cases hE : E i with
          | none =>
            rw [hE] at hso next
            rw [hguard false hso.1]
            simp only [Bool.false_eq_true, if_false]
            rw [p2]
            refine next _ _ ⟨X, hx.put (d := some d) ?_ (.sc undef)⟩
            have := hso.2
            rw [p2] at this
            show d < _
            rw [hn i hile listed]
            exact this
          | some e =>
            rw [hE] at hso next
            obtain ⟨s1, s2, s3⟩ := hso
            rw [hguard true s1]
            simp only [if_true]
            exact .inl (s2 _ (hag i hile o listed htm _ a w X rfl rfl hx) a w ⟨X, hx⟩ _ _ fun a' w' hr' => next a' w' (by rw [p2] at hr'; exact hr'))
  have hstart := main ((List.range m).filter fun j => !(Array.replicate ops.size false).getD j false).length (Array.replicate ops.size false) a { w with drawn := w.drawn + 1 } (by simp)
    (fun j oj _ hl => by rw [getD_replicate_false] at hl; cases hl) (fun t _ ht' => by simp [Array.getD, ht']) rfl
    (by
      have : (fun j => (Array.replicate ops.size false).getD j false) = fun _ => false := by funext j; exact getD_replicate_false _ _
      rw [this, mix_none]
      exact ⟨x0, hr0.drew⟩)
  have hk : ((List.range m).filter fun j => !(Array.replicate ops.size false).getD j false).length = m := by
    rw [List.filter_eq_self.2 (fun j _ => by rw [getD_replicate_false]; rfl)]
    simp
  rw [hk] at hstart
  rw [show m + 1 + (ops.size - (m + 1)) = ops.size by have := F.le; omega] at hstart
  exact hstart

end Go.Ab
