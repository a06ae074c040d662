/- Regions whose operations may come in any order: one walk in the order of the text serves them all. Nothing here speaks of one program. -/
import Derived.Test.YtnnohkbgjdmjdaaGreatAb12
namespace Go.Ab
open Go.RowKit

def headEv : Ev → Bool
  | .val _ => true
  | .alloc _ => true
  | .allocA .. => true
  | .fresh .. => true
  | _ => false

/-- Does the guard let the operation come (w) or not? -/
def GoOk (ops : Array Oper) (σ : AS) (o : Oper) (w : Bool) : Prop :=
  match o.guard with
  | none => w = true
  | some (j, want) => ∃ t v, (ops[j]?).bind (·.dst) = some t ∧ t < σ.n ∧ exact (σ.tm t) = some v ∧ (match v with | .bool b => w = (b == want) | _ => w = false)

def appO (σ : AS) (d : Option Tmp) : Option Ev → AS
  | none => σ.put d (.sc undef)
  | some e => σ.app d e

def StepOk (P : Program) (w0 : World) (M0 : MT) (ops : Array Oper) (σ : AS) (o : Oper) : Option Ev → Prop
  | none => GoOk ops σ o false ∧ okDst σ o.dst
  | some e => GoOk ops σ o true ∧ OpAny P w0 M0 σ o e ∧ headEv e = true

def Chain (P : Program) (w0 : World) (M0 : MT) (ops : Array Oper) : List Oper → AS → List (Option Ev) → AS → Prop
  | [], σ, evs, σF => evs = [] ∧ σF = σ
  | o :: l, σ, evs, σF => ∃ e es, evs = e :: es ∧ StepOk P w0 M0 ops σ o e ∧ Chain P w0 M0 ops l (appO σ o.dst e) es σF

theorem Chain.states {P : Program} {w0 : World} {M0 : MT} {ops : Array Oper} : ∀ (l : List Oper) (σ : AS) (evs : List (Option Ev)) (σF : AS), Chain P w0 M0 ops l σ evs σF →
    ∃ st : Nat → AS, st 0 = σ ∧ st l.length = σF ∧ ∀ (i : Nat) o, l[i]? = some o → ∃ e, evs[i]? = some e ∧ StepOk P w0 M0 ops (st i) o e ∧ st (i + 1) = appO (st i) o.dst e := by
  intro l
  induction l with
  | nil => intro σ evs σF h; exact ⟨fun _ => σ, rfl, h.2.symm, fun i o h => by simp at h⟩
  | cons o l ih =>
    intro σ evs σF ⟨e, es, h1, h2, h3⟩
    obtain ⟨st, g1, g2, g3⟩ := ih _ es σF h3
    refine ⟨fun i => match i with | 0 => σ | i + 1 => st i, rfl, g2, fun i o' ho => ?_⟩
    cases i with
    | zero => simp at ho; subst ho; subst h1; exact ⟨e, rfl, h2, g1⟩
    | succ i => simp at ho; subst h1; exact g3 i o' ho

/-- The head of a region, walked in the order of the text; then its tail. -/
def AHead (P : Program) (w0 : World) (M0 : MT) (ops : Array Oper) (l tail : List Oper) (R : AS → Prop) (σ : AS) : Prop :=
  ∃ evs σF, Chain P w0 M0 ops l σ evs σF ∧ AOps P w0 M0 ops tail R σF

section
variable {P : Program} {w0 : World} {M0 : MT} {ops : Array Oper} {R : AS → Prop} {rest tail : List Oper} {σ : AS}
theorem AHead.nil (h : AOps P w0 M0 ops tail R σ) : AHead P w0 M0 ops [] tail R σ := ⟨[], σ, ⟨rfl, rfl⟩, h⟩
theorem AHead.call {d : Option Tmp} {op : Op} {ty : TypeId} {pos : String} {after : Array Edge} {e : Ev} (ho : OpAny P w0 M0 σ ⟨d, op, ty, pos, after, none⟩ e) (he : headEv e = true)
    (h : AHead P w0 M0 ops rest tail R (σ.app d e)) : AHead P w0 M0 ops (⟨d, op, ty, pos, after, none⟩ :: rest) tail R σ := by
  obtain ⟨evs, σF, h1, h2⟩ := h
  exact ⟨some e :: evs, σF, ⟨some e, evs, rfl, ⟨rfl, ho, he⟩, h1⟩, h2⟩
theorem AHead.split {o : Oper} {j t : Nat} {want b : Bool} (_ : o.guard = some (j, want)) (_ : (ops[j]?).bind (·.dst) = some t) (_ : exact (σ.tm t) = some (.bool b))
    (h1 : b = want → AHead P w0 M0 ops (o :: rest) tail R σ) (h2 : b = !want → AHead P w0 M0 ops (o :: rest) tail R σ) : AHead P w0 M0 ops (o :: rest) tail R σ := by
  cases b <;> cases want <;> first | exact h1 rfl | exact h2 rfl
theorem AHead.go {d : Option Tmp} {op : Op} {ty : TypeId} {pos : String} {after : Array Edge} {j t : Nat} {want b : Bool} {e : Ev} (hj : (ops[j]?).bind (·.dst) = some t) (ht : Nat.blt t σ.n = true) (hv : exact (σ.tm t) = some (.bool b)) (hb : b = want)
    (ho : OpAny P w0 M0 σ ⟨d, op, ty, pos, after, some (j, want)⟩ e) (he : headEv e = true) (h : AHead P w0 M0 ops rest tail R (σ.app d e)) :
    AHead P w0 M0 ops (⟨d, op, ty, pos, after, some (j, want)⟩ :: rest) tail R σ := by
  obtain ⟨evs, σF, h1, h2⟩ := h
  exact ⟨some e :: evs, σF, ⟨some e, evs, rfl, ⟨⟨t, _, hj, ltB ht, hv, by subst hb; simp⟩, ho, he⟩, h1⟩, h2⟩
theorem AHead.pass {d : Option Tmp} {op : Op} {ty : TypeId} {pos : String} {after : Array Edge} {j t : Nat} {want b : Bool} (hj : (ops[j]?).bind (·.dst) = some t) (ht : Nat.blt t σ.n = true) (hv : exact (σ.tm t) = some (.bool b))
    (hb : b = !want) (hd : okDB σ d = true) (h : AHead P w0 M0 ops rest tail R (σ.put d (.sc undef))) :
    AHead P w0 M0 ops (⟨d, op, ty, pos, after, some (j, want)⟩ :: rest) tail R σ := by
  obtain ⟨evs, σF, h1, h2⟩ := h
  exact ⟨none :: evs, σF, ⟨none, evs, rfl, ⟨⟨t, _, hj, ltB ht, hv, by subst hb; cases want <;> rfl⟩, okD hd⟩, h1⟩, h2⟩
theorem AHead.passU {d : Option Tmp} {op : Op} {ty : TypeId} {pos : String} {after : Array Edge} {j t : Nat} {want : Bool} (hj : (ops[j]?).bind (·.dst) = some t) (ht : Nat.blt t σ.n = true) (hv : exact (σ.tm t) = some undef)
    (hd : okDB σ d = true) (h : AHead P w0 M0 ops rest tail R (σ.put d (.sc undef))) :
    AHead P w0 M0 ops (⟨d, op, ty, pos, after, some (j, want)⟩ :: rest) tail R σ := by
  obtain ⟨evs, σF, h1, h2⟩ := h
  exact ⟨none :: evs, σF, ⟨none, evs, rfl, ⟨⟨t, _, hj, ltB ht, hv, rfl⟩, okD hd⟩, h1⟩, h2⟩
end

/-! ## What a slot holds, before and behind its operation -/

def tmA (σ : AS) (t : Nat) : Option Ev → AV
  | none => .sc undef
  | some (.val v) => v
  | some (.alloc _) => .ref (t, σ.gen t) 0
  | some (.allocA _ n) => .arr (t, σ.gen t) 0 n n
  | some (.fresh v _ _ _) => v.ren (t, σ.gen t)
  | _ => .any
def vaA (σ : AS) (t g : Nat) : Option Ev → Option (List AV)
  | some (.alloc cs) => bif Nat.beq g (σ.gen t) then some cs else σ.va (t, g)
  | some (.allocA cs _) => bif Nat.beq g (σ.gen t) then some cs else σ.va (t, g)
  | _ => σ.va (t, g)
def grA (σ : AS) (t g : Nat) : Option Ev → Option (Nat × Nat × TypeId)
  | some (.fresh _ n z e) => bif Nat.beq g (σ.gen t) then some (n, z, e) else σ.gr (t, g)
  | _ => σ.gr (t, g)
def genA (σ : AS) (t : Nat) : Option Ev → Nat
  | some (.alloc _) => σ.gen t + 1
  | some (.allocA ..) => σ.gen t + 1
  | some (.fresh ..) => σ.gen t + 1
  | _ => σ.gen t

def headO : Option Ev → Bool
  | none => true
  | some e => headEv e

/-- Of the slots, those that W names (by the operation that writes each) as behind, if S; the others as before. -/
def mix (σ : AS) (W : Nat → Option Nat) (E : Nat → Option Ev) (S : Nat → Bool) : AS where
  n := σ.n
  tm t := match W t with | some j => bif S j then tmA σ t (E j) else σ.tm t | none => σ.tm t
  va id := match W id.1 with | some j => bif S j then vaA σ id.1 id.2 (E j) else σ.va id | none => σ.va id
  gr id := match W id.1 with | some j => bif S j then grA σ id.1 id.2 (E j) else σ.gr id | none => σ.gr id
  gen t := match W t with | some j => bif S j then genA σ t (E j) else σ.gen t | none => σ.gen t

theorem AS.ext' {a b : AS} (h1 : a.n = b.n) (h2 : ∀ t, a.tm t = b.tm t) (h3 : ∀ i, a.va i = b.va i) (h4 : ∀ i, a.gr i = b.gr i) (h5 : ∀ t, a.gen t = b.gen t) : a = b := by
  cases a; cases b
  simp only [AS.mk.injEq]
  exact ⟨h1, funext h2, funext h3, funext h4, funext h5⟩

theorem mix_none (σ : AS) (W E) : mix σ W E (fun _ => false) = σ := by
  apply AS.ext'
  · rfl
  · intro t; simp only [mix]; cases W t <;> rfl
  · intro t; simp only [mix]; cases W t.1 <;> rfl
  · intro t; simp only [mix]; cases W t.1 <;> rfl
  · intro t; simp only [mix]; cases W t <;> rfl

/-- One operation more. -/
theorem mix_step (σ : AS) (W : Nat → Option Nat) (E : Nat → Option Ev) (S : Nat → Bool) {i d : Nat} (hW : ∀ t, W t = some i ↔ t = d) (hS : S i = false) (hE : headO (E i) = true) :
    appO (mix σ W E S) (some d) (E i) = mix σ W E (fun j => bif Nat.beq j i then true else S j) := by
  have hWd : W d = some i := (hW d).2 rfl
  have hgen : (mix σ W E S).gen d = σ.gen d := by simp [mix, hWd, hS]
  have hva : ∀ g, (mix σ W E S).va (d, g) = σ.va (d, g) := fun g => by simp [mix, hWd, hS]
  have hgr : ∀ g, (mix σ W E S).gr (d, g) = σ.gr (d, g) := fun g => by simp [mix, hWd, hS]
  have beq_self : Nat.beq i i = true := by simp
  -- each slot
  have tm_d : (mix σ W E (fun j => bif Nat.beq j i then true else S j)).tm d = tmA σ d (E i) := by simp [mix, hWd]
  have va_d : ∀ g, (mix σ W E (fun j => bif Nat.beq j i then true else S j)).va (d, g) = vaA σ d g (E i) := fun g => by simp [mix, hWd]
  have gr_d : ∀ g, (mix σ W E (fun j => bif Nat.beq j i then true else S j)).gr (d, g) = grA σ d g (E i) := fun g => by simp [mix, hWd]
  have gen_d : (mix σ W E (fun j => bif Nat.beq j i then true else S j)).gen d = genA σ d (E i) := by simp [mix, hWd]
  have tm_o : ∀ t, t ≠ d → (mix σ W E S).tm t = (mix σ W E (fun j => bif Nat.beq j i then true else S j)).tm t := fun t ht => by
    simp only [mix]
    cases hw : W t with
    | none => rfl
    | some j =>
      have hji : j ≠ i := fun h => ht ((hW t).1 (by rw [hw, h]))
      simp [beq_ff hji]
  have va_o : ∀ t g, t ≠ d → (mix σ W E S).va (t, g) = (mix σ W E (fun j => bif Nat.beq j i then true else S j)).va (t, g) := fun t g ht => by
    simp only [mix]
    cases hw : W t with
    | none => rfl
    | some j =>
      have hji : j ≠ i := fun h => ht ((hW t).1 (by rw [hw, h]))
      simp [beq_ff hji]
  have gr_o : ∀ t g, t ≠ d → (mix σ W E S).gr (t, g) = (mix σ W E (fun j => bif Nat.beq j i then true else S j)).gr (t, g) := fun t g ht => by
    simp only [mix]
    cases hw : W t with
    | none => rfl
    | some j =>
      have hji : j ≠ i := fun h => ht ((hW t).1 (by rw [hw, h]))
      simp [beq_ff hji]
  have gen_o : ∀ t, t ≠ d → (mix σ W E S).gen t = (mix σ W E (fun j => bif Nat.beq j i then true else S j)).gen t := fun t ht => by
    simp only [mix]
    cases hw : W t with
    | none => rfl
    | some j =>
      have hji : j ≠ i := fun h => ht ((hW t).1 (by rw [hw, h]))
      simp [beq_ff hji]
  have updO_self : ∀ {α : Type} (f : OId → Option α) (k : Nat) (v : Option α) (g : Nat), updO f (d, k) v (d, g) = bif Nat.beq g k then v else f (d, g) := fun f k v g => by
    simp [updO]
  have updO_oth : ∀ {α : Type} (f : OId → Option α) (k : Nat) (v : Option α) (t g : Nat), t ≠ d → updO f (d, k) v (t, g) = f (t, g) := fun f k v t g ht => updO_ne _ _ fun h => ht (Prod.mk.inj h).1
  apply AS.ext'
  · cases hE' : E i with
    | none => rfl
    | some e => rw [hE'] at hE; cases e <;> first | rfl | cases hE
  · intro t
    by_cases ht : t = d
    · subst ht
      rw [tm_d]
      cases hE' : E i with
      | none => exact upd_same _ _ _
      | some e =>
        rw [hE'] at hE
        cases e with
        | val v => exact upd_same _ _ _
        | alloc cs => exact (upd_same _ _ _).trans (by rw [hgen]; rfl)
        | allocA cs _ => exact (upd_same _ _ _).trans (by rw [hgen]; rfl)
        | fresh v n z e => exact (upd_same _ _ _).trans (by rw [hgen]; rfl)
        | grow => cases hE
        | stor => cases hE
        | lend => cases hE
        | spend => cases hE
    · rw [← tm_o t ht]
      cases hE' : E i with
      | none => exact upd_ne _ _ ht
      | some e =>
        rw [hE'] at hE
        cases e with
        | val v => exact upd_ne _ _ ht
        | alloc cs => exact upd_ne _ _ ht
        | allocA cs _ => exact upd_ne _ _ ht
        | fresh v n z e => exact upd_ne _ _ ht
        | grow => cases hE
        | stor => cases hE
        | lend => cases hE
        | spend => cases hE
  · rintro ⟨t, g⟩
    by_cases ht : t = d
    · subst ht
      rw [va_d]
      cases hE' : E i with
      | none => exact hva g
      | some e =>
        rw [hE'] at hE
        cases e with
        | val v => exact hva g
        | alloc cs => exact (updO_self _ _ _ _).trans (by rw [hgen, hva]; rfl)
        | allocA cs _ => exact (updO_self _ _ _ _).trans (by rw [hgen, hva]; rfl)
        | fresh v n z e => exact hva g
        | grow => cases hE
        | stor => cases hE
        | lend => cases hE
        | spend => cases hE
    · rw [← va_o t g ht]
      cases hE' : E i with
      | none => rfl
      | some e =>
        rw [hE'] at hE
        cases e with
        | val v => rfl
        | alloc cs => exact updO_oth _ _ _ t g ht
        | allocA cs _ => exact updO_oth _ _ _ t g ht
        | fresh v n z e => rfl
        | grow => cases hE
        | stor => cases hE
        | lend => cases hE
        | spend => cases hE
  · rintro ⟨t, g⟩
    by_cases ht : t = d
    · subst ht
      rw [gr_d]
      cases hE' : E i with
      | none => exact hgr g
      | some e =>
        rw [hE'] at hE
        cases e with
        | val v => exact hgr g
        | alloc cs => exact hgr g
        | allocA cs _ => exact hgr g
        | fresh v n z e => exact (updO_self _ _ _ _).trans (by rw [hgen, hgr]; rfl)
        | grow => cases hE
        | stor => cases hE
        | lend => cases hE
        | spend => cases hE
    · rw [← gr_o t g ht]
      cases hE' : E i with
      | none => rfl
      | some e =>
        rw [hE'] at hE
        cases e with
        | val v => rfl
        | alloc cs => rfl
        | allocA cs _ => rfl
        | fresh v n z e => exact updO_oth _ _ _ t g ht
        | grow => cases hE
        | stor => cases hE
        | lend => cases hE
        | spend => cases hE
  · intro t
    by_cases ht : t = d
    · subst ht
      rw [gen_d]
      cases hE' : E i with
      | none => exact hgen
      | some e =>
        rw [hE'] at hE
        cases e with
        | val v => exact hgen
        | alloc cs => exact (upd_same _ _ _).trans (by rw [hgen]; rfl)
        | allocA cs _ => exact (upd_same _ _ _).trans (by rw [hgen]; rfl)
        | fresh v n z e => exact (upd_same _ _ _).trans (by rw [hgen]; rfl)
        | grow => cases hE
        | stor => cases hE
        | lend => cases hE
        | spend => cases hE
    · rw [← gen_o t ht]
      cases hE' : E i with
      | none => rfl
      | some e =>
        rw [hE'] at hE
        cases e with
        | val v => rfl
        | alloc cs => exact upd_ne _ _ ht
        | allocA cs _ => exact upd_ne _ _ ht
        | fresh v n z e => exact upd_ne _ _ ht
        | grow => cases hE
        | stor => cases hE
        | lend => cases hE
        | spend => cases hE


/-! ## The check of a region, and the theorem -/

def dstOf (ops : Array Oper) (i : Nat) : Option Tmp := (ops[i]?).bind (·.dst)

/-- The temporaries that an operation looks at. -/
def readsOf (ops : Array Oper) (o : Oper) : List Tmp :=
  (o.op.operands.toList.filterMap fun | .tmp t => some t | _ => none) ++ (match o.guard with | some (j, _) => (dstOf ops j).toList | none => [])

def headL (m n : Nat) : Array Bool := (List.replicate m true ++ List.replicate (n - m) false).toArray

def drawOk (ops : Array Oper) (m : Nat) : Bool :=
  Nat.ble m ops.size &&
  ((List.range m).all fun i => match ops[i]? with
    | none => false
    | some o => match o.dst with
      | none => false
      | some d => ((List.range m).all fun j => Nat.beq j i || !(match dstOf ops j with | some d' => Nat.beq d' d | none => false)) &&
        ((readsOf ops o).all fun t => (List.range m).all fun j => !(match dstOf ops j with | some d' => Nat.beq d' t | none => false) || (Nat.blt j i && Region.waitsFor .any ops i j))) &&
  ((List.range ops.size).all fun i => match ops[i]? with
    | none => true
    | some o => o.after.all fun e => !Region.binds .any e || Nat.blt e.on i) &&
  (Nat.beq m ops.size || (Region.sinkB .any ops m && Region.chainB .any ops m)) &&
  Region.seqB .any ops (ops.size - m) m (headL m ops.size)

structure DrawFacts (ops : Array Oper) (m : Nat) : Prop where
  le : m ≤ ops.size
  dst : ∀ i, i < m → ∃ o d, ops[i]? = some o ∧ o.dst = some d ∧ (∀ j, j < m → dstOf ops j = some d → j = i) ∧
    ∀ t ∈ readsOf ops o, ∀ j, j < m → dstOf ops j = some t → j < i ∧ Region.waitsFor .any ops i j = true
  down : ∀ i o, ops[i]? = some o → ∀ e ∈ o.after, Region.binds .any e = true → e.on < i
  tail : m < ops.size → Region.sinkB .any ops m = true ∧ Region.chainB .any ops m = true
  seq : Region.seqB .any ops (ops.size - m) m (headL m ops.size) = true

theorem drawFacts {ops : Array Oper} {m : Nat} (h : drawOk ops m = true) : DrawFacts ops m := by
  unfold drawOk at h
  simp only [Bool.and_eq_true] at h
  obtain ⟨⟨⟨⟨h1, h2⟩, h3⟩, h4⟩, h5⟩ := h
  refine ⟨leB h1, fun i hi => ?_, fun i o ho e he hb => ?_, fun hlt => ?_, h5⟩
  · have := List.all_eq_true.1 h2 i (List.mem_range.2 hi)
    split at this
    · cases this
    · rename_i o ho
      split at this
      · cases this
      · rename_i d hd
        simp only [Bool.and_eq_true] at this
        refine ⟨o, d, ho, hd, fun j hj hdj => ?_, fun t ht j hj hdj => ?_⟩
        · have := List.all_eq_true.1 this.1 j (List.mem_range.2 hj)
          rw [hdj] at this
          simp only [Bool.or_eq_true] at this
          rcases this with hh | hh
          · exact Nat.eq_of_beq_eq_true hh
          · simp at hh
        · have := List.all_eq_true.1 (List.all_eq_true.1 this.2 t ht) j (List.mem_range.2 hj)
          rw [hdj] at this
          simp only [Bool.or_eq_true, Bool.and_eq_true] at this
          rcases this with hh | hh
          · simp at hh
          · exact ⟨ltB hh.1, hh.2⟩
  · have hi : i < ops.size := (Array.getElem?_eq_some_iff.1 ho).1
    have := List.all_eq_true.1 h3 i (List.mem_range.2 hi)
    rw [ho] at this
    have := Array.all_eq_true_iff_forall_mem.1 this e he
    simp only [hb, Bool.not_true, Bool.false_or] at this
    exact ltB this
  · simp only [Bool.or_eq_true, Bool.and_eq_true] at h4
    rcases h4 with hh | hh
    · have := Nat.eq_of_beq_eq_true hh; omega
    · exact hh

/-- Who writes a slot. -/
def writer (ops : Array Oper) (m t : Nat) : Option Nat := (List.range m).find? fun j => dstOf ops j == some t

theorem writer_iff {ops : Array Oper} {m : Nat} (F : DrawFacts ops m) (t j : Nat) : writer ops m t = some j ↔ j < m ∧ dstOf ops j = some t := by
  constructor
  · intro h
    have h1 := List.find?_some h
    have h2 := List.mem_of_find?_eq_some h
    exact ⟨List.mem_range.1 h2, by simpa using h1⟩
  · intro ⟨h1, h2⟩
    cases hw : writer ops m t with
    | none =>
      have := List.find?_eq_none.1 hw j (List.mem_range.2 h1)
      simp [h2] at this
    | some k =>
      have hk1 := List.find?_some hw
      have hk2 := List.mem_range.1 (List.mem_of_find?_eq_some hw)
      obtain ⟨o, d, p1, p2, p3, _⟩ := F.dst j h1
      have hd : dstOf ops j = some d := by simp [dstOf, p1, p2]
      have hdt : d = t := Option.some.inj (hd.symm.trans h2)
      subst hdt
      rw [p3 k hk2 (by simpa using hk1)]

theorem headL_get (m n j : Nat) (hm : m ≤ n) (d : Bool) : (headL m n).getD j d = if j < m then true else if j < n then false else d := by
  have hsz : (headL m n).size = n := by simp [headL]; omega
  by_cases h1 : j < m
  · have : j < (headL m n).size := by omega
    simp [h1, headL, Array.getD, show j < m + (n - m) by omega, List.getElem_append_left]
  · by_cases h2 : j < n
    · have hl : j < (headL m n).size := by omega
      have : (headL m n)[j] = false := by
        simp only [headL, List.getElem_toArray]
        rw [List.getElem_append_right (by simp; omega)]
        simp
      simp [h1, h2, Array.getD, hl, this]
    · have : ¬ j < (headL m n).size := by omega
      simp [h1, h2, Array.getD, this]

theorem arr_ext_getD {a b : Array Bool} (hs : a.size = b.size) (h : ∀ j, a.getD j false = b.getD j false) : a = b := by
  apply Array.ext hs
  intro i h1 h2
  have := h i
  simpa [Array.getD, h1, h2] using this

theorem ev_const (σ σ' : AS) (v : Value) : σ.ev (.const v) = σ'.ev (.const v) := by
  cases v with
  | slice a l c => cases a <;> cases l <;> cases c <;> rfl
  | _ => rfl

theorem wanted_of {w0 M0 σ σ' a w x} {ops : Array Oper} {o : Oper} {b : Bool} (hx : RelW w0 M0 σ' a w x) (hn : σ'.n = σ.n) (htm : ∀ t ∈ readsOf ops o, σ'.tm t = σ.tm t) (hg : GoOk ops σ o b) :
    Region.wanted o (yielded ops a.tmps) = b := by
  unfold GoOk at hg
  unfold Region.wanted
  cases hgd : o.guard with
  | none => rw [hgd] at hg; exact hg.symm
  | some jw =>
    obtain ⟨j, want⟩ := jw
    rw [hgd] at hg
    obtain ⟨t, v, g1, g2, g3, g4⟩ := hg
    have hrd : t ∈ readsOf ops o := by
      unfold readsOf
      rw [hgd]
      exact List.mem_append.2 (.inr (by simp [dstOf, g1]))
    have hy := yielded_of (ops := ops) hx g1 (by rw [hn]; exact g2) (by rw [htm t hrd]; exact g3)
    simp only [hy]
    cases v with
    | bool c => simp only at g4; subst g4; cases c <;> cases want <;> rfl
    | _ => simp only at g4; subst g4; cases want <;> rfl

set_option maxHeartbeats 1000000 in
theorem AWP.drawn {P : Program} {w0 : World} {M0 : MT} {Q : Exit → AS → Prop} {σ : AS} {id : Nat} {ops : Array Oper} (m : Nat) (hm : P.follows .mixedOrders = true) (hc : drawOk ops m = true)
    (h : AHead P w0 M0 ops (ops.toList.take m) (ops.toList.drop m) (Q .normal) σ) : AWP P w0 M0 (.region id ops true) Q σ := by
  intro a w ⟨x0, hr0⟩ Q' hQ
  obtain ⟨evs, σF, hch, htail⟩ := h
  have F := drawFacts hc
  obtain ⟨st, st0, stF, hst⟩ := hch.states
  have hlen : (ops.toList.take m).length = m := by have := F.le; simp; omega
  rw [hlen] at stF
  let W : Nat → Option Nat := writer ops m
  let E : Nat → Option Ev := fun i => (evs[i]?).getD none
  have hget : ∀ i, i < m → ∀ o, ops[i]? = some o → (ops.toList.take m)[i]? = some o := fun i hi o ho => by
    rw [List.getElem?_take, if_pos hi, Array.getElem?_toList]; exact ho
  have hstep : ∀ i, i < m → ∀ o, ops[i]? = some o → StepOk P w0 M0 ops (st i) o (E i) ∧ st (i + 1) = appO (st i) o.dst (E i) := fun i hi o ho => by
    obtain ⟨e, g1, g2, g3⟩ := hst i o (hget i hi o ho)
    simp only [E, g1, Option.getD_some]
    exact ⟨g2, g3⟩
  have hhead : ∀ i, i < m → headO (E i) = true := fun i hi => by
    obtain ⟨o, d, p1, _⟩ := F.dst i hi
    have := (hstep i hi o p1).1
    cases hE : E i with
    | none => rfl
    | some e => rw [hE] at this; exact this.2.2
  have hW : ∀ i, i < m → ∀ d, dstOf ops i = some d → ∀ t, W t = some i ↔ t = d := fun i hi d hd t => by
    rw [writer_iff F t i]
    exact ⟨fun ⟨_, h2⟩ => Option.some.inj (h2.symm.trans hd), fun h => by subst h; exact ⟨hi, hd⟩⟩
  -- the canonical states
  have hcanon : ∀ i, i ≤ m → st i = mix σ W E (fun j => Nat.blt j i) := by
    intro i
    induction i with
    | zero =>
      intro _
      rw [st0]
      refine (mix_none σ W E).symm.trans ?_
      congr 1
    | succ i ih =>
      intro hi
      obtain ⟨o, d, p1, p2, _⟩ := F.dst i hi
      have hd : dstOf ops i = some d := by simp [dstOf, p1, p2]
      rw [(hstep i hi o p1).2, p2, ih (by omega), mix_step σ W E (fun j => Nat.blt j i) (hW i hi d hd) (bltF (by omega)) (hhead i hi)]
      congr 1
      funext j
      by_cases hj : j = i
      · subst hj; rw [bltT (Nat.lt_succ_self _)]; simp
      · rw [beq_ff hj]
        by_cases hb : j < i
        · rw [bltT hb, bltT (by omega)]; rfl
        · rw [bltF hb, bltF (by omega)]; rfl
  refine wp_region_any hm ?_
  -- whatever of the head has come
  have main : ∀ (k : Nat) (listed : Array Bool) (a : Act) (w : World), listed.size = ops.size → (∀ j oj, ops[j]? = some oj → listed.getD j false = true → ∀ e ∈ oj.after, Region.binds .any e = true → listed.getD e.on false = true) →
      (∀ t, m ≤ t → t < ops.size → listed.getD t true = false) → ((List.range m).filter fun j => !listed.getD j false).length = k →
      Rel w0 M0 (mix σ W E fun j => listed.getD j false) a w → wpAny P .any ops Q' (k + (ops.size - m)) listed a w := by
    intro k
    induction k with
    | zero =>
      intro listed a w hsz hclosed htl hcount hr
      have hall : ∀ j, j < m → listed.getD j false = true := fun j hj => by
        have : (List.range m).filter (fun j => !listed.getD j false) = [] := List.eq_nil_of_length_eq_zero hcount
        have := List.filter_eq_nil_iff.1 this j (List.mem_range.2 hj)
        simpa using this
      have hL : listed = headL m ops.size := by
        refine arr_ext_getD (by rw [hsz]; simp [headL]; have := F.le; omega) fun j => ?_
        rw [headL_get m ops.size j F.le]
        by_cases h1 : j < m
        · rw [if_pos h1]; exact hall j h1
        · rw [if_neg h1]
          by_cases h2 : j < ops.size
          · rw [if_pos h2]; exact getD_both (htl j (by omega) h2)
          · rw [if_neg h2]; simp [Array.getD, hsz, h2]
      have hF : mix σ W E (fun j => listed.getD j false) = σF := by
        rw [← stF, hcanon m (Nat.le_refl _)]
        have : ∀ t j, W t = some j → listed.getD j false = Nat.blt j m := fun t j hj => by
          have := ((writer_iff F t j).1 hj).1
          rw [hall j this, bltT this]
        apply AS.ext'
        · rfl
        · intro t; simp only [mix]; cases hw : W t with
          | none => rfl
          | some j => simp only [this t j hw]
        · intro t; simp only [mix]; cases hw : W t.1 with
          | none => rfl
          | some j => simp only [this t.1 j hw]
        · intro t; simp only [mix]; cases hw : W t.1 with
          | none => rfl
          | some j => simp only [this t.1 j hw]
        · intro t; simp only [mix]; cases hw : W t with
          | none => rfl
          | some j => simp only [this t j hw]
      rw [hF] at hr
      subst hL
      have hdl : (ops.toList.drop m).length = ops.size - m := by simp
      have := wpAny_of_seq (P := P) (md := .any) (ops := ops) (Q' := Q') (ops.toList.drop m) m (headL m ops.size) a w (fun j => by rw [List.getElem?_drop, Array.getElem?_toList]) (by rw [hdl]; exact F.seq)
        (htail a w hr Q' fun σ' a' w' h1 h2 => hQ _ σ' a' w' h1 h2)
      rw [hdl] at this
      rw [Nat.zero_add]
      exact this
    | succ k ih =>
      intro listed a w hsz hclosed htl hcount hr
      rw [show k + 1 + (ops.size - m) = (k + (ops.size - m)) + 1 by omega]
      -- something of the head is left
      have hex : ∃ j, j < m ∧ listed.getD j false = false := by
        have : (List.range m).filter (fun j => !listed.getD j false) ≠ [] := fun h => by rw [h] at hcount; simp at hcount
        obtain ⟨j, hj⟩ := List.exists_mem_of_ne_nil _ this
        obtain ⟨h1, h2⟩ := List.mem_filter.1 hj
        exact ⟨j, List.mem_range.1 h1, by simpa using h2⟩
      have hmin : ∃ j, j < m ∧ listed.getD j false = false ∧ ∀ i, i < j → listed.getD i false = true := by
        obtain ⟨j, hj1, hj2⟩ := hex
        have key : ∀ n j, j ≤ n → j < m → listed.getD j false = false → ∃ j, j < m ∧ listed.getD j false = false ∧ ∀ i, i < j → listed.getD i false = true := by
          intro n
          induction n with
          | zero => intro j hj h1 h2; exact ⟨j, h1, h2, fun i hi => by omega⟩
          | succ n ihn =>
            intro j hj h1 h2
            by_cases hh : ∃ i, i < j ∧ listed.getD i false = false
            · obtain ⟨i, hi1, hi2⟩ := hh
              exact ihn i (by omega) (by omega) hi2
            · refine ⟨j, h1, h2, fun i hi => ?_⟩
              cases hl : listed.getD i false with
              | true => rfl
              | false => exact absurd ⟨i, hi, hl⟩ hh
        exact key j j (Nat.le_refl _) hj1 hj2
      refine ⟨fun hno => ?_, fun i hi => ?_⟩
      · exfalso
        obtain ⟨j, hj1, hj2, hj3⟩ := hmin
        have hjs : j < ops.size := Nat.lt_of_lt_of_le hj1 F.le
        have hready : j ∈ Region.ready .any ops listed := mem_ready.2 ⟨getD_in (by rw [hsz]; exact hjs) hj2, ops[j], Array.getElem?_eq_getElem hjs, fun e he hb => hj3 e.on (F.down j _ (Array.getElem?_eq_getElem hjs) e he hb)⟩
        rw [hno] at hready
        cases hready
      · obtain ⟨hun, oi, hoi, hdeps⟩ := mem_ready.1 hi
        have hin : i < ops.size := (Array.getElem?_eq_some_iff.1 hoi).1
        have him : i < m := by
          rcases Nat.lt_or_ge i m with h | h
          · exact h
          · exfalso
            have hmn : m < ops.size := by omega
            obtain ⟨s1, s2⟩ := F.tail hmn
            obtain ⟨j, hj1, hj2, _⟩ := hmin
            exact tail_waits s1 s2 hmn ⟨hsz, hclosed, htl⟩ _ j rfl hj1 (getD_in (by rw [hsz]; omega) hj2) i h hi
        obtain ⟨o, d, p1, p2, p3, p4⟩ := F.dst i him
        have : o = oi := Option.some.inj (p1.symm.trans hoi)
        subst this
        have hd : dstOf ops i = some d := by simp [dstOf, p1, p2]
        have hunF : listed.getD i false = false := getD_both hun
        -- what comes behind the operation
        have next : ∀ a' w', Rel w0 M0 (appO (mix σ W E fun j => listed.getD j false) (some d) (E i)) a' w' → wpAny P .any ops Q' (k + (ops.size - m)) (listed.setIfInBounds i true) a' w' := fun a' w' hr' => by
          rw [mix_step σ W E _ (hW i him d hd) hunF (hhead i him)] at hr'
          have hS : (fun j => bif Nat.beq j i then true else listed.getD j false) = fun j => (listed.setIfInBounds i true).getD j false := by
            funext j
            by_cases hj : j = i
            · subst hj; simp [Array.getD, hsz, hin]
            · rw [beq_ff hj, getD_set_ne false (Ne.symm hj)]; rfl
          rw [hS] at hr'
          refine ih (listed.setIfInBounds i true) a' w' (by simp [hsz]) (fun j oj hj hl e he hb => ?_) (fun t ht ht' => by rw [getD_set_ne true (by omega)]; exact htl t ht ht') ?_ hr'
          · by_cases hij : i = j
            · subst hij
              have : oj = o := Option.some.inj (hj.symm.trans hoi)
              subst this
              exact getD_set_true (hdeps e he hb)
            · rw [getD_set_ne false hij] at hl
              exact getD_set_true (hclosed j oj hj hl e he hb)
          · -- one less
            have hcnt : ∀ l : List Nat, l.Nodup → i ∈ l → (l.filter fun j => !listed.getD j false).length = ((l.filter fun j => !(listed.setIfInBounds i true).getD j false)).length + 1 := by
              intro l
              induction l with
              | nil => intro _ h; cases h
              | cons b l ihl =>
                intro hnd hmem
                have hnd' := List.nodup_cons.1 hnd
                by_cases hb : b = i
                · subst hb
                  have hsame : (l.filter fun j => !(listed.setIfInBounds b true).getD j false) = l.filter fun j => !listed.getD j false := by
                    apply List.filter_congr
                    intro j hj
                    have : b ≠ j := fun h => hnd'.1 (h ▸ hj)
                    rw [getD_set_ne false this]
                  have hset : (listed.setIfInBounds b true).getD b false = true := by simp [Array.getD, hsz, hin]
                  rw [List.filter_cons_of_pos (by simpa using hunF), List.filter_cons_of_neg (by rw [hset]; simp), hsame]
                  rfl
                · have hmem' : i ∈ l := by rcases List.mem_cons.1 hmem with h | h; exact absurd h.symm hb; exact h
                  have := ihl hnd'.2 hmem'
                  have hbne : (listed.setIfInBounds i true).getD b false = listed.getD b false := getD_set_ne false (Ne.symm hb)
                  cases hl : listed.getD b false with
                  | true => rw [List.filter_cons_of_neg (by rw [hl]; simp), List.filter_cons_of_neg (by rw [hbne, hl]; simp)]; exact this
                  | false => rw [List.filter_cons_of_pos (by rw [hl]; simp), List.filter_cons_of_pos (by rw [hbne, hl]; simp), List.length_cons, List.length_cons, this]
            have := hcnt (List.range m) List.nodup_range (List.mem_range.2 him)
            omega
        -- the values that it looks at
        have htm : ∀ t ∈ readsOf ops o, (mix σ W E fun j => listed.getD j false).tm t = (st i).tm t := fun t ht => by
          rw [hcanon i (Nat.le_of_lt him)]
          simp only [mix]
          cases hw : W t with
          | none => rfl
          | some j =>
            obtain ⟨q1, q2⟩ := (writer_iff F t j).1 hw
            obtain ⟨q3, q4⟩ := p4 t ht j q1 q2
            obtain ⟨o', ho', e, he, hb, hon⟩ := Region.waitsFor_spec q4
            have : o' = o := Option.some.inj (ho'.symm.trans hoi)
            subst this
            have hl := hdeps e he hb
            rw [hon] at hl
            simp only [hl, bltT q3]
        have hn : (mix σ W E fun j => listed.getD j false).n = (st i).n := by rw [hcanon i (Nat.le_of_lt him)]; rfl
        obtain ⟨X, hx⟩ := hr
        have hguard : ∀ w, GoOk ops (st i) o w → Region.wanted o (yielded ops a.tmps) = w := fun w hg => wanted_of hx hn htm hg
        unfold wpOp
        simp only [hoi]
        have hso := (hstep i him o hoi).1
        cases hE : E i with
        | none =>
          rw [hE] at hso next
          rw [hguard false hso.1]
          simp only [Bool.false_eq_true, if_false]
          rw [p2]
          refine next _ _ ⟨X, hx.put (d := some d) ?_ (.sc undef)⟩
          have := hso.2
          rw [p2] at this
          show d < _
          rw [hn]
          exact this
        | some e =>
          rw [hE] at hso next
          obtain ⟨s1, s2, s3⟩ := hso
          rw [hguard true s1]
          simp only [if_true]
          refine .inl (s2 _ ⟨hn, fun y hy => ?_, fun y hy id off cs hyr hycs => ?_⟩ a w ⟨X, hx⟩ _ _ fun a' w' hr' => next a' w' (by rw [p2] at hr'; exact hr'))
          · cases y with
            | tmp t => exact htm t (List.mem_append.2 (.inl (List.mem_filterMap.2 ⟨.tmp t, Array.mem_toList_iff.2 hy, rfl⟩)))
            | const v => exact ev_const _ _ v
            | global g => rfl
            | func f => rfl
          · -- an object that it names is there
            have hev : (mix σ W E fun j => listed.getD j false).ev y = .ref id off := by
              cases y with
              | tmp t => exact (htm t (List.mem_append.2 (.inl (List.mem_filterMap.2 ⟨.tmp t, Array.mem_toList_iff.2 hy, rfl⟩)))).trans hyr
              | const v => exact (ev_const _ _ v).trans hyr
              | global g => exact hyr
              | func f => exact hyr
            have hVR := hx.ev y
            rw [hev] at hVR
            have hVs : ∃ b, X.V id = some b := by
              generalize a.eval y = cv at hVR
              cases hVR with
              | ref _ _ b hb => exact ⟨b, hb⟩
            obtain ⟨b, hVb⟩ := hVs
            have hglt : id.2 < (mix σ W E fun j => listed.getD j false).gen id.1 := by
              rcases Nat.lt_or_ge id.2 ((mix σ W E fun j => listed.getD j false).gen id.1) with h | h
              · exact h
              · have := (hx.fresh id.1 id.2 h).1
                have h2 : X.V (id.1, id.2) = some b := hVb
                rw [this] at h2; cases h2
            rw [hcanon i (Nat.le_of_lt him)] at hycs
            simp only [mix] at hycs hglt ⊢
            cases hw : W id.1 with
            | none => rw [hw] at hycs; exact hycs
            | some j =>
              simp only [hw] at hycs hglt ⊢
              have hσ0 : ∀ cs, σ.va id = some cs → id.2 < σ.gen id.1 := fun cs h => hr0.vgen id.1 id.2 cs h
              cases hji : Nat.blt j i with
              | true =>
                rw [hji] at hycs
                cases hlj : listed.getD j false with
                | true => exact hycs
                | false =>
                  simp only [hlj, cond_false] at hglt ⊢
                  simp only [cond_true] at hycs
                  cases hEj : E j with
                  | none => rw [hEj] at hycs; exact hycs
                  | some ej =>
                    rw [hEj] at hycs
                    cases ej with
                    | alloc cs' =>
                      simp only [vaA] at hycs
                      rw [beq_ff (by omega : id.2 ≠ σ.gen id.1)] at hycs
                      exact hycs
                    | allocA cs' _ =>
                      simp only [vaA] at hycs
                      rw [beq_ff (by omega : id.2 ≠ σ.gen id.1)] at hycs
                      exact hycs
                    | val v => exact hycs
                    | fresh v n z e => exact hycs
                    | grow => exact hycs
                    | stor => exact hycs
                    | lend => exact hycs
                    | spend => exact hycs
              | false =>
                rw [hji] at hycs
                simp only [cond_false] at hycs
                cases hlj : listed.getD j false with
                | false => exact hycs
                | true =>
                  simp only [cond_true]
                  have := hσ0 cs hycs
                  cases hEj : E j with
                  | none => exact hycs
                  | some ej =>
                    cases ej with
                    | alloc cs' =>
                      simp only [vaA]
                      rw [beq_ff (by omega : id.2 ≠ σ.gen id.1)]
                      exact hycs
                    | allocA cs' _ =>
                      simp only [vaA]
                      rw [beq_ff (by omega : id.2 ≠ σ.gen id.1)]
                      exact hycs
                    | val v => exact hycs
                    | fresh v n z e => exact hycs
                    | grow => exact hycs
                    | stor => exact hycs
                    | lend => exact hycs
                    | spend => exact hycs
  have hstart := main ((List.range m).filter fun j => !(Array.replicate ops.size false).getD j false).length (Array.replicate ops.size false) a { w with drawn := w.drawn + 1 } (by simp)
    (fun j oj _ hl => by rw [getD_replicate_false] at hl; cases hl) (fun t _ ht' => by simp [Array.getD, ht']) rfl
    (by
      have : (fun j => (Array.replicate ops.size false).getD j false) = fun _ => false := by funext j; exact getD_replicate_false _ _
      rw [this, mix_none]
      exact ⟨x0, hr0.drew⟩)
  have hk : ((List.range m).filter fun j => !(Array.replicate ops.size false).getD j false).length = m := by
    rw [List.filter_eq_self.2 (fun j _ => by rw [getD_replicate_false]; rfl)]
    simp
  rw [hk] at hstart
  rw [show m + (ops.size - m) = ops.size by have := F.le; omega] at hstart
  exact hstart

end Go.Ab
