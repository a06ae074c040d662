/- What each operation does to an abstract state. Nothing here speaks of one program. -/
import Derived.Test.YtnnohkbgjdmjdaaGreatAb1
namespace Go.Ab
open Go.RowKit

inductive Ev where
  | val (v : AV)
  | alloc (cs : List AV)
  | fresh (v : AV) (n z : Nat) (e : TypeId)
  | grow (id : OId) (es : List (List AV)) (z : Nat) (e : TypeId)
  | stor (id : OId) (cs : List AV)
  /-- A new variable, told by a slice of it. -/
  | allocA (cs : List AV) (n : Nat)
  /-- What variables that were lent hold now; a value. -/
  | lend (ids : List OId) (ls : List (List AV)) (v : AV)
  /-- A variable is used up: nothing is known of it any more; a value. -/
  | spend (id : OId) (v : AV)

def AS.put (σ : AS) (d : Option Tmp) (v : AV) : AS :=
  match d with
  | some d => { σ with tm := upd σ.tm d v }
  | none => σ

def AS.setVas (σ : AS) : List OId → List (List AV) → AS
  | id :: ids, cs :: ls => ({ σ with va := updO σ.va id (some cs) } : AS).setVas ids ls
  | _, _ => σ

def AS.app (σ : AS) (d : Option Tmp) : Ev → AS
  | .val v => σ.put d v
  | .alloc cs =>
    match d with
    | some d => { σ with tm := upd σ.tm d (.ref (d, σ.gen d) 0), va := updO σ.va (d, σ.gen d) (some cs), gen := upd σ.gen d (σ.gen d + 1) }
    | none => σ
  | .fresh v n z e =>
    match d with
    | some d => { σ with tm := upd σ.tm d (v.ren (d, σ.gen d)), gr := updO σ.gr (d, σ.gen d) (some (n, z, e)), gen := upd σ.gen d (σ.gen d + 1) }
    | none => σ
  | .grow id es z e => { σ with gr := updO σ.gr id (some (es.length, z, e)) }.put d (.own id es)
  | .stor id cs => { σ with va := updO σ.va id (some cs) }.put d (.sc undef)
  | .allocA cs n =>
    match d with
    | some d => { σ with tm := upd σ.tm d (.arr (d, σ.gen d) 0 n n), va := updO σ.va (d, σ.gen d) (some cs), gen := upd σ.gen d (σ.gen d + 1) }
    | none => σ
  | .lend ids ls v => (σ.setVas ids ls).put d v
  | .spend id v => ({ σ with va := updO σ.va id none } : AS).put d v

def okDst (σ : AS) (d : Option Tmp) : Prop := match d with | some d => d < σ.n | none => True

/-- The operation, carried out where σ tells the memory and the temporaries, does e (and does not stop). -/
def OpSeq (P : Program) (w0 : World) (M0 : MT) (σ : AS) (o : Oper) (e : Ev) : Prop :=
  ∀ a w, Rel w0 M0 σ a w → ∀ K Q, (∀ a' w', Rel w0 M0 (σ.app o.dst e) a' w' → K a' w') → o.wp P a w K Q

structure Agree (σ σ' : AS) (op : Op) : Prop where
  n : σ'.n = σ.n
  ev : ∀ x ∈ op.operands, σ'.ev x = σ.ev x
  va : ∀ x ∈ op.operands, ∀ id off cs, σ.ev x = .ref id off → σ.va id = some cs → σ'.va id = some cs

/-- .. and also in whatever state that tells the same of its operands. -/
def OpAny (P : Program) (w0 : World) (M0 : MT) (σ : AS) (o : Oper) (e : Ev) : Prop := ∀ σ', Agree σ σ' o.op → OpSeq P w0 M0 σ' o e

theorem Agree.refl (σ : AS) (op : Op) : Agree σ σ op := ⟨rfl, fun _ _ => rfl, fun _ _ _ _ _ _ h => h⟩
theorem OpAny.seq {P w0 M0 σ o e} (h : OpAny P w0 M0 σ o e) : OpSeq P w0 M0 σ o e := h σ (.refl σ _)

section rel
variable {w0 : World} {M0 : MT} {σ : AS} {a : Act} {w : World} {x : Wit}

theorem RelW.ev (h : RelW w0 M0 σ a w x) (o : Operand) : VR w x.M x.V x.G (σ.ev o) (a.eval o) := by
  cases o with
  | tmp t => exact h.tm t
  | const v => unfold AS.ev; split <;> first | exact .sl0 _ _ | exact .sc _ | (rename_i h1 h2; simp_all [Act.eval]; done) | (rename_i h1; cases h1 ; first | exact .sl0 _ _ | exact .sc _)
  | global g => exact .any _
  | func f => exact .clo f [] [] rfl (by simp)

theorem getD_put (a : Act) (d i : Nat) (v : Value) (hd : d < a.tmps.size) : (a.put (some d) v).tmps.getD i undef = if i = d then v else a.tmps.getD i undef := by
  simp only [Act.put]
  by_cases h : i = d
  · subst h; simp [Array.getD, hd]
  · simp only [Array.getD_eq_getD_getElem?, Array.getElem?_setIfInBounds, if_neg h]
    rw [if_neg (Ne.symm h)]

theorem RelW.put (h : RelW w0 M0 σ a w x) {d : Option Tmp} {v : AV} {cv : Value} (hd : okDst σ d) (hv : VR w x.M x.V x.G v cv) :
    RelW w0 M0 (σ.put d v) (a.put d cv) w x := by
  cases d with
  | none => exact h
  | some d =>
    refine { h with defers := h.defers, size := by show (a.tmps.setIfInBounds d cv).size = σ.n; rw [Array.size_setIfInBounds]; exact h.size, tm := fun i => ?_ }
    have hs : d < a.tmps.size := by rw [h.size]; exact hd
    rw [getD_put a d i cv hs]
    show VR w x.M x.V x.G (upd σ.tm d v i) _
    by_cases hi : i = d
    · subst hi; rw [upd_same, if_pos rfl]; exact hv
    · rw [upd_ne _ _ hi, if_neg hi]; exact h.tm i

theorem cell_lt {b off : Nat} {y : Value} (hi : Imm w x.M b off y) : b < w.heap.size := by
  have h1 := hi.1
  unfold World.cell? at h1
  rcases Nat.lt_or_ge b w.heap.size with h | h
  · exact h
  · simp [Array.getElem?_eq_none h] at h1
end rel

/-- A value is made, the memory stays. -/
theorem opAny_val {P : Program} {w0 : World} {M0 : MT} {σ : AS} {o : Oper} {v : AV} (hd : okDst σ o.dst)
    (h : ∀ σ' a w x, Agree σ σ' o.op → RelW w0 M0 σ' a w x → ∃ cv, (execOp a.eval o).run P w = .ok (.value cv) w ∧ VR w x.M x.V x.G v cv) : OpAny P w0 M0 σ o (.val v) := by
  intro σ' hag a w ⟨x, hr⟩ K Q hK
  obtain ⟨cv, h1, h2⟩ := h σ' a w x hag hr
  unfold Oper.wp
  rw [h1, Oper.upon_value]
  refine hK _ _ ⟨x, hr.put ?_ h2⟩
  cases hdd : o.dst with
  | none => trivial
  | some d => rw [hdd] at hd; show d < σ'.n; rw [hag.n]; exact hd

theorem run_value {P : Program} {w w' : World} {s : Sem Value} {cv : Value} (h : s.run P w = .ok cv w') :
    (do pure (.value (← s)) : Sem Next).run P w = .ok (.value cv) w' := by
  simp [h, Result.andThen]

section
variable {P : Program} {w0 : World} {M0 : MT} {σ : AS} {d : Option Tmp} {ty : TypeId} {pos : String} {after : Array Edge} {guard : Option (Nat × Bool)}

theorem ok_move (x : Operand) (hd : okDst σ d) : OpAny P w0 M0 σ ⟨d, .move x, ty, pos, after, guard⟩ (.val (σ.ev x)) :=
  opAny_val hd fun σ' a w X hag hr => ⟨a.eval x, rfl, by rw [← hag.ev x (by simp [Op.operands])]; exact hr.ev x⟩

theorem ok_assign (x : Operand) (hd : okDst σ d) : OpAny P w0 M0 σ ⟨d, .assign x, ty, pos, after, guard⟩ (.val (σ.ev x)) :=
  opAny_val hd fun σ' a w X hag hr => ⟨a.eval x, rfl, by rw [← hag.ev x (by simp [Op.operands])]; exact hr.ev x⟩

theorem ok_pick (c x y : Operand) (b : Bool) (hc : σ.ev c = .sc (.bool b)) (hd : okDst σ d) :
    OpAny P w0 M0 σ ⟨d, .pick c x y, ty, pos, after, guard⟩ (.val (bif b then σ.ev x else σ.ev y)) :=
  opAny_val hd fun σ' a w X hag hr => by
    have h1 := hr.ev c
    rw [hag.ev c (by simp [Op.operands]), hc] at h1
    generalize hcv : a.eval c = cv at h1
    cases h1
    refine ⟨if b then a.eval x else a.eval y, by simp [execOp, hcv, asBool], ?_⟩
    cases b
    · rw [← hag.ev y (by simp [Op.operands])]; exact hr.ev y
    · rw [← hag.ev x (by simp [Op.operands])]; exact hr.ev x

end
end Go.Ab
