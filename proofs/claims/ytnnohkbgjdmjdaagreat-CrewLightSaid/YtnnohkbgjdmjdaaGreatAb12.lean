/- Small words for walks. Nothing here speaks of one program. -/
import Derived.Test.YtnnohkbgjdmjdaaGreatAb10
namespace Go.Ab
open Go.RowKit

def okDB (σ : AS) (d : Option Tmp) : Bool := match d with | some d => Nat.blt d σ.n | none => true
theorem ltB {a b : Nat} (h : Nat.blt a b = true) : a < b := Nat.lt_of_lt_of_le (Nat.lt_succ_self _) (Nat.le_of_ble_eq_true h)
theorem leB {a b : Nat} (h : Nat.ble a b = true) : a ≤ b := Nat.le_of_ble_eq_true h
theorem bltT {a b : Nat} (h : a < b) : Nat.blt a b = true := by
  show Nat.ble (a + 1) b = true
  rw [Nat.ble_eq]; exact h
theorem bltF {a b : Nat} (h : ¬ a < b) : Nat.blt a b = false := by
  cases hb : Nat.blt a b with
  | false => rfl
  | true => exact absurd (ltB hb) h
theorem okD {σ : AS} {d : Option Tmp} (h : okDB σ d = true) : okDst σ d := by
  cases d with
  | none => trivial
  | some d => exact ltB h

/-- The value itself: to be asked for its outermost form. -/
def nf : AV → Option AV
  | .any => some .any
  | .sc v => some (.sc v)
  | .agg cs => some (.agg cs)
  | .tup cs => some (.tup cs)
  | .ref id o => some (.ref id o)
  | .arr id off n c => some (.arr id off n c)
  | .rd cs => some (.rd cs)
  | .nil0 => some .nil0
  | .sl es => some (.sl es)
  | .own id es => some (.own id es)
  | .clo f cs => some (.clo f cs)
  | .bnd f cs => some (.bnd f cs)
  | .ifc t x => some (.ifc t x)

theorem nf_eq {x y : AV} (h : nf x = some y) : x = y := by cases x <;> simp_all [nf]

def nfL : List AV → Option (List AV)
  | [] => some []
  | c :: cs => match nf c, nfL cs with
    | some d, some ds => some (d :: ds)
    | _, _ => none

theorem nfL_eq : ∀ {x y : List AV}, nfL x = some y → x = y := by
  intro x
  induction x with
  | nil => intro y h; simpa [nfL] using h.symm
  | cons c cs ih =>
    intro y h
    simp only [nfL] at h
    split at h
    · rename_i d ds h1 h2
      cases h
      rw [nf_eq h1, ih h2]
    · cases h

section
variable {P : Program} {w0 : World} {M0 : MT} {σ : AS} {d : Option Tmp} {ty : TypeId} {pos : String} {after : Array Edge} {guard : Option (Nat × Bool)}

theorem o_move {v : AV} (x : Operand) (hv : nf (σ.ev x) = some v) (hd : okDB σ d = true) : OpAny P w0 M0 σ ⟨d, .move x, ty, pos, after, guard⟩ (.val v) := by
  rw [← nf_eq hv]; exact ok_move x (okD hd)
theorem o_assign {v : AV} (x : Operand) (hv : nf (σ.ev x) = some v) (hd : okDB σ d = true) : OpAny P w0 M0 σ ⟨d, .assign x, ty, pos, after, guard⟩ (.val v) := by
  rw [← nf_eq hv]; exact ok_assign x (okD hd)
theorem o_pickT {v : AV} {b : Bool} (c x y : Operand) (hc : exact (σ.ev c) = some (.bool b)) (hb : b = true) (hv : nf (σ.ev x) = some v) (hd : okDB σ d = true) : OpAny P w0 M0 σ ⟨d, .pick c x y, ty, pos, after, guard⟩ (.val v) := by
  subst hb
  have : σ.ev c = .sc (.bool true) := by
    generalize σ.ev c = z at hc
    cases z <;> simp_all [exact]
  have h := ok_pick (P := P) (w0 := w0) (M0 := M0) (ty := ty) (pos := pos) (after := after) (guard := guard) c x y true this (okD hd)
  rw [← nf_eq hv]; exact h
theorem o_pickF {v : AV} {b : Bool} (c x y : Operand) (hc : exact (σ.ev c) = some (.bool b)) (hb : b = false) (hv : nf (σ.ev y) = some v) (hd : okDB σ d = true) : OpAny P w0 M0 σ ⟨d, .pick c x y, ty, pos, after, guard⟩ (.val v) := by
  subst hb
  have : σ.ev c = .sc (.bool false) := by
    generalize σ.ev c = z at hc
    cases z <;> simp_all [exact]
  have h := ok_pick (P := P) (w0 := w0) (M0 := M0) (ty := ty) (pos := pos) (after := after) (guard := guard) c x y false this (okD hd)
  rw [← nf_eq hv]; exact h
theorem o_loadRef {t sz off : Nat} {ag : Bool} {id : OId} {cs : List AV} {u v : AV} (x : Operand) (hx : nf (σ.ev x) = some (.ref id off)) (hv : σ.va id = some cs)
    (hs : ∀ w, (sizeOf t).run P w = .ok sz w) (ha : ∀ w, (isAgg t).run P w = .ok ag w) (hp : partA ag sz (cs.drop off) = some u) (hn : nf u = some v) (hd : okDB σ d = true) :
    OpAny P w0 M0 σ ⟨d, .load t x, ty, pos, after, guard⟩ (.val v) := by rw [← nf_eq hn]; exact ok_load_ref x (nf_eq hx) hv hs ha hp (okD hd)
theorem o_loadRd {t sz : Nat} {ag : Bool} {cs : List AV} {u v : AV} (x : Operand) (hx : nf (σ.ev x) = some (.rd cs))
    (hs : ∀ w, (sizeOf t).run P w = .ok sz w) (ha : ∀ w, (isAgg t).run P w = .ok ag w) (hp : partA ag sz cs = some u) (hn : nf u = some v) (hd : okDB σ d = true) :
    OpAny P w0 M0 σ ⟨d, .load t x, ty, pos, after, guard⟩ (.val v) := by rw [← nf_eq hn]; exact ok_load_rd x (nf_eq hx) hs ha hp (okD hd)
theorem o_fieldRef {t f off sz o o' : Nat} {ag : Bool} {id : OId} (x : Operand) (hx : nf (σ.ev x) = some (.ref id o)) (hf : FieldAt P t f off sz ag) (ho : o + off = o') (hd : okDB σ d = true) :
    OpAny P w0 M0 σ ⟨d, .fieldAddr t x f, ty, pos, after, guard⟩ (.val (.ref id o')) := by subst ho; exact ok_fieldAddr_ref x (nf_eq hx) hf (okD hd)
theorem o_fieldRd {t f off sz : Nat} {ag : Bool} {cs : List AV} (x : Operand) (hx : nf (σ.ev x) = some (.rd cs)) (hf : FieldAt P t f off sz ag) (hd : okDB σ d = true) :
    OpAny P w0 M0 σ ⟨d, .fieldAddr t x f, ty, pos, after, guard⟩ (.val (.rd (cs.drop off))) := ok_fieldAddr_rd x (nf_eq hx) hf (okD hd)
theorem o_field {t f off sz : Nat} {ag : Bool} {cs : List AV} {u v : AV} (x : Operand) (hx : nf (σ.ev x) = some (.agg cs)) (hf : FieldAt P t f off sz ag)
    (hp : partA ag sz (cs.drop off) = some u) (hn : nf u = some v) (hd : okDB σ d = true) : OpAny P w0 M0 σ ⟨d, .field t x f, ty, pos, after, guard⟩ (.val v) := by
  rw [← nf_eq hn]; exact ok_field x (nf_eq hx) hf hp (okD hd)
theorem o_extract {vs : List AV} {u v : AV} {k : Nat} (x : Operand) (hx : nf (σ.ev x) = some (.tup vs)) (hk : vs[k]? = some u) (hn : nf u = some v) (hd : okDB σ d = true) :
    OpAny P w0 M0 σ ⟨d, .extract x k, ty, pos, after, guard⟩ (.val v) := by rw [← nf_eq hn]; exact ok_extract x (nf_eq hx) hk (okD hd)
theorem o_bin {op : BinOp} {t yt : TypeId} {u v cv : Value} (x y : Operand) (hx : exact (σ.ev x) = some u) (hy : exact (σ.ev y) = some v)
    (hrun : ∀ w, (do eqGuard op t x y u v; binOp op t u v : Sem Value).run P w = .ok cv w) (hd : okDB σ d = true) :
    OpAny P w0 M0 σ ⟨d, .binOp op t x y yt, ty, pos, after, guard⟩ (.val (.sc cv)) := ok_bin x y hx hy hrun (okD hd)
theorem o_un {op : UnOp} {t : TypeId} {u cv : Value} (x : Operand) (hx : exact (σ.ev x) = some u)
    (hrun : ∀ w, (Op.unary op u).run P w = .ok cv w) (hd : okDB σ d = true) :
    OpAny P w0 M0 σ ⟨d, .unOp op t x, ty, pos, after, guard⟩ (.val (.sc cv)) := ok_un x hx hrun (okD hd)
theorem o_alloc {t : TypeId} {zs : List Value} {cs : List AV} {d : Tmp} (hz : Zero P t zs) (hc : zs.map .sc = cs) (hd : okDB σ (some d) = true) :
    OpAny P w0 M0 σ ⟨some d, .alloc t, ty, pos, after, guard⟩ (.alloc cs) := by subst hc; exact ok_alloc hz (okD hd)
theorem o_box {t : TypeId} {cs ds : List AV} {d : Tmp} (x : Operand) (hx : cellsA (σ.ev x) = some cs) (hn : nfL cs = some ds) (hd : okDB σ (some d) = true) :
    OpAny P w0 M0 σ ⟨some d, .box t x, ty, pos, after, guard⟩ (.alloc ds) := by rw [← nfL_eq hn]; exact ok_box x hx (okD hd)
theorem o_nil {z : Nat} {e : TypeId} {d : Tmp} (hd : okDB σ (some d) = true) :
    OpAny P w0 M0 σ ⟨some d, .assign (.const (.slice none 0 0)), ty, pos, after, guard⟩ (.fresh (.own (0, 0) []) 0 z e) := ok_nil (okD hd)
theorem o_store {t off sz : Nat} {id : OId} {cs new cs' : List AV} (x y : Operand) (hx : nf (σ.ev x) = some (.ref id off)) (hva : σ.va id = some cs)
    (hs : ∀ w, (sizeOf t).run P w = .ok sz w) (hy : cellsA (σ.ev y) = some new) (hn : new.length = sz) (hfit : Nat.ble (off + sz) cs.length = true) (hc : nfL (splice cs new off) = some cs') (hd : okDB σ d = true) :
    OpSeq P w0 M0 σ ⟨d, .store t x y, ty, pos, after, guard⟩ (.stor id cs') := by rw [← nfL_eq hc]; exact ok_store x y (nf_eq hx) hva hs hy hn (leB hfit) (okD hd)
theorem o_build {t : Nat} {place : Nat → Option (Nat × Nat)} {zs : List Value} {parts : Array (Nat × Operand)} {cs ds : List AV} (hb : BuildAt P t place zs)
    (hf : fillA place (zs.map .sc) (parts.toList.map fun p => (p.1, σ.ev p.2)) = some cs) (hn : nfL cs = some ds) (hd : okDB σ d = true) :
    OpAny P w0 M0 σ ⟨d, .build t parts, ty, pos, after, guard⟩ (.val (.agg ds)) := by rw [← nfL_eq hn]; exact ok_build hb rfl hf (okD hd)
theorem o_len {t e : Nat} {es : List (List AV)} (x : Operand) (hu : P.underlying t = some (.slice e)) (hx : slEs (σ.ev x) = some es) (hd : okDB σ d = true) :
    OpAny P w0 M0 σ ⟨d, .call ⟨.builtin .len, #[x], #[t]⟩, ty, pos, after, guard⟩ (.val (.sc (.int .i64 es.length))) := ok_len x hu hx (okD hd)
theorem o_call {f : FuncId} {args : Array Operand} {tys : Array TypeId} {cl : List AV} {r : AV} {fr : Option (Nat × Nat × TypeId)} {d : Tmp} (hs : FSpec P f cl r fr) (hb : Body P f)
    (hcl : (args.toList.map fun o => (σ.ev o).close) = cl.map some) (hd : okDB σ (some d) = true) :
    OpAny P w0 M0 σ ⟨some d, .call ⟨.value (.func f), args, tys⟩, ty, pos, after, guard⟩ (.call r fr) := ok_call (Γ := fun _ => True) hs (fun _ _ => trivial) hb hcl (okD hd)
theorem o_callG {Γ : World → Prop} {f : FuncId} {args : Array Operand} {tys : Array TypeId} {cl : List AV} {r : AV} {fr : Option (Nat × Nat × TypeId)} {d : Tmp} (hs : FSpecG P Γ f cl r fr) (hG : ∀ w, Kept w0 M0 w → Γ w) (hb : Body P f)
    (hcl : (args.toList.map fun o => (σ.ev o).close) = cl.map some) (hd : okDB σ (some d) = true) :
    OpAny P w0 M0 σ ⟨some d, .call ⟨.value (.func f), args, tys⟩, ty, pos, after, guard⟩ (.call r fr) := ok_call hs hG hb hcl (okD hd)
/-- A function value is called: what it has caught comes behind the arguments. -/
theorem o_callV {f : FuncId} {caps ccl : List AV} {args : Array Operand} {tys : Array TypeId} {cl : List AV} {r : AV} {fr : Option (Nat × Nat × TypeId)} {d : Tmp} (x : Operand) (hx : nf (σ.ev x) = some (.clo f caps)) (hs : FSpec P f (cl ++ ccl) r fr) (hb : Body P f)
    (hcl : (args.toList.map fun o => (σ.ev o).close) = cl.map some) (hcc : AV.close.closeL caps = some ccl) (hd : okDB σ (some d) = true) :
    OpAny P w0 M0 σ ⟨some d, .call ⟨.value x, args, tys⟩, ty, pos, after, guard⟩ (.call r fr) := ok_callV (Γ := fun _ => True) x (nf_eq hx) hs (fun _ _ => trivial) hb hcl hcc (okD hd)
end

section
variable {P : Program} {w0 : World} {M0 : MT} {ops : Array Oper} {R : AS → Prop} {rest : List Oper} {σ : AS}
/-- A guard that the values do not decide. -/
theorem AOps.split {o : Oper} {j t : Nat} {want b : Bool} (_ : o.guard = some (j, want)) (_ : (ops[j]?).bind (·.dst) = some t) (_ : exact (σ.tm t) = some (.bool b))
    (h1 : b = want → AOps P w0 M0 ops (o :: rest) R σ) (h2 : b = !want → AOps P w0 M0 ops (o :: rest) R σ) : AOps P w0 M0 ops (o :: rest) R σ := by
  cases b <;> cases want <;> first | exact h1 rfl | exact h2 rfl
theorem AOps.go {d : Option Tmp} {op : Op} {ty : TypeId} {pos : String} {after : Array Edge} {j t : Nat} {want b : Bool} {e : Ev} (hj : (ops[j]?).bind (·.dst) = some t) (ht : Nat.blt t σ.n = true) (hv : exact (σ.tm t) = some (.bool b)) (hb : b = want)
    (ho : OpAny P w0 M0 σ ⟨d, op, ty, pos, after, some (j, want)⟩ e) (h : AOps P w0 M0 ops rest R (σ.app d e)) :
    AOps P w0 M0 ops (⟨d, op, ty, pos, after, some (j, want)⟩ :: rest) R σ := AOps.consG hj (ltB ht) hv hb ho.seq h
theorem AOps.pass {d : Option Tmp} {op : Op} {ty : TypeId} {pos : String} {after : Array Edge} {j t : Nat} {want b : Bool} (hj : (ops[j]?).bind (·.dst) = some t) (ht : Nat.blt t σ.n = true) (hv : exact (σ.tm t) = some (.bool b))
    (hb : b = !want) (hd : okDB σ d = true) (h : AOps P w0 M0 ops rest R (σ.put d (.sc undef))) :
    AOps P w0 M0 ops (⟨d, op, ty, pos, after, some (j, want)⟩ :: rest) R σ :=
  AOps.skipG hj (ltB ht) hv (fun b' hb' => by cases hb'; subst hb; cases want <;> simp) (okD hd) h
theorem AOps.passU {d : Option Tmp} {op : Op} {ty : TypeId} {pos : String} {after : Array Edge} {j t : Nat} {want : Bool} (hj : (ops[j]?).bind (·.dst) = some t) (ht : Nat.blt t σ.n = true) (hv : exact (σ.tm t) = some undef)
    (hd : okDB σ d = true) (h : AOps P w0 M0 ops rest R (σ.put d (.sc undef))) :
    AOps P w0 M0 ops (⟨d, op, ty, pos, after, some (j, want)⟩ :: rest) R σ :=
  AOps.skipG hj (ltB ht) hv (fun b' hb' => by cases hb') (okD hd) h
end

end Go.Ab
