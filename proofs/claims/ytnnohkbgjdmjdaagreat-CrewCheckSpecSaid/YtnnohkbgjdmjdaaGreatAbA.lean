/- Abstract values and abstract states for straight Go code, and the relation that ties them to the model's memory. Nothing here speaks of one program. -/
import Derived.Laws.Tables
import Derived.Laws.Cells
import Derived.Below
import Derived.StillTail
import Derived.Laws.CopyRow
import Derived.Laws.AppendOwn
import Derived.Laws.AppendOwnNone
namespace Go.Ab
open Go.RowKit

/-- A local object: the temporary that made it, and the how manyth one it was. -/
abbrev OId := Nat × Nat

inductive AV where
  | any
  | sc (v : Value)
  | agg (cs : List AV)
  | tup (vs : List AV)
  | ref (id : OId) (off : Nat)
  | arr (id : OId) (off n c : Nat)
  | rd (cs : List AV)
  | nil0
  | sl (es : List (List AV))
  | own (id : OId) (es : List (List AV))
  | clo (f : FuncId) (caps : List AV)
  | bnd (f : FuncId) (caps : List AV)
  | ifc (t : TypeId) (v : AV)
  deriving Inhabited

/-- Where a growing slice lies: its block (none: nil), how many elements, its capacity. -/
structure GL where
  blk : Option Nat
  cnt : Nat
  cap : Nat

def GL.val (g : GL) : Value := .slice (g.blk.map fun b => ⟨b, 0, none⟩) g.cnt g.cap

def noV : OId → Option Nat := fun _ => none
def noG : OId → Option GL := fun _ => none

/-- The cell holds x, and nobody may write it: M b = some m: the cells of block b from m on may be written. -/
def Imm (w : World) (M : Nat → Option Nat) (b off : Nat) (x : Value) : Prop :=
  w.cell? ⟨b, off, none⟩ = some x ∧ x.oneCell' = true ∧ ∀ m, M b = some m → off < m

/-- Block b has at least n cells. -/
def Sz (w : World) (b n : Nat) : Prop := ∃ vs ty fz, w.heap[b]? = some (.cells vs ty fz) ∧ n ≤ vs.size ∧ n ≤ maxLen
theorem Sz.le {w : World} {b n m : Nat} (h : Sz w b n) (hm : m ≤ n) : Sz w b m := by
  obtain ⟨vs, ty, fz, h1, h2, h3⟩ := h; exact ⟨vs, ty, fz, h1, Nat.le_trans hm h2, Nat.le_trans hm h3⟩
theorem Sz.top {w : World} {b n : Nat} (h : Sz w b n) : n ≤ maxLen := by
  obtain ⟨_, _, _, _, _, h3⟩ := h; exact h3
theorem Sz.lt {w : World} {b n : Nat} (h : Sz w b n) : b < w.heap.size := by
  obtain ⟨vs, ty, fz, h1, _⟩ := h; exact (Array.getElem?_eq_some_iff.1 h1).1
theorem Sz.of_eq {w w' : World} {b n : Nat} (h : Sz w b n) (he : w'.heap[b]? = w.heap[b]?) : Sz w' b n := by
  obtain ⟨vs, ty, fz, h1, h2⟩ := h; exact ⟨vs, ty, fz, he.trans h1, h2⟩

inductive VR (w : World) (M : Nat → Option Nat) : (OId → Option Nat) → (OId → Option GL) → AV → Value → Prop
  | any {V G} (v : Value) : VR w M V G .any v
  | sc {V G} (v : Value) : VR w M V G (.sc v) v
  | agg {V G} (cs : List AV) (vs : List Value) (hl : cs.length = vs.length) (h1 : vs.all (·.oneCell') = true)
      (h : ∀ (i : Nat) c v, cs[i]? = some c → vs[i]? = some v → VR w M V G c v) : VR w M V G (.agg cs) (.agg vs.toArray)
  | tup {V G} (cs : List AV) (vs : List Value) (hl : cs.length = vs.length)
      (h : ∀ (i : Nat) c v, cs[i]? = some c → vs[i]? = some v → VR w M V G c v) : VR w M V G (.tup cs) (.tuple vs.toArray)
  | ref {V G} (id : OId) (off b : Nat) (h : V id = some b) : VR w M V G (.ref id off) (.pointer (some ⟨b, off, none⟩))
  | arr {V G} (id : OId) (off n c b cap : Nat) (h : V id = some b) (h1 : n ≤ c) (hc : c ≤ cap) (hs : off = 0 → Sz w b cap) : VR w M V G (.arr id off n c) (.slice (some ⟨b, off, none⟩) n cap)
  | rd {V G} (cs : List AV) (b off : Nat) (X : Nat → Value) (hc : ∀ (j : Nat) c, cs[j]? = some c → Imm w M b (off + j) (X j))
      (hv : ∀ (j : Nat) c, cs[j]? = some c → VR w M noV noG c (X j)) : VR w M V G (.rd cs) (.pointer (some ⟨b, off, none⟩))
  | sl0 {V G} (a : Option Addr) (cap : Nat) : VR w M V G (.sl []) (.slice a 0 cap)
  | nil0 {V G} (a : Option Addr) : VR w M V G .nil0 (.slice a 0 0)
  | sl {V G} (es : List (List AV)) (z b off cap : Nat) (X : Nat → Nat → Value) (hz : ∀ e ∈ es, e.length = z) (hcap : es.length ≤ cap)
      (hc : ∀ (i : Nat) e (j : Nat) c, es[i]? = some e → e[j]? = some c → Imm w M b (off + (i * z + j)) (X i j))
      (hv : ∀ (i : Nat) e (j : Nat) c, es[i]? = some e → e[j]? = some c → VR w M noV noG c (X i j)) : VR w M V G (.sl es) (.slice (some ⟨b, off, none⟩) es.length cap)
  | own {V G} (id : OId) (es : List (List AV)) (v : Value) (h : VR w M noV noG (.sl es) v)
      (g : GL) (hg : G id = some g) (hle : es.length ≤ g.cnt) (heq : es.length = g.cnt → v = g.val) : VR w M V G (.own id es) v
  | clo {V G} (f : FuncId) (cs : List AV) (vs : List Value) (hl : cs.length = vs.length)
      (h : ∀ (i : Nat) c v, cs[i]? = some c → vs[i]? = some v → VR w M V G c v) : VR w M V G (.clo f cs) (.func (.func f) #[] vs.toArray)
  | bnd {V G} (f : FuncId) (cs : List AV) (vs : List Value) (hl : cs.length = vs.length)
      (h : ∀ (i : Nat) c v, cs[i]? = some c → vs[i]? = some v → VR w M V G c v) : VR w M V G (.bnd f cs) (.func (.func f) vs.toArray #[])
  | ifc {V G} (t : TypeId) (x : AV) (v : Value) (h : VR w M V G x v) : VR w M V G (.ifc t x) (.iface t v)

theorem VR.mono {w w' : World} {M M' : Nat → Option Nat} {V G x v} (h : VR w M V G x v)
    (hi : ∀ b off y, Imm w M b off y → Imm w' M' b off y) (hzz : ∀ b n, Sz w b n → Sz w' b n) : VR w' M' V G x v := by
  induction h with
  | any v => exact .any v
  | sc v => exact .sc v
  | agg cs vs hl h1 _ ih => exact .agg cs vs hl h1 ih
  | tup cs vs hl _ ih => exact .tup cs vs hl ih
  | ref id off b h => exact .ref id off b h
  | arr id off n c b cap h h1 hc hs => exact .arr id off n c b cap h h1 hc fun h0 => hzz _ _ (hs h0)
  | rd cs b off X hc _ ih => exact .rd cs b off X (fun j c h => hi _ _ _ (hc j c h)) ih
  | sl0 a cap => exact .sl0 a cap
  | nil0 a => exact .nil0 a
  | sl es z b off cap X hz hcap hc _ ih => exact .sl es z b off cap X hz hcap (fun i e j c h h' => hi _ _ _ (hc i e j c h h')) ih
  | own id es v _ g hg hle heq ih => exact .own id es v ih g hg hle heq
  | clo f cs vs hl _ ih => exact .clo f cs vs hl ih
  | bnd f cs vs hl _ ih => exact .bnd f cs vs hl ih
  | ifc t x v _ ih => exact .ifc t x v ih

/-- The places of local objects may become more; a growing slice only longer. -/
theorem VR.locs {w : World} {M : Nat → Option Nat} {V V' G G' x v} (h : VR w M V G x v)
    (hV : ∀ id b, V id = some b → V' id = some b)
    (hG : ∀ id g, G id = some g → ∃ g', G' id = some g' ∧ g.cnt ≤ g'.cnt ∧ (g'.cnt = g.cnt → g'.val = g.val)) : VR w M V' G' x v := by
  induction h with
  | any v => exact .any v
  | sc v => exact .sc v
  | agg cs vs hl h1 _ ih => exact .agg cs vs hl h1 fun i c v a b => ih i c v a b hV hG
  | tup cs vs hl _ ih => exact .tup cs vs hl fun i c v a b => ih i c v a b hV hG
  | ref id off b h => exact .ref id off b (hV _ _ h)
  | arr id off n c b cap h h1 hc hs => exact .arr id off n c b cap (hV _ _ h) h1 hc hs
  | rd cs b off X hc hv _ => exact .rd cs b off X hc hv
  | sl0 a cap => exact .sl0 a cap
  | nil0 a => exact .nil0 a
  | sl es z b off cap X hz hcap hc hv _ => exact .sl es z b off cap X hz hcap hc hv
  | own id es v h g hg hle heq _ =>
    obtain ⟨g', h1, h2, h3⟩ := hG id g hg
    exact .own id es v h g' h1 (Nat.le_trans hle h2) fun h4 => by
      have h5 : g'.cnt = g.cnt := Nat.le_antisymm (h4 ▸ hle) h2
      rw [h3 h5]; exact heq (h4.trans h5)
  | clo f cs vs hl _ ih => exact .clo f cs vs hl fun i c v a b => ih i c v a b hV hG
  | bnd f cs vs hl _ ih => exact .bnd f cs vs hl fun i c v a b => ih i c v a b hV hG
  | ifc t x v _ ih => exact .ifc t x v (ih hV hG)

/-- What names no local object holds whatever the frame's places. -/
theorem VR.open' {w : World} {M : Nat → Option Nat} {x v} (h : VR w M noV noG x v) (V G) : VR w M V G x v :=
  h.locs (fun _ _ h => by cases h) (fun _ _ h => by cases h)

theorem VR.cell1 {w M V G x v} (h : VR w M V G x v) (hx : match x with | .sc u => u.oneCell' = true | .ref .. | .arr .. | .rd _ | .nil0 | .sl _ | .own .. | .clo .. | .bnd .. | .ifc .. => True | _ => False) : v.oneCell' = true := by
  cases h with
  | own id es v h => cases h <;> rfl
  | sc v => exact hx
  | any v => exact hx.elim
  | agg => exact hx.elim
  | tup => exact hx.elim
  | _ => rfl

/-- A value that may leave the frame: no pointer to a local object; a growing slice as it stands. -/
def AV.close : AV → Option AV
  | .any => some .any
  | .sc v => some (.sc v)
  | .rd cs => some (.rd cs)
  | .nil0 => some .nil0
  | .sl es => some (.sl es)
  | .own _ es => some (.sl es)
  | .agg cs => (closeL cs).map .agg
  | .tup cs => (closeL cs).map .tup
  | .clo f cs => (closeL cs).map (.clo f)
  | .bnd f cs => (closeL cs).map (.bnd f)
  | .ifc t x => x.close.map (.ifc t)
  | .ref _ _ => none
  | .arr .. => none
where
  closeL : List AV → Option (List AV)
    | [] => some []
    | c :: cs => match c.close, closeL cs with
      | some d, some ds => some (d :: ds)
      | _, _ => none

theorem closeL_get : ∀ (cs ds : List AV), AV.close.closeL cs = some ds → cs.length = ds.length ∧ ∀ (i : Nat) (c d : AV), cs[i]? = some c → ds[i]? = some d → c.close = some d := by
  intro cs
  induction cs with
  | nil => intro ds h; simp [AV.close.closeL] at h; subst h; exact ⟨rfl, by simp⟩
  | cons c cs ih =>
    intro ds h
    simp only [AV.close.closeL] at h
    split at h
    · rename_i d ds' h1 h2
      simp at h; subst h
      obtain ⟨hl, hg⟩ := ih ds' h2
      refine ⟨by simp [hl], fun i c' d' hc hd => ?_⟩
      cases i with
      | zero => simp at hc hd; subst hc; subst hd; exact h1
      | succ i => simp at hc hd; exact hg i c' d' hc hd
    · simp at h

theorem VR.closed {w M V G x v} (h : VR w M V G x v) : ∀ y, x.close = some y → ∀ V' G', VR w M V' G' y v := by
  induction h with
  | any v => intro y hy V' G'; simp [AV.close] at hy; subst hy; exact .any v
  | sc v => intro y hy V' G'; simp [AV.close] at hy; subst hy; exact .sc v
  | agg cs vs hl h1 _ ih =>
    intro y hy V' G'
    simp only [AV.close, Option.map_eq_some_iff] at hy
    obtain ⟨ds, hd, rfl⟩ := hy
    obtain ⟨hl2, hg⟩ := closeL_get cs ds hd
    refine .agg ds vs (by omega) h1 fun i d v hdi hvi => ?_
    have hi : i < cs.length := by have := (List.getElem?_eq_some_iff.1 hdi).1; omega
    exact ih i cs[i] v (List.getElem?_eq_getElem hi) hvi d (hg i _ d (List.getElem?_eq_getElem hi) hdi) V' G'
  | tup cs vs hl _ ih =>
    intro y hy V' G'
    simp only [AV.close, Option.map_eq_some_iff] at hy
    obtain ⟨ds, hd, rfl⟩ := hy
    obtain ⟨hl2, hg⟩ := closeL_get cs ds hd
    refine .tup ds vs (by omega) fun i d v hdi hvi => ?_
    have hi : i < cs.length := by have := (List.getElem?_eq_some_iff.1 hdi).1; omega
    exact ih i cs[i] v (List.getElem?_eq_getElem hi) hvi d (hg i _ d (List.getElem?_eq_getElem hi) hdi) V' G'
  | ref id off b h => intro y hy; simp [AV.close] at hy
  | arr id off n c b cap h h1 hc hs => intro y hy; simp [AV.close] at hy
  | rd cs b off X hc hv _ => intro y hy V' G'; simp [AV.close] at hy; subst hy; exact .rd cs b off X hc hv
  | sl0 a cap => intro y hy V' G'; simp [AV.close] at hy; subst hy; exact .sl0 a cap
  | nil0 a => intro y hy V' G'; simp [AV.close] at hy; subst hy; exact .nil0 a
  | sl es z b off cap X hz hcap hc hv _ => intro y hy V' G'; simp [AV.close] at hy; subst hy; exact .sl es z b off cap X hz hcap hc hv
  | own id es v h g hg hle heq ih => intro y hy V' G'; simp [AV.close] at hy; subst hy; exact ih (.sl es) rfl V' G'
  | clo f cs vs hl _ ih =>
    intro y hy V' G'
    simp only [AV.close, Option.map_eq_some_iff] at hy
    obtain ⟨ds, hd, rfl⟩ := hy
    obtain ⟨hl2, hg⟩ := closeL_get cs ds hd
    refine .clo f ds vs (by omega) fun i d v hdi hvi => ?_
    have hi : i < cs.length := by have := (List.getElem?_eq_some_iff.1 hdi).1; omega
    exact ih i cs[i] v (List.getElem?_eq_getElem hi) hvi d (hg i _ d (List.getElem?_eq_getElem hi) hdi) V' G'
  | bnd f cs vs hl _ ih =>
    intro y hy V' G'
    simp only [AV.close, Option.map_eq_some_iff] at hy
    obtain ⟨ds, hd, rfl⟩ := hy
    obtain ⟨hl2, hg⟩ := closeL_get cs ds hd
    refine .bnd f ds vs (by omega) fun i d v hdi hvi => ?_
    have hi : i < cs.length := by have := (List.getElem?_eq_some_iff.1 hdi).1; omega
    exact ih i cs[i] v (List.getElem?_eq_getElem hi) hvi d (hg i _ d (List.getElem?_eq_getElem hi) hdi) V' G'
  | ifc t x v _ ih =>
    intro y hy V' G'
    simp only [AV.close, Option.map_eq_some_iff] at hy
    obtain ⟨x', hx, rfl⟩ := hy
    exact .ifc t x' v (ih x' hx V' G')

/-- The same value, its growing slices named anew. -/
def AV.ren (id : OId) : AV → AV
  | .own _ es => .own id es
  | .agg cs => .agg (renL id cs)
  | .tup cs => .tup (renL id cs)
  | .clo f cs => .clo f (renL id cs)
  | .bnd f cs => .bnd f (renL id cs)
  | .ifc t x => .ifc t (x.ren id)
  | x => x
where
  renL (id : OId) : List AV → List AV
    | [] => []
    | c :: cs => c.ren id :: renL id cs

theorem renL_get (id : OId) : ∀ (cs : List AV), (AV.ren.renL id cs).length = cs.length ∧ ∀ i : Nat, (AV.ren.renL id cs)[i]? = cs[i]?.map (AV.ren id) := by
  intro cs
  induction cs with
  | nil => exact ⟨rfl, by simp [AV.ren.renL]⟩
  | cons c cs ih =>
    refine ⟨by simp [AV.ren.renL, ih.1], fun i => ?_⟩
    cases i with
    | zero => simp [AV.ren.renL]
    | succ i => simp [AV.ren.renL, ih.2 i]

/-! ## Abstract states -/

structure AS where
  n : Nat
  tm : Nat → AV
  va : OId → Option (List AV)
  gr : OId → Option (Nat × Nat × TypeId)
  gen : Nat → Nat

def upd {α : Type} (f : Nat → α) (d : Nat) (v : α) : Nat → α := fun i => bif Nat.beq i d then v else f i
def updO {α : Type} (f : OId → Option α) (d : OId) (v : Option α) : OId → Option α := fun i => bif Nat.beq i.1 d.1 && Nat.beq i.2 d.2 then v else f i

theorem beq_ff {i d : Nat} (h : i ≠ d) : Nat.beq i d = false := by
  cases hb : Nat.beq i d with
  | false => rfl
  | true => exact absurd (Nat.eq_of_beq_eq_true hb) h

theorem upd_same {α : Type} (f : Nat → α) (d : Nat) (v : α) : upd f d v d = v := by simp [upd]
theorem upd_ne {α : Type} (f : Nat → α) {d i : Nat} (v : α) (h : i ≠ d) : upd f d v i = f i := by
  have : Nat.beq i d = false := beq_ff h
  simp [upd, this]
theorem updO_same {α : Type} (f : OId → Option α) (d : OId) (v : Option α) : updO f d v d = v := by simp [updO]
theorem updO_ne {α : Type} (f : OId → Option α) {d i : OId} (v : Option α) (h : i ≠ d) : updO f d v i = f i := by
  have : ¬ (i.1 = d.1 ∧ i.2 = d.2) := fun h' => h (Prod.ext h'.1 h'.2)
  simp only [updO]
  rw [show (Nat.beq i.1 d.1 && Nat.beq i.2 d.2) = false by
    simp only [Bool.and_eq_false_iff]
    by_cases h1 : i.1 = d.1
    · exact .inr (beq_ff fun h2 => this ⟨h1, h2⟩)
    · exact .inl (beq_ff h1)]
  rfl

def AS.ev (σ : AS) : Operand → AV
  | .tmp t => σ.tm t
  | .const (.slice none 0 0) => .sl []
  | .const v => .sc v
  | .global _ => .any
  | .func f => .clo f []

/-- Where the frame's objects lie. -/
structure Wit where
  M : Nat → Option Nat
  V : OId → Option Nat
  G : OId → Option GL
  ow : Nat → Option (Bool × OId)

/-- What was there when the frame began: m: of which block what may be written; t: which of the old blocks the frame may change; v: where the variables lie that are lent to it. -/
structure MT where
  m : Nat → Option Nat
  t : Nat → Bool
  v : OId → Option Nat

/-- All that was there is as it was, but for what the frame may change. -/
structure Kept (w0 : World) (M0 : MT) (w : World) : Prop where
  os : w.os = w0.os
  tape : w.tape = w0.tape
  output : w.output = w0.output
  size : w0.heap.size ≤ w.heap.size
  block : ∀ k, k < w0.heap.size → M0.t k = false → w.heap[k]? = w0.heap[k]?
  sz : ∀ k n, Sz w0 k n → Sz w k n

theorem Kept.refl (w : World) (M0 : MT) : Kept w M0 w := ⟨rfl, rfl, rfl, Nat.le_refl _, fun _ _ _ => rfl, fun _ _ h => h⟩
theorem Kept.trans {w0 : World} {M0 : MT} {w w' : World} (h : Kept w0 M0 w) (k : Below w0.heap.size w w') : Kept w0 M0 w' :=
  ⟨k.os.trans h.os, k.tape.trans h.tape, k.output.trans h.output, Nat.le_trans h.size k.size, fun i hi ht => (k.block i hi).trans (h.block i hi ht), fun i n hi => (h.sz i n hi).of_eq (k.block i hi.lt)⟩
theorem Kept.drew {w0 : World} {M0 : MT} {w : World} (h : Kept w0 M0 w) : Kept w0 M0 w.drew := ⟨h.os, h.tape, h.output, h.size, h.block, h.sz⟩
theorem Kept.alloc {w0 : World} {M0 : MT} {w : World} (h : Kept w0 M0 w) (hB : w0.heap.size ≤ w.heap.size) (o : Obj) : Kept w0 M0 (w.alloc o) :=
  h.trans ⟨rfl, rfl, rfl, by simp, fun k hk => Below.heap_alloc _ _ _ (by omega)⟩
theorem Kept.below {w0 : World} {M0 : MT} {w : World} (h : Kept w0 M0 w) (ht : ∀ k, M0.t k = false) : Below w0.heap.size w0 w := ⟨h.os, h.tape, h.output, h.size, fun k hk => h.block k hk (ht k)⟩
/-- The frame may change block b. -/
def Mine (w0 : World) (M0 : MT) (b : Nat) : Prop := w0.heap.size ≤ b ∨ M0.t b = true
theorem Mine.ne {w0 : World} {M0 : MT} {b b' : Nat} (h : Mine w0 M0 b) (h1 : b' < w0.heap.size) (h2 : M0.t b' = false) : b' ≠ b := fun e => by
  subst e
  rcases h with h | h
  · omega
  · rw [h2] at h; cases h

/-- The frame began in w0, where M0 said what may be written; now the memory is w, the temporaries a; σ says what is known of them. -/
structure RelW (w0 : World) (M0 : MT) (σ : AS) (a : Act) (w : World) (x : Wit) : Prop where
  below : Kept w0 M0 w
  defers : a.defers = []
  size : a.tmps.size = σ.n
  tm : ∀ i, VR w x.M x.V x.G (σ.tm i) (a.tmps.getD i undef)
  m0 : ∀ b, b < w0.heap.size → M0.t b = false → x.M b = M0.m b
  mlt : ∀ b, w.heap.size ≤ b → x.M b = none ∧ x.ow b = none
  fresh : ∀ d g, σ.gen d ≤ g → x.V (d, g) = none ∧ x.G (d, g) = none
  lent : ∀ (id : OId) b, M0.v id = some b → σ.n ≤ id.1 ∧ id.2 = 0 ∧ 0 < σ.gen id.1 ∧ x.V id = some b
  va : ∀ id cs, σ.va id = some cs → ∃ b vs ty, x.V id = some b ∧ Mine w0 M0 b ∧ x.ow b = some (true, id) ∧ x.M b = some 0 ∧
    w.heap[b]? = some (.cells vs ty (0, 0)) ∧ cs.length ≤ vs.size ∧ ∀ (j : Nat) c, cs[j]? = some c → ∃ v, vs[j]? = some v ∧ v.oneCell' = true ∧ VR w x.M x.V x.G c v
  vgen : ∀ d g cs, σ.va (d, g) = some cs → g < σ.gen d
  gr : ∀ id n z e, σ.gr id = some (n, z, e) → ∃ l, x.G id = some l ∧ l.cnt = n ∧ n ≤ l.cap ∧ l.cap ≤ maxLen ∧ (l.blk = none → l.cap = 0) ∧
    ∀ b, l.blk = some b → Mine w0 M0 b ∧ x.ow b = some (false, id) ∧ x.M b = some (n * z) ∧ ∃ vs, w.heap[b]? = some (.cells vs e (0, 0)) ∧ vs.size = l.cap * z
  ggen : ∀ d g nz, σ.gr (d, g) = some nz → g < σ.gen d

def Rel (w0 : World) (M0 : MT) (σ : AS) (a : Act) (w : World) : Prop := ∃ x, RelW w0 M0 σ a w x


/-- A value on its way out of the frame: the growing slice id becomes the caller's own; others can only be read. -/
def AV.exp (id : OId) : AV → Option AV
  | .any => some .any
  | .sc v => some (.sc v)
  | .rd cs => some (.rd cs)
  | .nil0 => some .nil0
  | .sl es => some (.sl es)
  | .own id' es => some (bif Nat.beq id'.1 id.1 && Nat.beq id'.2 id.2 then .own (0, 0) es else .sl es)
  | .agg cs => (expL id cs).map .agg
  | .tup cs => (expL id cs).map .tup
  | .clo f cs => (expL id cs).map (.clo f)
  | .bnd f cs => (expL id cs).map (.bnd f)
  | .ifc t x => (x.exp id).map (.ifc t)
  | .ref _ _ => none
  | .arr .. => none
where
  expL (id : OId) : List AV → Option (List AV)
    | [] => some []
    | c :: cs => match c.exp id, expL id cs with
      | some d, some ds => some (d :: ds)
      | _, _ => none

theorem expL_get (id : OId) : ∀ (cs ds : List AV), AV.exp.expL id cs = some ds → cs.length = ds.length ∧ ∀ (i : Nat) (c d : AV), cs[i]? = some c → ds[i]? = some d → c.exp id = some d := by
  intro cs
  induction cs with
  | nil => intro ds h; simp [AV.exp.expL] at h; subst h; exact ⟨rfl, by simp⟩
  | cons c cs ih =>
    intro ds h
    simp only [AV.exp.expL] at h
    split at h
    · rename_i d ds' h1 h2
      simp at h; subst h
      obtain ⟨hl, hg⟩ := ih ds' h2
      refine ⟨by simp [hl], fun i c' d' hc hd => ?_⟩
      cases i with
      | zero => simp at hc hd; subst hc; subst hd; exact h1
      | succ i => simp at hc hd; exact hg i c' d' hc hd
    · simp at h

theorem VR.expd {w M V G x v} {id : OId} {l : GL} (hid : G id = some l) (h : VR w M V G x v) : ∀ y, x.exp id = some y → VR w M noV (updO noG (0, 0) (some l)) y v := by
  induction h with
  | any v => intro y hy; simp [AV.exp] at hy; subst hy; exact .any v
  | sc v => intro y hy; simp [AV.exp] at hy; subst hy; exact .sc v
  | agg cs vs hl h1 _ ih =>
    intro y hy
    simp only [AV.exp, Option.map_eq_some_iff] at hy
    obtain ⟨ds, hd, rfl⟩ := hy
    obtain ⟨hl2, hg⟩ := expL_get id cs ds hd
    refine .agg ds vs (by omega) h1 fun i d v hdi hvi => ?_
    have hi : i < cs.length := by have := (List.getElem?_eq_some_iff.1 hdi).1; omega
    exact ih i cs[i] v (List.getElem?_eq_getElem hi) hvi hid d (hg i _ d (List.getElem?_eq_getElem hi) hdi)
  | tup cs vs hl _ ih =>
    intro y hy
    simp only [AV.exp, Option.map_eq_some_iff] at hy
    obtain ⟨ds, hd, rfl⟩ := hy
    obtain ⟨hl2, hg⟩ := expL_get id cs ds hd
    refine .tup ds vs (by omega) fun i d v hdi hvi => ?_
    have hi : i < cs.length := by have := (List.getElem?_eq_some_iff.1 hdi).1; omega
    exact ih i cs[i] v (List.getElem?_eq_getElem hi) hvi hid d (hg i _ d (List.getElem?_eq_getElem hi) hdi)
  | ref id off b h => intro y hy; simp [AV.exp] at hy
  | arr id off n c b cap h h1 hc hs => intro y hy; simp [AV.exp] at hy
  | rd cs b off X hc hv _ => intro y hy; simp [AV.exp] at hy; subst hy; exact .rd cs b off X hc hv
  | sl0 a cap => intro y hy; simp [AV.exp] at hy; subst hy; exact .sl0 a cap
  | nil0 a => intro y hy; simp [AV.exp] at hy; subst hy; exact .nil0 a
  | sl es z b off cap X hz hcap hc hv _ => intro y hy; simp [AV.exp] at hy; subst hy; exact .sl es z b off cap X hz hcap hc hv
  | own id' es v h g hg hle heq _ =>
    intro y hy
    simp only [AV.exp, Option.some.injEq] at hy
    subst hy
    cases hb : Nat.beq id'.1 id.1 && Nat.beq id'.2 id.2 with
    | false => exact h.open' _ _
    | true =>
      simp only [Bool.and_eq_true] at hb
      have : id' = id := Prod.ext (Nat.eq_of_beq_eq_true hb.1) (Nat.eq_of_beq_eq_true hb.2)
      subst this
      have : g = l := Option.some.inj (hg.symm.trans hid)
      subst this
      exact .own _ es v h g (updO_same _ _ _) hle heq
  | clo f cs vs hl _ ih =>
    intro y hy
    simp only [AV.exp, Option.map_eq_some_iff] at hy
    obtain ⟨ds, hd, rfl⟩ := hy
    obtain ⟨hl2, hg⟩ := expL_get id cs ds hd
    refine .clo f ds vs (by omega) fun i d v hdi hvi => ?_
    have hi : i < cs.length := by have := (List.getElem?_eq_some_iff.1 hdi).1; omega
    exact ih i cs[i] v (List.getElem?_eq_getElem hi) hvi hid d (hg i _ d (List.getElem?_eq_getElem hi) hdi)
  | bnd f cs vs hl _ ih =>
    intro y hy
    simp only [AV.exp, Option.map_eq_some_iff] at hy
    obtain ⟨ds, hd, rfl⟩ := hy
    obtain ⟨hl2, hg⟩ := expL_get id cs ds hd
    refine .bnd f ds vs (by omega) fun i d v hdi hvi => ?_
    have hi : i < cs.length := by have := (List.getElem?_eq_some_iff.1 hdi).1; omega
    exact ih i cs[i] v (List.getElem?_eq_getElem hi) hvi hid d (hg i _ d (List.getElem?_eq_getElem hi) hdi)
  | ifc t x v _ ih =>
    intro y hy
    simp only [AV.exp, Option.map_eq_some_iff] at hy
    obtain ⟨x', hx, rfl⟩ := hy
    exact .ifc t x' v (ih hid x' hx)

end Go.Ab

/- What each operation does to an abstract state. Nothing here speaks of one program. -/
namespace Go.Ab
open Go.RowKit

inductive Ev where
  | val (v : AV)
  | alloc (cs : List AV)
  | fresh (v : AV) (n z : Nat) (e : TypeId)
  | grow (id : OId) (es : List (List AV)) (z : Nat) (e : TypeId)
  | stor (id : OId) (cs : List AV)
  /-- A new variable, told by a slice of it. -/
  | allocA (cs : List AV) (n : Nat)
  /-- What variables that were lent hold now; a value. -/
  | lend (ids : List OId) (ls : List (List AV)) (v : AV)
  /-- A variable is used up: nothing is known of it any more; a value. -/
  | spend (id : OId) (v : AV)

def AS.put (σ : AS) (d : Option Tmp) (v : AV) : AS :=
  match d with
  | some d => { σ with tm := upd σ.tm d v }
  | none => σ

def AS.setVas (σ : AS) : List OId → List (List AV) → AS
  | id :: ids, cs :: ls => ({ σ with va := updO σ.va id (some cs) } : AS).setVas ids ls
  | _, _ => σ

def AS.app (σ : AS) (d : Option Tmp) : Ev → AS
  | .val v => σ.put d v
  | .alloc cs =>
    match d with
    | some d => { σ with tm := upd σ.tm d (.ref (d, σ.gen d) 0), va := updO σ.va (d, σ.gen d) (some cs), gen := upd σ.gen d (σ.gen d + 1) }
    | none => σ
  | .fresh v n z e =>
    match d with
    | some d => { σ with tm := upd σ.tm d (v.ren (d, σ.gen d)), gr := updO σ.gr (d, σ.gen d) (some (n, z, e)), gen := upd σ.gen d (σ.gen d + 1) }
    | none => σ
  | .grow id es z e => { σ with gr := updO σ.gr id (some (es.length, z, e)) }.put d (.own id es)
  | .stor id cs => { σ with va := updO σ.va id (some cs) }.put d (.sc undef)
  | .allocA cs n =>
    match d with
    | some d => { σ with tm := upd σ.tm d (.arr (d, σ.gen d) 0 n n), va := updO σ.va (d, σ.gen d) (some cs), gen := upd σ.gen d (σ.gen d + 1) }
    | none => σ
  | .lend ids ls v => (σ.setVas ids ls).put d v
  | .spend id v => ({ σ with va := updO σ.va id none } : AS).put d v

def okDst (σ : AS) (d : Option Tmp) : Prop := match d with | some d => d < σ.n | none => True

/-- The operation, carried out where σ tells the memory and the temporaries, does e (and does not stop). -/
def OpSeq (P : Program) (w0 : World) (M0 : MT) (σ : AS) (o : Oper) (e : Ev) : Prop :=
  ∀ a w, Rel w0 M0 σ a w → ∀ K Q, (∀ a' w', Rel w0 M0 (σ.app o.dst e) a' w' → K a' w') → o.wp P a w K Q

structure Agree (σ σ' : AS) (op : Op) : Prop where
  n : σ'.n = σ.n
  ev : ∀ x ∈ op.operands, σ'.ev x = σ.ev x
  va : ∀ x ∈ op.operands, ∀ id off cs, σ.ev x = .ref id off → σ.va id = some cs → σ'.va id = some cs

/-- .. and also in whatever state that tells the same of its operands. -/
def OpAny (P : Program) (w0 : World) (M0 : MT) (σ : AS) (o : Oper) (e : Ev) : Prop := ∀ σ', Agree σ σ' o.op → OpSeq P w0 M0 σ' o e

theorem Agree.refl (σ : AS) (op : Op) : Agree σ σ op := ⟨rfl, fun _ _ => rfl, fun _ _ _ _ _ _ h => h⟩
theorem OpAny.seq {P w0 M0 σ o e} (h : OpAny P w0 M0 σ o e) : OpSeq P w0 M0 σ o e := h σ (.refl σ _)

section rel
variable {w0 : World} {M0 : MT} {σ : AS} {a : Act} {w : World} {x : Wit}

theorem RelW.ev (h : RelW w0 M0 σ a w x) (o : Operand) : VR w x.M x.V x.G (σ.ev o) (a.eval o) := by
  cases o with
  | tmp t => exact h.tm t
  | const v => unfold AS.ev; split <;> first | exact .sl0 _ _ | exact .sc _ | (rename_i h1 h2; simp_all [Act.eval]; done) | (rename_i h1; cases h1 ; first | exact .sl0 _ _ | exact .sc _)
  | global g => exact .any _
  | func f => exact .clo f [] [] rfl (by simp)

theorem getD_put (a : Act) (d i : Nat) (v : Value) (hd : d < a.tmps.size) : (a.put (some d) v).tmps.getD i undef = if i = d then v else a.tmps.getD i undef := by
  simp only [Act.put]
  by_cases h : i = d
  · subst h; simp [Array.getD, hd]
  · simp only [Array.getD_eq_getD_getElem?, Array.getElem?_setIfInBounds, if_neg h]
    rw [if_neg (Ne.symm h)]

theorem RelW.put (h : RelW w0 M0 σ a w x) {d : Option Tmp} {v : AV} {cv : Value} (hd : okDst σ d) (hv : VR w x.M x.V x.G v cv) :
    RelW w0 M0 (σ.put d v) (a.put d cv) w x := by
  cases d with
  | none => exact h
  | some d =>
    refine { h with defers := h.defers, size := by show (a.tmps.setIfInBounds d cv).size = σ.n; rw [Array.size_setIfInBounds]; exact h.size, tm := fun i => ?_ }
    have hs : d < a.tmps.size := by rw [h.size]; exact hd
    rw [getD_put a d i cv hs]
    show VR w x.M x.V x.G (upd σ.tm d v i) _
    by_cases hi : i = d
    · subst hi; rw [upd_same, if_pos rfl]; exact hv
    · rw [upd_ne _ _ hi, if_neg hi]; exact h.tm i

theorem cell_lt {b off : Nat} {y : Value} (hi : Imm w x.M b off y) : b < w.heap.size := by
  have h1 := hi.1
  unfold World.cell? at h1
  rcases Nat.lt_or_ge b w.heap.size with h | h
  · exact h
  · simp [Array.getElem?_eq_none h] at h1
end rel

/-- A value is made, the memory stays. -/
theorem opAny_val {P : Program} {w0 : World} {M0 : MT} {σ : AS} {o : Oper} {v : AV} (hd : okDst σ o.dst)
    (h : ∀ σ' a w x, Agree σ σ' o.op → RelW w0 M0 σ' a w x → ∃ cv, (execOp a.eval o).run P w = .ok (.value cv) w ∧ VR w x.M x.V x.G v cv) : OpAny P w0 M0 σ o (.val v) := by
  intro σ' hag a w ⟨x, hr⟩ K Q hK
  obtain ⟨cv, h1, h2⟩ := h σ' a w x hag hr
  unfold Oper.wp
  rw [h1, Oper.upon_value]
  refine hK _ _ ⟨x, hr.put ?_ h2⟩
  cases hdd : o.dst with
  | none => trivial
  | some d => rw [hdd] at hd; show d < σ'.n; rw [hag.n]; exact hd

theorem run_value {P : Program} {w w' : World} {s : Sem Value} {cv : Value} (h : s.run P w = .ok cv w') :
    (do pure (.value (← s)) : Sem Next).run P w = .ok (.value cv) w' := by
  simp [h, Result.andThen]

section
variable {P : Program} {w0 : World} {M0 : MT} {σ : AS} {d : Option Tmp} {ty : TypeId} {pos : String} {after : Array Edge} {guard : Option (Nat × Bool)}

theorem ok_move (x : Operand) (hd : okDst σ d) : OpAny P w0 M0 σ ⟨d, .move x, ty, pos, after, guard⟩ (.val (σ.ev x)) :=
  opAny_val hd fun σ' a w X hag hr => ⟨a.eval x, rfl, by rw [← hag.ev x (by simp [Op.operands])]; exact hr.ev x⟩

theorem ok_assign (x : Operand) (hd : okDst σ d) : OpAny P w0 M0 σ ⟨d, .assign x, ty, pos, after, guard⟩ (.val (σ.ev x)) :=
  opAny_val hd fun σ' a w X hag hr => ⟨a.eval x, rfl, by rw [← hag.ev x (by simp [Op.operands])]; exact hr.ev x⟩

theorem ok_pick (c x y : Operand) (b : Bool) (hc : σ.ev c = .sc (.bool b)) (hd : okDst σ d) :
    OpAny P w0 M0 σ ⟨d, .pick c x y, ty, pos, after, guard⟩ (.val (bif b then σ.ev x else σ.ev y)) :=
  opAny_val hd fun σ' a w X hag hr => by
    have h1 := hr.ev c
    rw [hag.ev c (by simp [Op.operands]), hc] at h1
    generalize hcv : a.eval c = cv at h1
    cases h1
    refine ⟨if b then a.eval x else a.eval y, by simp [execOp, hcv, asBool], ?_⟩
    cases b
    · rw [← hag.ev y (by simp [Op.operands])]; exact hr.ev y
    · rw [← hag.ev x (by simp [Op.operands])]; exact hr.ev x

end
end Go.Ab

/- Operations that look into memory and leave it as it is. Nothing here speaks of one program. -/
namespace Go.Ab
open Go.RowKit

/-- Cells that hold what is told. -/
def Cells (w : World) (M : Nat → Option Nat) (V : OId → Option Nat) (G : OId → Option GL) (b off : Nat) (cs : List AV) : Prop :=
  ∀ (j : Nat) c, cs[j]? = some c → ∃ v, w.cell? ⟨b, off + j, none⟩ = some v ∧ v.oneCell' = true ∧ VR w M V G c v

theorem Cells.drop {w M V G b off cs} (h : Cells w M V G b off cs) (k : Nat) : Cells w M V G b (off + k) (cs.drop k) := by
  intro j c hj
  rw [List.getElem?_drop] at hj
  obtain ⟨v, h1, h2⟩ := h _ _ hj
  exact ⟨v, by rw [Nat.add_assoc]; exact h1, h2⟩

def partA (agg : Bool) (size : Nat) (cs : List AV) : Option AV :=
  match agg with
  | true => match Nat.ble size cs.length with
    | true => some (.agg (cs.take size))
    | false => none
  | false => match cs with
    | c :: _ => some c
    | [] => none

theorem addr_add (b off j : Nat) : (⟨b, off, none⟩ : Addr).add j = ⟨b, off + j, none⟩ := by
  unfold Addr.add; split <;> simp_all

theorem run_loadAt_cells {P : Program} {w M V G b off cs} {t sz : Nat} {ag : Bool} {v : AV} (hs : ∀ w, (sizeOf t).run P w = .ok sz w) (ha : ∀ w, (isAgg t).run P w = .ok ag w)
    (h : Cells w M V G b off cs) (hp : partA ag sz cs = some v) : ∃ cv, (Instr.loadAt t (.pointer (some ⟨b, off, none⟩))).run P w = .ok cv w ∧ VR w M V G v cv := by
  cases ag with
  | false =>
    cases cs with
    | nil => simp [partA] at hp
    | cons c cs =>
      simp [partA] at hp
      subst hp
      obtain ⟨u, h1, _, h3⟩ := h 0 c rfl
      rw [Nat.add_zero] at h1
      exact ⟨u, by simp [Instr.loadAt, Instr.sureAddr, loadVar, ha, Result.andThen, h1] , h3⟩
  | true =>
    simp only [partA] at hp
    split at hp
    · rename_i hle
      have hle := Nat.le_of_ble_eq_true hle
      simp at hp
      subst hp
      have hX : ∀ j, j < sz → ∃ u, w.cell? ⟨b, off + j, none⟩ = some u ∧ u.oneCell' = true ∧ ∀ c, cs[j]? = some c → VR w M V G c u := fun j hj => by
        have hj' : j < cs.length := by omega
        obtain ⟨u, h1, h2, h3⟩ := h j cs[j] (List.getElem?_eq_getElem hj')
        exact ⟨u, h1, h2, fun c hc => by rw [List.getElem?_eq_getElem hj'] at hc; cases hc; exact h3⟩
      let X : Nat → Value := fun j => (w.cell? ⟨b, off + j, none⟩).getD undef
      have hXc : ∀ j, j < sz → w.cell? ((⟨b, off, none⟩ : Addr).add j) = some (X j) := fun j hj => by
        obtain ⟨u, h1, _⟩ := hX j hj
        rw [addr_add]; simp [X, h1]
      have hrun := run_loadCells (P := P) w ⟨b, off, none⟩ sz X hXc
      refine ⟨.agg ((List.range sz).map X).toArray, by simp [Instr.loadAt, Instr.sureAddr, loadVar, ha, hs, Result.andThen, hrun], ?_⟩
      refine .agg _ _ (by simp; omega) (List.all_eq_true.2 fun u hu => ?_) fun i c u hc hu => ?_
      · obtain ⟨j, hj, rfl⟩ := List.mem_map.1 hu
        obtain ⟨u, h1, h2, _⟩ := hX j (List.mem_range.1 hj)
        simp [X, h1, h2]
      · rw [List.getElem?_take] at hc
        split at hc
        · rename_i hi
          obtain ⟨u', h1, _, h3⟩ := hX i hi
          simp [List.getElem?_map, List.getElem?_range hi] at hu
          rw [← hu]
          simp only [X, h1, Option.getD_some]
          exact h3 c hc
        · cases hc
    · cases hp

theorem RelW.cells {w0 M0 σ a w x} (h : RelW w0 M0 σ a w x) {id : OId} {cs : List AV} (hv : σ.va id = some cs) :
    ∃ b, x.V id = some b ∧ Cells w x.M x.V x.G b 0 cs := by
  obtain ⟨b, vs, ty, h1, _, _, _, h5, h6, h7⟩ := h.va id cs hv
  refine ⟨b, h1, fun j c hj => ?_⟩
  obtain ⟨v, g1, g2, g3⟩ := h7 j c hj
  exact ⟨v, by simp [World.cell?, h5, g1], g2, g3⟩

theorem rd_cells {w M V G b off cs} {X : Nat → Value} (hc : ∀ (j : Nat) c, cs[j]? = some c → Imm w M b (off + j) (X j))
    (hv : ∀ (j : Nat) c, cs[j]? = some c → VR w M noV noG c (X j)) : Cells w M V G b off cs :=
  fun j c hj => ⟨X j, (hc j c hj).1, (hc j c hj).2.1, (hv j c hj).open' _ _⟩

section
variable {P : Program} {w0 : World} {M0 : MT} {σ : AS} {d : Option Tmp} {ty : TypeId} {pos : String} {after : Array Edge} {guard : Option (Nat × Bool)}

theorem ok_load_ref {t sz off : Nat} {ag : Bool} {id : OId} {cs : List AV} {v : AV} (x : Operand) (hx : σ.ev x = .ref id off) (hv : σ.va id = some cs)
    (hs : ∀ w, (sizeOf t).run P w = .ok sz w) (ha : ∀ w, (isAgg t).run P w = .ok ag w) (hp : partA ag sz (cs.drop off) = some v) (hd : okDst σ d) :
    OpAny P w0 M0 σ ⟨d, .load t x, ty, pos, after, guard⟩ (.val v) :=
  opAny_val hd fun σ' a w X hag hr => by
    have h1 := hr.ev x
    rw [hag.ev x (by simp [Op.operands]), hx] at h1
    generalize hcv : a.eval x = cv at h1
    cases h1 with
    | ref _ _ b hb =>
      obtain ⟨b', hb', hc⟩ := hr.cells (id := id) (cs := cs) (hag.va x (by simp [Op.operands]) id off cs hx hv)
      have : b = b' := Option.some.inj (hb.symm.trans hb')
      subst this
      have hc' := hc.drop off
      rw [Nat.zero_add] at hc'
      obtain ⟨cv, g1, g2⟩ := run_loadAt_cells hs ha hc' hp
      exact ⟨cv, by simp only [execOp, hcv]; exact run_value g1, g2⟩

theorem ok_load_rd {t sz : Nat} {ag : Bool} {cs : List AV} {v : AV} (x : Operand) (hx : σ.ev x = .rd cs)
    (hs : ∀ w, (sizeOf t).run P w = .ok sz w) (ha : ∀ w, (isAgg t).run P w = .ok ag w) (hp : partA ag sz cs = some v) (hd : okDst σ d) :
    OpAny P w0 M0 σ ⟨d, .load t x, ty, pos, after, guard⟩ (.val v) :=
  opAny_val hd fun σ' a w X hag hr => by
    have h1 := hr.ev x
    rw [hag.ev x (by simp [Op.operands]), hx] at h1
    generalize hcv : a.eval x = cv at h1
    cases h1 with
    | rd _ b off X hc hv =>
      obtain ⟨cv, g1, g2⟩ := run_loadAt_cells hs ha (rd_cells hc hv) hp
      exact ⟨cv, by simp only [execOp, hcv]; exact run_value g1, g2⟩

/-- The field f of struct type t lies off cells behind its beginning, and has a size that is not 0. -/
def FieldAt (P : Program) (t f off sz : Nat) (ag : Bool) : Prop :=
  ∃ fs fd, P.underlying t = some (.struct fs) ∧ fs[f]? = some fd ∧ fd.offset = off ∧ sz ≠ 0 ∧ (∀ w, (sizeOf fd.type).run P w = .ok sz w) ∧ (∀ w, (isAgg fd.type).run P w = .ok ag w)

theorem run_underlying' {P : Program} {t : TypeId} {u : TypeDesc} (h : P.underlying t = some u) (w : World) : (underlying t).run P w = .ok u w := by
  simp [underlying, h]

theorem run_fieldAt {P : Program} {t f off sz : Nat} {ag : Bool} (h : FieldAt P t f off sz ag) (w : World) (b o : Nat) :
    (Instr.fieldAt t (.pointer (some ⟨b, o, none⟩)) f).run P w = .ok (.pointer (some ⟨b, o + off, none⟩)) w := by
  obtain ⟨fs, fd, h1, h2, h3, h4, h5, _⟩ := h
  simp [Instr.fieldAt, run_underlying' h1, h2, Instr.sureAddr, fieldPlace, h5, h4, h3, Result.andThen, addr_add]

theorem ok_fieldAddr_ref {t f off sz o : Nat} {ag : Bool} {id : OId} (x : Operand) (hx : σ.ev x = .ref id o) (hf : FieldAt P t f off sz ag) (hd : okDst σ d) :
    OpAny P w0 M0 σ ⟨d, .fieldAddr t x f, ty, pos, after, guard⟩ (.val (.ref id (o + off))) :=
  opAny_val hd fun σ' a w X hag hr => by
    have h1 := hr.ev x
    rw [hag.ev x (by simp [Op.operands]), hx] at h1
    generalize hcv : a.eval x = cv at h1
    cases h1 with
    | ref _ _ b hb => exact ⟨_, by simp only [execOp, hcv]; exact run_value (run_fieldAt hf w b o), .ref _ _ b hb⟩

theorem ok_fieldAddr_rd {t f off sz : Nat} {ag : Bool} {cs : List AV} (x : Operand) (hx : σ.ev x = .rd cs) (hf : FieldAt P t f off sz ag) (hd : okDst σ d) :
    OpAny P w0 M0 σ ⟨d, .fieldAddr t x f, ty, pos, after, guard⟩ (.val (.rd (cs.drop off))) :=
  opAny_val hd fun σ' a w X hag hr => by
    have h1 := hr.ev x
    rw [hag.ev x (by simp [Op.operands]), hx] at h1
    generalize hcv : a.eval x = cv at h1
    cases h1 with
    | rd _ b o X hc hv =>
      refine ⟨_, by simp only [execOp, hcv]; exact run_value (run_fieldAt hf w b o), .rd _ b (o + off) (fun j => X (off + j)) (fun j c hj => ?_) (fun j c hj => ?_)⟩
      · rw [List.getElem?_drop] at hj; rw [Nat.add_assoc]; exact hc _ _ hj
      · rw [List.getElem?_drop] at hj; exact hv _ _ hj

theorem part_agg {w : World} {M V G} {cs : List AV} {vs : List Value} (hl : cs.length = vs.length) (h1 : vs.all (·.oneCell') = true)
    (h : ∀ (i : Nat) c v, cs[i]? = some c → vs[i]? = some v → VR w M V G c v) {u off sz : Nat} {ag : Bool} {v : AV}
    (hs : ∀ w, (sizeOf u).run P w = .ok sz w) (ha : ∀ w, (isAgg u).run P w = .ok ag w) (hp : partA ag sz (cs.drop off) = some v) :
    ∃ cv, (part u vs.toArray off).run P w = .ok cv w ∧ VR w M V G v cv := by
  cases ag with
  | false =>
    simp only [partA] at hp
    split at hp
    · rename_i c rest hc
      simp at hp; subst hp
      have h0 : cs[off]? = some c := by have := congrArg (·[0]?) hc; simpa [List.getElem?_drop] using this
      have hlt : off < cs.length := (List.getElem?_eq_some_iff.1 h0).1
      have hv : vs[off]? = some vs[off] := List.getElem?_eq_getElem (by omega)
      exact ⟨vs[off], by simp [part, ha, Result.andThen, hv], h off c _ h0 hv⟩
    · cases hp
  | true =>
    simp only [partA] at hp
    split at hp
    · rename_i hle
      have hle := Nat.le_of_ble_eq_true hle
      simp at hp; subst hp
      simp only [List.length_drop] at hle
      refine ⟨.agg ((vs.drop off).take sz).toArray, ?_, .agg _ _ (by simp; omega) (List.all_eq_true.2 fun u hu => ?_) fun i c u hc hu => ?_⟩
      · simp only [part, Sem.run_bind, ha, hs, Result.andThen, if_true, Sem.run_pure]
        congr 2
        apply Array.ext'
        simp [List.extract_eq_take_drop]
      · exact List.all_eq_true.1 h1 u (List.mem_of_mem_drop (List.mem_of_mem_take hu))
      · rw [List.getElem?_take] at hc hu
        split at hc
        · rename_i hi
          rw [if_pos hi, List.getElem?_drop] at hu
          rw [List.getElem?_drop] at hc
          exact h _ c u hc hu
        · cases hc
    · cases hp

theorem ok_field {t f off sz : Nat} {ag : Bool} {cs : List AV} {v : AV} (x : Operand) (hx : σ.ev x = .agg cs) (hf : FieldAt P t f off sz ag)
    (hp : partA ag sz (cs.drop off) = some v) (hd : okDst σ d) : OpAny P w0 M0 σ ⟨d, .field t x f, ty, pos, after, guard⟩ (.val v) :=
  opAny_val hd fun σ' a w X hag hr => by
    have h1 := hr.ev x
    rw [hag.ev x (by simp [Op.operands]), hx] at h1
    generalize hcv : a.eval x = cv at h1
    cases h1 with
    | agg _ vs hl h1 h =>
      obtain ⟨fs, fd, g1, g2, g3, g4, g5, g6⟩ := hf
      subst g3
      obtain ⟨cv, k1, k2⟩ := part_agg (P := P) hl h1 h g5 g6 hp
      refine ⟨cv, ?_, k2⟩
      simp only [execOp, hcv]
      exact run_value (by simp [Instr.field, run_underlying' g1, g2, asAgg, Result.andThen, k1])

theorem ok_extract {vs : List AV} {v : AV} {k : Nat} (x : Operand) (hx : σ.ev x = .tup vs) (hk : vs[k]? = some v) (hd : okDst σ d) :
    OpAny P w0 M0 σ ⟨d, .extract x k, ty, pos, after, guard⟩ (.val v) :=
  opAny_val hd fun σ' a w X hag hr => by
    have h1 := hr.ev x
    rw [hag.ev x (by simp [Op.operands]), hx] at h1
    generalize hcv : a.eval x = cv at h1
    cases h1 with
    | tup _ us hl h =>
      have hlt : k < vs.length := (List.getElem?_eq_some_iff.1 hk).1
      have hu : us[k]? = some us[k] := List.getElem?_eq_getElem (by omega)
      exact ⟨us[k], by simp only [execOp, hcv]; exact run_value (by simp [Instr.extract, hu]), h k v _ hk hu⟩

/-- Values that are known to the last bit. -/
def exact : AV → Option Value
  | .sc v => some v
  | .agg cs => (exactL cs).map fun l => .agg l.toArray
  | .tup cs => (exactL cs).map fun l => .tuple l.toArray
  | .clo f cs => (exactL cs).map fun l => .func (.func f) #[] l.toArray
  | .bnd f cs => (exactL cs).map fun l => .func (.func f) l.toArray #[]
  | .ifc t x => (exact x).map (.iface t)
  | _ => none
where
  exactL : List AV → Option (List Value)
    | [] => some []
    | c :: cs => match exact c, exactL cs with
      | some v, some l => some (v :: l)
      | _, _ => none

theorem exactL_get : ∀ (cs : List AV) (vs : List Value), exact.exactL cs = some vs → cs.length = vs.length ∧ ∀ (i : Nat) c v, cs[i]? = some c → vs[i]? = some v → exact c = some v := by
  intro cs
  induction cs with
  | nil => intro vs h; simp [exact.exactL] at h; subst h; exact ⟨rfl, by simp⟩
  | cons c cs ih =>
    intro vs h
    simp only [exact.exactL] at h
    split at h
    · rename_i v l h1 h2
      simp at h; subst h
      obtain ⟨hl, hg⟩ := ih l h2
      refine ⟨by simp [hl], fun i c' v' hc hv => ?_⟩
      cases i with
      | zero => simp at hc hv; subst hc; subst hv; exact h1
      | succ i => simp at hc hv; exact hg i c' v' hc hv
    · simp at h

theorem VR.exact {w M V G x v} (h : VR w M V G x v) : ∀ u, Ab.exact x = some u → v = u := by
  have key : ∀ (cs : List AV) (vs : List Value), cs.length = vs.length → (∀ (i : Nat) c v, cs[i]? = some c → vs[i]? = some v → ∀ u, Ab.exact c = some u → v = u) →
      ∀ l, exact.exactL cs = some l → vs = l := fun cs vs hl ih l he => by
    obtain ⟨h2, h3⟩ := exactL_get cs l he
    apply List.ext_getElem (by omega)
    intro i hi1 hi2
    exact ih i cs[i] _ (List.getElem?_eq_getElem (by omega)) (List.getElem?_eq_getElem hi1) _ (h3 i cs[i] _ (List.getElem?_eq_getElem (by omega)) (List.getElem?_eq_getElem hi2))
  induction h with
  | sc v => intro u hu; simpa [Ab.exact] using hu
  | agg cs vs hl h1 _ ih =>
    intro u hu
    simp only [Ab.exact, Option.map_eq_some_iff] at hu
    obtain ⟨l, he, rfl⟩ := hu
    rw [key cs vs hl ih l he]
  | tup cs vs hl _ ih =>
    intro u hu
    simp only [Ab.exact, Option.map_eq_some_iff] at hu
    obtain ⟨l, he, rfl⟩ := hu
    rw [key cs vs hl ih l he]
  | clo f cs vs hl _ ih =>
    intro u hu
    simp only [Ab.exact, Option.map_eq_some_iff] at hu
    obtain ⟨l, he, rfl⟩ := hu
    rw [key cs vs hl ih l he]
  | bnd f cs vs hl _ ih =>
    intro u hu
    simp only [Ab.exact, Option.map_eq_some_iff] at hu
    obtain ⟨l, he, rfl⟩ := hu
    rw [key cs vs hl ih l he]
  | ifc t x v _ ih =>
    intro u hu
    simp only [Ab.exact, Option.map_eq_some_iff] at hu
    obtain ⟨l, he, rfl⟩ := hu
    rw [ih l he]
  | _ => intro u hu; simp [Ab.exact] at hu

theorem ok_bin {op : BinOp} {t yt : TypeId} {u v cv : Value} (x y : Operand) (hx : exact (σ.ev x) = some u) (hy : exact (σ.ev y) = some v)
    (hrun : ∀ w, (do eqGuard op t x y u v; binOp op t u v : Sem Value).run P w = .ok cv w) (hd : okDst σ d) :
    OpAny P w0 M0 σ ⟨d, .binOp op t x y yt, ty, pos, after, guard⟩ (.val (.sc cv)) :=
  opAny_val hd fun σ' a w X hag hr => by
    have h1 := hr.ev x
    rw [hag.ev x (by simp [Op.operands])] at h1
    have h2 := hr.ev y
    rw [hag.ev y (by simp [Op.operands])] at h2
    refine ⟨cv, ?_, .sc cv⟩
    simp only [execOp, h1.exact u hx, h2.exact v hy]
    exact run_value (hrun w)

theorem ok_un {op : UnOp} {t : TypeId} {u cv : Value} (x : Operand) (hx : exact (σ.ev x) = some u)
    (hrun : ∀ w, (Op.unary op u).run P w = .ok cv w) (hd : okDst σ d) :
    OpAny P w0 M0 σ ⟨d, .unOp op t x, ty, pos, after, guard⟩ (.val (.sc cv)) :=
  opAny_val hd fun σ' a w X hag hr => by
    have h1 := hr.ev x
    rw [hag.ev x (by simp [Op.operands])] at h1
    refine ⟨cv, ?_, .sc cv⟩
    simp only [execOp, h1.exact u hx]
    exact run_value (hrun w)

theorem ok_conv {s t : TypeId} {u cv : Value} (x : Operand) (hx : exact (σ.ev x) = some u)
    (hrun : ∀ w, (convert s t u).run P w = .ok cv w) (hd : okDst σ d) :
    OpAny P w0 M0 σ ⟨d, .convert s t x, ty, pos, after, guard⟩ (.val (.sc cv)) :=
  opAny_val hd fun σ' a w X hag hr => by
    have h1 := hr.ev x
    rw [hag.ev x (by simp [Op.operands])] at h1
    refine ⟨cv, ?_, .sc cv⟩
    simp only [execOp, h1.exact u hx]
    exact run_value (hrun w)

theorem ok_index {t : TypeId} {u v cv : Value} (x i : Operand) (hx : exact (σ.ev x) = some u) (hi : exact (σ.ev i) = some v)
    (hrun : ∀ w, (Instr.index t u v).run P w = .ok cv w) (hd : okDst σ d) :
    OpAny P w0 M0 σ ⟨d, .index t x i, ty, pos, after, guard⟩ (.val (.sc cv)) :=
  opAny_val hd fun σ' a w X hag hr => by
    have h1 := hr.ev x
    rw [hag.ev x (by simp [Op.operands])] at h1
    have h2 := hr.ev i
    rw [hag.ev i (by simp [Op.operands])] at h2
    refine ⟨cv, ?_, .sc cv⟩
    simp only [execOp, h1.exact u hx, h2.exact v hi]
    exact run_value (hrun w)

theorem ok_makeFunc {f : FuncId} {caps : Array Operand} {cs : List AV} (hc : cs = caps.toList.map σ.ev) (hd : okDst σ d) :
    OpAny P w0 M0 σ ⟨d, .makeFunc (.func f) #[] caps, ty, pos, after, guard⟩ (.val (.clo f cs)) :=
  opAny_val hd fun σ' a w X hag hr => by
    subst hc
    refine ⟨.func (.func f) #[] (caps.map a.eval), by simp [execOp, Instr.makeFunc], ?_⟩
    have : (caps.map a.eval) = (caps.toList.map a.eval).toArray := by
      apply Array.ext'
      simp
    rw [this]
    refine .clo f _ _ (by simp) fun i c v hcc hv => ?_
    simp only [List.getElem?_map, Option.map_eq_some_iff] at hcc hv
    obtain ⟨o, ho, rfl⟩ := hcc
    obtain ⟨o', ho', rfl⟩ := hv
    have : o = o' := Option.some.inj (ho.symm.trans ho')
    subst this
    rw [← hag.ev o (by simp [Op.operands]; exact Array.mem_toList_iff.1 (List.mem_of_getElem? ho))]
    exact hr.ev o

end
end Go.Ab

/- Operations that make memory, or write what the frame itself made. Nothing here speaks of one program. -/
namespace Go.Ab
open Go.RowKit

theorem heap_new (w : World) (o : Obj) : (w.alloc o).heap[w.heap.size]? = some o := heap_alloc_new w o
theorem heap_old (w : World) (o : Obj) {b : Nat} (h : b < w.heap.size) : (w.alloc o).heap[b]? = w.heap[b]? := heap_alloc_old w o b h

theorem Sz.alloc {w : World} {o : Obj} {b n : Nat} (h : Sz w b n) : Sz (w.alloc o) b n := h.of_eq (heap_old w o h.lt)
theorem Sz.row {w : World} {g b n : Nat} {cs : Array Value} (h : Sz w b n) (hz : ∀ m, Sz w g m → m ≤ cs.size) : Sz (w.setRow g cs) b n := by
  by_cases hb : b = g
  · subst hb
    obtain ⟨vs, ty, fz, h1, h2⟩ := h
    exact ⟨cs, ty, fz, setRow_heap w b vs cs ty fz h1, hz n ⟨vs, ty, fz, h1, h2⟩, h2.2⟩
  · exact h.of_eq (setRow_other w g b cs hb)
theorem Sz.cells {w : World} {g m : Nat} {vs : Array Value} {ty : TypeId} {fz : Nat × Nat} (hh : w.heap[g]? = some (.cells vs ty fz)) (h : Sz w g m) : m ≤ vs.size := by
  obtain ⟨vs', ty', fz', h1, h2⟩ := h
  rw [hh] at h1; cases h1; exact h2.1
theorem cell?_same {w w' : World} {b off : Nat} (h : w'.heap[b]? = w.heap[b]?) : w'.cell? ⟨b, off, none⟩ = w.cell? ⟨b, off, none⟩ := by simp [World.cell?, h]

section
variable {w0 : World} {M0 : MT} {σ : AS} {a : Act} {w : World} {x : Wit}

theorem RelW.drew (h : RelW w0 M0 σ a w x) : RelW w0 M0 σ a w.drew x where
  below := h.below.drew
  defers := h.defers
  size := h.size
  tm := fun i => (h.tm i).mono (fun _ _ _ hi => hi) (fun _ _ hh => hh)
  m0 := h.m0
  mlt := h.mlt
  fresh := h.fresh
  lent := h.lent
  va := fun id cs hv => by
    obtain ⟨b, vs, ty, h1, h2, h3, h4, h5, h6, h7⟩ := h.va id cs hv
    exact ⟨b, vs, ty, h1, h2, h3, h4, h5, h6, fun j c hj => by
      obtain ⟨v, g1, g2, g3⟩ := h7 j c hj
      exact ⟨v, g1, g2, g3.mono (fun _ _ _ hi => hi) (fun _ _ hh => hh)⟩⟩
  vgen := h.vgen
  gr := h.gr
  ggen := h.ggen

/-- New objects have new names: the places of the elder ones stand. -/
theorem locsV {w M V G v cv} {id : OId} {b : Nat} (hn : V id = none) (h : VR w M V G v cv) : VR w M (updO V id (some b)) G v cv :=
  h.locs (fun id' b' hb => by
    rw [updO_ne _ _ (fun e => by rw [e, hn] at hb; cases hb)]; exact hb) (fun id g hg => ⟨g, hg, Nat.le_refl _, fun _ => rfl⟩)

theorem locsG {w M V G v cv} {id : OId} {g : GL} (hn : G id = none) (h : VR w M V G v cv) : VR w M V (updO G id (some g)) v cv :=
  h.locs (fun id' b' hb => hb) (fun id' g' hg => ⟨g', by
    rw [updO_ne _ _ (fun e => by rw [e, hn] at hg; cases hg)]; exact hg, Nat.le_refl _, fun _ => rfl⟩)

/-- A new block lies behind all others: what could not be written stays so. -/
theorem imm_alloc {M : Nat → Option Nat} {o : Obj} {m : Option Nat} {b off : Nat} {y : Value} (h : Imm w M b off y) :
    Imm (w.alloc o) (upd M w.heap.size m) b off y := by
  have hb : b < w.heap.size := by
    rcases Nat.lt_or_ge b w.heap.size with h' | h'
    · exact h'
    · have := h.1; simp [World.cell?, Array.getElem?_eq_none h'] at this
  refine ⟨by rw [cell?_same (heap_old w o hb)]; exact h.1, h.2.1, ?_⟩
  rw [upd_ne _ _ (Nat.ne_of_lt hb)]
  exact h.2.2

theorem okDst_lt {d : Tmp} (h : okDst σ (some d)) : d < σ.n := h

theorem RelW.newVar (h : RelW w0 M0 σ a w x) {d : Tmp} (hd : d < σ.n) {cs : List AV} {vs : Array Value} {ty : TypeId} (hl : cs.length ≤ vs.size)
    (hc : ∀ (j : Nat) c, cs[j]? = some c → ∃ v, vs[j]? = some v ∧ v.oneCell' = true ∧ VR w x.M x.V x.G c v) :
    Rel w0 M0 (σ.app (some d) (.alloc cs)) (a.put (some d) (.pointer (some ⟨w.heap.size, 0, none⟩))) (w.alloc (.cells vs ty)) := by
  have hbs := h.below.size
  have hn := (h.fresh d (σ.gen d) (Nat.le_refl _)).1
  have lift : ∀ {c v}, VR w x.M x.V x.G c v → VR (w.alloc (.cells vs ty)) (upd x.M w.heap.size (some 0)) (updO x.V (d, σ.gen d) (some w.heap.size)) x.G c v :=
    fun hv => locsV hn (hv.mono (fun _ _ _ hi => imm_alloc hi) (fun _ _ hh => hh.alloc))
  refine ⟨⟨upd x.M w.heap.size (some 0), updO x.V (d, σ.gen d) (some w.heap.size), x.G, upd x.ow w.heap.size (some (true, (d, σ.gen d)))⟩, ?_⟩
  have hs : d < a.tmps.size := by rw [h.size]; exact hd
  constructor
  · exact h.below.alloc hbs _
  · exact h.defers
  · show (a.tmps.setIfInBounds d _).size = σ.n
    rw [Array.size_setIfInBounds]; exact h.size
  · intro i
    rw [getD_put a d i _ hs]
    show VR _ _ _ _ (upd σ.tm d _ i) _
    by_cases hi : i = d
    · subst hi
      rw [upd_same, if_pos rfl]
      exact .ref _ _ _ (updO_same _ _ _)
    · rw [upd_ne _ _ hi, if_neg hi]
      exact lift (h.tm i)
  · intro b hb ht
    show upd x.M w.heap.size (some 0) b = M0.m b
    rw [upd_ne _ _ (by omega)]; exact h.m0 b hb ht
  · intro b hb
    rw [World.size_alloc] at hb
    show upd x.M w.heap.size (some 0) b = none ∧ upd x.ow w.heap.size _ b = none
    rw [upd_ne _ _ (by omega), upd_ne _ _ (by omega)]
    exact h.mlt b (by omega)
  · intro d' g hg
    show updO x.V (d, σ.gen d) _ (d', g) = none ∧ x.G (d', g) = none
    have hg' : σ.gen d' ≤ g ∧ (d', g) ≠ (d, σ.gen d) := by
      change upd σ.gen d (σ.gen d + 1) d' ≤ g at hg
      by_cases hdd : d' = d
      · subst hdd; rw [upd_same] at hg
        exact ⟨by omega, fun e => by have := (Prod.mk.inj e).2; omega⟩
      · rw [upd_ne _ _ hdd] at hg
        exact ⟨hg, fun e => hdd (Prod.mk.inj e).1⟩
    rw [updO_ne _ _ hg'.2]
    exact h.fresh d' g hg'.1
  · intro id b hid
    obtain ⟨h1, h2, h3, h4⟩ := h.lent id b hid
    have hne : id.1 ≠ d := fun e => by subst e; exact absurd h1 (Nat.not_le_of_lt hd)
    refine ⟨h1, h2, ?_, ?_⟩
    · show 0 < upd σ.gen d _ id.1
      rw [upd_ne _ _ hne]; exact h3
    · show updO x.V (d, σ.gen d) _ id = some b
      rw [updO_ne _ _ (fun e => hne (by rw [e]))]; exact h4
  · intro id cs' hv
    change updO σ.va (d, σ.gen d) (some cs) id = some cs' at hv
    by_cases hid : id = (d, σ.gen d)
    · subst hid
      rw [updO_same] at hv
      cases hv
      refine ⟨w.heap.size, vs, ty, updO_same _ _ _, .inl hbs, upd_same _ _ _, upd_same _ _ _, heap_new _ _, hl, fun j c hj => ?_⟩
      obtain ⟨v, g1, g2, g3⟩ := hc j c hj
      exact ⟨v, g1, g2, lift g3⟩
    · rw [updO_ne _ _ hid] at hv
      obtain ⟨b, vs', ty', h1, h2, h3, h4, h5, h6, h7⟩ := h.va id cs' hv
      have hb : b < w.heap.size := by
        rcases Nat.lt_or_ge b w.heap.size with h' | h'
        · exact h'
        · rw [Array.getElem?_eq_none h'] at h5; cases h5
      refine ⟨b, vs', ty', by show updO x.V _ _ id = _; rw [updO_ne _ _ hid]; exact h1, h2, by show upd x.ow _ _ b = _; rw [upd_ne _ _ (Nat.ne_of_lt hb)]; exact h3,
        by show upd x.M _ _ b = _; rw [upd_ne _ _ (Nat.ne_of_lt hb)]; exact h4, by rw [heap_old _ _ hb]; exact h5, h6, fun j c hj => ?_⟩
      obtain ⟨v, g1, g2, g3⟩ := h7 j c hj
      exact ⟨v, g1, g2, lift g3⟩
  · intro d' g cs' hv
    change updO σ.va (d, σ.gen d) (some cs) (d', g) = some cs' at hv
    show g < upd σ.gen d (σ.gen d + 1) d'
    by_cases hid : (d', g) = (d, σ.gen d)
    · cases hid; rw [upd_same]; omega
    · rw [updO_ne _ _ hid] at hv
      have := h.vgen d' g cs' hv
      by_cases hdd : d' = d
      · subst hdd; rw [upd_same]; omega
      · rw [upd_ne _ _ hdd]; exact this
  · intro id n z e hg
    obtain ⟨l, h1, h2, h3, h3', h4, h5⟩ := h.gr id n z e hg
    refine ⟨l, h1, h2, h3, h3', h4, fun b hb => ?_⟩
    obtain ⟨g1, g2, g3, vs', g4, g5⟩ := h5 b hb
    have hb : b < w.heap.size := by
      rcases Nat.lt_or_ge b w.heap.size with h' | h'
      · exact h'
      · rw [Array.getElem?_eq_none h'] at g4; cases g4
    exact ⟨g1, by show upd x.ow _ _ b = _; rw [upd_ne _ _ (Nat.ne_of_lt hb)]; exact g2, by show upd x.M _ _ b = _; rw [upd_ne _ _ (Nat.ne_of_lt hb)]; exact g3, vs', by rw [heap_old _ _ hb]; exact g4, g5⟩
  · intro d' g nz hg
    have := h.ggen d' g nz hg
    show g < upd σ.gen d (σ.gen d + 1) d'
    by_cases hdd : d' = d
    · subst hdd; rw [upd_same]; omega
    · rw [upd_ne _ _ hdd]; exact this

theorem lt_of_cells {w : World} {b : Nat} {o : Obj} (h : w.heap[b]? = some o) : b < w.heap.size := (Array.getElem?_eq_some_iff.1 h).1

/-- A new growing slice: in a block that has just been made, or nil. -/
theorem RelW.newGrow (h : RelW w0 M0 σ a w x) {d : Tmp} (hd : d < σ.n) {v : AV} {n z cap : Nat} {vs : Array Value} {e : TypeId} {cv : Value}
    (hn : n ≤ cap) (hm : cap ≤ maxLen) (hs : vs.size = cap * z)
    (hv : VR (w.alloc (.cells vs e)) (upd x.M w.heap.size (some (n * z))) x.V (updO x.G (d, σ.gen d) (some ⟨some w.heap.size, n, cap⟩)) (v.ren (d, σ.gen d)) cv) :
    Rel w0 M0 (σ.app (some d) (.fresh v n z e)) (a.put (some d) cv) (w.alloc (.cells vs e)) := by
  have hbs := h.below.size
  have hnn := (h.fresh d (σ.gen d) (Nat.le_refl _)).2
  have lift : ∀ {c v}, VR w x.M x.V x.G c v → VR (w.alloc (.cells vs e)) (upd x.M w.heap.size (some (n * z))) x.V (updO x.G (d, σ.gen d) (some ⟨some w.heap.size, n, cap⟩)) c v :=
    fun hv => locsG hnn (hv.mono (fun _ _ _ hi => imm_alloc hi) (fun _ _ hh => hh.alloc))
  refine ⟨⟨upd x.M w.heap.size (some (n * z)), x.V, updO x.G (d, σ.gen d) (some ⟨some w.heap.size, n, cap⟩), upd x.ow w.heap.size (some (false, (d, σ.gen d)))⟩, ?_⟩
  have hs' : d < a.tmps.size := by rw [h.size]; exact hd
  constructor
  · exact h.below.alloc hbs _
  · exact h.defers
  · show (a.tmps.setIfInBounds d _).size = σ.n
    rw [Array.size_setIfInBounds]; exact h.size
  · intro i
    rw [getD_put a d i _ hs']
    show VR _ _ _ _ (upd σ.tm d _ i) _
    by_cases hi : i = d
    · subst hi
      rw [upd_same, if_pos rfl]
      exact hv
    · rw [upd_ne _ _ hi, if_neg hi]
      exact lift (h.tm i)
  · intro b hb ht
    show upd x.M w.heap.size _ b = M0.m b
    rw [upd_ne _ _ (by omega)]; exact h.m0 b hb ht
  · intro b hb
    rw [World.size_alloc] at hb
    show upd x.M w.heap.size _ b = none ∧ upd x.ow w.heap.size _ b = none
    rw [upd_ne _ _ (by omega), upd_ne _ _ (by omega)]
    exact h.mlt b (by omega)
  · intro d' g hg
    show x.V (d', g) = none ∧ updO x.G (d, σ.gen d) _ (d', g) = none
    have hg' : σ.gen d' ≤ g ∧ (d', g) ≠ (d, σ.gen d) := by
      change upd σ.gen d (σ.gen d + 1) d' ≤ g at hg
      by_cases hdd : d' = d
      · subst hdd; rw [upd_same] at hg
        exact ⟨by omega, fun e => by have := (Prod.mk.inj e).2; omega⟩
      · rw [upd_ne _ _ hdd] at hg
        exact ⟨hg, fun e => hdd (Prod.mk.inj e).1⟩
    rw [updO_ne _ _ hg'.2]
    exact h.fresh d' g hg'.1
  · intro id b hid
    obtain ⟨h1, h2, h3, h4⟩ := h.lent id b hid
    refine ⟨h1, h2, ?_, h4⟩
    show 0 < upd σ.gen d _ id.1
    rw [upd_ne _ _ (fun e => by subst e; exact absurd h1 (Nat.not_le_of_lt hd))]; exact h3
  · intro id cs' hv
    obtain ⟨b, vs', ty', h1, h2, h3, h4, h5, h6, h7⟩ := h.va id cs' hv
    have hb := lt_of_cells h5
    refine ⟨b, vs', ty', h1, h2, by show upd x.ow _ _ b = _; rw [upd_ne _ _ (Nat.ne_of_lt hb)]; exact h3,
      by show upd x.M _ _ b = _; rw [upd_ne _ _ (Nat.ne_of_lt hb)]; exact h4, by rw [heap_old _ _ hb]; exact h5, h6, fun j c hj => ?_⟩
    obtain ⟨v, g1, g2, g3⟩ := h7 j c hj
    exact ⟨v, g1, g2, lift g3⟩
  · intro d' g cs' hv
    have := h.vgen d' g cs' hv
    show g < upd σ.gen d (σ.gen d + 1) d'
    by_cases hdd : d' = d
    · subst hdd; rw [upd_same]; omega
    · rw [upd_ne _ _ hdd]; exact this
  · intro id n' z' e' hg
    change updO σ.gr (d, σ.gen d) (some (n, z, e)) id = some (n', z', e') at hg
    by_cases hid : id = (d, σ.gen d)
    · subst hid
      rw [updO_same] at hg
      cases hg
      refine ⟨⟨some w.heap.size, n, cap⟩, updO_same _ _ _, rfl, hn, hm, (fun h => by cases h), fun b hb => ?_⟩
      cases hb
      exact ⟨.inl hbs, upd_same _ _ _, upd_same _ _ _, vs, heap_new _ _, hs⟩
    · rw [updO_ne _ _ hid] at hg
      obtain ⟨l, h1, h2, h3, h3', h4, h5⟩ := h.gr id n' z' e' hg
      refine ⟨l, by show updO x.G _ _ id = _; rw [updO_ne _ _ hid]; exact h1, h2, h3, h3', h4, fun b hb => ?_⟩
      obtain ⟨g1, g2, g3, vs', g4, g5⟩ := h5 b hb
      have hb := lt_of_cells g4
      exact ⟨g1, by show upd x.ow _ _ b = _; rw [upd_ne _ _ (Nat.ne_of_lt hb)]; exact g2, by show upd x.M _ _ b = _; rw [upd_ne _ _ (Nat.ne_of_lt hb)]; exact g3, vs', by rw [heap_old _ _ hb]; exact g4, g5⟩
  · intro d' g nz hg
    change updO σ.gr (d, σ.gen d) (some (n, z, e)) (d', g) = some nz at hg
    show g < upd σ.gen d (σ.gen d + 1) d'
    by_cases hid : (d', g) = (d, σ.gen d)
    · cases hid; rw [upd_same]; omega
    · rw [updO_ne _ _ hid] at hg
      have := h.ggen d' g nz hg
      by_cases hdd : d' = d
      · subst hdd; rw [upd_same]; omega
      · rw [upd_ne _ _ hdd]; exact this

/-- A new growing slice that is nil. -/
theorem RelW.newNil (h : RelW w0 M0 σ a w x) {d : Tmp} (hd : d < σ.n) {z : Nat} {e : TypeId} :
    Rel w0 M0 (σ.app (some d) (.fresh (.own (0, 0) []) 0 z e)) (a.put (some d) (.slice none 0 0)) w := by
  have hnn := (h.fresh d (σ.gen d) (Nat.le_refl _)).2
  refine ⟨⟨x.M, x.V, updO x.G (d, σ.gen d) (some ⟨none, 0, 0⟩), x.ow⟩, ?_⟩
  have hs' : d < a.tmps.size := by rw [h.size]; exact hd
  constructor
  · exact h.below
  · exact h.defers
  · show (a.tmps.setIfInBounds d _).size = σ.n
    rw [Array.size_setIfInBounds]; exact h.size
  · intro i
    rw [getD_put a d i _ hs']
    show VR _ _ _ _ (upd σ.tm d _ i) _
    by_cases hi : i = d
    · subst hi
      rw [upd_same, if_pos rfl]
      exact .own _ [] _ (.sl0 _ _) ⟨none, 0, 0⟩ (updO_same _ _ _) (Nat.le_refl _) fun _ => rfl
    · rw [upd_ne _ _ hi, if_neg hi]
      exact locsG hnn (h.tm i)
  · exact h.m0
  · exact h.mlt
  · intro d' g hg
    show x.V (d', g) = none ∧ updO x.G (d, σ.gen d) _ (d', g) = none
    have hg' : σ.gen d' ≤ g ∧ (d', g) ≠ (d, σ.gen d) := by
      change upd σ.gen d (σ.gen d + 1) d' ≤ g at hg
      by_cases hdd : d' = d
      · subst hdd; rw [upd_same] at hg
        exact ⟨by omega, fun e => by have := (Prod.mk.inj e).2; omega⟩
      · rw [upd_ne _ _ hdd] at hg
        exact ⟨hg, fun e => hdd (Prod.mk.inj e).1⟩
    rw [updO_ne _ _ hg'.2]
    exact h.fresh d' g hg'.1
  · intro id b hid
    obtain ⟨h1, h2, h3, h4⟩ := h.lent id b hid
    refine ⟨h1, h2, ?_, h4⟩
    show 0 < upd σ.gen d _ id.1
    rw [upd_ne _ _ (fun e => by subst e; exact absurd h1 (Nat.not_le_of_lt hd))]; exact h3
  · intro id cs' hv
    obtain ⟨b, vs', ty', h1, h2, h3, h4, h5, h6, h7⟩ := h.va id cs' hv
    refine ⟨b, vs', ty', h1, h2, h3, h4, h5, h6, fun j c hj => ?_⟩
    obtain ⟨v, g1, g2, g3⟩ := h7 j c hj
    exact ⟨v, g1, g2, locsG hnn g3⟩
  · intro d' g cs' hv
    have := h.vgen d' g cs' hv
    show g < upd σ.gen d (σ.gen d + 1) d'
    by_cases hdd : d' = d
    · subst hdd; rw [upd_same]; omega
    · rw [upd_ne _ _ hdd]; exact this
  · intro id n' z' e' hg
    change updO σ.gr (d, σ.gen d) (some (0, z, e)) id = some (n', z', e') at hg
    by_cases hid : id = (d, σ.gen d)
    · subst hid
      rw [updO_same] at hg
      cases hg
      exact ⟨⟨none, 0, 0⟩, updO_same _ _ _, rfl, Nat.le_refl _, Nat.zero_le _, fun _ => rfl, fun b hb => by cases hb⟩
    · rw [updO_ne _ _ hid] at hg
      obtain ⟨l, h1, h2⟩ := h.gr id n' z' e' hg
      exact ⟨l, by show updO x.G _ _ id = _; rw [updO_ne _ _ hid]; exact h1, h2⟩
  · intro d' g nz hg
    change updO σ.gr (d, σ.gen d) (some (0, z, e)) (d', g) = some nz at hg
    show g < upd σ.gen d (σ.gen d + 1) d'
    by_cases hid : (d', g) = (d, σ.gen d)
    · cases hid; rw [upd_same]; omega
    · rw [updO_ne _ _ hid] at hg
      have := h.ggen d' g nz hg
      by_cases hdd : d' = d
      · subst hdd; rw [upd_same]; omega
      · rw [upd_ne _ _ hdd]; exact this

/-- The world's blocks are as they were but for block g, whose cells are now others. -/
theorem imm_setRow {M : Nat → Option Nat} {g m : Nat} {old : Array Value} {t : TypeId} {fr : Nat × Nat} {cs : Array Value} {m' : Option Nat} {b off : Nat} {y : Value}
    (hg : w.heap[g]? = some (.cells old t fr)) (hM : M g = some m) (hkeep : ∀ j, j < m → cs[j]? = old[j]?) (hm' : ∀ k, m' = some k → m ≤ k) (h : Imm w M b off y) :
    Imm (w.setRow g cs) (upd M g m') b off y := by
  by_cases hb : b = g
  · subst hb
    have hlt := h.2.2 m hM
    have h1 := h.1
    simp only [World.cell?, hg] at h1
    refine ⟨?_, h.2.1, fun k hk => ?_⟩
    · simp only [World.cell?, setRow_heap w b old cs t fr hg]
      simp only [Option.isSome_none, Bool.false_eq_true, if_false] at h1 ⊢
      rw [hkeep off hlt]; exact h1
    · rw [upd_same] at hk
      exact Nat.lt_of_lt_of_le hlt (hm' k hk)
  · refine ⟨by rw [cell?_same (setRow_other w g b cs hb)]; exact h.1, h.2.1, ?_⟩
    rw [upd_ne _ _ hb]; exact h.2.2

theorem below_setRow {w0 w : World} {M0 : MT} (h : Kept w0 M0 w) {g : Nat} (hg : Mine w0 M0 g) (cs : Array Value) (hz : ∀ m, Sz w g m → m ≤ cs.size) : Kept w0 M0 (w.setRow g cs) :=
  ⟨h.os, h.tape, h.output, by rw [setRow_size]; exact h.size, fun k hk ht => (setRow_other w g k cs (hg.ne hk ht)).trans (h.block k hk ht), fun k n hk => (h.sz k n hk).row hz⟩

end
end Go.Ab

/- Stores into local variables, and append. Nothing here speaks of one program. -/
namespace Go.Ab
open Go.RowKit

section
variable {w0 : World} {M0 : MT} {σ : AS} {a : Act} {w : World} {x : Wit}

theorem RelW.regrow (h : RelW w0 M0 σ a w x) {d : Option Tmp} (hd : okDst σ d) {id : OId} {n m z cap : Nat} {e : TypeId} {es : List (List AV)} (hgr : σ.gr id = some (n, z, e))
    {l : GL} (hG : x.G id = some l) (hlc : l.cnt = n) (hes : es.length = n + m) {w1 : World} {tb : Nat} {vs1 : Array Value} {cv : Value} (hB : Kept w0 M0 w1) (hbase : Mine w0 M0 tb)
    (hsz : w.heap.size ≤ w1.heap.size) (hother : ∀ b, b < w.heap.size → b ≠ tb → w1.heap[b]? = w.heap[b]?)
    (htb : x.ow tb = none ∧ w.heap.size ≤ tb ∨ x.ow tb = some (false, id))
    (himm : ∀ b off y, Imm w x.M b off y → Imm w1 (upd x.M tb (some ((n + m) * z))) b off y) (hzz : ∀ b n, Sz w b n → Sz w1 b n)
    (hcells : w1.heap[tb]? = some (.cells vs1 e (0, 0))) (hvs : vs1.size = cap * z) (hcap : n + m ≤ cap) (hm : cap ≤ maxLen)
    (hsame : n + m = n → (⟨some tb, n + m, cap⟩ : GL).val = l.val)
    (hcv : VR w1 (upd x.M tb (some ((n + m) * z))) noV noG (.sl es) cv) (hcv2 : cv = (⟨some tb, n + m, cap⟩ : GL).val) :
    Rel w0 M0 (σ.app d (.grow id es z e)) (a.put d cv) w1 := by
  have lift : ∀ {c v}, VR w x.M x.V x.G c v → VR w1 (upd x.M tb (some ((n + m) * z))) x.V (updO x.G id (some ⟨some tb, n + m, cap⟩)) c v := fun hv =>
    (hv.mono himm hzz).locs (fun _ _ hh => hh) fun id' g hg => by
      by_cases hid : id' = id
      · subst hid
        refine ⟨_, updO_same _ _ _, ?_, ?_⟩
        · have : g = l := Option.some.inj (hg.symm.trans hG)
          subst this; rw [hlc]; exact Nat.le_add_right _ _
        · intro hh
          have : g = l := Option.some.inj (hg.symm.trans hG)
          subst this; exact hsame (hh.trans hlc)
      · exact ⟨g, by rw [updO_ne _ _ hid]; exact hg, Nat.le_refl _, fun _ => rfl⟩
  have htb1 : tb < w1.heap.size := lt_of_cells hcells
  have hnotown : ∀ b id' k, x.ow b = some (k, id') → (k, id') ≠ (false, id) → b ≠ tb := fun b id' k ho hne hb => by
    subst hb
    rcases htb with ⟨h1, _⟩ | h1
    · rw [h1] at ho; cases ho
    · rw [h1] at ho; exact hne (Option.some.inj ho).symm
  have main : RelW w0 M0 { σ with gr := updO σ.gr id (some (es.length, z, e)) } a w1 ⟨upd x.M tb (some ((n + m) * z)), x.V, updO x.G id (some ⟨some tb, n + m, cap⟩), upd x.ow tb (some (false, id))⟩ := by
    constructor
    · exact hB
    · exact h.defers
    · exact h.size
    · exact fun i => lift (h.tm i)
    · intro b hb ht
      show upd x.M tb _ b = M0.m b
      rw [upd_ne _ _ (hbase.ne hb ht)]; exact h.m0 b hb ht
    · intro b hb
      show upd x.M tb _ b = none ∧ upd x.ow tb _ b = none
      rw [upd_ne _ _ (by omega), upd_ne _ _ (by omega)]
      exact h.mlt b (by omega)
    · intro d' g hg
      show x.V (d', g) = none ∧ updO x.G id _ (d', g) = none
      have h1 := h.fresh d' g hg
      rw [updO_ne _ _ (fun hh => by rw [hh, hG] at h1; cases h1.2)]
      exact h1
    · exact h.lent
    · intro id' cs' hv
      obtain ⟨b, vs', ty', h1, h2, h3, h4, h5, h6, h7⟩ := h.va id' cs' hv
      have hb := hnotown b id' true h3 (by simp)
      refine ⟨b, vs', ty', h1, h2, by show upd x.ow _ _ b = _; rw [upd_ne _ _ hb]; exact h3,
        by show upd x.M _ _ b = _; rw [upd_ne _ _ hb]; exact h4, by rw [hother b (lt_of_cells h5) hb]; exact h5, h6, fun j c hj => ?_⟩
      obtain ⟨v, g1, g2, g3⟩ := h7 j c hj
      exact ⟨v, g1, g2, lift g3⟩
    · exact h.vgen
    · intro id' n' z' e' hg
      change updO σ.gr id (some (es.length, z, e)) id' = some (n', z', e') at hg
      by_cases hid : id' = id
      · subst hid
        rw [updO_same] at hg
        cases hg
        rw [hes]
        refine ⟨⟨some tb, n + m, cap⟩, updO_same _ _ _, rfl, hcap, hm, (fun hh => by cases hh), fun b hb => ?_⟩
        cases hb
        exact ⟨hbase, upd_same _ _ _, upd_same _ _ _, vs1, hcells, hvs⟩
      · rw [updO_ne _ _ hid] at hg
        obtain ⟨l', h1, h2, h3, h3', h4, h5⟩ := h.gr id' n' z' e' hg
        refine ⟨l', by show updO x.G _ _ id' = _; rw [updO_ne _ _ hid]; exact h1, h2, h3, h3', h4, fun b hb => ?_⟩
        obtain ⟨g1, g2, g3, vs', g4, g5⟩ := h5 b hb
        have hb := hnotown b id' false g2 (fun hh => hid (Prod.mk.inj hh).2)
        exact ⟨g1, by show upd x.ow _ _ b = _; rw [upd_ne _ _ hb]; exact g2, by show upd x.M _ _ b = _; rw [upd_ne _ _ hb]; exact g3, vs', by rw [hother b (lt_of_cells g4) hb]; exact g4, g5⟩
    · intro d' g nz hg
      change updO σ.gr id (some (es.length, z, e)) (d', g) = some nz at hg
      by_cases hid : (d', g) = id
      · rw [← hid] at hgr; exact h.ggen d' g _ hgr
      · rw [updO_ne _ _ hid] at hg; exact h.ggen d' g nz hg
  exact ⟨_, main.put (d := d) hd (.own id es cv hcv _ (updO_same _ _ _) (by rw [hes]; exact Nat.le_refl _) fun _ => hcv2)⟩

/-- A variable gets other cells. -/
theorem RelW.stor0 (h : RelW w0 M0 σ a w x) {id : OId} {cs cs' : List AV} (hva : σ.va id = some cs)
    {b : Nat} {vs vs' : Array Value} {ty : TypeId} (hV : x.V id = some b) (hh : w.heap[b]? = some (.cells vs ty (0, 0))) (hvs : cs'.length ≤ vs'.size) (hzz : vs.size ≤ vs'.size)
    (hc : ∀ (j : Nat) c, cs'[j]? = some c → ∃ v, vs'[j]? = some v ∧ v.oneCell' = true ∧ VR w x.M x.V x.G c v) :
    RelW w0 M0 { σ with va := updO σ.va id (some cs') } a (w.setRow b vs') ⟨upd x.M b (some 0), x.V, x.G, x.ow⟩ := by
  obtain ⟨b', vs0, ty0, h1, h2, h3, h4, h5, h6, h7⟩ := h.va id cs hva
  have : b = b' := Option.some.inj (hV.symm.trans h1)
  subst this
  have hh0 := hh
  have himm : ∀ b' off y, Imm w x.M b' off y → Imm (w.setRow b vs') (upd x.M b (some 0)) b' off y := fun b' off y hi =>
    imm_setRow hh h4 (fun j hj => absurd hj (Nat.not_lt_zero _)) (fun k hk => Nat.zero_le _) hi
  have lift : ∀ {c v}, VR w x.M x.V x.G c v → VR (w.setRow b vs') (upd x.M b (some 0)) x.V x.G c v := fun hv => hv.mono himm fun _ _ hh => hh.row fun m hm => Nat.le_trans (hm.cells hh0) hzz
  have hMb : ∀ b', upd x.M b (some 0) b' = x.M b' := fun b' => by
    by_cases hbb : b' = b
    · subst hbb; rw [upd_same, h4]
    · rw [upd_ne _ _ hbb]
  constructor
  · exact below_setRow h.below h2 vs' fun m hm => Nat.le_trans (hm.cells hh0) hzz
  · exact h.defers
  · exact h.size
  · exact fun i => lift (h.tm i)
  · intro b' hb' ht
    show upd x.M b _ b' = M0.m b'
    rw [hMb]; exact h.m0 b' hb' ht
  · intro b' hb'
    rw [setRow_size] at hb'
    show upd x.M b _ b' = none ∧ x.ow b' = none
    rw [hMb]; exact h.mlt b' hb'
  · exact h.fresh
  · exact h.lent
  · intro id' cs1 hv
    change updO σ.va id (some cs') id' = some cs1 at hv
    by_cases hid : id' = id
    · subst hid
      rw [updO_same] at hv
      cases hv
      refine ⟨b, vs', ty, h1, h2, h3, upd_same _ _ _, setRow_heap w b vs vs' ty (0, 0) hh, hvs, fun j c hj => ?_⟩
      obtain ⟨v, g1, g2, g3⟩ := hc j c hj
      exact ⟨v, g1, g2, lift g3⟩
    · rw [updO_ne _ _ hid] at hv
      obtain ⟨b1, vs1, ty1, k1, k2, k3, k4, k5, k6, k7⟩ := h.va id' cs1 hv
      have hb1 : b1 ≠ b := fun hh => by
        subst hh
        rw [h3] at k3
        exact hid (Prod.mk.inj (Option.some.inj k3)).2.symm
      refine ⟨b1, vs1, ty1, k1, k2, k3, by show upd x.M _ _ b1 = _; rw [hMb]; exact k4, by rw [setRow_other w b b1 vs' hb1]; exact k5, k6, fun j c hj => ?_⟩
      obtain ⟨v, g1, g2, g3⟩ := k7 j c hj
      exact ⟨v, g1, g2, lift g3⟩
  · intro d' g cs1 hv
    change updO σ.va id (some cs') (d', g) = some cs1 at hv
    by_cases hid : (d', g) = id
    · rw [← hid] at hva; exact h.vgen d' g _ hva
    · rw [updO_ne _ _ hid] at hv; exact h.vgen d' g _ hv
  · intro id' n' z' e' hg
    obtain ⟨l', k1, k2, k3, k3', k4, k5⟩ := h.gr id' n' z' e' hg
    refine ⟨l', k1, k2, k3, k3', k4, fun b1 hb1 => ?_⟩
    obtain ⟨g1, g2, g3, vs1, g4, g5⟩ := k5 b1 hb1
    have hne : b1 ≠ b := fun hh => by subst hh; rw [h3] at g2; cases g2
    exact ⟨g1, g2, by show upd x.M _ _ b1 = _; rw [hMb]; exact g3, vs1, by rw [setRow_other w b b1 vs' hne]; exact g4, g5⟩
  · exact h.ggen
theorem RelW.stor (h : RelW w0 M0 σ a w x) {d : Option Tmp} (hd : okDst σ d) {id : OId} {cs cs' : List AV} (hva : σ.va id = some cs)
    {b : Nat} {vs vs' : Array Value} {ty : TypeId} (hV : x.V id = some b) (hh : w.heap[b]? = some (.cells vs ty (0, 0))) (hvs : cs'.length ≤ vs'.size) (hzz : vs.size ≤ vs'.size)
    (hc : ∀ (j : Nat) c, cs'[j]? = some c → ∃ v, vs'[j]? = some v ∧ v.oneCell' = true ∧ VR w x.M x.V x.G c v) :
    Rel w0 M0 (σ.app d (.stor id cs')) (a.put d undef) (w.setRow b vs') :=
  ⟨_, (h.stor0 hva hV hh hvs hzz hc).put (d := d) hd (.sc undef)⟩
end

/-! ## The operations -/

theorem okDst_agree {σ σ' : AS} {op : Op} (h : Agree σ σ' op) {d : Option Tmp} (hd : okDst σ d) : okDst σ' d := by
  cases d with
  | none => trivial
  | some d => show d < σ'.n; rw [h.n]; exact hd

section
variable {P : Program} {w0 : World} {M0 : MT} {σ : AS} {d : Option Tmp} {ty : TypeId} {pos : String} {after : Array Edge} {guard : Option (Nat × Bool)}

/-- The zero value's cells of a type. -/
def Zero (P : Program) (t : TypeId) (zs : List Value) : Prop :=
  zs.all (·.oneCell') = true ∧ ∃ v : Value, v.cells = zs.toArray ∧ ∀ w, (zeroValue t).run P w = .ok v w

theorem ok_alloc {t : TypeId} {zs : List Value} {d : Tmp} (hz : Zero P t zs) (hd : d < σ.n) :
    OpAny P w0 M0 σ ⟨some d, .alloc t, ty, pos, after, guard⟩ (.alloc (zs.map .sc)) := by
  intro σ' hag a w ⟨x, hr⟩ K Q hK
  obtain ⟨h1, v, hv, hrun⟩ := hz
  have hx : (execOp a.eval ⟨some d, .alloc t, ty, pos, after, guard⟩).run P w = .ok (.value (.pointer (some ⟨w.heap.size, 0, none⟩))) (w.alloc (.cells zs.toArray t)) := by
    simp only [execOp]
    refine run_value ?_
    simp [Instr.alloc, hrun, newVar, newRow, hv, World.alloc_eq]
  unfold Oper.wp
  rw [hx, Oper.upon_value]
  refine hK _ _ (hr.newVar (by rw [hag.n]; exact hd) (by simp) fun j c hj => ?_)
  simp only [List.getElem?_map, Option.map_eq_some_iff] at hj
  obtain ⟨u, hu, rfl⟩ := hj
  exact ⟨u, by simpa using hu, List.all_eq_true.1 h1 u (List.mem_of_getElem? hu), .sc u⟩

/-- The cells of a value, where it is known how many they are. -/
def cellsA : AV → Option (List AV)
  | .agg cs => some cs
  | .sc v => match v.oneCell' with
    | true => some [.sc v]
    | false => none
  | .any => none
  | .tup _ => none
  | x => some [x]

theorem cellsA_spec {w M V G x v cs} (h : VR w M V G x v) (hc : cellsA x = some cs) :
    v.cells.size = cs.length ∧ ∀ (j : Nat) c, cs[j]? = some c → ∃ u, v.cells[j]? = some u ∧ u.oneCell' = true ∧ VR w M V G c u := by
  have one : ∀ {u : Value} {c : AV}, u.oneCell' = true → VR w M V G c u → u.cells.size = [c].length ∧ ∀ (j : Nat) c', [c][j]? = some c' → ∃ u', u.cells[j]? = some u' ∧ u'.oneCell' = true ∧ VR w M V G c' u' := fun {u c} ho hv => by
    have hcell : u.cells = #[u] := by cases u <;> first | rfl | cases ho
    rw [hcell]
    refine ⟨rfl, fun j c' hj => ?_⟩
    cases j with
    | zero => simp at hj; subst hj; exact ⟨u, rfl, ho, hv⟩
    | succ j => simp at hj
  cases x with
  | any => cases hc
  | tup => cases hc
  | agg cs' =>
    cases hc
    cases h with
    | agg _ vs hl h1 hh =>
      refine ⟨by simp [Value.cells, hl], fun j c hj => ?_⟩
      have hlt : j < vs.length := by have := (List.getElem?_eq_some_iff.1 hj).1; omega
      exact ⟨vs[j], by simp [Value.cells, List.getElem?_eq_getElem hlt], List.all_eq_true.1 h1 _ (List.getElem_mem hlt), hh j c _ hj (List.getElem?_eq_getElem hlt)⟩
  | sc u =>
    simp only [cellsA] at hc
    split at hc
    · rename_i ho
      cases hc
      cases h
      exact one ho (.sc _)
    · cases hc
  | ref => cases hc; exact one (h.cell1 trivial) h
  | arr => cases hc; exact one (h.cell1 trivial) h
  | rd => cases hc; exact one (h.cell1 trivial) h
  | nil0 => cases hc; exact one (h.cell1 trivial) h
  | sl => cases hc; exact one (h.cell1 trivial) h
  | own => cases hc; exact one (h.cell1 trivial) h
  | clo => cases hc; exact one (h.cell1 trivial) h
  | bnd => cases hc; exact one (h.cell1 trivial) h
  | ifc => cases hc; exact one (h.cell1 trivial) h

theorem ok_box {t : TypeId} {cs : List AV} {d : Tmp} (x : Operand) (hx : cellsA (σ.ev x) = some cs) (hd : d < σ.n) :
    OpAny P w0 M0 σ ⟨some d, .box t x, ty, pos, after, guard⟩ (.alloc cs) := by
  intro σ' hag a w ⟨X, hr⟩ K Q hK
  have h1 := hr.ev x
  rw [hag.ev x (by simp [Op.operands])] at h1
  obtain ⟨h2, h3⟩ := cellsA_spec h1 hx
  have hrun : (execOp a.eval ⟨some d, .box t x, ty, pos, after, guard⟩).run P w = .ok (.value (.pointer (some ⟨w.heap.size, 0, none⟩))) (w.alloc (.cells (a.eval x).cells t)) := by
    simp only [execOp]
    refine run_value ?_
    simp [Instr.box, newVar, newRow, World.alloc_eq]
  unfold Oper.wp
  rw [hrun, Oper.upon_value]
  exact hK _ _ (hr.newVar (by rw [hag.n]; exact hd) (Nat.le_of_eq h2.symm) h3)

/-- 'var x []T': a slice that may grow. -/
theorem ok_nil {z : Nat} {e : TypeId} {d : Tmp} (hd : d < σ.n) :
    OpAny P w0 M0 σ ⟨some d, .assign (.const (.slice none 0 0)), ty, pos, after, guard⟩ (.fresh (.own (0, 0) []) 0 z e) := by
  intro σ' hag a w ⟨X, hr⟩ K Q hK
  have hrun : (execOp a.eval ⟨some d, .assign (.const (.slice none 0 0)), ty, pos, after, guard⟩).run P w = .ok (.value (.slice none 0 0)) w := rfl
  unfold Oper.wp
  rw [hrun, Oper.upon_value]
  exact hK _ _ (hr.newNil (by rw [hag.n]; exact hd))

def splice (cs new : List AV) (off : Nat) : List AV := cs.take off ++ new ++ cs.drop (off + new.length)

theorem ok_store {t off sz : Nat} {id : OId} {cs new : List AV} (x y : Operand) (hx : σ.ev x = .ref id off) (hva : σ.va id = some cs)
    (hs : ∀ w, (sizeOf t).run P w = .ok sz w) (hy : cellsA (σ.ev y) = some new) (hn : new.length = sz) (hfit : off + sz ≤ cs.length) (hd : okDst σ d) :
    OpSeq P w0 M0 σ ⟨d, .store t x y, ty, pos, after, guard⟩ (.stor id (splice cs new off)) := by
  intro a w ⟨X, hr⟩ K Q hK
  have h1 := hr.ev x
  rw [hx] at h1
  have h2 := hr.ev y
  obtain ⟨h3, h4⟩ := cellsA_spec h2 hy
  generalize hcv : a.eval x = cv at h1
  cases h1 with
  | ref _ _ b hb =>
    obtain ⟨b', vs, ty', k1, k2, k3, k4, k5, k6, k7⟩ := hr.va id cs hva
    have : b = b' := Option.some.inj (hb.symm.trans k1)
    subst this
    have hl2 : (a.eval y).cells.toList.length = sz := by simpa using h3.trans hn
    have hst := run_storeCells_at P b off ty' (a.eval y).cells.toList 0 vs w k5 (by rw [hl2]; omega) (fun v hv => by
      obtain ⟨j, hj, rfl⟩ := List.getElem_of_mem hv
      have hj' : j < new.length := by omega
      obtain ⟨u, g1, g2, _⟩ := h4 j new[j] (List.getElem?_eq_getElem hj')
      have : (a.eval y).cells.toList[j] = u := by
        have h5 : (a.eval y).cells.toList[j]? = some u := by simpa using g1
        exact Option.some.inj ((List.getElem?_eq_getElem hj).symm.trans h5)
      rw [this]; exact g2)
    simp only [Nat.add_zero] at hst
    have hrun : (execOp a.eval ⟨d, .store t x y, ty, pos, after, guard⟩).run P w = .ok .skip (w.setRow b (vs.toList.take off ++ (a.eval y).cells.toList ++ vs.toList.drop (off + (a.eval y).cells.toList.length)).toArray) := by
      simp [execOp, hcv, Instr.storeAt, Instr.sureAddr, storeVar, hs, Result.andThen, show (a.eval y).cells.size = sz by omega, hst]
    unfold Oper.wp
    rw [hrun, Oper.upon_skip]
    refine hK _ _ (hr.stor hd hva hb k5 (by simp [splice]; omega) (by simp; omega) fun j c hj => ?_)
    simp only [splice, List.getElem?_append, List.length_append, List.length_take] at hj
    have hm : min off cs.length = off := by omega
    have hm2 : min off vs.toList.length = off := by rw [Array.length_toList]; omega
    simp only [hm] at hj
    simp only [List.getElem?_toArray, List.getElem?_append, List.length_append, List.length_take, hm2, hl2]
    rw [hn] at hj
    by_cases c1 : j < off + sz
    · rw [if_pos c1] at hj ⊢
      by_cases c2 : j < off
      · rw [if_pos c2] at hj ⊢
        rw [List.getElem?_take, if_pos c2] at hj ⊢
        simpa using k7 j c hj
      · rw [if_neg c2] at hj ⊢
        simpa using h4 _ c hj
    · rw [if_neg c1] at hj ⊢
      rw [List.getElem?_drop] at hj ⊢
      simpa using k7 _ c hj

end
end Go.Ab

/- Slices: element, length, part, append. Nothing here speaks of one program. -/
namespace Go.Ab
open Go.RowKit

/-- The elements of a slice, as far as they can be read. -/
def slEs : AV → Option (List (List AV))
  | .sl es => some es
  | .own _ es => some es
  | .sc (.slice none 0 0) => some []
  | _ => none

/-- What is known of a slice that reads as es. -/
theorem slEs_spec {w M V G x v es} (h : VR w M V G x v) (hx : slEs x = some es) : VR w M noV noG (.sl es) v := by
  unfold slEs at hx
  split at hx
  · cases hx
    cases h with
    | sl0 a c => exact .sl0 a c
    | sl es z b off cap X hz hcap hc hv => exact .sl es z b off cap X hz hcap hc hv
  · cases hx
    cases h with
    | own _ _ _ h => exact h
  · cases hx
    cases h
    exact .sl0 _ _
  · cases hx

section
variable {P : Program} {w0 : World} {M0 : MT} {σ : AS} {d : Option Tmp} {ty : TypeId} {pos : String} {after : Array Edge} {guard : Option (Nat × Bool)}

theorem ok_indexAddr {t e z : Nat} {es : List (List AV)} {el : List AV} {k : IntKind} {n : Int} (x i : Operand) (hu : P.underlying t = some (.slice e)) (hs : ∀ w, (sizeOf e).run P w = .ok z w)
    (hx : slEs (σ.ev x) = some es) (hi : exact (σ.ev i) = some (.int k n)) (h0 : 0 ≤ n) (hel : es[n.toNat]? = some el) (hz : el.length = z) (hd : okDst σ d) :
    OpAny P w0 M0 σ ⟨d, .indexAddr t x i, ty, pos, after, guard⟩ (.val (.rd el)) :=
  opAny_val hd fun σ' a w X hag hr => by
    have h1 := hr.ev x
    rw [hag.ev x (by simp [Op.operands])] at h1
    have h1 := slEs_spec h1 hx
    have h2 := hr.ev i
    rw [hag.ev i (by simp [Op.operands])] at h2
    have h2 := h2.exact _ hi
    have hlt : n.toNat < es.length := (List.getElem?_eq_some_iff.1 hel).1
    generalize hcv : a.eval x = cv at h1
    cases h1 with
    | sl0 a c => simp at hlt
    | sl _ z' b off cap Xf hz' hcap hc hv =>
      have hzz : el.length = z' := hz' el (List.mem_of_getElem? hel)
      have hzz' : z = z' := hz.symm.trans hzz
      subst hzz'
      refine ⟨.pointer (some ⟨b, off + n.toNat * z, none⟩), ?_, .rd el b _ (Xf n.toNat) (fun j c hj => ?_) (fun j c hj => hv _ _ _ _ hel hj)⟩
      · simp only [execOp, hcv, h2]
        refine run_value ?_
        have hlt' : n < (es.length : Int) := by omega
        simp [Instr.indexAt, asIntOf, run_underlying' hu, hs, h0, hlt', Result.andThen, addr_add]
      · rw [Nat.add_assoc]; exact hc _ _ _ _ hel hj

/-- An element of an array that lies in a local variable. -/
theorem ok_indexAddr_arr {t e z m off : Nat} {id : OId} {k : IntKind} {n : Int} (x i : Operand) (hu : P.underlying t = some (.array m e)) (hs : ∀ w, (sizeOf e).run P w = .ok z w)
    (hx : σ.ev x = .ref id off) (hi : exact (σ.ev i) = some (.int k n)) (h0 : 0 ≤ n) (hm : n < m) (hd : okDst σ d) :
    OpAny P w0 M0 σ ⟨d, .indexAddr t x i, ty, pos, after, guard⟩ (.val (.ref id (off + n.toNat * z))) :=
  opAny_val hd fun σ' a w X hag hr => by
    have h1 := hr.ev x
    rw [hag.ev x (by simp [Op.operands]), hx] at h1
    have h2 := hr.ev i
    rw [hag.ev i (by simp [Op.operands])] at h2
    have h2 := h2.exact _ hi
    generalize hcv : a.eval x = cv at h1
    cases h1 with
    | ref _ _ b hb =>
      refine ⟨_, ?_, .ref _ _ b hb⟩
      simp only [execOp, hcv, h2]
      refine run_value ?_
      simp [Instr.indexAt, asIntOf, run_underlying' hu, hs, h0, hm, Result.andThen, addr_add, Instr.sureAddr]

theorem ok_len {t e : Nat} {es : List (List AV)} (x : Operand) (hu : P.underlying t = some (.slice e)) (hx : slEs (σ.ev x) = some es) (hd : okDst σ d) :
    OpAny P w0 M0 σ ⟨d, .call ⟨.builtin .len, #[x], #[t]⟩, ty, pos, after, guard⟩ (.val (.sc (.int .i64 es.length))) :=
  opAny_val hd fun σ' a w X hag hr => by
    have h1 := hr.ev x
    rw [hag.ev x (by simp [Op.operands, Call.operands])] at h1
    have h1 := slEs_spec h1 hx
    generalize hcv : a.eval x = cv at h1
    refine ⟨.int .i64 es.length, ?_, .sc _⟩
    have : ∃ b c, cv = .slice b es.length c := by cases h1 <;> exact ⟨_, _, rfl⟩
    obtain ⟨b, c, rfl⟩ := this
    simp [execOp, resolve, invoke, builtin, Builtin.len_, run_underlying' hu, hcv, Result.andThen, goInt]

/-- 'len' of what is known to the last bit (a string). -/
theorem ok_lenX {t : Nat} {u cv : Value} (x : Operand) (hx : exact (σ.ev x) = some u) (hrun : ∀ w, (Builtin.len_ #[t] ty #[u]).run P w = .ok cv w) (hd : okDst σ d) :
    OpAny P w0 M0 σ ⟨d, .call ⟨.builtin .len, #[x], #[t]⟩, ty, pos, after, guard⟩ (.val (.sc cv)) :=
  opAny_val hd fun σ' a w X hag hr => by
    have h1 := hr.ev x
    rw [hag.ev x (by simp [Op.operands, Call.operands])] at h1
    have h1 := h1.exact _ hx
    refine ⟨cv, ?_, .sc _⟩
    simp [execOp, resolve, invoke, builtin, h1, Result.andThen, hrun]

theorem ok_min {t u : Nat} {i j : Value} {cv : Value} (x y : Operand) (hx : exact (σ.ev x) = some i) (hy : exact (σ.ev y) = some j)
    (hrun : ∀ w, (Builtin.min_ #[t, u] ty #[i, j]).run P w = .ok cv w) (hd : okDst σ d) :
    OpAny P w0 M0 σ ⟨d, .call ⟨.builtin .min, #[x, y], #[t, u]⟩, ty, pos, after, guard⟩ (.val (.sc cv)) :=
  opAny_val hd fun σ' a w X hag hr => by
    have h1 := hr.ev x
    rw [hag.ev x (by simp [Op.operands, Call.operands])] at h1
    have h2 := hr.ev y
    rw [hag.ev y (by simp [Op.operands, Call.operands])] at h2
    refine ⟨cv, ?_, .sc _⟩
    simp [execOp, resolve, invoke, builtin, h1.exact _ hx, h2.exact _ hy, Result.andThen, hrun]

theorem ok_max {t u : Nat} {i j : Value} {cv : Value} (x y : Operand) (hx : exact (σ.ev x) = some i) (hy : exact (σ.ev y) = some j)
    (hrun : ∀ w, (Builtin.max_ #[t, u] ty #[i, j]).run P w = .ok cv w) (hd : okDst σ d) :
    OpAny P w0 M0 σ ⟨d, .call ⟨.builtin .max, #[x, y], #[t, u]⟩, ty, pos, after, guard⟩ (.val (.sc cv)) :=
  opAny_val hd fun σ' a w X hag hr => by
    have h1 := hr.ev x
    rw [hag.ev x (by simp [Op.operands, Call.operands])] at h1
    have h2 := hr.ev y
    rw [hag.ev y (by simp [Op.operands, Call.operands])] at h2
    refine ⟨cv, ?_, .sc _⟩
    simp [execOp, resolve, invoke, builtin, h1.exact _ hx, h2.exact _ hy, Result.andThen, hrun]

/-- A part of a slice that is read: from l, h elements' end. -/
theorem sl_part {w M V G es v} (h : VR w M noV noG (.sl es) v) {l hh z : Nat} (hl : l ≤ hh) (hle : hh ≤ es.length) (hzz : ∀ e ∈ es, e.length = z) :
    ∃ (b : Option Addr) (cap : Nat), v = .slice b es.length cap ∧ es.length ≤ cap ∧
      VR w M V G (.sl ((es.drop l).take (hh - l))) (.slice (if cap = l then b else b.map (·.add (l * z))) (hh - l) (cap - l)) := by
  have hlen : ((es.drop l).take (hh - l)).length = hh - l := by simp; omega
  cases h with
  | sl0 a c =>
    refine ⟨a, c, rfl, Nat.zero_le _, ?_⟩
    simp at hle
    have : l = 0 := by omega
    subst this; subst hle
    exact .sl0 _ _
  | sl _ z' b off cap X hz hcap hc hv =>
    refine ⟨some ⟨b, off, none⟩, cap, rfl, hcap, ?_⟩
    by_cases hcl : cap = l
    · subst hcl
      have h0 : hh - cap = 0 := by omega
      rw [if_pos rfl, h0]
      have := VR.sl (w := w) (M := M) (V := V) (G := G) [] 0 b off (cap - cap) (fun _ _ => undef) (by simp) (by simp) (by simp) (by simp)
      simpa using this
    · rw [if_neg hcl]
      have hz2 : ∀ e ∈ (es.drop l).take (hh - l), e.length = z' := fun e he => hz e (List.mem_of_mem_drop (List.mem_of_mem_take he))
      have hget : ∀ (i : Nat) e, ((es.drop l).take (hh - l))[i]? = some e → es[l + i]? = some e := fun i e he => by
        rw [List.getElem?_take] at he
        split at he
        · rw [List.getElem?_drop] at he; exact he
        · cases he
      have hoff : ∀ (i : Nat) (e : List AV), es[l + i]? = some e → l * z = l * z' := fun i e he => by
        rw [← hzz e (List.mem_of_getElem? he), hz e (List.mem_of_getElem? he)]
      have key := VR.sl (w := w) (M := M) (V := V) (G := G) ((es.drop l).take (hh - l)) z' b (off + l * z) (cap - l) (fun i j => X (l + i) j) hz2 (by rw [hlen]; omega)
        (fun i e j c he hj => by
          have he' := hget i e he
          have h1 := hc (l + i) e j c he' hj
          rw [hoff i e he']
          rw [show off + l * z' + (i * z' + j) = off + ((l + i) * z' + j) by rw [Nat.add_mul]; omega]
          exact h1)
        (fun i e j c he hj => hv (l + i) e j c (hget i e he) hj)
      rw [hlen] at key
      simpa [addr_add] using key

/-- The bounds of a part. -/
def boundA (σ : AS) (len : Nat) : Option Operand → Option Nat
  | none => some len
  | some o => match exact (σ.ev o) with
    | some (.int _ n) => match decide (0 ≤ n) with
      | true => some n.toNat
      | false => none
    | _ => none

theorem run_bound {σ σ' : AS} {a : Act} {w0 M0 w X} (hr : RelW w0 M0 σ' a w X) {o : Operand} (hag : σ'.ev o = σ.ev o) {len n : Nat} (hb : boundA σ len (some o) = some n) {y : Nat} (hy : n ≤ y) (code : BoundsCode) :
    (Instr.sliceBound (a.eval o) y code).run P w = .ok n w := by
  simp only [boundA] at hb
  split at hb
  · rename_i k m he
    split at hb
    · rename_i h0
      simp at hb h0
      subst hb
      have h1 := hr.ev o
      rw [hag] at h1
      rw [h1.exact _ he]
      have : m ≤ (y : Int) := by omega
      simp [Instr.sliceBound, asIntOf, h0, this]
    · cases hb
  · cases hb

theorem ok_slice {t e z l hh : Nat} {es : List (List AV)} (x : Operand) (lo hi : Option Operand) (hu : P.underlying t = some (.slice e)) (hs : ∀ w, (sizeOf e).run P w = .ok z w)
    (hx : slEs (σ.ev x) = some es) (hlo : boundA σ 0 lo = some l) (hhi : boundA σ es.length hi = some hh) (hl : l ≤ hh) (hle : hh ≤ es.length) (hz : ∀ e ∈ es, e.length = z) (hd : okDst σ d) :
    OpAny P w0 M0 σ ⟨d, .slice t x lo hi none, ty, pos, after, guard⟩ (.val (.sl ((es.drop l).take (hh - l)))) :=
  opAny_val hd fun σ' a w X hag hr => by
    have h1 := hr.ev x
    rw [hag.ev x (by simp [Op.operands])] at h1
    obtain ⟨b, cap, hv, hcap, hpart⟩ := sl_part (V := X.V) (G := X.G) (slEs_spec h1 hx) hl hle hz
    refine ⟨_, ?_, hpart⟩
    simp only [execOp, hv]
    refine run_value ?_
    have hH : (match hi.map a.eval, (none : Option Value) with
        | some v, some _ => Instr.sliceBound v cap .slice3B
        | some v, none => Instr.sliceBound v cap .sliceAcap
        | none, none => pure es.length
        | none, some _ => stuck "Slice: max without high" : Sem Nat).run P w = .ok hh w := by
      cases hi with
      | none => simp [boundA] at hhi; subst hhi; rfl
      | some o => exact run_bound hr (hag.ev o (by simp [Op.operands])) hhi (by omega) _
    have hL : (match lo.map a.eval with
        | some v => Instr.sliceBound v hh .sliceB
        | none => pure 0 : Sem Nat).run P w = .ok l w := by
      cases lo with
      | none => simp [boundA] at hlo; subst hlo; rfl
      | some o => exact run_bound hr (hag.ev o (by simp [Op.operands])) hlo hl _
    cases hi <;> cases lo <;> simp_all [Instr.sliceAt, run_underlying' hu, Instr.slice, Instr.sliceBounds, Result.andThen]

end
end Go.Ab

/- Literals of structs, arrays and slices; append. Nothing here speaks of one program. -/
namespace Go.Ab
open Go.RowKit

theorem foldl_set (off : Nat) : ∀ (l : List Value) (s : Nat) (cells : Array Value),
    ((l.zipIdx s).foldl (fun cs (c : Value × Nat) => cs.setIfInBounds (off + c.2) c.1) cells).size = cells.size ∧
    ∀ k, ((l.zipIdx s).foldl (fun cs (c : Value × Nat) => cs.setIfInBounds (off + c.2) c.1) cells)[k]? =
      if off + s ≤ k ∧ k < off + s + l.length ∧ k < cells.size then l[k - off - s]? else cells[k]? := by
  intro l
  induction l with
  | nil => intro s cells; refine ⟨rfl, fun k => ?_⟩; rw [if_neg (by simp; omega)]; rfl
  | cons v l ih =>
    intro s cells
    simp only [List.zipIdx_cons, List.foldl_cons]
    obtain ⟨h1, h2⟩ := ih (s + 1) (cells.setIfInBounds (off + s) v)
    refine ⟨by rw [h1]; simp, fun k => ?_⟩
    rw [h2]
    simp only [Array.size_setIfInBounds, List.length_cons, Array.getElem?_setIfInBounds]
    by_cases c1 : k = off + s
    · subst c1
      rw [if_neg (by omega), if_pos rfl]
      by_cases c2 : off + s < cells.size
      · rw [if_pos c2, if_pos (by omega)]
        have : off + s - off - s = 0 := by omega
        rw [this]; rfl
      · rw [if_neg c2, if_neg (by omega)]
        rw [Array.getElem?_eq_none (by omega)]
    · rw [if_neg (fun h : off + s = k => c1 h.symm)]
      by_cases c3 : off + (s + 1) ≤ k ∧ k < off + (s + 1) + l.length ∧ k < cells.size
      · rw [if_pos c3, if_pos (by omega)]
        obtain ⟨q, hq⟩ : ∃ q, k - off - s = q + 1 := ⟨k - off - s - 1, by omega⟩
        rw [hq, List.getElem?_cons_succ]
        congr 1
        omega
      · rw [if_neg c3, if_neg (by omega)]

theorem foldl_cells (off : Nat) (vs : Array Value) (cells : Array Value) :
    (vs.zipIdx.foldl (fun cs (c : Value × Nat) => cs.setIfInBounds (off + c.2) c.1) cells).size = cells.size ∧
    ∀ k, (vs.zipIdx.foldl (fun cs (c : Value × Nat) => cs.setIfInBounds (off + c.2) c.1) cells)[k]? =
      if off ≤ k ∧ k < off + vs.size ∧ k < cells.size then vs[k - off]? else cells[k]? := by
  have h := foldl_set off vs.toList 0 cells
  rw [← Array.foldl_toList]
  have hz : vs.zipIdx.toList = vs.toList.zipIdx 0 := by simp
  rw [hz]
  refine ⟨h.1, fun k => ?_⟩
  rw [h.2 k]
  simp

def CellsR (w : World) (M : Nat → Option Nat) (V : OId → Option Nat) (G : OId → Option GL) (cs : List AV) (vs : Array Value) : Prop :=
  vs.size = cs.length ∧ ∀ (j : Nat) c, cs[j]? = some c → ∃ v, vs[j]? = some v ∧ v.oneCell' = true ∧ VR w M V G c v

def fillA (place : Nat → Option (Nat × Nat)) : List AV → List (Nat × AV) → Option (List AV)
  | cells, [] => some cells
  | cells, (i, v) :: rest =>
    match place i, cellsA v with
    | some (off, size), some vc =>
      match Nat.beq vc.length size && Nat.ble (off + size) cells.length with
      | true => fillA place (splice cells vc off) rest
      | false => none
    | _, _ => none

theorem fill_spec {w M V G} (place : Nat → Option (Nat × Nat)) : ∀ (pa : List (Nat × AV)) (ps : List (Nat × Value)) (cs cs' : List AV) (vs : Array Value),
    pa.length = ps.length → (∀ (i : Nat) p q, pa[i]? = some p → ps[i]? = some q → p.1 = q.1 ∧ VR w M V G p.2 q.2) →
    CellsR w M V G cs vs → fillA place cs pa = some cs' → ∃ vs', Instr.fill place vs ps = some vs' ∧ CellsR w M V G cs' vs' := by
  intro pa
  induction pa with
  | nil =>
    intro ps cs cs' vs hl _ hc hf
    have : ps = [] := List.eq_nil_of_length_eq_zero hl.symm
    subst this
    simp [fillA] at hf; subst hf
    exact ⟨vs, rfl, hc⟩
  | cons p pa ih =>
    intro ps cs cs' vs hl hp hc hf
    obtain ⟨i, av⟩ := p
    cases ps with
    | nil => simp at hl
    | cons q ps =>
      obtain ⟨i', v⟩ := q
      obtain ⟨h1, h2⟩ := hp 0 _ _ rfl rfl
      simp only at h1 h2
      subst h1
      simp only [fillA] at hf
      split at hf
      · rename_i off size vc hpl hcl
        split at hf
        · rename_i hb
          simp only [Bool.and_eq_true] at hb
          have hb1 := Nat.eq_of_beq_eq_true hb.1
          have hb2 := Nat.le_of_ble_eq_true hb.2
          obtain ⟨k1, k2⟩ := cellsA_spec h2 hcl
          obtain ⟨c1, c2⟩ := hc
          obtain ⟨f1, f2⟩ := foldl_cells off v.cells vs
          have hres : CellsR w M V G (splice cs vc off) (v.cells.zipIdx.foldl (fun cs (c : Value × Nat) => cs.setIfInBounds (off + c.2) c.1) vs) := by
            refine ⟨by rw [f1, c1]; simp [splice]; omega, fun j c hj => ?_⟩
            rw [f2]
            simp only [splice, List.getElem?_append, List.length_append, List.length_take] at hj
            have hm : min off cs.length = off := by omega
            rw [hm] at hj
            by_cases d1 : j < off + vc.length
            · rw [if_pos d1] at hj
              by_cases d2 : j < off
              · rw [if_pos d2, List.getElem?_take, if_pos d2] at hj
                rw [if_neg (by omega)]
                exact c2 j c hj
              · rw [if_neg d2] at hj
                rw [if_pos (by omega)]
                exact k2 _ c hj
            · rw [if_neg d1, List.getElem?_drop] at hj
              rw [if_neg (by omega)]
              have : off + vc.length + (j - (off + vc.length)) = j := by omega
              rw [this] at hj
              exact c2 j c hj
          obtain ⟨vs', g1, g2⟩ := ih ps _ cs' _ (by simpa using hl) (fun i p q hp' hq' => hp (i + 1) p q hp' hq') hres hf
          refine ⟨vs', ?_, g2⟩
          simp only [Instr.fill, hpl]
          rw [if_neg (by simp; omega)]
          exact g1
        · cases hf
      · cases hf

theorem mem_parts {ps : Array (Nat × Operand)} {i : Nat} {p : Nat × Operand} (h : ps.toList[i]? = some p) : p.2 ∈ (ps.toList.map (·.2)).toArray := by
  rw [← Array.mem_toList_iff]
  exact List.mem_map.2 ⟨p, List.mem_of_getElem? h, rfl⟩

/-- How a struct or an array of type t is built. -/
def BuildAt (P : Program) (t : Nat) (place : Nat → Option (Nat × Nat)) (zs : List Value) : Prop :=
  zs.all (·.oneCell') = true ∧ ∀ (parts : Array (Nat × Value)) cells, Instr.fill place zs.toArray parts.toList = some cells → ∀ w, (Instr.build t parts).run P w = .ok (.agg cells) w

section
variable {P : Program} {w0 : World} {M0 : MT} {σ : AS} {d : Option Tmp} {ty : TypeId} {pos : String} {after : Array Edge} {guard : Option (Nat × Bool)}

theorem ok_build {t : Nat} {place : Nat → Option (Nat × Nat)} {zs : List Value} {parts : Array (Nat × Operand)} {pa : List (Nat × AV)} {cs : List AV} (hb : BuildAt P t place zs)
    (hpa : pa = parts.toList.map fun p => (p.1, σ.ev p.2)) (hf : fillA place (zs.map .sc) pa = some cs) (hd : okDst σ d) :
    OpAny P w0 M0 σ ⟨d, .build t parts, ty, pos, after, guard⟩ (.val (.agg cs)) :=
  opAny_val hd fun σ' a w X hag hr => by
    subst hpa
    obtain ⟨hz, hrun⟩ := hb
    have hpart : ∀ (i : Nat) p q, (parts.toList.map fun p => (p.1, σ.ev p.2))[i]? = some p → (parts.map fun (i, x) => (i, a.eval x)).toList[i]? = some q → p.1 = q.1 ∧ VR w X.M X.V X.G p.2 q.2 := fun i p q hp hq => by
      simp only [Array.toList_map, List.getElem?_map, Option.map_eq_some_iff] at hp hq
      obtain ⟨r, hr1, rfl⟩ := hp
      obtain ⟨r', hr2, rfl⟩ := hq
      have : r = r' := Option.some.inj (hr1.symm.trans hr2)
      subst this
      refine ⟨rfl, ?_⟩
      have : σ'.ev r.2 = σ.ev r.2 := hag.ev r.2 (mem_parts hr1)
      show VR w X.M X.V X.G (σ.ev r.2) _
      rw [← this]
      exact hr.ev r.2
    obtain ⟨vs', g1, g2, g3⟩ := fill_spec place _ _ _ _ zs.toArray (by simp) hpart ⟨by simp, fun j c hj => by
      simp only [List.getElem?_map, Option.map_eq_some_iff] at hj
      obtain ⟨u, hu, rfl⟩ := hj
      exact ⟨u, by simpa using hu, List.all_eq_true.1 hz u (List.mem_of_getElem? hu), .sc u⟩⟩ hf
    refine ⟨.agg vs', by simp only [execOp]; exact run_value (hrun _ _ g1 w), ?_⟩
    have : vs' = vs'.toList.toArray := by simp
    rw [this]
    have hall : ∀ (i : Nat) c v, cs[i]? = some c → vs'.toList[i]? = some v → v.oneCell' = true ∧ VR w X.M X.V X.G c v := fun i c v hc hv => by
      obtain ⟨u, k1, k2, k3⟩ := g3 i c hc
      have : u = v := by
        rw [Array.getElem?_toList] at hv
        exact Option.some.inj (k1.symm.trans hv)
      subst this
      exact ⟨k2, k3⟩
    refine .agg cs _ (by simp [g2]) (List.all_eq_true.2 fun u hu => ?_) fun i c v hc hv => (hall i c v hc hv).2
    obtain ⟨i, hi⟩ := List.getElem?_of_mem hu
    have hlt : i < cs.length := by have := (List.getElem?_eq_some_iff.1 hi).1; simp [g2] at this; exact this
    exact (hall i cs[i] u (List.getElem?_eq_getElem hlt) hi).1

theorem fill_seq (z : Nat) : ∀ (vs : List Value) (k : Nat) (cells : Array Value), (∀ v ∈ vs, v.cells.size = z) → (k + vs.length) * z ≤ cells.size →
    ∃ cells', Instr.fill (fun i => some (i * z, z)) cells ((vs.zipIdx k).map fun p => (p.2, p.1)) = some cells' ∧ cells'.size = cells.size ∧ (∀ j, j < k * z → cells'[j]? = cells[j]?) ∧
      ∀ (i : Nat) v j, vs[i]? = some v → j < z → cells'[(k + i) * z + j]? = v.cells[j]? := by
  intro vs
  induction vs with
  | nil => intro k cells _ _; exact ⟨cells, rfl, rfl, fun _ _ => rfl, fun i v j h => by simp at h⟩
  | cons v vs ih =>
    intro k cells hz hl
    obtain ⟨f1, f2⟩ := foldl_cells (k * z) v.cells cells
    have hvz := hz v (by simp)
    have hk : (k + 1) * z ≤ cells.size := Nat.le_trans (Nat.mul_le_mul_right z (by simp only [List.length_cons]; omega)) hl
    rw [Nat.add_mul, Nat.one_mul] at hk
    obtain ⟨c', g1, g2, g3, g4⟩ := ih (k + 1) (v.cells.zipIdx.foldl (fun cs (c : Value × Nat) => cs.setIfInBounds (k * z + c.2) c.1) cells) (fun u hu => hz u (by simp [hu])) (by rw [f1]; simp only [List.length_cons] at hl; rwa [show k + 1 + vs.length = k + (vs.length + 1) by omega])
    refine ⟨c', ?_, by rw [g2, f1], fun j hj => ?_, fun i u j hu hj => ?_⟩
    · simp only [List.zipIdx_cons, List.map_cons, Instr.fill]
      rw [if_neg (by simp; omega)]
      exact g1
    · rw [g3 j (by rw [Nat.add_mul]; omega), f2, if_neg (by omega)]
    · cases i with
      | zero =>
        simp at hu; subst hu
        rw [Nat.add_zero, g3 _ (by rw [Nat.add_mul]; omega), f2, if_pos (by omega)]
        congr 1
        omega
      | succ i =>
        simp at hu
        have := g4 i u j hu hj
        rwa [show k + 1 + i = k + (i + 1) by omega] at this

theorem run_buildSlice {t e z len : Nat} {zv : Value} (hu : P.underlying t = some (.slice e)) (hs : ∀ w, (sizeOf e).run P w = .ok z w)
    (hzv : ∀ w, (zeroValue e).run P w = .ok zv w) (hsmall : len * z ≤ 1000000) (ps : Array (Nat × Value)) (w : World) (C : Array Value → Prop)
    (hf : ∀ init : Array Value, init.size = len * z → ∃ cells, Instr.fill (fun i => some (i * z, z)) init ps.toList = some cells ∧ C cells) :
    ∃ cells, C cells ∧ (Instr.buildSlice t len ps).run P w = .ok (.slice (some ⟨w.heap.size, 0, none⟩) len len) (w.alloc (.cells cells e)) := by
  have hbig : ¬ len * z > 2 ^ 24 := by omega
  by_cases h0 : len * z = 0
  · obtain ⟨cells, h1, h2⟩ := hf ((Array.range (len * z)).map fun i => (#[] : Array Value)[i % (#[] : Array Value).size]!) (by simp)
    refine ⟨cells, h2, ?_⟩
    simp only [Instr.buildSlice, Sem.run_bind, run_underlying' hu, hs, Result.andThen_ok]
    rw [if_neg hbig, if_pos h0]
    simp only [Sem.run_bind, Sem.run_pure, Result.andThen_ok]
    rw [h1]
    simp only [newRow, Sem.run_bind, run_newObj, Sem.run_pure, Result.andThen_ok]
    rfl
  · obtain ⟨cells, h1, h2⟩ := hf ((Array.range (len * z)).map fun i => zv.cells[i % zv.cells.size]!) (by simp)
    refine ⟨cells, h2, ?_⟩
    simp only [Instr.buildSlice, Sem.run_bind, run_underlying' hu, hs, Result.andThen_ok]
    rw [if_neg hbig, if_neg h0]
    simp only [Sem.run_bind, Sem.run_pure, Result.andThen_ok, hzv]
    rw [h1]
    simp only [newRow, Sem.run_bind, run_newObj, Sem.run_pure, Result.andThen_ok]
    rfl

/-- A slice literal that names all its elements in order. -/
theorem ok_buildSlice {t e z len : Nat} {parts : Array (Nat × Operand)} {es : List (List AV)} {zv : Value} {d : Tmp} (hu : P.underlying t = some (.slice e)) (hs : ∀ w, (sizeOf e).run P w = .ok z w)
    (hzv : ∀ w, (zeroValue e).run P w = .ok zv w) (hlen : parts.toList.length = len) (hidx : parts.toList.map (·.1) = List.range len)
    (hes : (parts.toList.map fun p => (cellsA (σ.ev p.2)).bind AV.close.closeL) = es.map some) (hz : ∀ c ∈ es, c.length = z) (hzp : 0 < z) (hsmall : len * z ≤ 1000000) (hd : d < σ.n) :
    OpAny P w0 M0 σ ⟨some d, .buildSlice t len parts, ty, pos, after, guard⟩ (.fresh (.own (0, 0) es) len z e) := by
  intro σ' hag a w ⟨X, hr⟩ K Q hK
  have hl2 : es.length = len := by have := congrArg List.length hes; simpa [hlen] using this.symm
  let vals : List Value := parts.toList.map fun p => a.eval p.2
  have hparts : (parts.map fun (i, x) => (i, a.eval x)).toList = (vals.zipIdx 0).map fun p => (p.2, p.1) := by
    apply List.ext_getElem?
    intro i
    simp only [Array.toList_map, List.getElem?_map, vals, List.getElem?_zipIdx]
    cases hp : parts.toList[i]? with
    | none => simp
    | some p =>
      have h1 : (parts.toList.map (·.1))[i]? = some p.1 := by simp [hp]
      rw [hidx] at h1
      have hi : i < len := by rw [← hlen]; exact (List.getElem?_eq_some_iff.1 hp).1
      rw [List.getElem?_range hi] at h1
      simp at h1
      simp [← h1]
  have hval : ∀ (i : Nat) v, vals[i]? = some v → ∃ c, es[i]? = some c ∧ v.cells.size = c.length ∧ ∀ (j : Nat) x, c[j]? = some x → ∃ u, v.cells[j]? = some u ∧ u.oneCell' = true ∧ VR w X.M noV noG x u := fun i v hv => by
    simp only [vals, List.getElem?_map, Option.map_eq_some_iff] at hv
    obtain ⟨p, hp, rfl⟩ := hv
    have h1 : (parts.toList.map fun p => (cellsA (σ.ev p.2)).bind AV.close.closeL)[i]? = some ((cellsA (σ.ev p.2)).bind AV.close.closeL) := by rw [List.getElem?_map, hp]; rfl
    rw [hes, List.getElem?_map, Option.map_eq_some_iff] at h1
    obtain ⟨c, hc, hcc⟩ := h1
    have h2 := hr.ev p.2
    rw [hag.ev p.2 (mem_parts hp)] at h2
    obtain ⟨c0, hc0, hcl⟩ := Option.bind_eq_some_iff.1 hcc.symm
    obtain ⟨n1, n2⟩ := cellsA_spec h2 hc0
    obtain ⟨n3, n4⟩ := closeL_get c0 c hcl
    refine ⟨c, hc, by rw [n1, n3], fun j y hy => ?_⟩
    have hj : j < c0.length := by rw [n3]; exact (List.getElem?_eq_some_iff.1 hy).1
    obtain ⟨u, m1, m2, m3⟩ := n2 j c0[j] (List.getElem?_eq_getElem hj)
    exact ⟨u, m1, m2, m3.closed y (n4 j c0[j] y (List.getElem?_eq_getElem hj) hy) _ _⟩
  have hvz : ∀ v ∈ vals, v.cells.size = z := fun v hv => by
    obtain ⟨i, hi⟩ := List.getElem?_of_mem hv
    obtain ⟨c, h1, h2, _⟩ := hval i v hi
    rw [h2]; exact hz c (List.mem_of_getElem? h1)
  have hvl : vals.length = len := by simp only [vals, List.length_map]; exact hlen
  obtain ⟨cells, ⟨hsz, g4⟩, hrun⟩ := run_buildSlice (P := P) hu hs hzv hsmall (parts.map fun (i, x) => (i, a.eval x)) w
    (fun cells => cells.size = len * z ∧ ∀ (i : Nat) v j, vals[i]? = some v → j < z → cells[i * z + j]? = v.cells[j]?) fun init hi => by
      obtain ⟨cells, g1, g2, _, g4⟩ := fill_seq z vals 0 init hvz (by rw [hi, hvl]; simp)
      rw [← hparts] at g1
      simp only [Nat.zero_add] at g4
      exact ⟨cells, g1, by rw [g2, hi], g4⟩
  have hrun : (execOp a.eval ⟨some d, .buildSlice t len parts, ty, pos, after, guard⟩).run P w = .ok (.value (.slice (some ⟨w.heap.size, 0, none⟩) len len)) (w.alloc (.cells cells e)) := by
    simp only [execOp]
    exact run_value hrun
  unfold Oper.wp
  rw [hrun, Oper.upon_value]
  have hbs := hr.below.size
  have hM : ∀ m, upd X.M w.heap.size (some (len * z)) w.heap.size = some m → m = len * z := fun m hm => by rw [upd_same] at hm; cases hm; rfl
  have hcell : ∀ (i : Nat) c (j : Nat) x, es[i]? = some c → c[j]? = some x → ∃ u, cells[i * z + j]? = some u ∧ u.oneCell' = true ∧ VR w X.M noV noG x u := fun i c j x hc hx => by
    have hi : i < vals.length := by rw [hvl, ← hl2]; exact (List.getElem?_eq_some_iff.1 hc).1
    obtain ⟨c', k1, k2, k3⟩ := hval i vals[i] (List.getElem?_eq_getElem hi)
    have : c' = c := Option.some.inj (k1.symm.trans hc)
    subst this
    have hjz : j < z := by rw [← hz c' (List.mem_of_getElem? hc)]; exact (List.getElem?_eq_some_iff.1 hx).1
    obtain ⟨u, m1, m2, m3⟩ := k3 j x hx
    exact ⟨u, by rw [g4 i vals[i] j (List.getElem?_eq_getElem hi) hjz]; exact m1, m2, m3⟩
  have hpos : ∀ (i : Nat) c (j : Nat) y, es[i]? = some c → c[j]? = some y → i * z + j < len * z := fun i c j y hc hx => by
    have hjz : j < z := by rw [← hz c (List.mem_of_getElem? hc)]; exact (List.getElem?_eq_some_iff.1 hx).1
    have hi : i < len := by rw [← hl2]; exact (List.getElem?_eq_some_iff.1 hc).1
    have : (i + 1) * z ≤ len * z := Nat.mul_le_mul_right z hi
    rw [Nat.add_mul] at this
    omega
  · refine hK _ _ (hr.newGrow (by rw [hag.n]; exact hd) (Nat.le_refl _) ?_ hsz (.own _ es _ ?_ _ (updO_same _ _ _) (by rw [hl2]; exact Nat.le_refl _) fun _ => rfl))
    · have := Nat.le_mul_of_pos_right len hzp
      unfold maxLen; omega
    · have := VR.sl (w := w.alloc (.cells cells e)) (M := upd X.M w.heap.size (some (len * z))) (V := noV) (G := noG) es z w.heap.size 0 len
        (fun i j => (cells[i * z + j]?).getD undef) hz (by rw [hl2]; exact Nat.le_refl _) (fun i c j y hc hy => ?_) (fun i c j y hc hy => ?_)
      · rw [hl2] at this; exact this
      · obtain ⟨u, m1, m2, m3⟩ := hcell i c j y hc hy
        refine ⟨by simp only [World.cell?, heap_new, Nat.zero_add, m1]; rfl, by simp only [m1]; exact m2, fun m hm => ?_⟩
        rw [hM m hm, Nat.zero_add]; exact hpos i c j y hc hy
      · obtain ⟨u, m1, m2, m3⟩ := hcell i c j y hc hy
        simp only [m1, Option.getD_some]
        exact m3.mono (fun _ _ _ hi => imm_alloc hi) fun _ _ hh => hh.alloc

/-- Nothing is appended. -/
theorem run_append_zero {t ty e z : Nat} (hu : P.underlying t = some (.slice e)) (hs : ∀ w, (sizeOf e).run P w = .ok z w) (w : World) (b yb : Option Addr) (n cap yc : Nat) (hn : n ≤ cap) :
    (Builtin.append_ #[t, t] ty #[.slice b n cap, .slice yb 0 yc]).run P w = .ok (.slice b n cap) w := by
  cases b <;> cases yb <;> simp [Builtin.append_, run_underlying' hu, hs, Builtin.lenOf, Builtin.firstCells, loadCells, loadCellsFrom, hn, storeCells]

theorem ok_append {t e z bytes : Nat} {i : TypeInfo} {zv : Value} {id : OId} {es ns : List (List AV)} (x y : Operand) (hu : P.underlying t = some (.slice e)) (hi : P.info? e = some i) (hzv : i.zero = some zv)
    (hsz : i.size = z) (hby : i.bytes = bytes) (hzc : zv.cells.size = z) (hzp : 0 < z) (hx : σ.ev x = .own id es) (hgr : σ.gr id = some (es.length, z, e)) (hy : slEs (σ.ev y) = some ns)
    (hnz : ∀ c ∈ ns, c.length = z) (hez : ∀ c ∈ es, c.length = z) (hbound : (es.length + ns.length) * bytes ≤ 140737488355328) (hbp : 0 < bytes) (hd : okDst σ d) :
    OpSeq P w0 M0 σ ⟨d, .call ⟨.builtin .append, #[x, y], #[t, t]⟩, ty, pos, after, guard⟩ (.grow id (es ++ ns) z e) := by
  intro a w ⟨X, hr⟩ K Q hK
  have h1 := hr.ev x
  rw [hx] at h1
  have h2 := slEs_spec (hr.ev y) hy
  obtain ⟨l, k1, k2, k3, k3', k4, k5⟩ := hr.gr id _ _ _ hgr
  have hs : ∀ w, (sizeOf e).run P w = .ok z w := fun w => by simp [sizeOf, typeInfo, hi, hsz]
  have hmb := Nat.le_mul_of_pos_right (es.length + ns.length) hbp
  have hml : es.length + ns.length ≤ maxLen := by unfold maxLen; omega
  have hbs := hr.below.size
  obtain ⟨hv0, hv⟩ : VR w X.M noV noG (.sl es) (a.eval x) ∧ a.eval x = l.val := by
    generalize a.eval x = v at h1
    cases h1 with
    | own _ _ _ h g hg hle heq =>
      have : g = l := Option.some.inj (hg.symm.trans k1)
      subst this
      exact ⟨h, heq k2.symm⟩
  -- what is appended
  obtain ⟨yb, yc, hyv, hnews⟩ : ∃ yb yc, a.eval y = .slice yb ns.length yc ∧ (0 < ns.length → ∃ b off, yb = some ⟨b, off, none⟩ ∧ ∃ Xn : Nat → Nat → Value,
      ∀ (i : Nat) c j u, ns[i]? = some c → c[j]? = some u → Imm w X.M b (off + (i * z + j)) (Xn i j) ∧ VR w X.M noV noG u (Xn i j)) := by
    generalize a.eval y = v at h2
    cases h2 with
    | sl0 a c => exact ⟨a, c, rfl, fun h => by simp at h⟩
    | sl _ z' b off cap Xn hz' hcap hc hv =>
      refine ⟨some ⟨b, off, none⟩, cap, rfl, fun hpos => ⟨b, off, rfl, Xn, fun i c j u hc' hu' => ⟨?_, hv i c j u hc' hu'⟩⟩⟩
      have : z = z' := by rw [← hnz c (List.mem_of_getElem? hc'), hz' c (List.mem_of_getElem? hc')]
      rw [this]
      exact hc i c j u hc' hu'
  have hstep : ∀ cv w', (Builtin.append_ #[t, t] ty #[a.eval x, a.eval y]).run P w = .ok cv w' → (execOp a.eval ⟨d, .call ⟨.builtin .append, #[x, y], #[t, t]⟩, ty, pos, after, guard⟩).run P w = .ok (.value cv) w' := fun cv w' h => by
    simp [execOp, resolve, invoke, builtin, h]
  by_cases h0 : ns.length = 0
  · -- nothing
    have hns : ns = [] := List.eq_nil_of_length_eq_zero h0
    subst hns
    have hrun := run_append_zero (P := P) (ty := ty) hu hs w (l.blk.map fun b => ⟨b, 0, none⟩) yb l.cnt l.cap yc (by rw [k2]; exact k3)
    have hrun2 := hstep _ w (by rw [hyv, hv]; exact hrun)
    unfold Oper.wp
    rw [hrun2, Oper.upon_value]
    refine hK _ _ ⟨X, ?_⟩
    have hgr' : updO σ.gr id (some ((es ++ ([] : List (List AV))).length, z, e)) = σ.gr := by
      funext id'
      by_cases hid : id' = id
      · subst hid; rw [updO_same, List.append_nil, hgr]
      · rw [updO_ne _ _ hid]
    show RelW w0 M0 (AS.put { σ with gr := updO σ.gr id (some ((es ++ ([] : List (List AV))).length, z, e)) } d (.own id (es ++ []))) _ _ _
    rw [hgr', List.append_nil]
    exact hr.put hd (.own id es _ (by have := hv0; rw [hv] at this; exact this) l k1 (by rw [k2]; exact Nat.le_refl _) fun _ => rfl)
  · have hpos : 0 < ns.length := Nat.pos_of_ne_zero h0
    obtain ⟨yblk, yoff, hyb, Xn, hXn⟩ := hnews hpos
    subst hyb
    let news : List Value := (List.range (ns.length * z)).map fun j => Xn (j / z) (j % z)
    have hnl : news.length = ns.length * z := by simp [news]
    have hat : ∀ j, j < ns.length * z → ∃ c u, ns[j / z]? = some c ∧ c[j % z]? = some u ∧ news[j]? = some (Xn (j / z) (j % z)) := fun j hj => by
      have hq : j / z < ns.length := Nat.div_lt_of_lt_mul (by rw [Nat.mul_comm]; exact hj)
      have hc := List.getElem?_eq_getElem hq
      have hmod : j % z < (ns[j / z]).length := by rw [hnz _ (List.getElem_mem hq)]; exact Nat.mod_lt _ hzp
      exact ⟨_, _, hc, List.getElem?_eq_getElem hmod, by simp [news, hj]⟩
    have hnews1 : ∀ (j : Nat) u, news[j]? = some u → w.cell? ((⟨yblk, yoff, none⟩ : Addr).add j) = some u := fun j u hju => by
      have hj : j < ns.length * z := by rw [← hnl]; exact (List.getElem?_eq_some_iff.1 hju).1
      obtain ⟨c, u', g1, g2, g3⟩ := hat j hj
      rw [g3] at hju; cases hju
      obtain ⟨⟨m1, _⟩, _⟩ := hXn _ _ _ _ g1 g2
      rw [addr_add]
      rw [show yoff + j = yoff + (j / z * z + j % z) by rw [Nat.mul_comm, Nat.div_add_mod]]
      exact m1
    have hnews2 : ∀ u ∈ news, u.oneCell' = true := fun u hu' => by
      obtain ⟨j, hj⟩ := List.getElem?_of_mem hu'
      have hjl : j < ns.length * z := by rw [← hnl]; exact (List.getElem?_eq_some_iff.1 hj).1
      obtain ⟨c, u', g1, g2, g3⟩ := hat j hjl
      rw [g3] at hj; cases hj
      exact (hXn _ _ _ _ g1 g2).1.2.1
    have hnews3 : ∀ (i : Nat) c j u, ns[i]? = some c → c[j]? = some u → ∃ v, news[i * z + j]? = some v ∧ v.oneCell' = true ∧ VR w X.M noV noG u v := fun i c j u hc hu' => by
      have hjz : j < z := by rw [← hnz c (List.mem_of_getElem? hc)]; exact (List.getElem?_eq_some_iff.1 hu').1
      have hil : i < ns.length := (List.getElem?_eq_some_iff.1 hc).1
      have hlt : i * z + j < ns.length * z := by
        have : (i + 1) * z ≤ ns.length * z := Nat.mul_le_mul_right z hil
        rw [Nat.add_mul] at this; omega
      obtain ⟨m1, m2⟩ := hXn i c j u hc hu'
      refine ⟨Xn i j, ?_, m1.2.1, m2⟩
      have hd1 : (i * z + j) / z = i := by rw [Nat.mul_comm, Nat.mul_add_div hzp, Nat.div_eq_of_lt hjz, Nat.add_zero]
      have hd2 : (i * z + j) % z = j := by rw [Nat.mul_comm, Nat.mul_add_mod, Nat.mod_eq_of_lt hjz]
      simp [news, hlt, hd1, hd2]
    -- the elements in a block that begins with the old ones and the new ones
    have hfin : ∀ (w1 : World) (M1 : Nat → Option Nat) (tb : Nat) (vs1 : Array Value) (cap1 : Nat), (∀ b off y, Imm w X.M b off y → Imm w1 M1 b off y) → (∀ b n, Sz w b n → Sz w1 b n) →
        w1.heap[tb]? = some (.cells vs1 e (0, 0)) → M1 tb = some ((es.length + ns.length) * z) → es.length + ns.length ≤ cap1 →
        (∀ (i : Nat) c j u, es[i]? = some c → c[j]? = some u → ∃ v, vs1[i * z + j]? = some v ∧ v.oneCell' = true ∧ VR w X.M noV noG u v) →
        (∀ j, j < ns.length * z → vs1[es.length * z + j]? = news[j]?) →
        VR w1 M1 noV noG (.sl (es ++ ns)) (.slice (some ⟨tb, 0, none⟩) (es.length + ns.length) cap1) := fun w1 M1 tb vs1 cap1 himm hzz hcells hM1 hcap1 hold hnew => by
      have hall : ∀ (i : Nat) c j u, (es ++ ns)[i]? = some c → c[j]? = some u → (∃ v, vs1[i * z + j]? = some v ∧ v.oneCell' = true ∧ VR w X.M noV noG u v) ∧ i * z + j < (es.length + ns.length) * z := fun i c j u hc hu' => by
        have hcz : c.length = z := by
          rcases List.mem_append.1 (List.mem_of_getElem? hc) with h | h
          · exact hez c h
          · exact hnz c h
        have hjz : j < z := by rw [← hcz]; exact (List.getElem?_eq_some_iff.1 hu').1
        have hil : i < es.length + ns.length := by rw [← List.length_append]; exact (List.getElem?_eq_some_iff.1 hc).1
        have hlt : i * z + j < (es.length + ns.length) * z := by
          have : (i + 1) * z ≤ (es.length + ns.length) * z := Nat.mul_le_mul_right z hil
          rw [Nat.add_mul] at this; omega
        refine ⟨?_, hlt⟩
        by_cases hie : i < es.length
        · rw [List.getElem?_append_left hie] at hc
          exact hold i c j u hc hu'
        · rw [List.getElem?_append_right (by omega)] at hc
          obtain ⟨v, m1, m2, m3⟩ := hnews3 _ c j u hc hu'
          refine ⟨v, ?_, m2, m3⟩
          have hidx : i * z + j = es.length * z + ((i - es.length) * z + j) := by
            rw [← Nat.add_assoc, ← Nat.add_mul]; congr 2; omega
          rw [hidx, hnew _ (by rw [← hnl]; exact (List.getElem?_eq_some_iff.1 m1).1)]
          exact m1
      have := VR.sl (w := w1) (M := M1) (V := noV) (G := noG) (es ++ ns) z tb 0 cap1 (fun i j => (vs1[i * z + j]?).getD undef)
        (fun c hc => by rcases List.mem_append.1 hc with h | h; exact hez c h; exact hnz c h) (by rw [List.length_append]; exact hcap1)
        (fun i c j u hc hu' => by
          obtain ⟨⟨v, m1, m2, m3⟩, m4⟩ := hall i c j u hc hu'
          refine ⟨by simp only [World.cell?, hcells, Nat.zero_add, m1]; rfl, by simp only [m1]; exact m2, fun m hm => ?_⟩
          rw [hM1] at hm; cases hm
          rw [Nat.zero_add]; exact m4)
        (fun i c j u hc hu' => by
          obtain ⟨⟨v, m1, m2, m3⟩, m4⟩ := hall i c j u hc hu'
          simp only [m1, Option.getD_some]
          exact m3.mono himm hzz)
      rw [List.length_append] at this
      exact this
    have hnewcap : ∀ old, es.length + ns.length ≤ grownCap w (es.length + ns.length) old e ∧ grownCap w (es.length + ns.length) old e ≤ maxLen := fun old => ⟨grownCap_ge w _ old e, grownCap_le_maxLen w _ old e hml⟩
    cases hblk : l.blk with
    | none =>
      -- out of nil
      have hc0 := k4 hblk
      have he0 : es.length = 0 := by omega
      have hes : es = [] := List.eq_nil_of_length_eq_zero he0
      have hxv : a.eval x = .slice none 0 0 := by rw [hv]; simp [GL.val, hblk, k2, he0, hc0]
      have hrun := run_append_nil (P := P) w t ty e i zv hu hi hzv ⟨yblk, yoff, none⟩ ns.length yc news (by rw [hsz]; exact hnl) hnews1 hpos (by unfold maxLen at hml; omega) (by rw [hby]; have := hbound; rw [he0] at this; simp only [Nat.zero_add] at this; omega)
      have hrun2 := hstep _ _ (by rw [hyv, hxv]; exact hrun)
      rw [show Value.slice (some ⟨w.heap.size, 0, none⟩) ns.length (grownCap w ns.length 0 e) = .slice (some ⟨w.heap.size, 0, none⟩) (es.length + ns.length) (grownCap w ns.length 0 e) by rw [he0, Nat.zero_add]] at hrun2
      unfold Oper.wp
      rw [hrun2, Oper.upon_value]
      obtain ⟨c1, c2⟩ := hnewcap 0
      rw [he0, Nat.zero_add] at c1 c2
      have himm : ∀ b off y, Imm w X.M b off y → Imm (w.drew.alloc (.cells (news.toArray ++ Builtin.zeroCells zv.cells (grownCap w ns.length 0 e - ns.length)) e)) (upd X.M w.heap.size (some ((es.length + ns.length) * z))) b off y := fun b off y hh => imm_alloc (w := w.drew) hh
      refine hK _ _ (hr.regrow (m := ns.length) (cap := grownCap w ns.length 0 e) (tb := w.heap.size) hd hgr k1 k2 (by rw [List.length_append]) ((hr.below.drew).alloc hbs _) (.inl hbs) (by simp) (fun b hb _ => heap_old w.drew _ hb)
        (.inl ⟨(hr.mlt _ (Nat.le_refl _)).2, Nat.le_refl _⟩) himm (fun _ _ hh => Sz.alloc (w := w.drew) hh) (heap_new w.drew _) ?_ (by omega) c2 (fun h => by omega) (hfin _ _ w.heap.size _ (grownCap w ns.length 0 e) himm (fun _ _ hh => Sz.alloc (w := w.drew) hh) (heap_new w.drew _) (upd_same _ _ _) (by omega) ?_ ?_) ?_)
      · simp only [Array.size_append, List.size_toArray, size_zeroCells, hzc, hnl, ← Nat.add_mul]
        congr 1; omega
      · intro i c j u hc; rw [hes] at hc; simp at hc
      · intro j hj
        rw [he0, Nat.zero_mul, Nat.zero_add, Array.getElem?_append_left (by simp [hnl]; exact hj)]
        simp
      · simp [GL.val, he0]
    | some g =>
      obtain ⟨p1, p2, p3, vs, p4, p5⟩ := k5 g hblk
      have hxv : a.eval x = .slice (some ⟨g, 0, none⟩) es.length l.cap := by rw [hv]; simp [GL.val, hblk, k2]
      -- the old elements' cells
      have hold : ∀ (i : Nat) c j u, es[i]? = some c → c[j]? = some u → ∃ v, vs[i * z + j]? = some v ∧ v.oneCell' = true ∧ VR w X.M noV noG u v := fun i c j u hc hu' => by
        rw [hxv] at hv0
        cases hv0 with
        | sl0 _ _ => simp at hc
        | sl _ z' b off cap Xo hz' hcap hcc hvv =>
          have hzz : z = z' := by rw [← hez c (List.mem_of_getElem? hc), hz' c (List.mem_of_getElem? hc)]
          subst hzz
          have m1 := hcc i c j u hc hu'
          have m2 := m1.1
          simp only [World.cell?, p4, Nat.zero_add] at m2
          exact ⟨_, by simpa using m2, m1.2.1, hvv i c j u hc hu'⟩
      by_cases hroom : es.length + ns.length ≤ l.cap
      · have hfit : es.length * z + news.length ≤ vs.size := by rw [hnl, p5, ← Nat.add_mul]; exact Nat.mul_le_mul_right _ hroom
        have hrun := run_append_room (P := P) w t ty e i hu hi g es.length l.cap vs p4 ⟨yblk, yoff, none⟩ ns.length yc news (by rw [hsz]; exact hnl) hnews1 hnews2 hroom (by rw [hsz]; exact hfit)
        have hrun2 := hstep _ _ (by rw [hyv, hxv]; exact hrun)
        unfold Oper.wp
        rw [hrun2, Oper.upon_value]
        have hget : ∀ k, (vs.toList.take (es.length * z) ++ news ++ vs.toList.drop (es.length * z + news.length)).toArray[k]? = if k < es.length * z then vs[k]? else if k < es.length * z + news.length then news[k - es.length * z]? else vs[k]? := fun k => by
          have hm : min (es.length * z) vs.size = es.length * z := by omega
          simp only [List.getElem?_toArray, List.getElem?_append, List.length_append, List.length_take, Array.length_toList, hm, List.getElem?_take, List.getElem?_drop, Array.getElem?_toList]
          by_cases q1 : k < es.length * z
          · simp [q1, show k < es.length * z + news.length by omega]
          · by_cases q2 : k < es.length * z + news.length
            · simp [q1, q2]
            · simp only [q1, q2, if_false]
              congr 1; omega
        have himm : ∀ b off y, Imm w X.M b off y → Imm (w.setRow g (vs.toList.take (es.length * z) ++ news ++ vs.toList.drop (es.length * z + news.length)).toArray) (upd X.M g (some ((es.length + ns.length) * z))) b off y := fun b off y hh =>
          imm_setRow p4 p3 (fun j hj => by rw [hget, if_pos hj]) (fun k hk => by cases hk; exact Nat.mul_le_mul_right _ (Nat.le_add_right _ _)) hh
        have hrow : ∀ m, Sz w g m → m ≤ (vs.toList.take (es.length * z) ++ news ++ vs.toList.drop (es.length * z + news.length)).toArray.size := fun m hm => Nat.le_trans (hm.cells p4) (by simp; omega)
        subst hsz
        refine hK _ _ (hr.regrow (m := ns.length) (cap := l.cap) (tb := g) hd hgr k1 k2 (by rw [List.length_append]) (below_setRow hr.below p1 _ hrow) p1 (by rw [setRow_size]; exact Nat.le_refl _) (fun b _ hb => setRow_other w g b _ hb)
          (.inr p2) himm (fun _ _ hh => hh.row hrow) (setRow_heap w g vs _ e _ p4) ?_ hroom k3' (fun h => by omega) (hfin _ _ g _ l.cap himm (fun _ _ hh => hh.row hrow) (setRow_heap w g vs _ e _ p4) (upd_same _ _ _) hroom ?_ ?_) ?_)
        · simp only [List.size_toArray, List.length_append, List.length_take, List.length_drop, Array.length_toList]
          omega
        · intro i' c j u hc hu'
          obtain ⟨v, m1, m2⟩ := hold i' c j u hc hu'
          refine ⟨v, ?_, m2⟩
          have hjz : j < i.size := by rw [← hez c (List.mem_of_getElem? hc)]; exact (List.getElem?_eq_some_iff.1 hu').1
          have hil : i' < es.length := (List.getElem?_eq_some_iff.1 hc).1
          have hlt : i' * i.size + j < es.length * i.size := by
            have : (i' + 1) * i.size ≤ es.length * i.size := Nat.mul_le_mul_right _ hil
            rw [Nat.add_mul] at this; omega
          rw [hget, if_pos hlt]; exact m1
        · intro j hj
          rw [hget, if_neg (by omega), if_pos (by omega)]
          congr 1; omega
        · simp [GL.val]
      · -- it moves
        let olds : List Value := vs.toList.take (es.length * z)
        have hol : olds.length = es.length * z := by
          simp only [olds, List.length_take, Array.length_toList, p5]
          have := Nat.mul_le_mul_right z k3
          omega
        have hrun := run_append_grow (P := P) w t ty e i zv hu hi hzv ⟨g, 0, none⟩ es.length l.cap olds (by rw [hsz]; exact hol) (fun j v hj => by
            have hjl : j < es.length * z := by rw [← hol]; exact (List.getElem?_eq_some_iff.1 hj).1
            rw [addr_add, Nat.zero_add]
            simp only [olds, List.getElem?_take, if_pos hjl, Array.getElem?_toList] at hj
            simp [World.cell?, p4, hj])
          ⟨yblk, yoff, none⟩ ns.length yc news (by rw [hsz]; exact hnl) hnews1 (by omega) (by unfold maxLen at hml; omega) (growslice_fits (by omega) (by rw [hby]; exact hbound))
        have hrun2 := hstep _ _ (by rw [hyv, hxv]; exact hrun)
        unfold Oper.wp
        rw [hrun2, Oper.upon_value]
        obtain ⟨c1, c2⟩ := hnewcap l.cap
        have himm : ∀ b off y, Imm w X.M b off y → Imm (w.drew.alloc (.cells (olds.toArray ++ news.toArray ++ Builtin.zeroCells zv.cells (grownCap w (es.length + ns.length) l.cap e - (es.length + ns.length))) e)) (upd X.M w.heap.size (some ((es.length + ns.length) * z))) b off y := fun b off y hh => imm_alloc (w := w.drew) hh
        refine hK _ _ (hr.regrow (m := ns.length) (cap := grownCap w (es.length + ns.length) l.cap e) (tb := w.heap.size) hd hgr k1 k2 (by rw [List.length_append]) ((hr.below.drew).alloc hbs _) (.inl hbs) (by simp) (fun b hb _ => heap_old w.drew _ hb)
          (.inl ⟨(hr.mlt _ (Nat.le_refl _)).2, Nat.le_refl _⟩) himm (fun _ _ hh => Sz.alloc (w := w.drew) hh) (heap_new w.drew _) ?_ c1 c2 (fun h => by omega) (hfin _ _ w.heap.size _ _ himm (fun _ _ hh => Sz.alloc (w := w.drew) hh) (heap_new w.drew _) (upd_same _ _ _) c1 ?_ ?_) ?_)
        · simp only [Array.size_append, List.size_toArray, size_zeroCells, hzc, hnl, hol, ← Nat.add_mul]
          congr 1; omega
        · intro i' c j u hc hu'
          obtain ⟨v, m1, m2⟩ := hold i' c j u hc hu'
          refine ⟨v, ?_, m2⟩
          have hjz : j < z := by rw [← hez c (List.mem_of_getElem? hc)]; exact (List.getElem?_eq_some_iff.1 hu').1
          have hil : i' < es.length := (List.getElem?_eq_some_iff.1 hc).1
          have hlt : i' * z + j < es.length * z := by
            have : (i' + 1) * z ≤ es.length * z := Nat.mul_le_mul_right _ hil
            rw [Nat.add_mul] at this; omega
          rw [Array.append_assoc, Array.getElem?_append_left (by simp [hol]; exact hlt)]
          simp only [List.getElem?_toArray, olds, List.getElem?_take, if_pos hlt, Array.getElem?_toList]
          exact m1
        · intro j hj
          rw [Array.append_assoc, Array.getElem?_append_right (by simp [hol]), Array.getElem?_append_left (by simp [hol, hnl]; omega)]
          simp [hol]
        · simp [GL.val]

end
end Go.Ab

/- Calls: what a function does, told of values alone. Nothing here speaks of one program. -/
namespace Go.Ab
open Go.RowKit

/-- What a call gives back: with 'fr', one growing slice among it that is the caller's own. -/
def Res (w : World) (M : Nat → Option Nat) (w' : World) (r : AV) (fr : Option (Nat × Nat × TypeId)) (v : Value) : Prop :=
  match fr with
  | none => VR w' M noV noG r v
  | some (n, z, e) => ∃ l : GL, l.cnt = n ∧ n ≤ l.cap ∧ l.cap ≤ maxLen ∧ (l.blk = none → l.cap = 0) ∧
      (∀ b, l.blk = some b → w.heap.size ≤ b ∧ ∃ vs, w'.heap[b]? = some (.cells vs e (0, 0)) ∧ vs.size = l.cap * z) ∧
      VR w' (match l.blk with | some b => upd M b (some (n * z)) | none => M) noV (updO noG (0, 0) (some l)) r v

/-- Called with values that are told by args, in whatever memory, f returns what r tells, and nothing that was there has changed. -/
def FSpecG (P : Program) (Γ : World → Prop) (f : FuncId) (args : List AV) (r : AV) (fr : Option (Nat × Nat × TypeId)) : Prop :=
  ∀ (w : World) (M : Nat → Option Nat) (vals : List Value), Γ w → args.length = vals.length →
    (∀ (i : Nat) x v, args[i]? = some x → vals[i]? = some v → VR w M noV noG x v) → (∀ b, w.heap.size ≤ b → M b = none) →
    Calls P f vals.toArray w fun e w' => ∃ v, e = .returned v ∧ Below w.heap.size w w' ∧ Res w M w' r fr v

/-- The same, of whatever memory. -/
def FSpec (P : Program) (f : FuncId) (args : List AV) (r : AV) (fr : Option (Nat × Nat × TypeId)) : Prop := FSpecG P (fun _ => True) f args r fr

/-- A premise on what the package's variables hold: nothing that a call does changes it. -/
def Stable (Γ : World → Prop) : Prop := ∀ w w', Below w.heap.size w w' → Γ w → Γ w'

theorem FSpec.toG {P : Program} {Γ : World → Prop} {f args r fr} (h : FSpec P f args r fr) : FSpecG P Γ f args r fr := fun w M vals _ => h w M vals trivial

/-- The function f has a body. -/
def Body (P : Program) (f : FuncId) : Prop := ∀ (args : Array Value) (w : World), (callFunc f args).run P w = .ok (.enter f args) w

theorem imm_below {M : Nat → Option Nat} {w w' : World} (h : Below w.heap.size w w') {b off : Nat} {y : Value} (hi : Imm w M b off y) : Imm w' M b off y := by
  have hb : b < w.heap.size := by
    rcases Nat.lt_or_ge b w.heap.size with h' | h'
    · exact h'
    · have := hi.1; simp [World.cell?, Array.getElem?_eq_none h'] at this
  exact ⟨by rw [cell?_same (h.block b hb)]; exact hi.1, hi.2⟩

theorem VR.ren' {w M V G x v} {id : OId} {l : GL} (h : VR w M V G x v) : V = noV → G = updO noG (0, 0) (some l) → ∀ V' G', G' id = some l → VR w M V' G' (x.ren id) v := by
  induction h with
  | any v => intro _ _ V' G' _; exact .any v
  | sc v => intro _ _ V' G' _; exact .sc v
  | agg cs vs hl h1 _ ih =>
    intro h2 h3 V' G' hg
    obtain ⟨r1, r2⟩ := renL_get id cs
    refine .agg _ vs (by rw [r1]; exact hl) h1 fun i c v hc hv => ?_
    rw [r2, Option.map_eq_some_iff] at hc
    obtain ⟨c', hc', rfl⟩ := hc
    exact ih i c' v hc' hv h2 h3 V' G' hg
  | tup cs vs hl _ ih =>
    intro h2 h3 V' G' hg
    obtain ⟨r1, r2⟩ := renL_get id cs
    refine .tup _ vs (by rw [r1]; exact hl) fun i c v hc hv => ?_
    rw [r2, Option.map_eq_some_iff] at hc
    obtain ⟨c', hc', rfl⟩ := hc
    exact ih i c' v hc' hv h2 h3 V' G' hg
  | ref id' off b h => intro h2; subst h2; cases h
  | arr id' off n c b cap h h1 hc => intro h2; subst h2; cases h
  | rd cs b off X hc hv _ => intro _ _ V' G' _; exact .rd cs b off X hc hv
  | sl0 a c => intro _ _ V' G' _; exact .sl0 a c
  | nil0 a => intro _ _ V' G' _; exact .nil0 a
  | sl es z b off cap X hz hcap hc hv _ => intro _ _ V' G' _; exact .sl es z b off cap X hz hcap hc hv
  | own id' es v h g hg hle heq _ =>
    intro _ h3 V' G' hg'
    subst h3
    have hid : id' = (0, 0) := by
      by_cases hh : id' = (0, 0)
      · exact hh
      · rw [updO_ne _ _ hh] at hg; cases hg
    subst hid
    rw [updO_same] at hg
    cases hg
    exact .own id es v h _ hg' hle heq
  | clo f cs vs hl _ ih =>
    intro h2 h3 V' G' hg
    obtain ⟨r1, r2⟩ := renL_get id cs
    refine .clo f _ vs (by rw [r1]; exact hl) fun i c v hc hv => ?_
    rw [r2, Option.map_eq_some_iff] at hc
    obtain ⟨c', hc', rfl⟩ := hc
    exact ih i c' v hc' hv h2 h3 V' G' hg
  | bnd f cs vs hl _ ih =>
    intro h2 h3 V' G' hg
    obtain ⟨r1, r2⟩ := renL_get id cs
    refine .bnd f _ vs (by rw [r1]; exact hl) fun i c v hc hv => ?_
    rw [r2, Option.map_eq_some_iff] at hc
    obtain ⟨c', hc', rfl⟩ := hc
    exact ih i c' v hc' hv h2 h3 V' G' hg
  | ifc t x v _ ih => intro h2 h3 V' G' hg; exact .ifc t _ v (ih h2 h3 V' G' hg)

section
variable {w0 : World} {M0 : MT} {σ : AS} {a : Act} {w : World} {x : Wit}

/-- All that was there is as it was. -/
theorem RelW.world (h : RelW w0 M0 σ a w x) {w' : World} (hb : Below w.heap.size w w') : RelW w0 M0 σ a w' x := by
  have himm : ∀ b off y, Imm w x.M b off y → Imm w' x.M b off y := fun b off y hi => imm_below hb hi
  constructor
  · exact h.below.trans (hb.mono h.below.size)
  · exact h.defers
  · exact h.size
  · exact fun i => (h.tm i).mono himm fun _ _ hh => hh.of_eq (hb.block _ hh.lt)
  · exact h.m0
  · exact fun b hb' => h.mlt b (Nat.le_trans hb.size hb')
  · exact h.fresh
  · exact h.lent
  · intro id cs hv
    obtain ⟨b, vs, ty, h1, h2, h3, h4, h5, h6, h7⟩ := h.va id cs hv
    exact ⟨b, vs, ty, h1, h2, h3, h4, by rw [hb.block b (lt_of_cells h5)]; exact h5, h6, fun j c hj => by
      obtain ⟨v, g1, g2, g3⟩ := h7 j c hj
      exact ⟨v, g1, g2, g3.mono himm fun _ _ hh => hh.of_eq (hb.block _ hh.lt)⟩⟩
  · exact h.vgen
  · intro id n z e hg
    obtain ⟨l, h1, h2, h3, h3', h4, h5⟩ := h.gr id n z e hg
    refine ⟨l, h1, h2, h3, h3', h4, fun b hbl => ?_⟩
    obtain ⟨g1, g2, g3, vs, g4, g5⟩ := h5 b hbl
    exact ⟨g1, g2, g3, vs, by rw [hb.block b (lt_of_cells g4)]; exact g4, g5⟩
  · exact h.ggen

/-- A growing slice that a call has given back. -/
theorem RelW.callGrow (h : RelW w0 M0 σ a w x) {d : Tmp} (hd : d < σ.n) {w1 : World} (hb : Below w.heap.size w w1) {r : AV} {n z : Nat} {e : TypeId} {cv : Value}
    (hres : Res w x.M w1 r (some (n, z, e)) cv) : Rel w0 M0 (σ.app (some d) (.fresh r n z e)) (a.put (some d) cv) w1 := by
  obtain ⟨l, l1, l2, l3, l4, l5, l6⟩ := hres
  have hbs := h.below.size
  have hnn := (h.fresh d (σ.gen d) (Nat.le_refl _)).2
  have hs' : d < a.tmps.size := by rw [h.size]; exact hd
  have hnew : ∀ b, l.blk = some b → w.heap.size ≤ b ∧ b < w1.heap.size := fun b hbl => by
    obtain ⟨p1, vs, p2, _⟩ := l5 b hbl
    exact ⟨p1, lt_of_cells p2⟩
  generalize hM : (match l.blk with | some b => upd x.M b (some (n * z)) | none => x.M) = M1 at l6
  have hM1 : ∀ b, (∀ b', l.blk = some b' → b ≠ b') → M1 b = x.M b := fun b hne => by
    subst hM
    cases hbl : l.blk with
    | none => rfl
    | some b' => exact upd_ne _ _ (hne b' hbl)
  let ow1 : Nat → Option (Bool × OId) := match l.blk with | some b => upd x.ow b (some (false, (d, σ.gen d))) | none => x.ow
  have how1 : ∀ b, (∀ b', l.blk = some b' → b ≠ b') → ow1 b = x.ow b := fun b hne => by
    simp only [ow1]
    cases hbl : l.blk with
    | none => rfl
    | some b' => exact upd_ne _ _ (hne b' hbl)
  have hold : ∀ b, b < w.heap.size → ∀ b', l.blk = some b' → b ≠ b' := fun b hlt b' hbl => by have := (hnew b' hbl).1; omega
  have himm : ∀ b off y, Imm w x.M b off y → Imm w1 M1 b off y := fun b off y hi => by
    have hlt : b < w.heap.size := by
      rcases Nat.lt_or_ge b w.heap.size with h' | h'
      · exact h'
      · have := hi.1; simp [World.cell?, Array.getElem?_eq_none h'] at this
    have h1 := imm_below hb hi
    exact ⟨h1.1, h1.2.1, by rw [hM1 b (hold b hlt)]; exact h1.2.2⟩
  have lift : ∀ {c v}, VR w x.M x.V x.G c v → VR w1 M1 x.V (updO x.G (d, σ.gen d) (some l)) c v := fun hv => locsG hnn (hv.mono himm fun _ _ hh => hh.of_eq (hb.block _ hh.lt))
  refine ⟨⟨M1, x.V, updO x.G (d, σ.gen d) (some l), ow1⟩, ?_⟩
  constructor
  · exact h.below.trans (hb.mono hbs)
  · exact h.defers
  · show (a.tmps.setIfInBounds d _).size = σ.n
    rw [Array.size_setIfInBounds]; exact h.size
  · intro i
    rw [getD_put a d i _ hs']
    show VR _ _ _ _ (upd σ.tm d _ i) _
    by_cases hi : i = d
    · subst hi
      rw [upd_same, if_pos rfl]
      exact l6.ren' rfl rfl _ _ (updO_same _ _ _)
    · rw [upd_ne _ _ hi, if_neg hi]
      exact lift (h.tm i)
  · intro b hb' ht
    show M1 b = M0.m b
    rw [hM1 b (hold b (by omega))]; exact h.m0 b hb' ht
  · intro b hb'
    have hne : ∀ b', l.blk = some b' → b ≠ b' := fun b' hbl => by have := (hnew b' hbl).2; omega
    show M1 b = none ∧ ow1 b = none
    rw [hM1 b hne, how1 b hne]
    exact h.mlt b (Nat.le_trans hb.size hb')
  · intro d' g hg
    show x.V (d', g) = none ∧ updO x.G (d, σ.gen d) _ (d', g) = none
    have hg' : σ.gen d' ≤ g ∧ (d', g) ≠ (d, σ.gen d) := by
      change upd σ.gen d (σ.gen d + 1) d' ≤ g at hg
      by_cases hdd : d' = d
      · subst hdd; rw [upd_same] at hg
        exact ⟨by omega, fun e => by have := (Prod.mk.inj e).2; omega⟩
      · rw [upd_ne _ _ hdd] at hg
        exact ⟨hg, fun e => hdd (Prod.mk.inj e).1⟩
    rw [updO_ne _ _ hg'.2]
    exact h.fresh d' g hg'.1
  · intro id b hid
    obtain ⟨h1, h2, h3, h4⟩ := h.lent id b hid
    refine ⟨h1, h2, ?_, h4⟩
    show 0 < upd σ.gen d _ id.1
    rw [upd_ne _ _ (fun e => by subst e; exact absurd h1 (Nat.not_le_of_lt hd))]; exact h3
  · intro id cs' hv
    obtain ⟨b, vs', ty', h1, h2, h3, h4, h5, h6, h7⟩ := h.va id cs' hv
    have hlt := lt_of_cells h5
    refine ⟨b, vs', ty', h1, h2, by show ow1 b = _; rw [how1 b (hold b hlt)]; exact h3, by show M1 b = _; rw [hM1 b (hold b hlt)]; exact h4, by rw [hb.block b hlt]; exact h5, h6, fun j c hj => ?_⟩
    obtain ⟨v, g1, g2, g3⟩ := h7 j c hj
    exact ⟨v, g1, g2, lift g3⟩
  · intro d' g cs' hv
    have := h.vgen d' g cs' hv
    show g < upd σ.gen d (σ.gen d + 1) d'
    by_cases hdd : d' = d
    · subst hdd; rw [upd_same]; omega
    · rw [upd_ne _ _ hdd]; exact this
  · intro id n' z' e' hg
    change updO σ.gr (d, σ.gen d) (some (n, z, e)) id = some (n', z', e') at hg
    by_cases hid : id = (d, σ.gen d)
    · subst hid
      rw [updO_same] at hg
      cases hg
      refine ⟨l, updO_same _ _ _, l1, l2, l3, l4, fun b hbl => ?_⟩
      obtain ⟨p1, vs, p2, p3⟩ := l5 b hbl
      refine ⟨.inl (by omega), ?_, ?_, vs, p2, p3⟩
      · show ow1 b = _
        simp only [ow1, hbl]; exact upd_same _ _ _
      · show M1 b = _
        subst hM; simp only [hbl]; exact upd_same _ _ _
    · rw [updO_ne _ _ hid] at hg
      obtain ⟨l', h1, h2, h3, h3', h4, h5⟩ := h.gr id n' z' e' hg
      refine ⟨l', by show updO x.G _ _ id = _; rw [updO_ne _ _ hid]; exact h1, h2, h3, h3', h4, fun b hbl => ?_⟩
      obtain ⟨g1, g2, g3, vs', g4, g5⟩ := h5 b hbl
      have hlt := lt_of_cells g4
      exact ⟨g1, by show ow1 b = _; rw [how1 b (hold b hlt)]; exact g2, by show M1 b = _; rw [hM1 b (hold b hlt)]; exact g3, vs', by rw [hb.block b hlt]; exact g4, g5⟩
  · intro d' g nz hg
    change updO σ.gr (d, σ.gen d) (some (n, z, e)) (d', g) = some nz at hg
    show g < upd σ.gen d (σ.gen d + 1) d'
    by_cases hid : (d', g) = (d, σ.gen d)
    · cases hid; rw [upd_same]; omega
    · rw [updO_ne _ _ hid] at hg
      have := h.ggen d' g nz hg
      by_cases hdd : d' = d
      · subst hdd; rw [upd_same]; omega
      · rw [upd_ne _ _ hdd]; exact this
end

/-- The event of a call. -/
def Ev.call (r : AV) : Option (Nat × Nat × TypeId) → Ev
  | none => .val r
  | some (n, z, e) => .fresh r n z e

theorem closedArgs {w M V G} {σ' : AS} {a : Act} (hev : ∀ o, VR w M V G (σ'.ev o) (a.eval o)) {σ : AS} : ∀ (l : List Operand) (cl : List AV), (∀ o ∈ l, σ'.ev o = σ.ev o) → (l.map fun o => (σ.ev o).close) = cl.map some →
    cl.length = (l.map a.eval).length ∧ ∀ (i : Nat) x v, cl[i]? = some x → (l.map a.eval)[i]? = some v → VR w M noV noG x v := fun l cl hag hcl => by
  have hlen : l.length = cl.length := by simpa using congrArg List.length hcl
  refine ⟨by simp [hlen], fun i x v hx hv => ?_⟩
  simp only [List.getElem?_map, Option.map_eq_some_iff] at hv
  obtain ⟨o, ho, rfl⟩ := hv
  have h1 : (l.map fun o => (σ.ev o).close)[i]? = some ((σ.ev o).close) := by rw [List.getElem?_map, ho]; rfl
  rw [hcl, List.getElem?_map, hx] at h1
  have h2 := hev o
  rw [hag o (List.mem_of_getElem? ho)] at h2
  exact h2.closed x (Option.some.inj h1).symm _ _

section
variable {P : Program} {w0 : World} {M0 : MT} {σ : AS} {ty : TypeId} {pos : String} {after : Array Edge} {guard : Option (Nat × Bool)}

theorem ok_call {Γ : World → Prop} {f : FuncId} {args : Array Operand} {tys : Array TypeId} {cl : List AV} {r : AV} {fr : Option (Nat × Nat × TypeId)} {d : Tmp} (hs : FSpecG P Γ f cl r fr) (hG : ∀ w, Kept w0 M0 w → Γ w) (hb : Body P f)
    (hcl : (args.toList.map fun o => (σ.ev o).close) = cl.map some) (hd : d < σ.n) :
    OpAny P w0 M0 σ ⟨some d, .call ⟨.value (.func f), args, tys⟩, ty, pos, after, guard⟩ (.call r fr) := by
  intro σ' hag a w ⟨X, hr⟩ K Q hK
  obtain ⟨c1, c2⟩ := closedArgs (fun o => hr.ev o) args.toList cl (fun o ho => hag.ev o (by simp [Op.operands, Call.operands]; exact .inr (Array.mem_toList_iff.1 ho))) hcl
  have hrun : (execOp a.eval ⟨some d, .call ⟨.value (.func f), args, tys⟩, ty, pos, after, guard⟩).run P w = .ok (.enter f (args.map a.eval)) w := by
    simp [execOp, resolve, Deferred.ofValue, Act.eval, invoke]
    exact hb _ _
  unfold Oper.wp
  rw [hrun, Oper.upon_enter]
  have hcall := hs w X.M (args.toList.map a.eval) (hG w hr.below) c1 c2 (fun b hbb => (hr.mlt b hbb).1)
  have harr : (args.toList.map a.eval).toArray = args.map a.eval := by apply Array.ext'; simp
  rw [harr] at hcall
  refine hcall.mono fun e w' ⟨v, he, hbel, hres⟩ => ?_
  subst he
  have hd' : d < σ'.n := by rw [hag.n]; exact hd
  cases fr with
  | none => exact hK _ _ ⟨X, (hr.world hbel).put (d := some d) hd' (VR.open' hres _ _)⟩
  | some t =>
    obtain ⟨n, z, e⟩ := t
    exact hK _ _ (hr.callGrow hd' hbel hres)

theorem ok_callV {Γ : World → Prop} {f : FuncId} {caps ccl : List AV} {args : Array Operand} {tys : Array TypeId} {cl : List AV} {r : AV} {fr : Option (Nat × Nat × TypeId)} {d : Tmp} (x : Operand) (hx : σ.ev x = .clo f caps)
    (hs : FSpecG P Γ f (cl ++ ccl) r fr) (hG : ∀ w, Kept w0 M0 w → Γ w) (hb : Body P f)
    (hcl : (args.toList.map fun o => (σ.ev o).close) = cl.map some) (hcc : AV.close.closeL caps = some ccl) (hd : d < σ.n) :
    OpAny P w0 M0 σ ⟨some d, .call ⟨.value x, args, tys⟩, ty, pos, after, guard⟩ (.call r fr) := by
  intro σ' hag a w ⟨X, hr⟩ K Q hK
  obtain ⟨c1, c2⟩ := closedArgs (fun o => hr.ev o) args.toList cl (fun o ho => hag.ev o (by simp [Op.operands, Call.operands]; exact .inr (Array.mem_toList_iff.1 ho))) hcl
  have hxv := hr.ev x
  rw [hag.ev x (by simp [Op.operands, Call.operands]), hx] at hxv
  generalize hcv : a.eval x = cv at hxv
  cases hxv with
  | clo _ _ vs hl hh =>
    obtain ⟨q1, q2⟩ := closeL_get caps ccl hcc
    have hrun : (execOp a.eval ⟨some d, .call ⟨.value x, args, tys⟩, ty, pos, after, guard⟩).run P w = .ok (.enter f (args.map a.eval ++ vs.toArray)) w := by
      simp [execOp, resolve, Deferred.ofValue, hcv, invoke]
      exact hb _ _
    unfold Oper.wp
    rw [hrun, Oper.upon_enter]
    have hcall := hs w X.M (args.toList.map a.eval ++ vs) (hG w hr.below) (by simp only [List.length_append]; omega) (fun i y v hy hv => by
        by_cases hi : i < cl.length
        · rw [List.getElem?_append_left hi] at hy
          rw [List.getElem?_append_left (by omega)] at hv
          exact c2 i y v hy hv
        · rw [List.getElem?_append_right (by omega)] at hy
          rw [List.getElem?_append_right (by omega), ← c1] at hv
          have hlt : i - cl.length < caps.length := by rw [q1]; exact (List.getElem?_eq_some_iff.1 hy).1
          exact (hh _ _ v (List.getElem?_eq_getElem hlt) hv).closed y (q2 _ _ y (List.getElem?_eq_getElem hlt) hy) _ _) (fun b hbb => (hr.mlt b hbb).1)
    have harr : (args.toList.map a.eval ++ vs).toArray = args.map a.eval ++ vs.toArray := by apply Array.ext'; simp
    rw [harr] at hcall
    refine hcall.mono fun e w' ⟨v, he, hbel, hres⟩ => ?_
    subst he
    have hd' : d < σ'.n := by rw [hag.n]; exact hd
    cases fr with
    | none => exact hK _ _ ⟨X, (hr.world hbel).put (d := some d) hd' (VR.open' hres _ _)⟩
    | some t =>
      obtain ⟨n, z, e⟩ := t
      exact hK _ _ (hr.callGrow hd' hbel hres)

end
end Go.Ab

