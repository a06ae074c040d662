/- Abstract values and abstract states for straight Go code, and the relation that ties them to the model's memory. Nothing here speaks of one program. -/
import Derived.Laws.Tables
import Derived.Laws.Cells
import Derived.Below
import Derived.StillTail
import Derived.Laws.CopyRow
import Derived.Laws.AppendOwn
import Derived.Laws.AppendOwnNone
namespace Go.Ab
open Go.RowKit

/-- A local object: the temporary that made it, and the how manyth one it was. -/
abbrev OId := Nat × Nat

inductive AV where
  | any
  | sc (v : Value)
  | agg (cs : List AV)
  | tup (vs : List AV)
  | ref (id : OId) (off : Nat)
  | arr (id : OId) (off n c : Nat)
  | rd (cs : List AV)
  | nil0
  | sl (es : List (List AV))
  | own (id : OId) (es : List (List AV))
  | clo (f : FuncId) (caps : List AV)
  | bnd (f : FuncId) (caps : List AV)
  | ifc (t : TypeId) (v : AV)
  deriving Inhabited

/-- Where a growing slice lies: its block (none: nil), how many elements, its capacity. -/
structure GL where
  blk : Option Nat
  cnt : Nat
  cap : Nat

def GL.val (g : GL) : Value := .slice (g.blk.map fun b => ⟨b, 0, none⟩) g.cnt g.cap

def noV : OId → Option Nat := fun _ => none
def noG : OId → Option GL := fun _ => none

/-- The cell holds x, and nobody may write it: M b = some m: the cells of block b from m on may be written. -/
def Imm (w : World) (M : Nat → Option Nat) (b off : Nat) (x : Value) : Prop :=
  w.cell? ⟨b, off, none⟩ = some x ∧ x.oneCell' = true ∧ ∀ m, M b = some m → off < m

/-- Block b has at least n cells. -/
def Sz (w : World) (b n : Nat) : Prop := ∃ vs ty fz, w.heap[b]? = some (.cells vs ty fz) ∧ n ≤ vs.size ∧ n ≤ maxLen
theorem Sz.le {w : World} {b n m : Nat} (h : Sz w b n) (hm : m ≤ n) : Sz w b m := by
  obtain ⟨vs, ty, fz, h1, h2, h3⟩ := h; exact ⟨vs, ty, fz, h1, Nat.le_trans hm h2, Nat.le_trans hm h3⟩
theorem Sz.top {w : World} {b n : Nat} (h : Sz w b n) : n ≤ maxLen := by
  obtain ⟨_, _, _, _, _, h3⟩ := h; exact h3
theorem Sz.lt {w : World} {b n : Nat} (h : Sz w b n) : b < w.heap.size := by
  obtain ⟨vs, ty, fz, h1, _⟩ := h; exact (Array.getElem?_eq_some_iff.1 h1).1
theorem Sz.of_eq {w w' : World} {b n : Nat} (h : Sz w b n) (he : w'.heap[b]? = w.heap[b]?) : Sz w' b n := by
  obtain ⟨vs, ty, fz, h1, h2⟩ := h; exact ⟨vs, ty, fz, he.trans h1, h2⟩

inductive VR (w : World) (M : Nat → Option Nat) : (OId → Option Nat) → (OId → Option GL) → AV → Value → Prop
  | any {V G} (v : Value) : VR w M V G .any v
  | sc {V G} (v : Value) : VR w M V G (.sc v) v
  | agg {V G} (cs : List AV) (vs : List Value) (hl : cs.length = vs.length) (h1 : vs.all (·.oneCell') = true)
      (h : ∀ (i : Nat) c v, cs[i]? = some c → vs[i]? = some v → VR w M V G c v) : VR w M V G (.agg cs) (.agg vs.toArray)
  | tup {V G} (cs : List AV) (vs : List Value) (hl : cs.length = vs.length)
      (h : ∀ (i : Nat) c v, cs[i]? = some c → vs[i]? = some v → VR w M V G c v) : VR w M V G (.tup cs) (.tuple vs.toArray)
  | ref {V G} (id : OId) (off b : Nat) (h : V id = some b) : VR w M V G (.ref id off) (.pointer (some ⟨b, off, none⟩))
  | arr {V G} (id : OId) (off n c b cap : Nat) (h : V id = some b) (h1 : n ≤ c) (hc : c ≤ cap) (hs : off = 0 → Sz w b cap) : VR w M V G (.arr id off n c) (.slice (some ⟨b, off, none⟩) n cap)
  | rd {V G} (cs : List AV) (b off : Nat) (X : Nat → Value) (hc : ∀ (j : Nat) c, cs[j]? = some c → Imm w M b (off + j) (X j))
      (hv : ∀ (j : Nat) c, cs[j]? = some c → VR w M noV noG c (X j)) : VR w M V G (.rd cs) (.pointer (some ⟨b, off, none⟩))
  | sl0 {V G} (a : Option Addr) (cap : Nat) : VR w M V G (.sl []) (.slice a 0 cap)
  | nil0 {V G} (a : Option Addr) : VR w M V G .nil0 (.slice a 0 0)
  | sl {V G} (es : List (List AV)) (z b off cap : Nat) (X : Nat → Nat → Value) (hz : ∀ e ∈ es, e.length = z) (hcap : es.length ≤ cap)
      (hc : ∀ (i : Nat) e (j : Nat) c, es[i]? = some e → e[j]? = some c → Imm w M b (off + (i * z + j)) (X i j))
      (hv : ∀ (i : Nat) e (j : Nat) c, es[i]? = some e → e[j]? = some c → VR w M noV noG c (X i j)) : VR w M V G (.sl es) (.slice (some ⟨b, off, none⟩) es.length cap)
  | own {V G} (id : OId) (es : List (List AV)) (v : Value) (h : VR w M noV noG (.sl es) v)
      (g : GL) (hg : G id = some g) (hle : es.length ≤ g.cnt) (heq : es.length = g.cnt → v = g.val) : VR w M V G (.own id es) v
  | clo {V G} (f : FuncId) (cs : List AV) (vs : List Value) (hl : cs.length = vs.length)
      (h : ∀ (i : Nat) c v, cs[i]? = some c → vs[i]? = some v → VR w M V G c v) : VR w M V G (.clo f cs) (.func (.func f) #[] vs.toArray)
  | bnd {V G} (f : FuncId) (cs : List AV) (vs : List Value) (hl : cs.length = vs.length)
      (h : ∀ (i : Nat) c v, cs[i]? = some c → vs[i]? = some v → VR w M V G c v) : VR w M V G (.bnd f cs) (.func (.func f) vs.toArray #[])
  | ifc {V G} (t : TypeId) (x : AV) (v : Value) (h : VR w M V G x v) : VR w M V G (.ifc t x) (.iface t v)

theorem VR.mono {w w' : World} {M M' : Nat → Option Nat} {V G x v} (h : VR w M V G x v)
    (hi : ∀ b off y, Imm w M b off y → Imm w' M' b off y) (hzz : ∀ b n, Sz w b n → Sz w' b n) : VR w' M' V G x v := by
  induction h with
  | any v => exact .any v
  | sc v => exact .sc v
  | agg cs vs hl h1 _ ih => exact .agg cs vs hl h1 ih
  | tup cs vs hl _ ih => exact .tup cs vs hl ih
  | ref id off b h => exact .ref id off b h
  | arr id off n c b cap h h1 hc hs => exact .arr id off n c b cap h h1 hc fun h0 => hzz _ _ (hs h0)
  | rd cs b off X hc _ ih => exact .rd cs b off X (fun j c h => hi _ _ _ (hc j c h)) ih
  | sl0 a cap => exact .sl0 a cap
  | nil0 a => exact .nil0 a
  | sl es z b off cap X hz hcap hc _ ih => exact .sl es z b off cap X hz hcap (fun i e j c h h' => hi _ _ _ (hc i e j c h h')) ih
  | own id es v _ g hg hle heq ih => exact .own id es v ih g hg hle heq
  | clo f cs vs hl _ ih => exact .clo f cs vs hl ih
  | bnd f cs vs hl _ ih => exact .bnd f cs vs hl ih
  | ifc t x v _ ih => exact .ifc t x v ih

/-- The places of local objects may become more; a growing slice only longer. -/
theorem VR.locs {w : World} {M : Nat → Option Nat} {V V' G G' x v} (h : VR w M V G x v)
    (hV : ∀ id b, V id = some b → V' id = some b)
    (hG : ∀ id g, G id = some g → ∃ g', G' id = some g' ∧ g.cnt ≤ g'.cnt ∧ (g'.cnt = g.cnt → g'.val = g.val)) : VR w M V' G' x v := by
  induction h with
  | any v => exact .any v
  | sc v => exact .sc v
  | agg cs vs hl h1 _ ih => exact .agg cs vs hl h1 fun i c v a b => ih i c v a b hV hG
  | tup cs vs hl _ ih => exact .tup cs vs hl fun i c v a b => ih i c v a b hV hG
  | ref id off b h => exact .ref id off b (hV _ _ h)
  | arr id off n c b cap h h1 hc hs => exact .arr id off n c b cap (hV _ _ h) h1 hc hs
  | rd cs b off X hc hv _ => exact .rd cs b off X hc hv
  | sl0 a cap => exact .sl0 a cap
  | nil0 a => exact .nil0 a
  | sl es z b off cap X hz hcap hc hv _ => exact .sl es z b off cap X hz hcap hc hv
  | own id es v h g hg hle heq _ =>
    obtain ⟨g', h1, h2, h3⟩ := hG id g hg
    exact .own id es v h g' h1 (Nat.le_trans hle h2) fun h4 => by
      have h5 : g'.cnt = g.cnt := Nat.le_antisymm (h4 ▸ hle) h2
      rw [h3 h5]; exact heq (h4.trans h5)
  | clo f cs vs hl _ ih => exact .clo f cs vs hl fun i c v a b => ih i c v a b hV hG
  | bnd f cs vs hl _ ih => exact .bnd f cs vs hl fun i c v a b => ih i c v a b hV hG
  | ifc t x v _ ih => exact .ifc t x v (ih hV hG)

/-- What names no local object holds whatever the frame's places. -/
theorem VR.open' {w : World} {M : Nat → Option Nat} {x v} (h : VR w M noV noG x v) (V G) : VR w M V G x v :=
  h.locs (fun _ _ h => by cases h) (fun _ _ h => by cases h)

theorem VR.cell1 {w M V G x v} (h : VR w M V G x v) (hx : match x with | .sc u => u.oneCell' = true | .ref .. | .arr .. | .rd _ | .nil0 | .sl _ | .own .. | .clo .. | .bnd .. | .ifc .. => True | _ => False) : v.oneCell' = true := by
  cases h with
  | own id es v h => cases h <;> rfl
  | sc v => exact hx
  | any v => exact hx.elim
  | agg => exact hx.elim
  | tup => exact hx.elim
  | _ => rfl

/-- A value that may leave the frame: no pointer to a local object; a growing slice as it stands. -/
def AV.close : AV → Option AV
  | .any => some .any
  | .sc v => some (.sc v)
  | .rd cs => some (.rd cs)
  | .nil0 => some .nil0
  | .sl es => some (.sl es)
  | .own _ es => some (.sl es)
  | .agg cs => (closeL cs).map .agg
  | .tup cs => (closeL cs).map .tup
  | .clo f cs => (closeL cs).map (.clo f)
  | .bnd f cs => (closeL cs).map (.bnd f)
  | .ifc t x => x.close.map (.ifc t)
  | .ref _ _ => none
  | .arr .. => none
where
  closeL : List AV → Option (List AV)
    | [] => some []
    | c :: cs => match c.close, closeL cs with
      | some d, some ds => some (d :: ds)
      | _, _ => none

theorem closeL_get : ∀ (cs ds : List AV), AV.close.closeL cs = some ds → cs.length = ds.length ∧ ∀ (i : Nat) (c d : AV), cs[i]? = some c → ds[i]? = some d → c.close = some d := by
  intro cs
  induction cs with
  | nil => intro ds h; simp [AV.close.closeL] at h; subst h; exact ⟨rfl, by simp⟩
  | cons c cs ih =>
    intro ds h
    simp only [AV.close.closeL] at h
    split at h
    · rename_i d ds' h1 h2
      simp at h; subst h
      obtain ⟨hl, hg⟩ := ih ds' h2
      refine ⟨by simp [hl], fun i c' d' hc hd => ?_⟩
      cases i with
      | zero => simp at hc hd; subst hc; subst hd; exact h1
      | succ i => simp at hc hd; exact hg i c' d' hc hd
    · simp at h

theorem VR.closed {w M V G x v} (h : VR w M V G x v) : ∀ y, x.close = some y → ∀ V' G', VR w M V' G' y v := by
  induction h with
  | any v => intro y hy V' G'; simp [AV.close] at hy; subst hy; exact .any v
  | sc v => intro y hy V' G'; simp [AV.close] at hy; subst hy; exact .sc v
  | agg cs vs hl h1 _ ih =>
    intro y hy V' G'
    simp only [AV.close, Option.map_eq_some_iff] at hy
    obtain ⟨ds, hd, rfl⟩ := hy
    obtain ⟨hl2, hg⟩ := closeL_get cs ds hd
    refine .agg ds vs (by omega) h1 fun i d v hdi hvi => ?_
    have hi : i < cs.length := by have := (List.getElem?_eq_some_iff.1 hdi).1; omega
    exact ih i cs[i] v (List.getElem?_eq_getElem hi) hvi d (hg i _ d (List.getElem?_eq_getElem hi) hdi) V' G'
  | tup cs vs hl _ ih =>
    intro y hy V' G'
    simp only [AV.close, Option.map_eq_some_iff] at hy
    obtain ⟨ds, hd, rfl⟩ := hy
    obtain ⟨hl2, hg⟩ := closeL_get cs ds hd
    refine .tup ds vs (by omega) fun i d v hdi hvi => ?_
    have hi : i < cs.length := by have := (List.getElem?_eq_some_iff.1 hdi).1; omega
    exact ih i cs[i] v (List.getElem?_eq_getElem hi) hvi d (hg i _ d (List.getElem?_eq_getElem hi) hdi) V' G'
  | ref id off b h => intro y hy; simp [AV.close] at hy
  | arr id off n c b cap h h1 hc hs => intro y hy; simp [AV.close] at hy
  | rd cs b off X hc hv _ => intro y hy V' G'; simp [AV.close] at hy; subst hy; exact .rd cs b off X hc hv
  | sl0 a cap => intro y hy V' G'; simp [AV.close] at hy; subst hy; exact .sl0 a cap
  | nil0 a => intro y hy V' G'; simp [AV.close] at hy; subst hy; exact .nil0 a
  | sl es z b off cap X hz hcap hc hv _ => intro y hy V' G'; simp [AV.close] at hy; subst hy; exact .sl es z b off cap X hz hcap hc hv
  | own id es v h g hg hle heq ih => intro y hy V' G'; simp [AV.close] at hy; subst hy; exact ih (.sl es) rfl V' G'
  | clo f cs vs hl _ ih =>
    intro y hy V' G'
    simp only [AV.close, Option.map_eq_some_iff] at hy
    obtain ⟨ds, hd, rfl⟩ := hy
    obtain ⟨hl2, hg⟩ := closeL_get cs ds hd
    refine .clo f ds vs (by omega) fun i d v hdi hvi => ?_
    have hi : i < cs.length := by have := (List.getElem?_eq_some_iff.1 hdi).1; omega
    exact ih i cs[i] v (List.getElem?_eq_getElem hi) hvi d (hg i _ d (List.getElem?_eq_getElem hi) hdi) V' G'
  | bnd f cs vs hl _ ih =>
    intro y hy V' G'
    simp only [AV.close, Option.map_eq_some_iff] at hy
    obtain ⟨ds, hd, rfl⟩ := hy
    obtain ⟨hl2, hg⟩ := closeL_get cs ds hd
    refine .bnd f ds vs (by omega) fun i d v hdi hvi => ?_
    have hi : i < cs.length := by have := (List.getElem?_eq_some_iff.1 hdi).1; omega
    exact ih i cs[i] v (List.getElem?_eq_getElem hi) hvi d (hg i _ d (List.getElem?_eq_getElem hi) hdi) V' G'
  | ifc t x v _ ih =>
    intro y hy V' G'
    simp only [AV.close, Option.map_eq_some_iff] at hy
    obtain ⟨x', hx, rfl⟩ := hy
    exact .ifc t x' v (ih x' hx V' G')

/-- The same value, its growing slices named anew. -/
def AV.ren (id : OId) : AV → AV
  | .own _ es => .own id es
  | .agg cs => .agg (renL id cs)
  | .tup cs => .tup (renL id cs)
  | .clo f cs => .clo f (renL id cs)
  | .bnd f cs => .bnd f (renL id cs)
  | .ifc t x => .ifc t (x.ren id)
  | x => x
where
  renL (id : OId) : List AV → List AV
    | [] => []
    | c :: cs => c.ren id :: renL id cs

theorem renL_get (id : OId) : ∀ (cs : List AV), (AV.ren.renL id cs).length = cs.length ∧ ∀ i : Nat, (AV.ren.renL id cs)[i]? = cs[i]?.map (AV.ren id) := by
  intro cs
  induction cs with
  | nil => exact ⟨rfl, by simp [AV.ren.renL]⟩
  | cons c cs ih =>
    refine ⟨by simp [AV.ren.renL, ih.1], fun i => ?_⟩
    cases i with
    | zero => simp [AV.ren.renL]
    | succ i => simp [AV.ren.renL, ih.2 i]

/-! ## Abstract states -/

structure AS where
  n : Nat
  tm : Nat → AV
  va : OId → Option (List AV)
  gr : OId → Option (Nat × Nat × TypeId)
  gen : Nat → Nat

def upd {α : Type} (f : Nat → α) (d : Nat) (v : α) : Nat → α := fun i => bif Nat.beq i d then v else f i
def updO {α : Type} (f : OId → Option α) (d : OId) (v : Option α) : OId → Option α := fun i => bif Nat.beq i.1 d.1 && Nat.beq i.2 d.2 then v else f i

theorem beq_ff {i d : Nat} (h : i ≠ d) : Nat.beq i d = false := by
  cases hb : Nat.beq i d with
  | false => rfl
  | true => exact absurd (Nat.eq_of_beq_eq_true hb) h

theorem upd_same {α : Type} (f : Nat → α) (d : Nat) (v : α) : upd f d v d = v := by simp [upd]
theorem upd_ne {α : Type} (f : Nat → α) {d i : Nat} (v : α) (h : i ≠ d) : upd f d v i = f i := by
  have : Nat.beq i d = false := beq_ff h
  simp [upd, this]
theorem updO_same {α : Type} (f : OId → Option α) (d : OId) (v : Option α) : updO f d v d = v := by simp [updO]
theorem updO_ne {α : Type} (f : OId → Option α) {d i : OId} (v : Option α) (h : i ≠ d) : updO f d v i = f i := by
  have : ¬ (i.1 = d.1 ∧ i.2 = d.2) := fun h' => h (Prod.ext h'.1 h'.2)
  simp only [updO]
  rw [show (Nat.beq i.1 d.1 && Nat.beq i.2 d.2) = false by
    simp only [Bool.and_eq_false_iff]
    by_cases h1 : i.1 = d.1
    · exact .inr (beq_ff fun h2 => this ⟨h1, h2⟩)
    · exact .inl (beq_ff h1)]
  rfl

def AS.ev (σ : AS) : Operand → AV
  | .tmp t => σ.tm t
  | .const (.slice none 0 0) => .sl []
  | .const v => .sc v
  | .global _ => .any
  | .func f => .clo f []

/-- Where the frame's objects lie. -/
structure Wit where
  M : Nat → Option Nat
  V : OId → Option Nat
  G : OId → Option GL
  ow : Nat → Option (Bool × OId)

/-- What was there when the frame began: m: of which block what may be written; t: which of the old blocks the frame may change; v: where the variables lie that are lent to it. -/
structure MT where
  m : Nat → Option Nat
  t : Nat → Bool
  v : OId → Option Nat

/-- All that was there is as it was, but for what the frame may change. -/
structure Kept (w0 : World) (M0 : MT) (w : World) : Prop where
  os : w.os = w0.os
  tape : w.tape = w0.tape
  output : w.output = w0.output
  size : w0.heap.size ≤ w.heap.size
  block : ∀ k, k < w0.heap.size → M0.t k = false → w.heap[k]? = w0.heap[k]?
  sz : ∀ k n, Sz w0 k n → Sz w k n

theorem Kept.refl (w : World) (M0 : MT) : Kept w M0 w := ⟨rfl, rfl, rfl, Nat.le_refl _, fun _ _ _ => rfl, fun _ _ h => h⟩
theorem Kept.trans {w0 : World} {M0 : MT} {w w' : World} (h : Kept w0 M0 w) (k : Below w0.heap.size w w') : Kept w0 M0 w' :=
  ⟨k.os.trans h.os, k.tape.trans h.tape, k.output.trans h.output, Nat.le_trans h.size k.size, fun i hi ht => (k.block i hi).trans (h.block i hi ht), fun i n hi => (h.sz i n hi).of_eq (k.block i hi.lt)⟩
theorem Kept.drew {w0 : World} {M0 : MT} {w : World} (h : Kept w0 M0 w) : Kept w0 M0 w.drew := ⟨h.os, h.tape, h.output, h.size, h.block, h.sz⟩
theorem Kept.alloc {w0 : World} {M0 : MT} {w : World} (h : Kept w0 M0 w) (hB : w0.heap.size ≤ w.heap.size) (o : Obj) : Kept w0 M0 (w.alloc o) :=
  h.trans ⟨rfl, rfl, rfl, by simp, fun k hk => Below.heap_alloc _ _ _ (by omega)⟩
theorem Kept.below {w0 : World} {M0 : MT} {w : World} (h : Kept w0 M0 w) (ht : ∀ k, M0.t k = false) : Below w0.heap.size w0 w := ⟨h.os, h.tape, h.output, h.size, fun k hk => h.block k hk (ht k)⟩
/-- The frame may change block b. -/
def Mine (w0 : World) (M0 : MT) (b : Nat) : Prop := w0.heap.size ≤ b ∨ M0.t b = true
theorem Mine.ne {w0 : World} {M0 : MT} {b b' : Nat} (h : Mine w0 M0 b) (h1 : b' < w0.heap.size) (h2 : M0.t b' = false) : b' ≠ b := fun e => by
  subst e
  rcases h with h | h
  · omega
  · rw [h2] at h; cases h

/-- The frame began in w0, where M0 said what may be written; now the memory is w, the temporaries a; σ says what is known of them. -/
structure RelW (w0 : World) (M0 : MT) (σ : AS) (a : Act) (w : World) (x : Wit) : Prop where
  below : Kept w0 M0 w
  defers : a.defers = []
  size : a.tmps.size = σ.n
  tm : ∀ i, VR w x.M x.V x.G (σ.tm i) (a.tmps.getD i undef)
  m0 : ∀ b, b < w0.heap.size → M0.t b = false → x.M b = M0.m b
  mlt : ∀ b, w.heap.size ≤ b → x.M b = none ∧ x.ow b = none
  fresh : ∀ d g, σ.gen d ≤ g → x.V (d, g) = none ∧ x.G (d, g) = none
  lent : ∀ (id : OId) b, M0.v id = some b → σ.n ≤ id.1 ∧ id.2 = 0 ∧ 0 < σ.gen id.1 ∧ x.V id = some b
  va : ∀ id cs, σ.va id = some cs → ∃ b vs ty, x.V id = some b ∧ Mine w0 M0 b ∧ x.ow b = some (true, id) ∧ x.M b = some 0 ∧
    w.heap[b]? = some (.cells vs ty (0, 0)) ∧ cs.length ≤ vs.size ∧ ∀ (j : Nat) c, cs[j]? = some c → ∃ v, vs[j]? = some v ∧ v.oneCell' = true ∧ VR w x.M x.V x.G c v
  vgen : ∀ d g cs, σ.va (d, g) = some cs → g < σ.gen d
  gr : ∀ id n z e, σ.gr id = some (n, z, e) → ∃ l, x.G id = some l ∧ l.cnt = n ∧ n ≤ l.cap ∧ l.cap ≤ maxLen ∧ (l.blk = none → l.cap = 0) ∧
    ∀ b, l.blk = some b → Mine w0 M0 b ∧ x.ow b = some (false, id) ∧ x.M b = some (n * z) ∧ ∃ vs, w.heap[b]? = some (.cells vs e (0, 0)) ∧ vs.size = l.cap * z
  ggen : ∀ d g nz, σ.gr (d, g) = some nz → g < σ.gen d

def Rel (w0 : World) (M0 : MT) (σ : AS) (a : Act) (w : World) : Prop := ∃ x, RelW w0 M0 σ a w x


/-- A value on its way out of the frame: the growing slice id becomes the caller's own; others can only be read. -/
def AV.exp (id : OId) : AV → Option AV
  | .any => some .any
  | .sc v => some (.sc v)
  | .rd cs => some (.rd cs)
  | .nil0 => some .nil0
  | .sl es => some (.sl es)
  | .own id' es => some (bif Nat.beq id'.1 id.1 && Nat.beq id'.2 id.2 then .own (0, 0) es else .sl es)
  | .agg cs => (expL id cs).map .agg
  | .tup cs => (expL id cs).map .tup
  | .clo f cs => (expL id cs).map (.clo f)
  | .bnd f cs => (expL id cs).map (.bnd f)
  | .ifc t x => (x.exp id).map (.ifc t)
  | .ref _ _ => none
  | .arr .. => none
where
  expL (id : OId) : List AV → Option (List AV)
    | [] => some []
    | c :: cs => match c.exp id, expL id cs with
      | some d, some ds => some (d :: ds)
      | _, _ => none

theorem expL_get (id : OId) : ∀ (cs ds : List AV), AV.exp.expL id cs = some ds → cs.length = ds.length ∧ ∀ (i : Nat) (c d : AV), cs[i]? = some c → ds[i]? = some d → c.exp id = some d := by
  intro cs
  induction cs with
  | nil => intro ds h; simp [AV.exp.expL] at h; subst h; exact ⟨rfl, by simp⟩
  | cons c cs ih =>
    intro ds h
    simp only [AV.exp.expL] at h
    split at h
    · rename_i d ds' h1 h2
      simp at h; subst h
      obtain ⟨hl, hg⟩ := ih ds' h2
      refine ⟨by simp [hl], fun i c' d' hc hd => ?_⟩
      cases i with
      | zero => simp at hc hd; subst hc; subst hd; exact h1
      | succ i => simp at hc hd; exact hg i c' d' hc hd
    · simp at h

theorem VR.expd {w M V G x v} {id : OId} {l : GL} (hid : G id = some l) (h : VR w M V G x v) : ∀ y, x.exp id = some y → VR w M noV (updO noG (0, 0) (some l)) y v := by
  induction h with
  | any v => intro y hy; simp [AV.exp] at hy; subst hy; exact .any v
  | sc v => intro y hy; simp [AV.exp] at hy; subst hy; exact .sc v
  | agg cs vs hl h1 _ ih =>
    intro y hy
    simp only [AV.exp, Option.map_eq_some_iff] at hy
    obtain ⟨ds, hd, rfl⟩ := hy
    obtain ⟨hl2, hg⟩ := expL_get id cs ds hd
    refine .agg ds vs (by omega) h1 fun i d v hdi hvi => ?_
    have hi : i < cs.length := by have := (List.getElem?_eq_some_iff.1 hdi).1; omega
    exact ih i cs[i] v (List.getElem?_eq_getElem hi) hvi hid d (hg i _ d (List.getElem?_eq_getElem hi) hdi)
  | tup cs vs hl _ ih =>
    intro y hy
    simp only [AV.exp, Option.map_eq_some_iff] at hy
    obtain ⟨ds, hd, rfl⟩ := hy
    obtain ⟨hl2, hg⟩ := expL_get id cs ds hd
    refine .tup ds vs (by omega) fun i d v hdi hvi => ?_
    have hi : i < cs.length := by have := (List.getElem?_eq_some_iff.1 hdi).1; omega
    exact ih i cs[i] v (List.getElem?_eq_getElem hi) hvi hid d (hg i _ d (List.getElem?_eq_getElem hi) hdi)
  | ref id off b h => intro y hy; simp [AV.exp] at hy
  | arr id off n c b cap h h1 hc hs => intro y hy; simp [AV.exp] at hy
  | rd cs b off X hc hv _ => intro y hy; simp [AV.exp] at hy; subst hy; exact .rd cs b off X hc hv
  | sl0 a cap => intro y hy; simp [AV.exp] at hy; subst hy; exact .sl0 a cap
  | nil0 a => intro y hy; simp [AV.exp] at hy; subst hy; exact .nil0 a
  | sl es z b off cap X hz hcap hc hv _ => intro y hy; simp [AV.exp] at hy; subst hy; exact .sl es z b off cap X hz hcap hc hv
  | own id' es v h g hg hle heq _ =>
    intro y hy
    simp only [AV.exp, Option.some.injEq] at hy
    subst hy
    cases hb : Nat.beq id'.1 id.1 && Nat.beq id'.2 id.2 with
    | false => exact h.open' _ _
    | true =>
      simp only [Bool.and_eq_true] at hb
      have : id' = id := Prod.ext (Nat.eq_of_beq_eq_true hb.1) (Nat.eq_of_beq_eq_true hb.2)
      subst this
      have : g = l := Option.some.inj (hg.symm.trans hid)
      subst this
      exact .own _ es v h g (updO_same _ _ _) hle heq
  | clo f cs vs hl _ ih =>
    intro y hy
    simp only [AV.exp, Option.map_eq_some_iff] at hy
    obtain ⟨ds, hd, rfl⟩ := hy
    obtain ⟨hl2, hg⟩ := expL_get id cs ds hd
    refine .clo f ds vs (by omega) fun i d v hdi hvi => ?_
    have hi : i < cs.length := by have := (List.getElem?_eq_some_iff.1 hdi).1; omega
    exact ih i cs[i] v (List.getElem?_eq_getElem hi) hvi hid d (hg i _ d (List.getElem?_eq_getElem hi) hdi)
  | bnd f cs vs hl _ ih =>
    intro y hy
    simp only [AV.exp, Option.map_eq_some_iff] at hy
    obtain ⟨ds, hd, rfl⟩ := hy
    obtain ⟨hl2, hg⟩ := expL_get id cs ds hd
    refine .bnd f ds vs (by omega) fun i d v hdi hvi => ?_
    have hi : i < cs.length := by have := (List.getElem?_eq_some_iff.1 hdi).1; omega
    exact ih i cs[i] v (List.getElem?_eq_getElem hi) hvi hid d (hg i _ d (List.getElem?_eq_getElem hi) hdi)
  | ifc t x v _ ih =>
    intro y hy
    simp only [AV.exp, Option.map_eq_some_iff] at hy
    obtain ⟨x', hx, rfl⟩ := hy
    exact .ifc t x' v (ih hid x' hx)

end Go.Ab
