/- Slices: element, length, part, append. Nothing here speaks of one program. -/
import Derived.Test.YtnnohkbgjdmjdaaGreatAb5
namespace Go.Ab
open Go.RowKit

/-- The elements of a slice, as far as they can be read. -/
def slEs : AV → Option (List (List AV))
  | .sl es => some es
  | .own _ es => some es
  | .sc (.slice none 0 0) => some []
  | _ => none

/-- What is known of a slice that reads as es. -/
theorem slEs_spec {w M V G x v es} (h : VR w M V G x v) (hx : slEs x = some es) : VR w M noV noG (.sl es) v := by
  unfold slEs at hx
  split at hx
  · cases hx
    cases h with
    | sl0 a c => exact .sl0 a c
    | sl es z b off cap X hz hcap hc hv => exact .sl es z b off cap X hz hcap hc hv
  · cases hx
    cases h with
    | own _ _ _ h => exact h
  · cases hx
    cases h
    exact .sl0 _ _
  · cases hx

section
variable {P : Program} {w0 : World} {M0 : MT} {σ : AS} {d : Option Tmp} {ty : TypeId} {pos : String} {after : Array Edge} {guard : Option (Nat × Bool)}

theorem ok_indexAddr {t e z : Nat} {es : List (List AV)} {el : List AV} {k : IntKind} {n : Int} (x i : Operand) (hu : P.underlying t = some (.slice e)) (hs : ∀ w, (sizeOf e).run P w = .ok z w)
    (hx : slEs (σ.ev x) = some es) (hi : exact (σ.ev i) = some (.int k n)) (h0 : 0 ≤ n) (hel : es[n.toNat]? = some el) (hz : el.length = z) (hd : okDst σ d) :
    OpAny P w0 M0 σ ⟨d, .indexAddr t x i, ty, pos, after, guard⟩ (.val (.rd el)) :=
  opAny_val hd fun σ' a w X hag hr => by
    have h1 := hr.ev x
    rw [hag.ev x (by simp [Op.operands])] at h1
    have h1 := slEs_spec h1 hx
    have h2 := hr.ev i
    rw [hag.ev i (by simp [Op.operands])] at h2
    have h2 := h2.exact _ hi
    have hlt : n.toNat < es.length := (List.getElem?_eq_some_iff.1 hel).1
    generalize hcv : a.eval x = cv at h1
    cases h1 with
    | sl0 a c => simp at hlt
    | sl _ z' b off cap Xf hz' hcap hc hv =>
      have hzz : el.length = z' := hz' el (List.mem_of_getElem? hel)
      have hzz' : z = z' := hz.symm.trans hzz
      subst hzz'
      refine ⟨.pointer (some ⟨b, off + n.toNat * z, none⟩), ?_, .rd el b _ (Xf n.toNat) (fun j c hj => ?_) (fun j c hj => hv _ _ _ _ hel hj)⟩
      · simp only [execOp, hcv, h2]
        refine run_value ?_
        have hlt' : n < (es.length : Int) := by omega
        simp [Instr.indexAt, asIntOf, run_underlying' hu, hs, h0, hlt', Result.andThen, addr_add]
      · rw [Nat.add_assoc]; exact hc _ _ _ _ hel hj

/-- An element of an array that lies in a local variable. -/
theorem ok_indexAddr_arr {t e z m off : Nat} {id : OId} {k : IntKind} {n : Int} (x i : Operand) (hu : P.underlying t = some (.array m e)) (hs : ∀ w, (sizeOf e).run P w = .ok z w)
    (hx : σ.ev x = .ref id off) (hi : exact (σ.ev i) = some (.int k n)) (h0 : 0 ≤ n) (hm : n < m) (hd : okDst σ d) :
    OpAny P w0 M0 σ ⟨d, .indexAddr t x i, ty, pos, after, guard⟩ (.val (.ref id (off + n.toNat * z))) :=
  opAny_val hd fun σ' a w X hag hr => by
    have h1 := hr.ev x
    rw [hag.ev x (by simp [Op.operands]), hx] at h1
    have h2 := hr.ev i
    rw [hag.ev i (by simp [Op.operands])] at h2
    have h2 := h2.exact _ hi
    generalize hcv : a.eval x = cv at h1
    cases h1 with
    | ref _ _ b hb =>
      refine ⟨_, ?_, .ref _ _ b hb⟩
      simp only [execOp, hcv, h2]
      refine run_value ?_
      simp [Instr.indexAt, asIntOf, run_underlying' hu, hs, h0, hm, Result.andThen, addr_add, Instr.sureAddr]

theorem ok_len {t e : Nat} {es : List (List AV)} (x : Operand) (hu : P.underlying t = some (.slice e)) (hx : slEs (σ.ev x) = some es) (hd : okDst σ d) :
    OpAny P w0 M0 σ ⟨d, .call ⟨.builtin .len, #[x], #[t]⟩, ty, pos, after, guard⟩ (.val (.sc (.int .i64 es.length))) :=
  opAny_val hd fun σ' a w X hag hr => by
    have h1 := hr.ev x
    rw [hag.ev x (by simp [Op.operands, Call.operands])] at h1
    have h1 := slEs_spec h1 hx
    generalize hcv : a.eval x = cv at h1
    refine ⟨.int .i64 es.length, ?_, .sc _⟩
    have : ∃ b c, cv = .slice b es.length c := by cases h1 <;> exact ⟨_, _, rfl⟩
    obtain ⟨b, c, rfl⟩ := this
    simp [execOp, resolve, invoke, builtin, Builtin.len_, run_underlying' hu, hcv, Result.andThen, goInt]

/-- 'len' of what is known to the last bit (a string). -/
theorem ok_lenX {t : Nat} {u cv : Value} (x : Operand) (hx : exact (σ.ev x) = some u) (hrun : ∀ w, (Builtin.len_ #[t] ty #[u]).run P w = .ok cv w) (hd : okDst σ d) :
    OpAny P w0 M0 σ ⟨d, .call ⟨.builtin .len, #[x], #[t]⟩, ty, pos, after, guard⟩ (.val (.sc cv)) :=
  opAny_val hd fun σ' a w X hag hr => by
    have h1 := hr.ev x
    rw [hag.ev x (by simp [Op.operands, Call.operands])] at h1
    have h1 := h1.exact _ hx
    refine ⟨cv, ?_, .sc _⟩
    simp [execOp, resolve, invoke, builtin, h1, Result.andThen, hrun]

theorem ok_min {t u : Nat} {i j : Value} {cv : Value} (x y : Operand) (hx : exact (σ.ev x) = some i) (hy : exact (σ.ev y) = some j)
    (hrun : ∀ w, (Builtin.min_ #[t, u] ty #[i, j]).run P w = .ok cv w) (hd : okDst σ d) :
    OpAny P w0 M0 σ ⟨d, .call ⟨.builtin .min, #[x, y], #[t, u]⟩, ty, pos, after, guard⟩ (.val (.sc cv)) :=
  opAny_val hd fun σ' a w X hag hr => by
    have h1 := hr.ev x
    rw [hag.ev x (by simp [Op.operands, Call.operands])] at h1
    have h2 := hr.ev y
    rw [hag.ev y (by simp [Op.operands, Call.operands])] at h2
    refine ⟨cv, ?_, .sc _⟩
    simp [execOp, resolve, invoke, builtin, h1.exact _ hx, h2.exact _ hy, Result.andThen, hrun]

theorem ok_max {t u : Nat} {i j : Value} {cv : Value} (x y : Operand) (hx : exact (σ.ev x) = some i) (hy : exact (σ.ev y) = some j)
    (hrun : ∀ w, (Builtin.max_ #[t, u] ty #[i, j]).run P w = .ok cv w) (hd : okDst σ d) :
    OpAny P w0 M0 σ ⟨d, .call ⟨.builtin .max, #[x, y], #[t, u]⟩, ty, pos, after, guard⟩ (.val (.sc cv)) :=
  opAny_val hd fun σ' a w X hag hr => by
    have h1 := hr.ev x
    rw [hag.ev x (by simp [Op.operands, Call.operands])] at h1
    have h2 := hr.ev y
    rw [hag.ev y (by simp [Op.operands, Call.operands])] at h2
    refine ⟨cv, ?_, .sc _⟩
    simp [execOp, resolve, invoke, builtin, h1.exact _ hx, h2.exact _ hy, Result.andThen, hrun]

/-- A part of a slice that is read: from l, h elements' end. -/
theorem sl_part {w M V G es v} (h : VR w M noV noG (.sl es) v) {l hh z : Nat} (hl : l ≤ hh) (hle : hh ≤ es.length) (hzz : ∀ e ∈ es, e.length = z) :
    ∃ (b : Option Addr) (cap : Nat), v = .slice b es.length cap ∧ es.length ≤ cap ∧
      VR w M V G (.sl ((es.drop l).take (hh - l))) (.slice (if cap = l then b else b.map (·.add (l * z))) (hh - l) (cap - l)) := by
  have hlen : ((es.drop l).take (hh - l)).length = hh - l := by simp; omega
  cases h with
  | sl0 a c =>
    refine ⟨a, c, rfl, Nat.zero_le _, ?_⟩
    simp at hle
    have : l = 0 := by omega
    subst this; subst hle
    exact .sl0 _ _
  | sl _ z' b off cap X hz hcap hc hv =>
    refine ⟨some ⟨b, off, none⟩, cap, rfl, hcap, ?_⟩
    by_cases hcl : cap = l
    · subst hcl
      have h0 : hh - cap = 0 := by omega
      rw [if_pos rfl, h0]
      have := VR.sl (w := w) (M := M) (V := V) (G := G) [] 0 b off (cap - cap) (fun _ _ => undef) (by simp) (by simp) (by simp) (by simp)
      simpa using this
    · rw [if_neg hcl]
      have hz2 : ∀ e ∈ (es.drop l).take (hh - l), e.length = z' := fun e he => hz e (List.mem_of_mem_drop (List.mem_of_mem_take he))
      have hget : ∀ (i : Nat) e, ((es.drop l).take (hh - l))[i]? = some e → es[l + i]? = some e := fun i e he => by
        rw [List.getElem?_take] at he
        split at he
        · rw [List.getElem?_drop] at he; exact he
        · cases he
      have hoff : ∀ (i : Nat) (e : List AV), es[l + i]? = some e → l * z = l * z' := fun i e he => by
        rw [← hzz e (List.mem_of_getElem? he), hz e (List.mem_of_getElem? he)]
      have key := VR.sl (w := w) (M := M) (V := V) (G := G) ((es.drop l).take (hh - l)) z' b (off + l * z) (cap - l) (fun i j => X (l + i) j) hz2 (by rw [hlen]; omega)
        (fun i e j c he hj => by
          have he' := hget i e he
          have h1 := hc (l + i) e j c he' hj
          rw [hoff i e he']
          rw [show off + l * z' + (i * z' + j) = off + ((l + i) * z' + j) by rw [Nat.add_mul]; omega]
          exact h1)
        (fun i e j c he hj => hv (l + i) e j c (hget i e he) hj)
      rw [hlen] at key
      simpa [addr_add] using key

/-- The bounds of a part. -/
def boundA (σ : AS) (len : Nat) : Option Operand → Option Nat
  | none => some len
  | some o => match exact (σ.ev o) with
    | some (.int _ n) => match decide (0 ≤ n) with
      | true => some n.toNat
      | false => none
    | _ => none

theorem run_bound {σ σ' : AS} {a : Act} {w0 M0 w X} (hr : RelW w0 M0 σ' a w X) {o : Operand} (hag : σ'.ev o = σ.ev o) {len n : Nat} (hb : boundA σ len (some o) = some n) {y : Nat} (hy : n ≤ y) (code : BoundsCode) :
    (Instr.sliceBound (a.eval o) y code).run P w = .ok n w := by
  simp only [boundA] at hb
  split at hb
  · rename_i k m he
    split at hb
    · rename_i h0
      simp at hb h0
      subst hb
      have h1 := hr.ev o
      rw [hag] at h1
      rw [h1.exact _ he]
      have : m ≤ (y : Int) := by omega
      simp [Instr.sliceBound, asIntOf, h0, this]
    · cases hb
  · cases hb

theorem ok_slice {t e z l hh : Nat} {es : List (List AV)} (x : Operand) (lo hi : Option Operand) (hu : P.underlying t = some (.slice e)) (hs : ∀ w, (sizeOf e).run P w = .ok z w)
    (hx : slEs (σ.ev x) = some es) (hlo : boundA σ 0 lo = some l) (hhi : boundA σ es.length hi = some hh) (hl : l ≤ hh) (hle : hh ≤ es.length) (hz : ∀ e ∈ es, e.length = z) (hd : okDst σ d) :
    OpAny P w0 M0 σ ⟨d, .slice t x lo hi none, ty, pos, after, guard⟩ (.val (.sl ((es.drop l).take (hh - l)))) :=
  opAny_val hd fun σ' a w X hag hr => by
    have h1 := hr.ev x
    rw [hag.ev x (by simp [Op.operands])] at h1
    obtain ⟨b, cap, hv, hcap, hpart⟩ := sl_part (V := X.V) (G := X.G) (slEs_spec h1 hx) hl hle hz
    refine ⟨_, ?_, hpart⟩
    simp only [execOp, hv]
    refine run_value ?_
    have hH : (match hi.map a.eval, (none : Option Value) with
        | some v, some _ => Instr.sliceBound v cap .slice3B
        | some v, none => Instr.sliceBound v cap .sliceAcap
        | none, none => pure es.length
        | none, some _ => stuck "Slice: max without high" : Sem Nat).run P w = .ok hh w := by
      cases hi with
      | none => simp [boundA] at hhi; subst hhi; rfl
      | some o => exact run_bound hr (hag.ev o (by simp [Op.operands])) hhi (by omega) _
    have hL : (match lo.map a.eval with
        | some v => Instr.sliceBound v hh .sliceB
        | none => pure 0 : Sem Nat).run P w = .ok l w := by
      cases lo with
      | none => simp [boundA] at hlo; subst hlo; rfl
      | some o => exact run_bound hr (hag.ev o (by simp [Op.operands])) hlo hl _
    cases hi <;> cases lo <;> simp_all [Instr.sliceAt, run_underlying' hu, Instr.slice, Instr.sliceBounds, Result.andThen]

end
end Go.Ab
