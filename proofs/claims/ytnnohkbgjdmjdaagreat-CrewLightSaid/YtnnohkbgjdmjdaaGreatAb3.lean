/- Operations that look into memory and leave it as it is. Nothing here speaks of one program. -/
import Derived.Test.YtnnohkbgjdmjdaaGreatAb2
namespace Go.Ab
open Go.RowKit

/-- Cells that hold what is told. -/
def Cells (w : World) (M : Nat → Option Nat) (V : OId → Option Nat) (G : OId → Option GL) (b off : Nat) (cs : List AV) : Prop :=
  ∀ (j : Nat) c, cs[j]? = some c → ∃ v, w.cell? ⟨b, off + j, none⟩ = some v ∧ v.oneCell' = true ∧ VR w M V G c v

theorem Cells.drop {w M V G b off cs} (h : Cells w M V G b off cs) (k : Nat) : Cells w M V G b (off + k) (cs.drop k) := by
  intro j c hj
  rw [List.getElem?_drop] at hj
  obtain ⟨v, h1, h2⟩ := h _ _ hj
  exact ⟨v, by rw [Nat.add_assoc]; exact h1, h2⟩

def partA (agg : Bool) (size : Nat) (cs : List AV) : Option AV :=
  match agg with
  | true => match Nat.ble size cs.length with
    | true => some (.agg (cs.take size))
    | false => none
  | false => match cs with
    | c :: _ => some c
    | [] => none

theorem addr_add (b off j : Nat) : (⟨b, off, none⟩ : Addr).add j = ⟨b, off + j, none⟩ := by
  unfold Addr.add; split <;> simp_all

theorem run_loadAt_cells {P : Program} {w M V G b off cs} {t sz : Nat} {ag : Bool} {v : AV} (hs : ∀ w, (sizeOf t).run P w = .ok sz w) (ha : ∀ w, (isAgg t).run P w = .ok ag w)
    (h : Cells w M V G b off cs) (hp : partA ag sz cs = some v) : ∃ cv, (Instr.loadAt t (.pointer (some ⟨b, off, none⟩))).run P w = .ok cv w ∧ VR w M V G v cv := by
  cases ag with
  | false =>
    cases cs with
    | nil => simp [partA] at hp
    | cons c cs =>
      simp [partA] at hp
      subst hp
      obtain ⟨u, h1, _, h3⟩ := h 0 c rfl
      rw [Nat.add_zero] at h1
      exact ⟨u, by simp [Instr.loadAt, Instr.sureAddr, loadVar, ha, Result.andThen, h1] , h3⟩
  | true =>
    simp only [partA] at hp
    split at hp
    · rename_i hle
      have hle := Nat.le_of_ble_eq_true hle
      simp at hp
      subst hp
      have hX : ∀ j, j < sz → ∃ u, w.cell? ⟨b, off + j, none⟩ = some u ∧ u.oneCell' = true ∧ ∀ c, cs[j]? = some c → VR w M V G c u := fun j hj => by
        have hj' : j < cs.length := by omega
        obtain ⟨u, h1, h2, h3⟩ := h j cs[j] (List.getElem?_eq_getElem hj')
        exact ⟨u, h1, h2, fun c hc => by rw [List.getElem?_eq_getElem hj'] at hc; cases hc; exact h3⟩
      let X : Nat → Value := fun j => (w.cell? ⟨b, off + j, none⟩).getD undef
      have hXc : ∀ j, j < sz → w.cell? ((⟨b, off, none⟩ : Addr).add j) = some (X j) := fun j hj => by
        obtain ⟨u, h1, _⟩ := hX j hj
        rw [addr_add]; simp [X, h1]
      have hrun := run_loadCells (P := P) w ⟨b, off, none⟩ sz X hXc
      refine ⟨.agg ((List.range sz).map X).toArray, by simp [Instr.loadAt, Instr.sureAddr, loadVar, ha, hs, Result.andThen, hrun], ?_⟩
      refine .agg _ _ (by simp; omega) (List.all_eq_true.2 fun u hu => ?_) fun i c u hc hu => ?_
      · obtain ⟨j, hj, rfl⟩ := List.mem_map.1 hu
        obtain ⟨u, h1, h2, _⟩ := hX j (List.mem_range.1 hj)
        simp [X, h1, h2]
      · rw [List.getElem?_take] at hc
        split at hc
        · rename_i hi
          obtain ⟨u', h1, _, h3⟩ := hX i hi
          simp [List.getElem?_map, List.getElem?_range hi] at hu
          rw [← hu]
          simp only [X, h1, Option.getD_some]
          exact h3 c hc
        · cases hc
    · cases hp

theorem RelW.cells {w0 M0 σ a w x} (h : RelW w0 M0 σ a w x) {id : OId} {cs : List AV} (hv : σ.va id = some cs) :
    ∃ b, x.V id = some b ∧ Cells w x.M x.V x.G b 0 cs := by
  obtain ⟨b, vs, ty, h1, _, _, _, h5, h6, h7⟩ := h.va id cs hv
  refine ⟨b, h1, fun j c hj => ?_⟩
  obtain ⟨v, g1, g2, g3⟩ := h7 j c hj
  exact ⟨v, by simp [World.cell?, h5, g1], g2, g3⟩

theorem rd_cells {w M V G b off cs} {X : Nat → Value} (hc : ∀ (j : Nat) c, cs[j]? = some c → Imm w M b (off + j) (X j))
    (hv : ∀ (j : Nat) c, cs[j]? = some c → VR w M noV noG c (X j)) : Cells w M V G b off cs :=
  fun j c hj => ⟨X j, (hc j c hj).1, (hc j c hj).2.1, (hv j c hj).open' _ _⟩

section
variable {P : Program} {w0 : World} {M0 : MT} {σ : AS} {d : Option Tmp} {ty : TypeId} {pos : String} {after : Array Edge} {guard : Option (Nat × Bool)}

theorem ok_load_ref {t sz off : Nat} {ag : Bool} {id : OId} {cs : List AV} {v : AV} (x : Operand) (hx : σ.ev x = .ref id off) (hv : σ.va id = some cs)
    (hs : ∀ w, (sizeOf t).run P w = .ok sz w) (ha : ∀ w, (isAgg t).run P w = .ok ag w) (hp : partA ag sz (cs.drop off) = some v) (hd : okDst σ d) :
    OpAny P w0 M0 σ ⟨d, .load t x, ty, pos, after, guard⟩ (.val v) :=
  opAny_val hd fun σ' a w X hag hr => by
    have h1 := hr.ev x
    rw [hag.ev x (by simp [Op.operands]), hx] at h1
    generalize hcv : a.eval x = cv at h1
    cases h1 with
    | ref _ _ b hb =>
      obtain ⟨b', hb', hc⟩ := hr.cells (id := id) (cs := cs) (hag.va x (by simp [Op.operands]) id off cs hx hv)
      have : b = b' := Option.some.inj (hb.symm.trans hb')
      subst this
      have hc' := hc.drop off
      rw [Nat.zero_add] at hc'
      obtain ⟨cv, g1, g2⟩ := run_loadAt_cells hs ha hc' hp
      exact ⟨cv, by simp only [execOp, hcv]; exact run_value g1, g2⟩

theorem ok_load_rd {t sz : Nat} {ag : Bool} {cs : List AV} {v : AV} (x : Operand) (hx : σ.ev x = .rd cs)
    (hs : ∀ w, (sizeOf t).run P w = .ok sz w) (ha : ∀ w, (isAgg t).run P w = .ok ag w) (hp : partA ag sz cs = some v) (hd : okDst σ d) :
    OpAny P w0 M0 σ ⟨d, .load t x, ty, pos, after, guard⟩ (.val v) :=
  opAny_val hd fun σ' a w X hag hr => by
    have h1 := hr.ev x
    rw [hag.ev x (by simp [Op.operands]), hx] at h1
    generalize hcv : a.eval x = cv at h1
    cases h1 with
    | rd _ b off X hc hv =>
      obtain ⟨cv, g1, g2⟩ := run_loadAt_cells hs ha (rd_cells hc hv) hp
      exact ⟨cv, by simp only [execOp, hcv]; exact run_value g1, g2⟩

/-- The field f of struct type t lies off cells behind its beginning, and has a size that is not 0. -/
def FieldAt (P : Program) (t f off sz : Nat) (ag : Bool) : Prop :=
  ∃ fs fd, P.underlying t = some (.struct fs) ∧ fs[f]? = some fd ∧ fd.offset = off ∧ sz ≠ 0 ∧ (∀ w, (sizeOf fd.type).run P w = .ok sz w) ∧ (∀ w, (isAgg fd.type).run P w = .ok ag w)

theorem run_underlying' {P : Program} {t : TypeId} {u : TypeDesc} (h : P.underlying t = some u) (w : World) : (underlying t).run P w = .ok u w := by
  simp [underlying, h]

theorem run_fieldAt {P : Program} {t f off sz : Nat} {ag : Bool} (h : FieldAt P t f off sz ag) (w : World) (b o : Nat) :
    (Instr.fieldAt t (.pointer (some ⟨b, o, none⟩)) f).run P w = .ok (.pointer (some ⟨b, o + off, none⟩)) w := by
  obtain ⟨fs, fd, h1, h2, h3, h4, h5, _⟩ := h
  simp [Instr.fieldAt, run_underlying' h1, h2, Instr.sureAddr, fieldPlace, h5, h4, h3, Result.andThen, addr_add]

theorem ok_fieldAddr_ref {t f off sz o : Nat} {ag : Bool} {id : OId} (x : Operand) (hx : σ.ev x = .ref id o) (hf : FieldAt P t f off sz ag) (hd : okDst σ d) :
    OpAny P w0 M0 σ ⟨d, .fieldAddr t x f, ty, pos, after, guard⟩ (.val (.ref id (o + off))) :=
  opAny_val hd fun σ' a w X hag hr => by
    have h1 := hr.ev x
    rw [hag.ev x (by simp [Op.operands]), hx] at h1
    generalize hcv : a.eval x = cv at h1
    cases h1 with
    | ref _ _ b hb => exact ⟨_, by simp only [execOp, hcv]; exact run_value (run_fieldAt hf w b o), .ref _ _ b hb⟩

theorem ok_fieldAddr_rd {t f off sz : Nat} {ag : Bool} {cs : List AV} (x : Operand) (hx : σ.ev x = .rd cs) (hf : FieldAt P t f off sz ag) (hd : okDst σ d) :
    OpAny P w0 M0 σ ⟨d, .fieldAddr t x f, ty, pos, after, guard⟩ (.val (.rd (cs.drop off))) :=
  opAny_val hd fun σ' a w X hag hr => by
    have h1 := hr.ev x
    rw [hag.ev x (by simp [Op.operands]), hx] at h1
    generalize hcv : a.eval x = cv at h1
    cases h1 with
    | rd _ b o X hc hv =>
      refine ⟨_, by simp only [execOp, hcv]; exact run_value (run_fieldAt hf w b o), .rd _ b (o + off) (fun j => X (off + j)) (fun j c hj => ?_) (fun j c hj => ?_)⟩
      · rw [List.getElem?_drop] at hj; rw [Nat.add_assoc]; exact hc _ _ hj
      · rw [List.getElem?_drop] at hj; exact hv _ _ hj

theorem part_agg {w : World} {M V G} {cs : List AV} {vs : List Value} (hl : cs.length = vs.length) (h1 : vs.all (·.oneCell') = true)
    (h : ∀ (i : Nat) c v, cs[i]? = some c → vs[i]? = some v → VR w M V G c v) {u off sz : Nat} {ag : Bool} {v : AV}
    (hs : ∀ w, (sizeOf u).run P w = .ok sz w) (ha : ∀ w, (isAgg u).run P w = .ok ag w) (hp : partA ag sz (cs.drop off) = some v) :
    ∃ cv, (part u vs.toArray off).run P w = .ok cv w ∧ VR w M V G v cv := by
  cases ag with
  | false =>
    simp only [partA] at hp
    split at hp
    · rename_i c rest hc
      simp at hp; subst hp
      have h0 : cs[off]? = some c := by have := congrArg (·[0]?) hc; simpa [List.getElem?_drop] using this
      have hlt : off < cs.length := (List.getElem?_eq_some_iff.1 h0).1
      have hv : vs[off]? = some vs[off] := List.getElem?_eq_getElem (by omega)
      exact ⟨vs[off], by simp [part, ha, Result.andThen, hv], h off c _ h0 hv⟩
    · cases hp
  | true =>
    simp only [partA] at hp
    split at hp
    · rename_i hle
      have hle := Nat.le_of_ble_eq_true hle
      simp at hp; subst hp
      simp only [List.length_drop] at hle
      refine ⟨.agg ((vs.drop off).take sz).toArray, ?_, .agg _ _ (by simp; omega) (List.all_eq_true.2 fun u hu => ?_) fun i c u hc hu => ?_⟩
      · simp only [part, Sem.run_bind, ha, hs, Result.andThen, if_true, Sem.run_pure]
        congr 2
        apply Array.ext'
        simp [List.extract_eq_take_drop]
      · exact List.all_eq_true.1 h1 u (List.mem_of_mem_drop (List.mem_of_mem_take hu))
      · rw [List.getElem?_take] at hc hu
        split at hc
        · rename_i hi
          rw [if_pos hi, List.getElem?_drop] at hu
          rw [List.getElem?_drop] at hc
          exact h _ c u hc hu
        · cases hc
    · cases hp

theorem ok_field {t f off sz : Nat} {ag : Bool} {cs : List AV} {v : AV} (x : Operand) (hx : σ.ev x = .agg cs) (hf : FieldAt P t f off sz ag)
    (hp : partA ag sz (cs.drop off) = some v) (hd : okDst σ d) : OpAny P w0 M0 σ ⟨d, .field t x f, ty, pos, after, guard⟩ (.val v) :=
  opAny_val hd fun σ' a w X hag hr => by
    have h1 := hr.ev x
    rw [hag.ev x (by simp [Op.operands]), hx] at h1
    generalize hcv : a.eval x = cv at h1
    cases h1 with
    | agg _ vs hl h1 h =>
      obtain ⟨fs, fd, g1, g2, g3, g4, g5, g6⟩ := hf
      subst g3
      obtain ⟨cv, k1, k2⟩ := part_agg (P := P) hl h1 h g5 g6 hp
      refine ⟨cv, ?_, k2⟩
      simp only [execOp, hcv]
      exact run_value (by simp [Instr.field, run_underlying' g1, g2, asAgg, Result.andThen, k1])

theorem ok_extract {vs : List AV} {v : AV} {k : Nat} (x : Operand) (hx : σ.ev x = .tup vs) (hk : vs[k]? = some v) (hd : okDst σ d) :
    OpAny P w0 M0 σ ⟨d, .extract x k, ty, pos, after, guard⟩ (.val v) :=
  opAny_val hd fun σ' a w X hag hr => by
    have h1 := hr.ev x
    rw [hag.ev x (by simp [Op.operands]), hx] at h1
    generalize hcv : a.eval x = cv at h1
    cases h1 with
    | tup _ us hl h =>
      have hlt : k < vs.length := (List.getElem?_eq_some_iff.1 hk).1
      have hu : us[k]? = some us[k] := List.getElem?_eq_getElem (by omega)
      exact ⟨us[k], by simp only [execOp, hcv]; exact run_value (by simp [Instr.extract, hu]), h k v _ hk hu⟩

/-- Values that are known to the last bit. -/
def exact : AV → Option Value
  | .sc v => some v
  | .agg cs => (exactL cs).map fun l => .agg l.toArray
  | .tup cs => (exactL cs).map fun l => .tuple l.toArray
  | .clo f cs => (exactL cs).map fun l => .func (.func f) #[] l.toArray
  | .bnd f cs => (exactL cs).map fun l => .func (.func f) l.toArray #[]
  | .ifc t x => (exact x).map (.iface t)
  | _ => none
where
  exactL : List AV → Option (List Value)
    | [] => some []
    | c :: cs => match exact c, exactL cs with
      | some v, some l => some (v :: l)
      | _, _ => none

theorem exactL_get : ∀ (cs : List AV) (vs : List Value), exact.exactL cs = some vs → cs.length = vs.length ∧ ∀ (i : Nat) c v, cs[i]? = some c → vs[i]? = some v → exact c = some v := by
  intro cs
  induction cs with
  | nil => intro vs h; simp [exact.exactL] at h; subst h; exact ⟨rfl, by simp⟩
  | cons c cs ih =>
    intro vs h
    simp only [exact.exactL] at h
    split at h
    · rename_i v l h1 h2
      simp at h; subst h
      obtain ⟨hl, hg⟩ := ih l h2
      refine ⟨by simp [hl], fun i c' v' hc hv => ?_⟩
      cases i with
      | zero => simp at hc hv; subst hc; subst hv; exact h1
      | succ i => simp at hc hv; exact hg i c' v' hc hv
    · simp at h

theorem VR.exact {w M V G x v} (h : VR w M V G x v) : ∀ u, Ab.exact x = some u → v = u := by
  have key : ∀ (cs : List AV) (vs : List Value), cs.length = vs.length → (∀ (i : Nat) c v, cs[i]? = some c → vs[i]? = some v → ∀ u, Ab.exact c = some u → v = u) →
      ∀ l, exact.exactL cs = some l → vs = l := fun cs vs hl ih l he => by
    obtain ⟨h2, h3⟩ := exactL_get cs l he
    apply List.ext_getElem (by omega)
    intro i hi1 hi2
    exact ih i cs[i] _ (List.getElem?_eq_getElem (by omega)) (List.getElem?_eq_getElem hi1) _ (h3 i cs[i] _ (List.getElem?_eq_getElem (by omega)) (List.getElem?_eq_getElem hi2))
  induction h with
  | sc v => intro u hu; simpa [Ab.exact] using hu
  | agg cs vs hl h1 _ ih =>
    intro u hu
    simp only [Ab.exact, Option.map_eq_some_iff] at hu
    obtain ⟨l, he, rfl⟩ := hu
    rw [key cs vs hl ih l he]
  | tup cs vs hl _ ih =>
    intro u hu
    simp only [Ab.exact, Option.map_eq_some_iff] at hu
    obtain ⟨l, he, rfl⟩ := hu
    rw [key cs vs hl ih l he]
  | clo f cs vs hl _ ih =>
    intro u hu
    simp only [Ab.exact, Option.map_eq_some_iff] at hu
    obtain ⟨l, he, rfl⟩ := hu
    rw [key cs vs hl ih l he]
  | bnd f cs vs hl _ ih =>
    intro u hu
    simp only [Ab.exact, Option.map_eq_some_iff] at hu
    obtain ⟨l, he, rfl⟩ := hu
    rw [key cs vs hl ih l he]
  | ifc t x v _ ih =>
    intro u hu
    simp only [Ab.exact, Option.map_eq_some_iff] at hu
    obtain ⟨l, he, rfl⟩ := hu
    rw [ih l he]
  | _ => intro u hu; simp [Ab.exact] at hu

theorem ok_bin {op : BinOp} {t yt : TypeId} {u v cv : Value} (x y : Operand) (hx : exact (σ.ev x) = some u) (hy : exact (σ.ev y) = some v)
    (hrun : ∀ w, (do eqGuard op t x y u v; binOp op t u v : Sem Value).run P w = .ok cv w) (hd : okDst σ d) :
    OpAny P w0 M0 σ ⟨d, .binOp op t x y yt, ty, pos, after, guard⟩ (.val (.sc cv)) :=
  opAny_val hd fun σ' a w X hag hr => by
    have h1 := hr.ev x
    rw [hag.ev x (by simp [Op.operands])] at h1
    have h2 := hr.ev y
    rw [hag.ev y (by simp [Op.operands])] at h2
    refine ⟨cv, ?_, .sc cv⟩
    simp only [execOp, h1.exact u hx, h2.exact v hy]
    exact run_value (hrun w)

theorem ok_un {op : UnOp} {t : TypeId} {u cv : Value} (x : Operand) (hx : exact (σ.ev x) = some u)
    (hrun : ∀ w, (Op.unary op u).run P w = .ok cv w) (hd : okDst σ d) :
    OpAny P w0 M0 σ ⟨d, .unOp op t x, ty, pos, after, guard⟩ (.val (.sc cv)) :=
  opAny_val hd fun σ' a w X hag hr => by
    have h1 := hr.ev x
    rw [hag.ev x (by simp [Op.operands])] at h1
    refine ⟨cv, ?_, .sc cv⟩
    simp only [execOp, h1.exact u hx]
    exact run_value (hrun w)

theorem ok_conv {s t : TypeId} {u cv : Value} (x : Operand) (hx : exact (σ.ev x) = some u)
    (hrun : ∀ w, (convert s t u).run P w = .ok cv w) (hd : okDst σ d) :
    OpAny P w0 M0 σ ⟨d, .convert s t x, ty, pos, after, guard⟩ (.val (.sc cv)) :=
  opAny_val hd fun σ' a w X hag hr => by
    have h1 := hr.ev x
    rw [hag.ev x (by simp [Op.operands])] at h1
    refine ⟨cv, ?_, .sc cv⟩
    simp only [execOp, h1.exact u hx]
    exact run_value (hrun w)

theorem ok_index {t : TypeId} {u v cv : Value} (x i : Operand) (hx : exact (σ.ev x) = some u) (hi : exact (σ.ev i) = some v)
    (hrun : ∀ w, (Instr.index t u v).run P w = .ok cv w) (hd : okDst σ d) :
    OpAny P w0 M0 σ ⟨d, .index t x i, ty, pos, after, guard⟩ (.val (.sc cv)) :=
  opAny_val hd fun σ' a w X hag hr => by
    have h1 := hr.ev x
    rw [hag.ev x (by simp [Op.operands])] at h1
    have h2 := hr.ev i
    rw [hag.ev i (by simp [Op.operands])] at h2
    refine ⟨cv, ?_, .sc cv⟩
    simp only [execOp, h1.exact u hx, h2.exact v hi]
    exact run_value (hrun w)

theorem ok_makeFunc {f : FuncId} {caps : Array Operand} {cs : List AV} (hc : cs = caps.toList.map σ.ev) (hd : okDst σ d) :
    OpAny P w0 M0 σ ⟨d, .makeFunc (.func f) #[] caps, ty, pos, after, guard⟩ (.val (.clo f cs)) :=
  opAny_val hd fun σ' a w X hag hr => by
    subst hc
    refine ⟨.func (.func f) #[] (caps.map a.eval), by simp [execOp, Instr.makeFunc], ?_⟩
    have : (caps.map a.eval) = (caps.toList.map a.eval).toArray := by
      apply Array.ext'
      simp
    rw [this]
    refine .clo f _ _ (by simp) fun i c v hcc hv => ?_
    simp only [List.getElem?_map, Option.map_eq_some_iff] at hcc hv
    obtain ⟨o, ho, rfl⟩ := hcc
    obtain ⟨o', ho', rfl⟩ := hv
    have : o = o' := Option.some.inj (ho.symm.trans ho')
    subst this
    rw [← hag.ev o (by simp [Op.operands]; exact Array.mem_toList_iff.1 (List.mem_of_getElem? ho))]
    exact hr.ev o

end
end Go.Ab
