/- Numbers, elements and conditions in walks. Nothing here speaks of one program. -/
import Derived.Test.YtnnohkbgjdmjdaaGreatAb11
import Derived.KernelRfl
import Derived.IntWalk
namespace Go.Ab
open Go.RowKit

section
variable {P : Program} {w0 : World} {M0 : MT} {σ : AS} {d : Option Tmp} {ty : TypeId} {pos : String} {after : Array Edge} {guard : Option (Nat × Bool)}

def inI64 (n : Int) : Prop := -9223372036854775808 ≤ n ∧ n ≤ 9223372036854775807
theorem wrap_in {n : Int} (h : inI64 n) : IntKind.i64.wrap n = n := IntWalk.i64_in n h

theorem o_add {t yt : TypeId} {a b : Int} (x y : Operand) (hx : exact (σ.ev x) = some (.int .i64 a)) (hy : exact (σ.ev y) = some (.int .i64 b)) (h : inI64 (a + b)) (hd : okDB σ d = true) :
    OpAny P w0 M0 σ ⟨d, .binOp .add t x y yt, ty, pos, after, guard⟩ (.val (.sc (.int .i64 (a + b)))) := by
  have := wrap_in h
  exact ok_bin x y hx hy (fun w => by rw [← this]; rfl) (okD hd)
theorem o_sub {t yt : TypeId} {a b : Int} (x y : Operand) (hx : exact (σ.ev x) = some (.int .i64 a)) (hy : exact (σ.ev y) = some (.int .i64 b)) (h : inI64 (a - b)) (hd : okDB σ d = true) :
    OpAny P w0 M0 σ ⟨d, .binOp .sub t x y yt, ty, pos, after, guard⟩ (.val (.sc (.int .i64 (a - b)))) := by
  have := wrap_in h
  exact ok_bin x y hx hy (fun w => by rw [← this]; rfl) (okD hd)
theorem o_mul {t yt : TypeId} {a b : Int} (x y : Operand) (hx : exact (σ.ev x) = some (.int .i64 a)) (hy : exact (σ.ev y) = some (.int .i64 b)) (h : inI64 (a * b)) (hd : okDB σ d = true) :
    OpAny P w0 M0 σ ⟨d, .binOp .mul t x y yt, ty, pos, after, guard⟩ (.val (.sc (.int .i64 (a * b)))) := by
  have := wrap_in h
  exact ok_bin x y hx hy (fun w => by rw [← this]; rfl) (okD hd)
theorem o_neg {t : TypeId} {a : Int} (x : Operand) (hx : exact (σ.ev x) = some (.int .i64 a)) (h : inI64 (0 - a)) (hd : okDB σ d = true) :
    OpAny P w0 M0 σ ⟨d, .unOp .neg t x, ty, pos, after, guard⟩ (.val (.sc (.int .i64 (0 - a)))) := by
  have := wrap_in h
  exact ok_un x hx (fun w => by rw [← this]; rfl) (okD hd)
/-- Division by a positive number of one that is not negative. -/
theorem o_quo {t yt : TypeId} {a b : Int} (x y : Operand) (hx : exact (σ.ev x) = some (.int .i64 a)) (hy : exact (σ.ev y) = some (.int .i64 b)) (ha : 0 ≤ a ∧ a ≤ 9223372036854775807) (hb : 1 ≤ b) (hd : okDB σ d = true) :
    OpAny P w0 M0 σ ⟨d, .binOp .quo t x y yt, ty, pos, after, guard⟩ (.val (.sc (.int .i64 (a / b)))) := by
  have h1 : a.tdiv b = a / b := Int.tdiv_eq_ediv_of_nonneg ha.1
  have h2 : 0 ≤ a / b := Int.ediv_nonneg ha.1 (by omega)
  have h3 : a / b ≤ a := Int.ediv_le_self b ha.1
  have h4 : IntKind.i64.wrap (a / b) = a / b := wrap_in ⟨by omega, by omega⟩
  refine ok_bin x y hx hy (fun w => ?_) (okD hd)
  have hb0 : b ≠ 0 := by omega
  simp [eqGuard, binOp, Op.intDiv, hb0, h1, h4]

theorem o_index {t e z : Nat} {es : List (List AV)} {el : List AV} {k : IntKind} {n : Int} (x i : Operand) (hu : P.underlying t = some (.slice e)) (hs : ∀ w, (sizeOf e).run P w = .ok z w)
    (hx : slEs (σ.ev x) = some es) (hi : exact (σ.ev i) = some (.int k n)) (h0 : 0 ≤ n) (hel : es[n.toNat]? = some el) (hz : el.length = z) (hd : okDB σ d = true) :
    OpAny P w0 M0 σ ⟨d, .indexAddr t x i, ty, pos, after, guard⟩ (.val (.rd el)) := ok_indexAddr x i hu hs hx hi h0 hel hz (okD hd)
theorem boundA_some {len : Nat} {o : Operand} {k : IntKind} {n : Int} {m : Nat} (h : exact (σ.ev o) = some (.int k n)) (h0 : 0 ≤ n) (hm : n.toNat = m) : boundA σ len (some o) = some m := by
  subst hm
  have : decide (0 ≤ n) = true := by simpa using h0
  simp only [boundA, h, this]
theorem boundA_none {len : Nat} : boundA σ len none = some len := rfl
theorem o_sliceE {t e z l hh : Nat} {es rs : List (List AV)} (x : Operand) (lo hi : Option Operand) (hu : P.underlying t = some (.slice e)) (hs : ∀ w, (sizeOf e).run P w = .ok z w)
    (hx : slEs (σ.ev x) = some es) (hlo : boundA σ 0 lo = some l) (hhi : boundA σ es.length hi = some hh) (hl : l ≤ hh) (hle : hh ≤ es.length) (hz : ∀ e ∈ es, e.length = z) (he : (es.drop l).take (hh - l) = rs) (hd : okDB σ d = true) :
    OpAny P w0 M0 σ ⟨d, .slice t x lo hi none, ty, pos, after, guard⟩ (.val (.sl rs)) := by subst he; exact ok_slice x lo hi hu hs hx hlo hhi hl hle hz (okD hd)
theorem o_slice {t e z l hh : Nat} {es : List (List AV)} (x : Operand) (lo hi : Option Operand) (hu : P.underlying t = some (.slice e)) (hs : ∀ w, (sizeOf e).run P w = .ok z w)
    (hx : slEs (σ.ev x) = some es) (hlo : boundA σ 0 lo = some l) (hhi : boundA σ es.length hi = some hh) (hl : l ≤ hh) (hle : hh ≤ es.length) (hz : ∀ e ∈ es, e.length = z) (hd : okDB σ d = true) :
    OpAny P w0 M0 σ ⟨d, .slice t x lo hi none, ty, pos, after, guard⟩ (.val (.sl ((es.drop l).take (hh - l)))) := ok_slice x lo hi hu hs hx hlo hhi hl hle hz (okD hd)
def seqO {α : Type} : List (Option α) → Option (List α)
  | [] => some []
  | some x :: l => match seqO l with
    | some r => some (x :: r)
    | none => none
  | none :: _ => none
theorem seqO_eq {α : Type} : ∀ {l : List (Option α)} {r : List α}, seqO l = some r → l = r.map some := by
  intro l
  induction l with
  | nil => intro r h; simp [seqO] at h; subst h; rfl
  | cons x l ih =>
    intro r h
    cases x with
    | none => simp [seqO] at h
    | some x =>
      simp only [seqO] at h
      split at h
      · rename_i r' hr; cases h; rw [ih hr]; rfl
      · cases h

theorem o_lit {t e z len : Nat} {parts : Array (Nat × Operand)} {es : List (List AV)} {zv : Value} {d : Tmp} (hu : P.underlying t = some (.slice e)) (hs : ∀ w, (sizeOf e).run P w = .ok z w)
    (hzv : ∀ w, (zeroValue e).run P w = .ok zv w) (hlen : parts.toList.length = len) (hidx : parts.toList.map (·.1) = List.range len)
    (hes : seqO (parts.toList.map fun p => (cellsA (σ.ev p.2)).bind AV.close.closeL) = some es) (hz : (es.all fun c => Nat.beq c.length z) = true) (hzp : Nat.blt 0 z = true) (hsmall : Nat.ble (len * z) 1000000 = true) (hd : okDB σ (some d) = true) :
    OpAny P w0 M0 σ ⟨some d, .buildSlice t len parts, ty, pos, after, guard⟩ (.fresh (.own (0, 0) es) len z e) := ok_buildSlice hu hs hzv hlen hidx (seqO_eq hes) (fun c hc => Nat.eq_of_beq_eq_true (List.all_eq_true.1 hz c hc)) (ltB hzp) (leB hsmall) (okD hd)
theorem o_append {t e z bytes : Nat} {i : TypeInfo} {zv : Value} {id : OId} {es ns rs : List (List AV)} (x y : Operand) (hu : P.underlying t = some (.slice e)) (hi : P.info? e = some i) (hzv : i.zero = some zv)
    (hsz : i.size = z) (hby : i.bytes = bytes) (hzc : zv.cells.size = z) (hzp : Nat.blt 0 z = true) (hx : nf (σ.ev x) = some (.own id es)) (hgr : σ.gr id = some (es.length, z, e)) (hy : slEs (σ.ev y) = some ns)
    (hnz : ∀ c ∈ ns, c.length = z) (hez : ∀ c ∈ es, c.length = z) (hbound : (es.length + ns.length) * bytes ≤ 140737488355328) (hbp : Nat.blt 0 bytes = true) (hr : es ++ ns = rs) (hd : okDB σ d = true) :
    OpSeq P w0 M0 σ ⟨d, .call ⟨.builtin .append, #[x, y], #[t, t]⟩, ty, pos, after, guard⟩ (.grow id rs z e) := by
  subst hr; exact ok_append x y hu hi hzv hsz hby hzc (ltB hzp) (nf_eq hx) hgr hy hnz hez hbound (ltB hbp) (okD hd)
theorem o_minI {t u : Nat} {a b : Int} (x y : Operand) (hx : exact (σ.ev x) = some (.int .i64 a)) (hy : exact (σ.ev y) = some (.int .i64 b)) (hd : okDB σ d = true) :
    OpAny P w0 M0 σ ⟨d, .call ⟨.builtin .min, #[x, y], #[t, u]⟩, ty, pos, after, guard⟩ (.val (.sc (.int .i64 (if b < a then b else a)))) := ok_min x y hx hy (fun _ => rfl) (okD hd)
theorem o_maxI {t u : Nat} {a b : Int} (x y : Operand) (hx : exact (σ.ev x) = some (.int .i64 a)) (hy : exact (σ.ev y) = some (.int .i64 b)) (hd : okDB σ d = true) :
    OpAny P w0 M0 σ ⟨d, .call ⟨.builtin .max, #[x, y], #[t, u]⟩, ty, pos, after, guard⟩ (.val (.sc (.int .i64 (if b > a then b else a)))) := ok_max x y hx hy (fun _ => rfl) (okD hd)
end

section
variable {P : Program} {w0 : World} {M0 : MT} {σ : AS} {ty : TypeId} {pos : String} {after : Array Edge} {guard : Option (Nat × Bool)}

def exactO (σ : AS) : List Operand → Option (List Value)
  | [] => some []
  | o :: l => match exact (σ.ev o), exactO σ l with
    | some v, some r => some (v :: r)
    | _, _ => none
theorem exactO_spec {σ' : AS} {a : Act} {w : World} {M V G} (hev : ∀ o, VR w M V G (σ'.ev o) (a.eval o)) : ∀ (l : List Operand) (vs : List Value), (∀ o ∈ l, σ'.ev o = σ.ev o) → exactO σ l = some vs → l.map a.eval = vs := by
  intro l
  induction l with
  | nil => intro vs _ h; simp [exactO] at h; subst h; rfl
  | cons o l ih =>
    intro vs hag h
    simp only [exactO] at h
    split at h
    · rename_i v r h1 h2
      cases h
      have h3 := hev o
      rw [hag o (by simp)] at h3
      simp only [List.map_cons]
      rw [h3.exact v h1, ih r (fun o ho => hag o (by simp [ho])) h2]
    · cases h

/-- A method value, or a closure that has caught plain values. -/
theorem o_makeFuncX {d : Option Tmp} {f : FuncId} {first caps : Array Operand} {fs cs : List Value} (hf : exactO σ first.toList = some fs) (hc : exactO σ caps.toList = some cs) (hd : okDB σ d = true) :
    OpAny P w0 M0 σ ⟨d, .makeFunc (.func f) first caps, ty, pos, after, guard⟩ (.val (.sc (.func (.func f) fs.toArray cs.toArray))) :=
  opAny_val (okD hd) fun σ' a w X hag hr => by
    have h1 := exactO_spec (fun o => hr.ev o) first.toList fs (fun o ho => hag.ev o (by simp [Op.operands]; exact .inl (Array.mem_toList_iff.1 ho))) hf
    have h2 := exactO_spec (fun o => hr.ev o) caps.toList cs (fun o ho => hag.ev o (by simp [Op.operands]; exact .inr (Array.mem_toList_iff.1 ho))) hc
    have e1 : first.map a.eval = fs.toArray := by apply Array.ext'; simp [h1]
    have e2 : caps.map a.eval = cs.toArray := by apply Array.ext'; simp [h2]
    exact ⟨_, by simp [execOp, Instr.makeFunc, e1, e2], .sc _⟩

theorem o_callX {f : FuncId} {fs cs : Array Value} {args : Array Operand} {tys : Array TypeId} {cl : List AV} {r : AV} {fr : Option (Nat × Nat × TypeId)} {d : Tmp} (x : Operand) (hx : exact (σ.ev x) = some (.func (.func f) fs cs))
    (hs : FSpec P f (fs.toList.map .sc ++ cl ++ cs.toList.map .sc) r fr) (hb : Body P f)
    (hcl : (args.toList.map fun o => (σ.ev o).close) = cl.map some) (hd : okDB σ (some d) = true) :
    OpAny P w0 M0 σ ⟨some d, .call ⟨.value x, args, tys⟩, ty, pos, after, guard⟩ (.call r fr) := by
  have hd : d < σ.n := okD hd
  intro σ' hag a w ⟨X, hr⟩ K Q hK
  obtain ⟨c1, c2⟩ := closedArgs (fun o => hr.ev o) args.toList cl (fun o ho => hag.ev o (by simp [Op.operands, Call.operands]; exact .inr (Array.mem_toList_iff.1 ho))) hcl
  have hxv := hr.ev x
  rw [hag.ev x (by simp [Op.operands, Call.operands])] at hxv
  have hcv := hxv.exact _ hx
  have hrun : (execOp a.eval ⟨some d, .call ⟨.value x, args, tys⟩, ty, pos, after, guard⟩).run P w = .ok (.enter f (fs ++ args.map a.eval ++ cs)) w := by
    simp [execOp, resolve, Deferred.ofValue, hcv, invoke]
    exact hb _ _
  unfold Oper.wp
  rw [hrun, Oper.upon_enter]
  have hpt : ∀ (l : List Value) (i : Nat) y v, (l.map AV.sc)[i]? = some y → l[i]? = some v → VR w X.M noV noG y v := fun l i y v hy hv => by
    rw [List.getElem?_map, hv] at hy
    cases hy
    exact .sc v
  have hcall := hs w X.M (fs.toList ++ args.toList.map a.eval ++ cs.toList) trivial (by simp only [List.length_append, List.length_map] at c1 ⊢; omega) (fun i y v hy hv => by
      by_cases h1 : i < fs.toList.length
      · rw [List.append_assoc, List.getElem?_append_left (by simp at h1 ⊢; omega)] at hy
        rw [List.append_assoc, List.getElem?_append_left h1] at hv
        exact hpt _ i y v hy hv
      · rw [List.append_assoc, List.getElem?_append_right (by simp at h1 ⊢; omega)] at hy
        rw [List.append_assoc, List.getElem?_append_right (by omega)] at hv
        simp only [List.length_map] at hy
        by_cases h2 : i - fs.toList.length < cl.length
        · rw [List.getElem?_append_left h2] at hy
          rw [List.getElem?_append_left (by rw [← c1]; exact h2)] at hv
          exact c2 _ y v hy hv
        · rw [List.getElem?_append_right (by omega)] at hy
          rw [List.getElem?_append_right (by rw [← c1]; omega), ← c1] at hv
          exact hpt _ _ y v hy hv) (fun b hbb => (hr.mlt b hbb).1)
  have harr : (fs.toList ++ args.toList.map a.eval ++ cs.toList).toArray = fs ++ args.map a.eval ++ cs := by apply Array.ext'; simp
  rw [harr] at hcall
  refine hcall.mono fun e w' ⟨v, he, hbel, hres⟩ => ?_
  subst he
  have hd' : d < σ'.n := by rw [hag.n]; exact hd
  cases fr with
  | none => exact hK _ _ ⟨X, (hr.world hbel).put (d := some d) hd' (VR.open' hres _ _)⟩
  | some t =>
    obtain ⟨n, z, e⟩ := t
    exact hK _ _ (hr.callGrow hd' hbel hres)

/-- 'make([]T, 0, n)'. -/
theorem o_make0 {t e z bytes : Nat} {i : TypeInfo} {zv : Value} {c : Int} {d : Tmp} (x : Operand) (hu : P.underlying t = some (.slice e)) (hi : P.info? e = some i) (hzv : i.zero = some zv) (hsz : i.size = z) (hby : i.bytes = bytes) (hzc : zv.cells.size = z)
    (hzp : Nat.blt 0 z = true) (hx : exact (σ.ev x) = some (.int .i64 c)) (h0 : 0 ≤ c) (hc : c ≤ 1000000) (hb : Nat.ble bytes 1000000 = true) (hd : okDB σ (some d) = true) :
    OpAny P w0 M0 σ ⟨some d, .makeSlice t (.const (.int .i64 0)) x, ty, pos, after, guard⟩ (.fresh (.own (0, 0) []) 0 z e) := by
  have hd : d < σ.n := okD hd
  intro σ' hag a w ⟨X, hr⟩ K Q hK
  have h1 := hr.ev x
  rw [hag.ev x (by simp [Op.operands])] at h1
  have h1 := h1.exact _ hx
  have hb := leB hb
  obtain ⟨n, rfl⟩ : ∃ n : Nat, c = n := ⟨c.toNat, by omega⟩
  have hw : IntKind.i64.wrap (n : Int) = n := wrap_in ⟨by omega, by omega⟩
  have hw0 : IntKind.i64.wrap 0 = 0 := wrap_in ⟨by omega, by omega⟩
  have hbig : ¬ (281474976710656 < (bytes : Int) * (n : Int)) := by
    have h2 : bytes * n ≤ 1000000 * 1000000 := Nat.mul_le_mul hb (by omega)
    have : ((bytes * n : Nat) : Int) = (bytes : Int) * (n : Int) := by simp
    omega
  have hrun : ∃ vs : Array Value, vs.size = n * z ∧ (execOp a.eval ⟨some d, .makeSlice t (.const (.int .i64 0)) x, ty, pos, after, guard⟩).run P w = .ok (.value (.slice (some ⟨w.heap.size, 0, none⟩) 0 n)) (w.alloc (.cells vs e)) := by
    subst hsz hby
    by_cases hn : n * i.size = 0
    · refine ⟨(Array.range (n * i.size)).map fun k => (#[] : Array Value)[k % (#[] : Array Value).size]!, by simp, ?_⟩
      simp only [execOp, h1]
      refine run_value ?_
      simp [Instr.makeSlice, run_underlying' hu, asInt, asIntOf, Act.eval, typeInfo, hi, hw, hw0, hbig, sizeOf, hn, newRow, World.alloc_eq, show ¬ ((n : Int) < 0) by omega]
    · refine ⟨(Array.range (n * i.size)).map fun k => zv.cells[k % zv.cells.size]!, by simp, ?_⟩
      simp only [execOp, h1]
      refine run_value ?_
      simp [Instr.makeSlice, run_underlying' hu, asInt, asIntOf, Act.eval, typeInfo, hi, hw, hw0, hbig, sizeOf, newRow, World.alloc_eq, show ¬ ((n : Int) < 0) by omega, zeroValue, hzv]
      intro h; exact absurd h hn
  obtain ⟨vs, hvs, hrun⟩ := hrun
  unfold Oper.wp
  rw [hrun, Oper.upon_value]
  refine hK _ _ (hr.newGrow (by rw [hag.n]; exact hd) (Nat.zero_le _) (by unfold maxLen; omega) hvs (.own _ [] _ ?_ _ (updO_same _ _ _) (Nat.le_refl _) fun _ => rfl))
  have := VR.sl (w := w.alloc (.cells vs e)) (M := upd X.M w.heap.size (some (0 * z))) (V := noV) (G := noG) [] 0 w.heap.size 0 n (fun _ _ => undef) (by simp) (by simp) (by simp) (by simp)
  simpa using this
end

section
variable {P : Program} {w0 : World} {M0 : MT} {Q : Exit → AS → Prop} {σ : AS}
theorem AWP.condT' {c : Operand} {x y : Code} {b : Bool} (hc : exact (σ.ev c) = some (.bool b)) (hb : b = true) (ht : AWP P w0 M0 x Q σ) : AWP P w0 M0 (.cond c x y) Q σ :=
  AWP.cond b hc (fun _ => ht) (fun h => by rw [hb] at h; cases h)
theorem AWP.condF' {c : Operand} {x y : Code} {b : Bool} (hc : exact (σ.ev c) = some (.bool b)) (hb : b = false) (hf : AWP P w0 M0 y Q σ) : AWP P w0 M0 (.cond c x y) Q σ :=
  AWP.cond b hc (fun h => by rw [hb] at h; cases h) (fun _ => hf)

theorem postQ.ret1 {fn : Func} {t : Nat} {v r : AV} (hf : fn.results = #[.tmp t]) (hv : nf (σ.tm t) = some v) (hr : v.close = some r) : postQ P fn r none .ret σ :=
  ⟨[v], by rw [hf]; exact ⟨nf_eq hv, trivial⟩, hr⟩
theorem postQ.end1 {fn : Func} {t : Nat} {v r : AV} (hf : fn.results = #[.tmp t]) (hv : nf (σ.tm t) = some v) (hr : v.close = some r) : postQ P fn r none .normal σ :=
  ⟨[v], by rw [hf]; exact ⟨nf_eq hv, trivial⟩, hr⟩
theorem postQ.retF {fn : Func} {t : Nat} {r : AV} {id : OId} {es : List (List AV)} {tr : Nat × Nat × TypeId} (hf : fn.results = #[.tmp t]) (hv : nf (σ.tm t) = some (.own id es)) (hg : σ.gr id = some tr) (hr : (AV.own id es).exp id = some r) : postQ P fn r (some tr) .ret σ :=
  ⟨[.own id es], by rw [hf]; exact ⟨nf_eq hv, trivial⟩, id, hg, hr⟩
theorem postQ.ret2 {fn : Func} {t t' : Nat} {v v' r : AV} (hf : fn.results = #[.tmp t, .tmp t']) (hv : nf (σ.tm t) = some v) (hv' : nf (σ.tm t') = some v') (hr : (AV.tup [v, v']).close = some r) : postQ P fn r none .ret σ :=
  ⟨[v, v'], by rw [hf]; exact ⟨nf_eq hv, nf_eq hv', trivial⟩, hr⟩
theorem postQ.ret3 {fn : Func} {t t' t'' : Nat} {v v' v'' r : AV} (hf : fn.results = #[.tmp t, .tmp t', .tmp t'']) (hv : nf (σ.tm t) = some v) (hv' : nf (σ.tm t') = some v') (hv'' : nf (σ.tm t'') = some v'') (hr : (AV.tup [v, v', v'']).close = some r) : postQ P fn r none .ret σ :=
  ⟨[v, v', v''], by rw [hf]; exact ⟨nf_eq hv, nf_eq hv', nf_eq hv'', trivial⟩, hr⟩
theorem ResV.cell {t ty off sz : Nat} {id : OId} {ag : Bool} {cs : List AV} {v : AV} (h1 : nf (σ.tm t) = some (.ref id off)) (h2 : σ.va id = some cs) (h3 : ∀ w, (sizeOf ty).run P w = .ok sz w) (h4 : ∀ w, (isAgg ty).run P w = .ok ag w)
    (h5 : partA ag sz (cs.drop off) = some v) : ResV P σ (.cell t ty) v := ⟨id, off, cs, sz, ag, nf_eq h1, h2, h3, h4, h5⟩
theorem postQ.retC {fn : Func} {t ty off sz : Nat} {id : OId} {ag : Bool} {cs : List AV} {v r : AV} (hf : fn.results = #[.cell t ty]) (h1 : nf (σ.tm t) = some (.ref id off)) (h2 : σ.va id = some cs) (h3 : ∀ w, (sizeOf ty).run P w = .ok sz w)
    (h4 : ∀ w, (isAgg ty).run P w = .ok ag w) (h5 : partA ag sz (cs.drop off) = some v) (hr : v.close = some r) : postQ P fn r none .ret σ :=
  ⟨[v], by rw [hf]; exact ⟨ResV.cell h1 h2 h3 h4 h5, trivial⟩, hr⟩
theorem postQ.retC1 {fn : Func} {t ty t' off sz : Nat} {id : OId} {ag : Bool} {cs : List AV} {v v' r : AV} (hf : fn.results = #[.cell t ty, .tmp t']) (h1 : nf (σ.tm t) = some (.ref id off)) (h2 : σ.va id = some cs) (h3 : ∀ w, (sizeOf ty).run P w = .ok sz w)
    (h4 : ∀ w, (isAgg ty).run P w = .ok ag w) (h5 : partA ag sz (cs.drop off) = some v) (h6 : nf (σ.tm t') = some v') (hr : (AV.tup [v, v']).close = some r) : postQ P fn r none .ret σ :=
  ⟨[v, v'], by rw [hf]; exact ⟨ResV.cell h1 h2 h3 h4 h5, nf_eq h6, trivial⟩, hr⟩
theorem postQ.retC2 {fn : Func} {t ty t' t'' off sz : Nat} {id : OId} {ag : Bool} {cs : List AV} {v v' v'' r : AV} (hf : fn.results = #[.cell t ty, .tmp t', .tmp t'']) (h1 : nf (σ.tm t) = some (.ref id off)) (h2 : σ.va id = some cs) (h3 : ∀ w, (sizeOf ty).run P w = .ok sz w)
    (h4 : ∀ w, (isAgg ty).run P w = .ok ag w) (h5 : partA ag sz (cs.drop off) = some v) (h6 : nf (σ.tm t') = some v') (h7 : nf (σ.tm t'') = some v'') (hr : (AV.tup [v, v', v'']).close = some r) : postQ P fn r none .ret σ :=
  ⟨[v, v', v''], by rw [hf]; exact ⟨ResV.cell h1 h2 h3 h4 h5, nf_eq h6, nf_eq h7, trivial⟩, hr⟩
theorem ResV.tmp {t : Nat} {v : AV} (h : nf (σ.tm t) = some v) : ResV P σ (.tmp t) v := nf_eq h
end
end Go.Ab
