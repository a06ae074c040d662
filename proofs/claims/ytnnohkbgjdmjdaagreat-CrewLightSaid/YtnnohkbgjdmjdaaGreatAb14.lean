/- Slices that the frame itself made and still writes. Nothing here speaks of one program. -/
import Derived.Test.YtnnohkbgjdmjdaaGreatAb13
namespace Go.Ab
open Go.RowKit

theorem closeL_sc {α : Type} (f : α → Value) : ∀ (l : List α), AV.close.closeL (l.map fun x => .sc (f x)) = some (l.map fun x => .sc (f x)) := by
  intro l
  induction l with
  | nil => rfl
  | cons a l ih => simp [AV.close.closeL, AV.close, ih]

theorem flat_get {α : Type} {z : Nat} : ∀ (es : List (List α)), (∀ e ∈ es, e.length = z) → ∀ (i j : Nat) e c, es[i]? = some e → e[j]? = some c → es.flatten[i * z + j]? = some c := by
  intro es
  induction es with
  | nil => intro _ i j e c h; simp at h
  | cons a es ih =>
    intro hz i j e c h h'
    have ha := hz a List.mem_cons_self
    rw [List.flatten_cons]
    cases i with
    | zero =>
      simp at h; subst h
      have := (List.getElem?_eq_some_iff.1 h').1
      rw [Nat.zero_mul, Nat.zero_add, List.getElem?_append_left this]; exact h'
    | succ i =>
      simp at h
      rw [List.getElem?_append_right (by rw [ha, Nat.add_mul]; omega), ha, show (i + 1) * z + j - z = i * z + j by rw [Nat.add_mul]; omega]
      exact ih (fun e he => hz e (List.mem_cons_of_mem _ he)) i j e c h h'

theorem flat_rep {α : Type} {l : List α} : ∀ (n j : Nat) c, (List.replicate n l).flatten[j]? = some c → l[j % l.length]? = some c := by
  intro n
  induction n with
  | zero => intro j c h; simp at h
  | succ n ih =>
    intro j c h
    rw [List.replicate_succ, List.flatten_cons] at h
    by_cases hj : j < l.length
    · rw [List.getElem?_append_left hj] at h
      rw [Nat.mod_eq_of_lt hj]; exact h
    · rw [List.getElem?_append_right (by omega)] at h
      rw [Nat.mod_eq_sub_mod (by omega)]
      exact ih _ _ h

theorem put_put (a : Act) (d : Tmp) (u v : Value) : (a.put (some d) u).put (some d) v = a.put (some d) v := by
  simp [Act.put]

section
variable {P : Program} {w0 : World} {M0 : MT} {σ : AS} {ty : TypeId} {pos : String} {after : Array Edge} {guard : Option (Nat × Bool)}

/-- A new variable, told by a slice of it. -/
theorem RelW.newArr {a : Act} {w : World} {x : Wit} (h : RelW w0 M0 σ a w x) {d : Tmp} (hd : d < σ.n) {cs : List AV} {vs : Array Value} {ty : TypeId} {n : Nat} (hl : cs.length ≤ vs.size) (hnv : n ≤ vs.size) (hnm : n ≤ maxLen)
    (hc : ∀ (j : Nat) c, cs[j]? = some c → ∃ v, vs[j]? = some v ∧ v.oneCell' = true ∧ VR w x.M x.V x.G c v) :
    Rel w0 M0 ((σ.app (some d) (.alloc cs)).put (some d) (.arr (d, σ.gen d) 0 n n)) (a.put (some d) (.slice (some ⟨w.heap.size, 0, none⟩) n n)) (w.alloc (.cells vs ty)) := by
  obtain ⟨X, hr⟩ := h.newVar (ty := ty) hd hl hc
  have h1 := hr.tm d
  have hs : d < a.tmps.size := by rw [h.size]; exact hd
  rw [getD_put a d d _ hs, if_pos rfl] at h1
  change VR _ _ _ _ (upd σ.tm d _ d) _ at h1
  rw [upd_same] at h1
  generalize hp : Value.pointer (some ⟨w.heap.size, 0, none⟩) = p at h1
  cases h1 with
  | ref _ _ b hb =>
    have : b = w.heap.size := by cases hp; rfl
    subst this
    have := hr.put (d := some d) (v := .arr (d, σ.gen d) 0 n n) (cv := .slice (some ⟨w.heap.size, 0, none⟩) n n) (show d < (σ.app (some d) (.alloc cs)).n from hd) (.arr _ _ _ _ _ _ hb (Nat.le_refl _) (Nat.le_refl _) fun _ => ⟨vs, ty, _, heap_new w _, hnv, hnm⟩)
    rw [put_put] at this
    exact ⟨X, this⟩

/-- 'make([]T, n)'. -/
theorem AOps.mkarr {ops : Array Oper} {R : AS → Prop} {rest : List Oper} {t e z bytes n : Nat} {i : TypeInfo} {zv : Value} {zs : List Value} {c : Int} {d : Tmp} {cs : List AV} (x y : Operand) (hu : P.underlying t = some (.slice e)) (hi : P.info? e = some i) (hzv : i.zero = some zv) (hsz : i.size = z) (hby : i.bytes = bytes)
    (hzc : zv.cells = zs.toArray) (hz1 : zs.all (·.oneCell') = true) (hzl : zs.length = z)
    (hzp : Nat.blt 0 z = true) (hx : exact (σ.ev x) = some (.int .i64 c)) (hy : exact (σ.ev y) = some (.int .i64 c)) (hcn : c = (n : Int)) (hc : n ≤ 1000000) (hb : Nat.ble bytes 1000000 = true) (hd : okDB σ (some d) = true)
    (hcs : (List.replicate n (zs.map AV.sc)).flatten = cs)
    (h : AOps P w0 M0 ops rest R ((σ.app (some d) (.alloc cs)).put (some d) (.arr (d, σ.gen d) 0 n n))) :
    AOps P w0 M0 ops (⟨some d, .makeSlice t x y, ty, pos, after, none⟩ :: rest) R σ := fun a w hr Q' hQ => by
  have hd : d < σ.n := okD hd
  obtain ⟨X, hr⟩ := hr
  refine wpList_plain rfl fun K hK => ?_
  have h1 := hr.ev x
  have h1 := h1.exact _ hx
  have h2 := hr.ev y
  have h2 := h2.exact _ hy
  have hb := leB hb
  subst hcn
  have hw : IntKind.i64.wrap (n : Int) = n := wrap_in ⟨by omega, by omega⟩
  have hbig : ¬ (281474976710656 < (bytes : Int) * (n : Int)) := by
    have h2 : bytes * n ≤ 1000000 * 1000000 := Nat.mul_le_mul hb (by omega)
    have : ((bytes * n : Nat) : Int) = (bytes : Int) * (n : Int) := by simp
    omega
  have hrun : ∃ vs : Array Value, vs.size = n * z ∧ (∀ j, j < n * z → vs[j]? = zs[j % z]?) ∧ (execOp a.eval ⟨some d, .makeSlice t x y, ty, pos, after, none⟩).run P w = .ok (.value (.slice (some ⟨w.heap.size, 0, none⟩) n n)) (w.alloc (.cells vs e)) := by
    have hzs : zv.cells.size = z := by rw [hzc]; simpa using hzl
    subst hsz hby
    have hzp := ltB hzp
    by_cases hn : n = 0
    · subst hn
      refine ⟨(Array.range 0).map fun _ => default, by simp, fun j hj => by omega, ?_⟩
      simp only [execOp, h1, h2]
      refine run_value ?_
      simp [Instr.makeSlice, run_underlying' hu, asInt, asIntOf, Act.eval, typeInfo, hi, hw, show IntKind.i64.wrap 0 = 0 from wrap_in ⟨by omega, by omega⟩, sizeOf, newRow, World.alloc_eq]
    · have hnz : n * i.size ≠ 0 := Nat.mul_ne_zero hn (by omega)
      refine ⟨(Array.range (n * i.size)).map fun k => zv.cells[k % zv.cells.size]!, by simp, fun j hj => ?_, ?_⟩
      · simp only [Array.getElem?_map, Array.getElem?_range, hj, if_true, Option.map_some, hzs, hzc]
        have hjm : j % i.size < zs.length := by rw [hzl]; exact Nat.mod_lt _ hzp
        have hjm' : j % zs.length < zs.length := by rw [hzl] at hjm ⊢; exact hjm
        simp [hzl]
        rw [List.getElem?_eq_getElem hjm]; rfl
      · simp only [execOp, h1, h2]
        refine run_value ?_
        simp [Instr.makeSlice, run_underlying' hu, asInt, asIntOf, Act.eval, typeInfo, hi, hw, hbig, sizeOf, newRow, World.alloc_eq, show ¬ ((n : Int) < 0) by omega, zeroValue, hzv]
        intro h; omega
  obtain ⟨vs, hvs, hvj, hrun⟩ := hrun
  unfold Oper.wp
  rw [hrun, Oper.upon_value]
  have hlen : cs.length = n * z := by rw [← hcs]; simp [hzl]
  refine hK _ _ (h _ _ (hr.newArr hd (n := n) (by rw [hvs, hlen]; exact Nat.le_refl _) (by rw [hvs]; exact Nat.le_mul_of_pos_right n (ltB hzp)) (by unfold maxLen; omega) fun j c hj => ?_) Q' hQ)
  rw [← hcs] at hj
  have hjl : j < n * z := by rw [← hlen, ← hcs]; exact (List.getElem?_eq_some_iff.1 hj).1
  have h3 := flat_rep _ _ _ hj
  rw [List.length_map, hzl, List.getElem?_map, Option.map_eq_some_iff] at h3
  obtain ⟨u, hu', rfl⟩ := h3
  exact ⟨u, by rw [hvj j hjl]; exact hu', List.all_eq_true.1 hz1 u (List.mem_of_getElem? hu'), .sc u⟩

theorem o_indexArr {d : Option Tmp} {t e z n o off c : Nat} {id : OId} {k : IntKind} {m : Int} (x i : Operand) (hu : P.underlying t = some (.slice e)) (hs : ∀ w, (sizeOf e).run P w = .ok z w)
    (hx : nf (σ.ev x) = some (.arr id off n c)) (hi : exact (σ.ev i) = some (.int k m)) (h0 : 0 ≤ m) (hm : m < n) (ho : off + m.toNat * z = o) (hd : okDB σ d = true) :
    OpAny P w0 M0 σ ⟨d, .indexAddr t x i, ty, pos, after, guard⟩ (.val (.ref id o)) :=
  opAny_val (okD hd) fun σ' a w X hag hr => by
    subst ho
    have h1 := hr.ev x
    rw [hag.ev x (by simp [Op.operands]), nf_eq hx] at h1
    have h2 := hr.ev i
    rw [hag.ev i (by simp [Op.operands])] at h2
    have h2 := h2.exact _ hi
    generalize hcv : a.eval x = cv at h1
    cases h1 with
    | arr _ _ _ _ b cap hb hcn hcp =>
      refine ⟨_, ?_, .ref _ _ b hb⟩
      simp only [execOp, hcv, h2]
      refine run_value ?_
      simp [Instr.indexAt, asIntOf, run_underlying' hu, hs, h0, hm, Result.andThen, addr_add]

theorem o_lenArr {d : Option Tmp} {t e n off c : Nat} {id : OId} (x : Operand) (hu : P.underlying t = some (.slice e)) (hx : nf (σ.ev x) = some (.arr id off n c)) (hd : okDB σ d = true) :
    OpAny P w0 M0 σ ⟨d, .call ⟨.builtin .len, #[x], #[t]⟩, ty, pos, after, guard⟩ (.val (.sc (.int .i64 n))) :=
  opAny_val (okD hd) fun σ' a w X hag hr => by
    have h1 := hr.ev x
    rw [hag.ev x (by simp [Op.operands, Call.operands]), nf_eq hx] at h1
    generalize hcv : a.eval x = cv at h1
    cases h1 with
    | arr _ _ _ _ b cap hb hcn hcp => exact ⟨_, by simp [execOp, resolve, invoke, builtin, Builtin.len_, run_underlying' hu, hcv, Result.andThen, goInt], .sc _⟩

theorem o_storeE {d : Option Tmp} {t off sz : Nat} {id : OId} {cs new cs' : List AV} (x y : Operand) (hx : nf (σ.ev x) = some (.ref id off)) (hva : σ.va id = some cs)
    (hs : ∀ w, (sizeOf t).run P w = .ok sz w) (hy : cellsA (σ.ev y) = some new) (hn : new.length = sz) (hfit : off + sz ≤ cs.length) (hc : splice cs new off = cs') (hd : okDB σ d = true) :
    OpSeq P w0 M0 σ ⟨d, .store t x y, ty, pos, after, guard⟩ (.stor id cs') := by subst hc; exact ok_store x y (nf_eq hx) hva hs hy hn hfit (okD hd)

/-- The slice is written no more: it can be read as what it holds. -/
def AS.frz (σ : AS) (id : OId) (t : Nat) (es : List (List AV)) : AS := { σ with tm := upd σ.tm t (.sl es), va := updO σ.va id none }

theorem Weak.frz {id : OId} {t n z c : Nat} {cs cs' : List AV} {es : List (List AV)} (hv : nf (σ.tm t) = some (.arr id 0 n c)) (hva : σ.va id = some cs) (hcl : AV.close.closeL cs = some cs') (hes : es.flatten = cs') (hz : ∀ e ∈ es, e.length = z) (hn : es.length = n) :
    Weak σ (σ.frz id t es) := by
  intro w0 M0 a w ⟨x, h⟩
  subst hn hes
  obtain ⟨b, vs, ty, h1, h2, h3, h4, h5, h6, h7⟩ := h.va id cs hva
  have himm : ∀ b' off y, Imm w x.M b' off y → Imm w (upd x.M b (some vs.size)) b' off y := fun b' off y hi => by
    by_cases hb : b' = b
    · subst hb; exact absurd (hi.2.2 0 h4) (by omega)
    · exact ⟨hi.1, hi.2.1, by rw [upd_ne _ _ hb]; exact hi.2.2⟩
  obtain ⟨hl, hg⟩ := closeL_get cs _ hcl
  refine ⟨⟨upd x.M b (some vs.size), x.V, x.G, x.ow⟩, ?_⟩
  constructor
  · exact h.below
  · exact h.defers
  · exact h.size
  · intro i
    show VR _ _ _ _ (upd σ.tm t _ i) _
    by_cases hi : i = t
    · subst hi
      rw [upd_same]
      have h8 := h.tm i
      rw [nf_eq hv] at h8
      generalize a.tmps.getD i undef = cv at h8
      cases h8 with
      | arr _ _ _ _ b' cap hb' hcn hcp =>
        have : b = b' := Option.some.inj (h1.symm.trans hb')
        subst this
        have hcell : ∀ (i : Nat) e (j : Nat) c, es[i]? = some e → e[j]? = some c → ∃ v, vs[i * z + j]? = some v ∧ v.oneCell' = true ∧ VR w (upd x.M b (some vs.size)) noV noG c v := fun i e j c he hc => by
          have h9 := flat_get es hz i j e c he hc
          have hlt : i * z + j < cs.length := by rw [hl]; exact (List.getElem?_eq_some_iff.1 h9).1
          obtain ⟨v, g1, g2, g3⟩ := h7 _ _ (List.getElem?_eq_getElem hlt)
          exact ⟨v, g1, g2, (g3.closed _ (hg _ _ _ (List.getElem?_eq_getElem hlt) h9) noV noG).mono himm (fun _ _ hh => hh)⟩
        refine .sl es z b 0 cap (fun i j => (vs[i * z + j]?).getD undef) hz (Nat.le_trans hcn hcp) (fun i e j c he hc => ?_) (fun i e j c he hc => ?_)
        · obtain ⟨v, g1, g2, g3⟩ := hcell i e j c he hc
          rw [g1, Nat.zero_add]
          refine ⟨?_, g2, fun m hm => ?_⟩
          · simp only [World.cell?, h5]
            simpa using g1
          · change upd x.M b (some vs.size) b = some m at hm
            rw [upd_same] at hm
            cases hm
            exact (Array.getElem?_eq_some_iff.1 g1).1
        · obtain ⟨v, g1, g2, g3⟩ := hcell i e j c he hc
          rw [g1]; exact g3
    · rw [upd_ne _ _ hi]
      exact (h.tm i).mono himm (fun _ _ hh => hh)
  · intro b' hb' ht
    show upd x.M b _ b' = M0.m b'
    rw [upd_ne _ _ (h2.ne hb' ht)]; exact h.m0 b' hb' ht
  · intro b' hb'
    have := lt_of_cells h5
    show upd x.M b _ b' = none ∧ _
    rw [upd_ne _ _ (by omega)]; exact h.mlt b' hb'
  · exact h.fresh
  · exact h.lent
  · intro id' cs1 hv'
    change updO σ.va id none id' = some cs1 at hv'
    by_cases hid : id' = id
    · subst hid; rw [updO_same] at hv'; cases hv'
    · rw [updO_ne _ _ hid] at hv'
      obtain ⟨b1, vs1, ty1, k1, k2, k3, k4, k5, k6, k7⟩ := h.va id' cs1 hv'
      have hb1 : b1 ≠ b := fun hh => by
        subst hh
        rw [h3] at k3
        exact hid (Prod.mk.inj (Option.some.inj k3)).2.symm
      refine ⟨b1, vs1, ty1, k1, k2, k3, by show upd x.M _ _ b1 = _; rw [upd_ne _ _ hb1]; exact k4, k5, k6, fun j c hj => ?_⟩
      obtain ⟨v, g1, g2, g3⟩ := k7 j c hj
      exact ⟨v, g1, g2, g3.mono himm (fun _ _ hh => hh)⟩
  · intro d' g cs1 hv'
    change updO σ.va id none (d', g) = some cs1 at hv'
    by_cases hid : (d', g) = id
    · rw [hid, updO_same] at hv'; cases hv'
    · rw [updO_ne _ _ hid] at hv'; exact h.vgen d' g _ hv'
  · intro id' n' z' e' hg'
    obtain ⟨l', k1, k2, k3, k3', k4, k5⟩ := h.gr id' n' z' e' hg'
    refine ⟨l', k1, k2, k3, k3', k4, fun b1 hb1 => ?_⟩
    obtain ⟨g1, g2, g3, vs1, g4, g5⟩ := k5 b1 hb1
    have hne : b1 ≠ b := fun hh => by subst hh; rw [h3] at g2; cases g2
    exact ⟨g1, g2, by show upd x.M _ _ b1 = _; rw [upd_ne _ _ hne]; exact g3, vs1, g4, g5⟩
  · exact h.ggen

/-- Filling a slice from the front. -/
theorem fill_at {α : Type} (f : α → AV) (u : AV) (l : List α) {k : Nat} (h : k < l.length) :
    splice ((l.take k).map f ++ List.replicate (l.length - k) u) [f l[k]] k = (l.take (k + 1)).map f ++ List.replicate (l.length - (k + 1)) u := by
  have h1 : ((l.take k).map f).length = k := by simp; omega
  unfold splice
  rw [List.take_append_of_le_length (by omega), List.take_of_length_le (by omega), List.drop_append_of_le_length' h1, List.take_succ_eq_append_getElem h, List.map_append]
  rw [List.append_assoc, List.append_assoc, show l.length - k - 1 = l.length - (k + 1) by omega]
  rfl
where
  List.drop_append_of_le_length' {k : Nat} {a : List AV} {m : Nat} {u x : AV} (h1 : a.length = k) : (a ++ List.replicate m u).drop (k + [x].length) = List.replicate (m - 1) u := by
    rw [List.drop_append, h1, List.drop_of_length_le (by simp; omega)]
    simp
end
end Go.Ab
