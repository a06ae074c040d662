/- Slices that the frame itself made and still writes. Nothing here speaks of one program. -/
import Derived.Test.YtelenedgaoglaaaGreatDoorAbA
namespace Go.Ab
open Go.RowKit
theorem flat_get {α : Type} {z : Nat} : ∀ (es : List (List α)), (∀ e ∈ es, e.length = z) → ∀ (i j : Nat) e c, es[i]? = some e → e[j]? = some c → es.flatten[i * z + j]? = some c := by
  intro es
  induction es with
  | nil => intro _ i j e c h; simp at h
  | cons a es ih =>
    intro hz i j e c h h'
    have ha := hz a List.mem_cons_self
    rw [List.flatten_cons]
    cases i with
    | zero =>
      simp at h; subst h
      have := (List.getElem?_eq_some_iff.1 h').1
      rw [Nat.zero_mul, Nat.zero_add, List.getElem?_append_left this]; exact h'
    | succ i =>
      simp at h
      rw [List.getElem?_append_right (by rw [ha, Nat.add_mul]; omega), ha, show (i + 1) * z + j - z = i * z + j by rw [Nat.add_mul]; omega]
      exact ih (fun e he => hz e (List.mem_cons_of_mem _ he)) i j e c h h'
theorem flat_rep {α : Type} {l : List α} : ∀ (n j : Nat) c, (List.replicate n l).flatten[j]? = some c → l[j % l.length]? = some c := by
  intro n
  induction n with
  | zero => intro j c h; simp at h
  | succ n ih =>
    intro j c h
    rw [List.replicate_succ, List.flatten_cons] at h
    by_cases hj : j < l.length
    · rw [List.getElem?_append_left hj] at h
      rw [Nat.mod_eq_of_lt hj]; exact h
    · rw [List.getElem?_append_right (by omega)] at h
      rw [Nat.mod_eq_sub_mod (by omega)]
      exact ih _ _ h
theorem put_put (a : Act) (d : Tmp) (u v : Value) : (a.put (some d) u).put (some d) v = a.put (some d) v := by
  simp [Act.put]
section
variable {P : Program} {w0 : World} {M0 : MT} {σ : AS} {ty : TypeId} {pos : String} {after : Array Edge} {guard : Option (Nat × Bool)}
theorem RelW.newArr {a : Act} {w : World} {x : Wit} (h : RelW w0 M0 σ a w x) {d : Tmp} (hd : d < σ.n) {cs : List AV} {vs : Array Value} {ty : TypeId} {n : Nat} (hl : cs.length ≤ vs.size) (hnv : n ≤ vs.size) (hnm : n ≤ maxLen)
    (hc : ∀ (j : Nat) c, cs[j]? = some c → ∃ v, vs[j]? = some v ∧ v.oneCell' = true ∧ VR w x.M x.V x.G c v) :
    Rel w0 M0 ((σ.app (some d) (.alloc cs)).put (some d) (.arr (d, σ.gen d) 0 n n)) (a.put (some d) (.slice (some ⟨w.heap.size, 0, none⟩) n n)) (w.alloc (.cells vs ty)) := by
  obtain ⟨X, hr⟩ := h.newVar (ty := ty) hd hl hc
  have h1 := hr.tm d
  have hs : d < a.tmps.size := by rw [h.size]; exact hd
  rw [getD_put a d d _ hs, if_pos rfl] at h1
  change VR _ _ _ _ (upd σ.tm d _ d) _ at h1
  rw [upd_same] at h1
  generalize hp : Value.pointer (some ⟨w.heap.size, 0, none⟩) = p at h1
  cases h1 with
  | ref _ _ b hb =>
    have : b = w.heap.size := by cases hp; rfl
    subst this
    have := hr.put (d := some d) (v := .arr (d, σ.gen d) 0 n n) (cv := .slice (some ⟨w.heap.size, 0, none⟩) n n) (show d < (σ.app (some d) (.alloc cs)).n from hd) (.arr _ _ _ _ _ _ hb (Nat.le_refl _) (Nat.le_refl _) fun _ => ⟨vs, ty, _, heap_new w _, hnv, hnm⟩)
    rw [put_put] at this
    exact ⟨X, this⟩
theorem AOps.mkarr {ops : Array Oper} {R : AS → Prop} {rest : List Oper} {t e z bytes n : Nat} {i : TypeInfo} {zv : Value} {zs : List Value} {c : Int} {d : Tmp} {cs : List AV} (x y : Operand) (hu : P.underlying t = some (.slice e)) (hi : P.info? e = some i) (hzv : i.zero = some zv) (hsz : i.size = z) (hby : i.bytes = bytes)
    (hzc : zv.cells = zs.toArray) (hz1 : zs.all (·.oneCell') = true) (hzl : zs.length = z)
    (hzp : Nat.blt 0 z = true) (hx : exact (σ.ev x) = some (.int .i64 c)) (hy : exact (σ.ev y) = some (.int .i64 c)) (hcn : c = (n : Int)) (hc : n ≤ 1000000) (hb : Nat.ble bytes 1000000 = true) (hd : okDB σ (some d) = true)
    (hcs : (List.replicate n (zs.map AV.sc)).flatten = cs)
    (h : AOps P w0 M0 ops rest R ((σ.app (some d) (.alloc cs)).put (some d) (.arr (d, σ.gen d) 0 n n))) :
    AOps P w0 M0 ops (⟨some d, .makeSlice t x y, ty, pos, after, none⟩ :: rest) R σ := fun a w hr Q' hQ => by
  have hd : d < σ.n := okD hd
  obtain ⟨X, hr⟩ := hr
  refine wpList_plain rfl fun K hK => ?_
  have h1 := hr.ev x
  have h1 := h1.exact _ hx
  have h2 := hr.ev y
  have h2 := h2.exact _ hy
  have hb := leB hb
  subst hcn
  have hw : IntKind.i64.wrap (n : Int) = n := wrap_in ⟨by omega, by omega⟩
  have hbig : ¬ (281474976710656 < (bytes : Int) * (n : Int)) := by
    have h2 : bytes * n ≤ 1000000 * 1000000 := Nat.mul_le_mul hb (by omega)
    have : ((bytes * n : Nat) : Int) = (bytes : Int) * (n : Int) := by simp
    omega
  have hrun : ∃ vs : Array Value, vs.size = n * z ∧ (∀ j, j < n * z → vs[j]? = zs[j % z]?) ∧ (execOp a.eval ⟨some d, .makeSlice t x y, ty, pos, after, none⟩).run P w = .ok (.value (.slice (some ⟨w.heap.size, 0, none⟩) n n)) (w.alloc (.cells vs e)) := by
    have hzs : zv.cells.size = z := by rw [hzc]; simpa using hzl
    subst hsz hby
    have hzp := ltB hzp
    by_cases hn : n = 0
    · subst hn
      refine ⟨(Array.range 0).map fun _ => default, by simp, fun j hj => by omega, ?_⟩
      simp only [execOp, h1, h2]
      refine run_value ?_
      simp [Instr.makeSlice, run_underlying' hu, asInt, asIntOf, Act.eval, typeInfo, hi, hw, show IntKind.i64.wrap 0 = 0 from wrap_in ⟨by omega, by omega⟩, sizeOf, newRow, World.alloc_eq]
    · have hnz : n * i.size ≠ 0 := Nat.mul_ne_zero hn (by omega)
      refine ⟨(Array.range (n * i.size)).map fun k => zv.cells[k % zv.cells.size]!, by simp, fun j hj => ?_, ?_⟩
      · simp only [Array.getElem?_map, Array.getElem?_range, hj, if_true, Option.map_some, hzs, hzc]
        have hjm : j % i.size < zs.length := by rw [hzl]; exact Nat.mod_lt _ hzp
        have hjm' : j % zs.length < zs.length := by rw [hzl] at hjm ⊢; exact hjm
        simp [hzl]
        rw [List.getElem?_eq_getElem hjm]; rfl
      · simp only [execOp, h1, h2]
        refine run_value ?_
        simp [Instr.makeSlice, run_underlying' hu, asInt, asIntOf, Act.eval, typeInfo, hi, hw, hbig, sizeOf, newRow, World.alloc_eq, show ¬ ((n : Int) < 0) by omega, zeroValue, hzv]
        intro h; omega
  obtain ⟨vs, hvs, hvj, hrun⟩ := hrun
  unfold Oper.wp
  rw [hrun, Oper.upon_value]
  have hlen : cs.length = n * z := by rw [← hcs]; simp [hzl]
  refine hK _ _ (h _ _ (hr.newArr hd (n := n) (by rw [hvs, hlen]; exact Nat.le_refl _) (by rw [hvs]; exact Nat.le_mul_of_pos_right n (ltB hzp)) (by unfold maxLen; omega) fun j c hj => ?_) Q' hQ)
  rw [← hcs] at hj
  have hjl : j < n * z := by rw [← hlen, ← hcs]; exact (List.getElem?_eq_some_iff.1 hj).1
  have h3 := flat_rep _ _ _ hj
  rw [List.length_map, hzl, List.getElem?_map, Option.map_eq_some_iff] at h3
  obtain ⟨u, hu', rfl⟩ := h3
  exact ⟨u, by rw [hvj j hjl]; exact hu', List.all_eq_true.1 hz1 u (List.mem_of_getElem? hu'), .sc u⟩
theorem o_indexArr {d : Option Tmp} {t e z n o off c : Nat} {id : OId} {k : IntKind} {m : Int} (x i : Operand) (hu : P.underlying t = some (.slice e)) (hs : ∀ w, (sizeOf e).run P w = .ok z w)
    (hx : nf (σ.ev x) = some (.arr id off n c)) (hi : exact (σ.ev i) = some (.int k m)) (h0 : 0 ≤ m) (hm : m < n) (ho : off + m.toNat * z = o) (hd : okDB σ d = true) :
    OpAny P w0 M0 σ ⟨d, .indexAddr t x i, ty, pos, after, guard⟩ (.val (.ref id o)) :=
  opAny_val (okD hd) fun σ' a w X hag hr => by
    subst ho
    have h1 := hr.ev x
    rw [hag.ev x (by simp [Op.operands]), nf_eq hx] at h1
    have h2 := hr.ev i
    rw [hag.ev i (by simp [Op.operands])] at h2
    have h2 := h2.exact _ hi
    generalize hcv : a.eval x = cv at h1
    cases h1 with
    | arr _ _ _ _ b cap hb hcn hcp =>
      refine ⟨_, ?_, .ref _ _ b hb⟩
      simp only [execOp, hcv, h2]
      refine run_value ?_
      simp [Instr.indexAt, asIntOf, run_underlying' hu, hs, h0, hm, Result.andThen, addr_add]
theorem o_storeE {d : Option Tmp} {t off sz : Nat} {id : OId} {cs new cs' : List AV} (x y : Operand) (hx : nf (σ.ev x) = some (.ref id off)) (hva : σ.va id = some cs)
    (hs : ∀ w, (sizeOf t).run P w = .ok sz w) (hy : cellsA (σ.ev y) = some new) (hn : new.length = sz) (hfit : off + sz ≤ cs.length) (hc : splice cs new off = cs') (hd : okDB σ d = true) :
    OpSeq P w0 M0 σ ⟨d, .store t x y, ty, pos, after, guard⟩ (.stor id cs') := by subst hc; exact ok_store x y (nf_eq hx) hva hs hy hn hfit (okD hd)
def AS.frz (σ : AS) (id : OId) (t : Nat) (es : List (List AV)) : AS := { σ with tm := upd σ.tm t (.sl es), va := updO σ.va id none }
theorem Weak.frz {id : OId} {t n z c : Nat} {cs cs' : List AV} {es : List (List AV)} (hv : nf (σ.tm t) = some (.arr id 0 n c)) (hva : σ.va id = some cs) (hcl : AV.close.closeL cs = some cs') (hes : es.flatten = cs') (hz : ∀ e ∈ es, e.length = z) (hn : es.length = n) :
    Weak σ (σ.frz id t es) := by
  intro w0 M0 a w ⟨x, h⟩
  subst hn hes
  obtain ⟨b, vs, ty, h1, h2, h3, h4, h5, h6, h7⟩ := h.va id cs hva
  have himm : ∀ b' off y, Imm w x.M b' off y → Imm w (upd x.M b (some vs.size)) b' off y := fun b' off y hi => by
    by_cases hb : b' = b
    · subst hb; exact absurd (hi.2.2 0 h4) (by omega)
    · exact ⟨hi.1, hi.2.1, by rw [upd_ne _ _ hb]; exact hi.2.2⟩
  obtain ⟨hl, hg⟩ := closeL_get cs _ hcl
  refine ⟨⟨upd x.M b (some vs.size), x.V, x.G, x.ow⟩, ?_⟩
  constructor
  · exact h.below
  · exact h.defers
  · exact h.size
  · intro i
    show VR _ _ _ _ (upd σ.tm t _ i) _
    by_cases hi : i = t
    · subst hi
      rw [upd_same]
      have h8 := h.tm i
      rw [nf_eq hv] at h8
      generalize a.tmps.getD i undef = cv at h8
      cases h8 with
      | arr _ _ _ _ b' cap hb' hcn hcp =>
        have : b = b' := Option.some.inj (h1.symm.trans hb')
        subst this
        have hcell : ∀ (i : Nat) e (j : Nat) c, es[i]? = some e → e[j]? = some c → ∃ v, vs[i * z + j]? = some v ∧ v.oneCell' = true ∧ VR w (upd x.M b (some vs.size)) noV noG c v := fun i e j c he hc => by
          have h9 := flat_get es hz i j e c he hc
          have hlt : i * z + j < cs.length := by rw [hl]; exact (List.getElem?_eq_some_iff.1 h9).1
          obtain ⟨v, g1, g2, g3⟩ := h7 _ _ (List.getElem?_eq_getElem hlt)
          exact ⟨v, g1, g2, (g3.closed _ (hg _ _ _ (List.getElem?_eq_getElem hlt) h9) noV noG).mono himm (fun _ _ hh => hh)⟩
        refine .sl es z b 0 cap (fun i j => (vs[i * z + j]?).getD undef) hz (Nat.le_trans hcn hcp) (fun i e j c he hc => ?_) (fun i e j c he hc => ?_)
        · obtain ⟨v, g1, g2, g3⟩ := hcell i e j c he hc
          rw [g1, Nat.zero_add]
          refine ⟨?_, g2, fun m hm => ?_⟩
          · simp only [World.cell?, h5]
            simpa using g1
          · change upd x.M b (some vs.size) b = some m at hm
            rw [upd_same] at hm
            cases hm
            exact (Array.getElem?_eq_some_iff.1 g1).1
        · obtain ⟨v, g1, g2, g3⟩ := hcell i e j c he hc
          rw [g1]; exact g3
    · rw [upd_ne _ _ hi]
      exact (h.tm i).mono himm (fun _ _ hh => hh)
  · intro b' hb' ht
    show upd x.M b _ b' = M0.m b'
    rw [upd_ne _ _ (h2.ne hb' ht)]; exact h.m0 b' hb' ht
  · intro b' hb'
    have := lt_of_cells h5
    show upd x.M b _ b' = none ∧ _
    rw [upd_ne _ _ (by omega)]; exact h.mlt b' hb'
  · exact h.fresh
  · exact h.lent
  · intro id' cs1 hv'
    change updO σ.va id none id' = some cs1 at hv'
    by_cases hid : id' = id
    · subst hid; rw [updO_same] at hv'; cases hv'
    · rw [updO_ne _ _ hid] at hv'
      obtain ⟨b1, vs1, ty1, k1, k2, k3, k4, k5, k6, k7⟩ := h.va id' cs1 hv'
      have hb1 : b1 ≠ b := fun hh => by
        subst hh
        rw [h3] at k3
        exact hid (Prod.mk.inj (Option.some.inj k3)).2.symm
      refine ⟨b1, vs1, ty1, k1, k2, k3, by show upd x.M _ _ b1 = _; rw [upd_ne _ _ hb1]; exact k4, k5, k6, fun j c hj => ?_⟩
      obtain ⟨v, g1, g2, g3⟩ := k7 j c hj
      exact ⟨v, g1, g2, g3.mono himm (fun _ _ hh => hh)⟩
  · intro d' g cs1 hv'
    change updO σ.va id none (d', g) = some cs1 at hv'
    by_cases hid : (d', g) = id
    · rw [hid, updO_same] at hv'; cases hv'
    · rw [updO_ne _ _ hid] at hv'; exact h.vgen d' g _ hv'
  · intro id' n' z' e' hg'
    obtain ⟨l', k1, k2, k3, k3', k4, k5⟩ := h.gr id' n' z' e' hg'
    refine ⟨l', k1, k2, k3, k3', k4, fun b1 hb1 => ?_⟩
    obtain ⟨g1, g2, g3, vs1, g4, g5⟩ := k5 b1 hb1
    have hne : b1 ≠ b := fun hh => by subst hh; rw [h3] at g2; cases g2
    exact ⟨g1, g2, by show upd x.M _ _ b1 = _; rw [upd_ne _ _ hne]; exact g3, vs1, g4, g5⟩
  · exact h.ggen
end
end Go.Ab
namespace Go.Ab
open Go.RowKit
section
variable {P : Program} {w0 : World} {M0 : MT} {σ : AS} {ty : TypeId} {pos : String} {after : Array Edge} {guard : Option (Nat × Bool)}
theorem AOps.weak {ops : Array Oper} {R : AS → Prop} {l : List Oper} {σ' : AS} (hw : Weak σ σ') (h : AOps P w0 M0 ops l R σ') : AOps P w0 M0 ops l R σ := fun a w hr => h a w (hw _ _ _ _ hr)
end
theorem lowL_sc (gen : Nat → Nat) : ∀ (l : List AV), (∀ x ∈ l, ∃ v, x = .sc v) → AV.low.lowL gen l = true := by
  intro l
  induction l with
  | nil => intro _; rfl
  | cons a l ih =>
    intro h
    obtain ⟨v, rfl⟩ := h a List.mem_cons_self
    simp only [AV.low.lowL, AV.low, Bool.true_and]
    exact ih fun x hx => h x (List.mem_cons_of_mem _ hx)
end Go.Ab
namespace Go.Ab
open Go.RowKit
section
variable {σ : AS}
def AS.frzv (σ : AS) (id : OId) (t : Nat) (cs : List AV) : AS := { σ with tm := upd σ.tm t (.rd cs), va := updO σ.va id none }
theorem Weak.frzv {id : OId} {t : Nat} {cs cs' : List AV} (hv : nf (σ.tm t) = some (.ref id 0)) (hva : σ.va id = some cs) (hcl : AV.close.closeL cs = some cs') : Weak σ (σ.frzv id t cs') := by
  intro w0 M0 a w ⟨x, h⟩
  obtain ⟨b, vs, ty, h1, h2, h3, h4, h5, h6, h7⟩ := h.va id cs hva
  have himm : ∀ b' off y, Imm w x.M b' off y → Imm w (upd x.M b (some vs.size)) b' off y := fun b' off y hi => by
    by_cases hb : b' = b
    · subst hb; exact absurd (hi.2.2 0 h4) (by omega)
    · exact ⟨hi.1, hi.2.1, by rw [upd_ne _ _ hb]; exact hi.2.2⟩
  obtain ⟨hl, hg⟩ := closeL_get cs _ hcl
  refine ⟨⟨upd x.M b (some vs.size), x.V, x.G, x.ow⟩, ?_⟩
  constructor
  · exact h.below
  · exact h.defers
  · exact h.size
  · intro i
    show VR _ _ _ _ (upd σ.tm t _ i) _
    by_cases hi : i = t
    · subst hi
      rw [upd_same]
      have h8 := h.tm i
      rw [nf_eq hv] at h8
      generalize a.tmps.getD i undef = cv at h8
      cases h8 with
      | ref _ _ b' hb' =>
        have : b = b' := Option.some.inj (h1.symm.trans hb')
        subst this
        have hcell : ∀ (j : Nat) c, cs'[j]? = some c → ∃ v, vs[j]? = some v ∧ v.oneCell' = true ∧ VR w (upd x.M b (some vs.size)) noV noG c v := fun j c hc => by
          have hlt : j < cs.length := by rw [hl]; exact (List.getElem?_eq_some_iff.1 hc).1
          obtain ⟨v, g1, g2, g3⟩ := h7 j _ (List.getElem?_eq_getElem hlt)
          exact ⟨v, g1, g2, (g3.closed _ (hg _ _ _ (List.getElem?_eq_getElem hlt) hc) noV noG).mono himm (fun _ _ hh => hh)⟩
        refine .rd cs' b 0 (fun j => (vs[j]?).getD undef) (fun j c hc => ?_) (fun j c hc => ?_)
        · obtain ⟨v, g1, g2, g3⟩ := hcell j c hc
          rw [g1, Nat.zero_add]
          refine ⟨?_, g2, fun m hm => ?_⟩
          · simp only [World.cell?, h5]
            simpa using g1
          · change upd x.M b (some vs.size) b = some m at hm
            rw [upd_same] at hm
            cases hm
            exact (Array.getElem?_eq_some_iff.1 g1).1
        · obtain ⟨v, g1, g2, g3⟩ := hcell j c hc
          rw [g1]; exact g3
    · rw [upd_ne _ _ hi]
      exact (h.tm i).mono himm (fun _ _ hh => hh)
  · intro b' hb' ht
    show upd x.M b _ b' = M0.m b'
    rw [upd_ne _ _ (h2.ne hb' ht)]; exact h.m0 b' hb' ht
  · intro b' hb'
    have := lt_of_cells h5
    show upd x.M b _ b' = none ∧ _
    rw [upd_ne _ _ (by omega)]; exact h.mlt b' hb'
  · exact h.fresh
  · exact h.lent
  · intro id' cs1 hv'
    change updO σ.va id none id' = some cs1 at hv'
    by_cases hid : id' = id
    · subst hid; rw [updO_same] at hv'; cases hv'
    · rw [updO_ne _ _ hid] at hv'
      obtain ⟨b1, vs1, ty1, k1, k2, k3, k4, k5, k6, k7⟩ := h.va id' cs1 hv'
      have hb1 : b1 ≠ b := fun hh => by
        subst hh
        rw [h3] at k3
        exact hid (Prod.mk.inj (Option.some.inj k3)).2.symm
      refine ⟨b1, vs1, ty1, k1, k2, k3, by show upd x.M _ _ b1 = _; rw [upd_ne _ _ hb1]; exact k4, k5, k6, fun j c hj => ?_⟩
      obtain ⟨v, g1, g2, g3⟩ := k7 j c hj
      exact ⟨v, g1, g2, g3.mono himm (fun _ _ hh => hh)⟩
  · intro d' g cs1 hv'
    change updO σ.va id none (d', g) = some cs1 at hv'
    by_cases hid : (d', g) = id
    · rw [hid, updO_same] at hv'; cases hv'
    · rw [updO_ne _ _ hid] at hv'; exact h.vgen d' g _ hv'
  · intro id' n' z' e' hg'
    obtain ⟨l', k1, k2, k3, k3', k4, k5⟩ := h.gr id' n' z' e' hg'
    refine ⟨l', k1, k2, k3, k3', k4, fun b1 hb1 => ?_⟩
    obtain ⟨g1, g2, g3, vs1, g4, g5⟩ := k5 b1 hb1
    have hne : b1 ≠ b := fun hh => by subst hh; rw [h3] at g2; cases g2
    exact ⟨g1, g2, by show upd x.M _ _ b1 = _; rw [upd_ne _ _ hne]; exact g3, vs1, g4, g5⟩
  · exact h.ggen
end
section
variable {P : Program} {w0 : World} {M0 : MT} {σ : AS} {ty : TypeId} {pos : String} {after : Array Edge} {guard : Option (Nat × Bool)}
theorem o_makeClo {d : Option Tmp} {f : FuncId} {caps : Array Operand} {cs : List AV} (hc : nfL (caps.toList.map σ.ev) = some cs) (hd : okDB σ d = true) :
    OpAny P w0 M0 σ ⟨d, .makeFunc (.func f) #[] caps, ty, pos, after, guard⟩ (.val (.clo f cs)) := ok_makeFunc (nfL_eq hc).symm (okD hd)
end
end Go.Ab
namespace Go.Ab
open Go.RowKit
def lentV (bs : List Nat) : OId → Option Nat := fun id => bif Nat.ble 1000000 id.1 && Nat.beq id.2 0 then bs[id.1 - 1000000]? else none
theorem lentV_some {bs : List Nat} {id : OId} {b : Nat} (h : lentV bs id = some b) : 1000000 ≤ id.1 ∧ id.2 = 0 ∧ bs[id.1 - 1000000]? = some b := by
  unfold lentV at h
  cases hc : Nat.ble 1000000 id.1 && Nat.beq id.2 0 with
  | false => rw [hc] at h; cases h
  | true =>
    rw [hc] at h
    simp only [Bool.and_eq_true] at hc
    exact ⟨Nat.le_of_ble_eq_true hc.1, Nat.eq_of_beq_eq_true hc.2, h⟩
theorem lentV_get {bs : List Nat} (k : Nat) : lentV bs (1000000 + k, 0) = bs[k]? := by
  unfold lentV
  rw [show (Nat.ble 1000000 (1000000 + k) && Nat.beq 0 0) = true by rw [Nat.ble_eq_true_of_le (by omega)]; rfl, show 1000000 + k - 1000000 = k by omega]
  rfl
def Held (w : World) (M : Nat → Option Nat) (b : Nat) (cs : List AV) : Prop :=
  M b = some 0 ∧ ∃ vs ty, w.heap[b]? = some (.cells vs ty (0, 0)) ∧ cs.length ≤ vs.size ∧ ∀ (j : Nat) c, cs[j]? = some c → ∃ v, vs[j]? = some v ∧ v.oneCell' = true ∧ VR w M noV noG c v
def ResM (w : World) (M : Nat → Option Nat) (V : OId → Option Nat) (w' : World) (r : AV) (fr : Option (Nat × Nat × TypeId)) (v : Value) : Prop :=
  match fr with
  | none => VR w' M V noG r v
  | some t => Res w M w' r (some t) v
def FSpecM (P : Program) (f : FuncId) (args : List AV) (lent : List (List AV)) (r : AV) (fr : Option (Nat × Nat × TypeId)) (lent' : List (List AV)) : Prop :=
  ∀ (w : World) (M : Nat → Option Nat) (bs : List Nat) (vals : List Value), args.length = vals.length →
    (∀ (i : Nat) x v, args[i]? = some x → vals[i]? = some v → VR w M (lentV bs) noG x v) → (∀ b, w.heap.size ≤ b → M b = none) →
    bs.Nodup → bs.length = lent.length → (∀ (k : Nat) b cs, bs[k]? = some b → lent[k]? = some cs → Held w M b cs) →
    Calls P f vals.toArray w fun e w' => ∃ v, e = .returned v ∧ Kept w ⟨M, fun k => bs.contains k, noV⟩ w' ∧
      (∀ (k : Nat) b cs, bs[k]? = some b → lent'[k]? = some cs → Held w' M b cs) ∧ ResM w M (lentV bs) w' r fr v
def isLent (N : Nat) (id : OId) : Bool := Nat.ble 1000000 id.1 && (Nat.blt (id.1 - 1000000) N && Nat.beq id.2 0)
theorem isLent_eq {N : Nat} {id : OId} (h : isLent N id = true) : ∃ k, k < N ∧ id = (1000000 + k, 0) := by
  unfold isLent at h
  simp only [Bool.and_eq_true] at h
  have h1 := Nat.le_of_ble_eq_true h.1
  have h2 : id.1 - 1000000 < N := Nat.le_of_ble_eq_true h.2.1
  have h3 := Nat.eq_of_beq_eq_true h.2.2
  exact ⟨id.1 - 1000000, h2, Prod.ext (by simp only; omega) h3⟩
def AV.closeM (N : Nat) : AV → Option AV
  | .ref id off => bif isLent N id then some (.ref id off) else none
  | .arr id off n c => bif isLent N id then some (.arr id off n c) else none
  | .tup cs => (closeML N cs).map .tup
  | x => x.close
where
  closeML (N : Nat) : List AV → Option (List AV)
    | [] => some []
    | c :: cs => match c.closeM N, closeML N cs with
      | some d, some ds => some (d :: ds)
      | _, _ => none
theorem closeML_get {N : Nat} : ∀ (cs ds : List AV), AV.closeM.closeML N cs = some ds → cs.length = ds.length ∧ ∀ (i : Nat) (c d : AV), cs[i]? = some c → ds[i]? = some d → c.closeM N = some d := by
  intro cs
  induction cs with
  | nil => intro ds h; simp [AV.closeM.closeML] at h; subst h; exact ⟨rfl, by simp⟩
  | cons c cs ih =>
    intro ds h
    simp only [AV.closeM.closeML] at h
    split at h
    · rename_i d ds' h1 h2
      simp at h; subst h
      obtain ⟨hl, hg⟩ := ih ds' h2
      refine ⟨by simp [hl], fun i c' d' hc hd => ?_⟩
      cases i with
      | zero => simp at hc hd; subst hc; subst hd; exact h1
      | succ i => simp at hc hd; exact hg i c' d' hc hd
    · simp at h
theorem VR.closedM {N : Nat} {w M V G x v} {V' : OId → Option Nat} (h : VR w M V G x v) (hV : ∀ k b, k < N → V (1000000 + k, 0) = some b → V' (1000000 + k, 0) = some b) : ∀ y, x.closeM N = some y → VR w M V' noG y v := by
  induction h with
  | any v => intro y hy; simp [AV.closeM, AV.close] at hy; subst hy; exact .any v
  | sc v => intro y hy; simp [AV.closeM, AV.close] at hy; subst hy; exact .sc v
  | agg cs vs hl h1 h2 _ => intro y hy; exact (VR.agg cs vs hl h1 h2).closed y hy _ _
  | tup cs vs hl _ ih =>
    intro y hy
    simp only [AV.closeM, Option.map_eq_some_iff] at hy
    obtain ⟨ds, hd, rfl⟩ := hy
    obtain ⟨hl2, hg⟩ := closeML_get cs ds hd
    refine .tup ds vs (by omega) fun i d v hdi hvi => ?_
    have hi : i < cs.length := by have := (List.getElem?_eq_some_iff.1 hdi).1; omega
    exact ih i cs[i] v (List.getElem?_eq_getElem hi) hvi hV d (hg i _ d (List.getElem?_eq_getElem hi) hdi)
  | ref id off b h =>
    intro y hy
    simp only [AV.closeM] at hy
    cases hc : isLent N id with
    | false => rw [hc] at hy; cases hy
    | true =>
      rw [hc] at hy; cases hy
      obtain ⟨k, hk, rfl⟩ := isLent_eq hc
      exact .ref _ _ _ (hV _ _ hk h)
  | arr id off n c b cap h hcn hcp hcs =>
    intro y hy
    simp only [AV.closeM] at hy
    cases hc : isLent N id with
    | false => rw [hc] at hy; cases hy
    | true =>
      rw [hc] at hy; cases hy
      obtain ⟨k, hk, rfl⟩ := isLent_eq hc
      exact .arr _ _ _ _ _ _ (hV _ _ hk h) hcn hcp hcs
  | rd cs b off X hc hv _ => intro y hy; simp [AV.closeM, AV.close] at hy; subst hy; exact .rd cs b off X hc hv
  | sl0 a cap => intro y hy; simp [AV.closeM, AV.close] at hy; subst hy; exact .sl0 a cap
  | nil0 a => intro y hy; simp [AV.closeM, AV.close] at hy; subst hy; exact .nil0 a
  | sl es z b off cap X hz hcap hc hv _ => intro y hy; simp [AV.closeM, AV.close] at hy; subst hy; exact .sl es z b off cap X hz hcap hc hv
  | own id es v h g hg hle heq _ => intro y hy; exact (VR.own (V := noV) id es v h g hg hle heq).closed y hy _ _
  | clo f cs vs hl h _ => intro y hy; exact (VR.clo f cs vs hl h).closed y hy _ _
  | bnd f cs vs hl h _ => intro y hy; exact (VR.bnd f cs vs hl h).closed y hy _ _
  | ifc t x v h _ => intro y hy; exact (VR.ifc t x v h).closed y hy _ _
def lentVa (lent : List (List AV)) : OId → Option (List AV) := fun id => bif Nat.ble 1000000 id.1 && Nat.beq id.2 0 then lent[id.1 - 1000000]? else none
def AS.entryM (n : Nat) (args : List AV) (lent : List (List AV)) : AS := { AS.entry n args with va := lentVa lent }
def OutM (N : Nat) (σ : AS) (rr : AV) (r : AV) : Option (Nat × Nat × TypeId) → Prop
  | none => rr.closeM N = some r
  | some t => ∃ id, σ.gr id = some t ∧ rr.exp id = some r
def holdM (σ : AS) : Nat → List (List AV) → Prop
  | _, [] => True
  | k, cs :: l => ((σ.va (1000000 + k, 0)).bind AV.close.closeL = some cs) ∧ holdM σ (k + 1) l
theorem holdM_get {σ : AS} : ∀ (l : List (List AV)) (n k : Nat) cs, holdM σ n l → l[k]? = some cs → (σ.va (1000000 + (n + k), 0)).bind AV.close.closeL = some cs := by
  intro l
  induction l with
  | nil => intro n k cs _ h; simp at h
  | cons a l ih =>
    intro n k cs h hk
    cases k with
    | zero => simp at hk; subst hk; exact h.1
    | succ k => simp at hk; rw [show n + (k + 1) = n + 1 + k by omega]; exact ih (n + 1) k cs h.2 hk
def postQM (P : Program) (fn : Func) (r : AV) (fr : Option (Nat × Nat × TypeId)) (lent' : List (List AV)) : Exit → AS → Prop
  | .normal, σ => (∃ rs, ResAll P σ fn.results.toList rs ∧ OutM lent'.length σ (packA rs) r fr) ∧ holdM σ 0 lent'
  | .ret, σ => (∃ rs, ResAll P σ fn.results.toList rs ∧ OutM lent'.length σ (packA rs) r fr) ∧ holdM σ 0 lent'
  | _, _ => False
set_option maxRecDepth 4000 in
theorem entry_rel {fn : Func} {args : List AV} {lent : List (List AV)} {w : World} {M : Nat → Option Nat} {bs : List Nat} {vals : List Value} (hn : args.length ≤ fn.ntmps) (hN : fn.ntmps ≤ 1000000) (hlen : args.length = vals.length)
    (hargs : ∀ (i : Nat) x v, args[i]? = some x → vals[i]? = some v → VR w M (lentV bs) noG x v) (hM : ∀ b, w.heap.size ≤ b → M b = none)
    (hnd : bs.Nodup) (hbl : bs.length = lent.length) (hheld : ∀ (k : Nat) b cs, bs[k]? = some b → lent[k]? = some cs → Held w M b cs) :
    RelW w ⟨M, fun k => bs.contains k, lentV bs⟩ (AS.entryM fn.ntmps args lent) { tmps := vals.toArray ++ Array.replicate (fn.ntmps - vals.toArray.size) undef, defers := [] } w ⟨M, lentV bs, noG, fun b => (bs.idxOf? b).map fun k => (true, (1000000 + k, 0))⟩ := by
  have hold : ∀ b ∈ bs, b < w.heap.size := fun b hb => by
    obtain ⟨k, hk, rfl⟩ := List.mem_iff_getElem.1 hb
    obtain ⟨_, vs, ty, h1, _⟩ := hheld k bs[k] (lent[k]'(by omega)) (List.getElem?_eq_getElem hk) (List.getElem?_eq_getElem (by omega))
    exact lt_of_cells h1
  have hsz : (vals.toArray ++ Array.replicate (fn.ntmps - vals.toArray.size) undef).size = fn.ntmps := by simp; omega
  constructor
  · exact Kept.refl _ _
  · rfl
  · exact hsz
  · intro i
    show VR w M (lentV bs) noG ((args[i]?).getD .any) _
    cases ha : args[i]? with
    | none => exact .any _
    | some x =>
      have hi : i < vals.length := by rw [← hlen]; exact (List.getElem?_eq_some_iff.1 ha).1
      have hv := List.getElem?_eq_getElem hi
      have : (vals.toArray ++ Array.replicate (fn.ntmps - vals.toArray.size) undef).getD i undef = vals[i] := by
        simp [Array.getD, show i < vals.length + (fn.ntmps - vals.length) by omega, Array.getElem_append_left, hi]
      show VR w M (lentV bs) noG x (Array.getD _ i undef)
      rw [this]
      exact hargs i x _ ha hv
  · exact fun _ _ _ => rfl
  · refine fun b hb => ⟨hM b hb, ?_⟩
    show (bs.idxOf? b).map _ = none
    rw [Option.map_eq_none_iff, List.idxOf?_eq_none_iff]
    exact fun hm => by have := hold b hm; omega
  · intro d g hg
    refine ⟨?_, rfl⟩
    show lentV bs (d, g) = none
    cases hv : lentV bs (d, g) with
    | none => rfl
    | some b =>
      exfalso
      obtain ⟨h1, h2, _⟩ := lentV_some hv
      change (bif Nat.ble fn.ntmps d then 1 else 0) ≤ g at hg
      have h1' : fn.ntmps ≤ d := Nat.le_trans hN h1
      have h2' : g = 0 := h2
      rw [Nat.ble_eq_true_of_le h1', h2'] at hg
      exact absurd hg (by simp)
  · intro id b hv
    obtain ⟨h1, h2, _⟩ := lentV_some hv
    refine ⟨Nat.le_trans hN h1, h2, ?_, hv⟩
    show 0 < (bif Nat.ble fn.ntmps id.1 then 1 else 0)
    rw [Nat.ble_eq_true_of_le (Nat.le_trans hN h1)]; exact Nat.one_pos
  · intro id cs hv
    change lentVa lent id = some cs at hv
    unfold lentVa at hv
    cases hc : Nat.ble 1000000 id.1 && Nat.beq id.2 0 with
    | false => rw [hc] at hv; cases hv
    | true =>
      rw [hc] at hv
      change lent[id.1 - 1000000]? = some cs at hv
      simp only [Bool.and_eq_true] at hc
      have h1 := Nat.le_of_ble_eq_true hc.1
      have h2 := Nat.eq_of_beq_eq_true hc.2
      have hk : id.1 - 1000000 < bs.length := by rw [hbl]; exact (List.getElem?_eq_some_iff.1 hv).1
      obtain ⟨g1, vs, ty, g2, g3, g4⟩ := hheld _ _ _ (List.getElem?_eq_getElem hk) hv
      refine ⟨bs[id.1 - 1000000], vs, ty, ?_, .inr ?_, ?_, g1, g2, g3, fun j c hj => ?_⟩
      · show lentV bs id = _
        have hid : id = (1000000 + (id.1 - 1000000), 0) := Prod.ext (by simp only; omega) h2
        have h5 := lentV_get (bs := bs) (id.1 - 1000000)
        rw [← hid, List.getElem?_eq_getElem hk] at h5
        exact h5
      · show bs.contains _ = true
        simp
      · show (bs.idxOf? _).map _ = _
        have : bs.idxOf? bs[id.1 - 1000000] = some (id.1 - 1000000) := by
          rw [List.idxOf?_eq_some_iff]
          exact ⟨hk, rfl, fun j hj he => (List.pairwise_iff_getElem.1 hnd) j (id.1 - 1000000) (Nat.lt_trans hj hk) hk hj (by simpa using he)⟩
        rw [this]
        simp only [Option.map_some, Option.some.injEq, Prod.mk.injEq, true_and]
        exact Prod.ext (by simp only; omega) h2.symm
      · obtain ⟨v, k1, k2, k3⟩ := g4 j c hj
        exact ⟨v, k1, k2, k3.open' _ _⟩
  · intro d g cs hv
    change lentVa lent (d, g) = some cs at hv
    unfold lentVa at hv
    cases hc : Nat.ble 1000000 d && Nat.beq g 0 with
    | false => simp only [hc] at hv; cases hv
    | true =>
      simp only [Bool.and_eq_true] at hc
      have h1 := Nat.le_of_ble_eq_true hc.1
      have h2 := Nat.eq_of_beq_eq_true hc.2
      show g < (bif Nat.ble fn.ntmps d then 1 else 0)
      rw [Nat.ble_eq_true_of_le (Nat.le_trans hN h1), h2]; exact Nat.one_pos
  · exact fun _ _ _ _ h => by cases h
  · exact fun _ _ _ h => by cases h
set_option maxRecDepth 4000 in
theorem FSpecM.of_body {P : Program} {f : FuncId} {fn : Func} {c : Code} {args : List AV} {lent lent' : List (List AV)} {r : AV} {fr : Option (Nat × Nat × TypeId)} (hf : P.funcs[f]? = some fn) (hb : fn.body = some c)
    (hn : args.length ≤ fn.ntmps) (hN : fn.ntmps ≤ 1000000) (hll : lent'.length = lent.length) (h : ∀ w0 M0, AWP P w0 M0 c (postQM P fn r fr lent') (AS.entryM fn.ntmps args lent)) : FSpecM P f args lent r fr lent' := by
  intro w M bs vals hlen hargs hM hnd hbl hheld
  have hin : ∀ {id : OId} {b}, lentV bs id = some b → ∃ cs, lent[id.1 - 1000000]? = some cs ∧ Held w M b cs := fun {id b} hv => by
    obtain ⟨_, _, h3⟩ := lentV_some hv
    have hlt : id.1 - 1000000 < lent.length := by rw [← hbl]; exact (List.getElem?_eq_some_iff.1 h3).1
    exact ⟨_, List.getElem?_eq_getElem hlt, hheld _ _ _ h3 (List.getElem?_eq_getElem hlt)⟩
  have hold : ∀ b ∈ bs, b < w.heap.size := fun b hb => by
    obtain ⟨k, hk, rfl⟩ := List.mem_iff_getElem.1 hb
    obtain ⟨_, vs, ty, h1, _⟩ := hheld k bs[k] (lent[k]'(by omega)) (List.getElem?_eq_getElem hk) (List.getElem?_eq_getElem (by omega))
    exact lt_of_cells h1
  refine calls_of_wp hf hb (h w ⟨M, fun k => bs.contains k, lentV bs⟩ _ w ⟨⟨M, lentV bs, noG, fun b => (bs.idxOf? b).map fun k => (true, (1000000 + k, 0))⟩, ?_⟩ _ ?_)
  · exact entry_rel hn hN hlen hargs hM hnd hbl hheld
  · have main : ∀ σ' a' w', ((∃ rs, ResAll P σ' fn.results.toList rs ∧ OutM lent'.length σ' (packA rs) r fr) ∧ holdM σ' 0 lent') → Rel w ⟨M, fun k => bs.contains k, lentV bs⟩ σ' a' w' →
        a'.defers = [] ∧ ∃ v, (results fn a'.tmps).run P w' = .ok v w' ∧ ∃ v', Ending.returned v = .returned v' ∧ Kept w ⟨M, fun k => bs.contains k, noV⟩ w' ∧
          (∀ (k : Nat) b cs, bs[k]? = some b → lent'[k]? = some cs → Held w' M b cs) ∧ ResM w M (lentV bs) w' r fr v' := fun σ' a' w' ⟨⟨rs, h1, h2⟩, hho⟩ ⟨x, hx⟩ => by
      obtain ⟨cv, g1, g2⟩ := run_results' hx h1
      have hvar : ∀ (k : Nat) b, bs[k]? = some b → ∃ cs cs', lent'[k]? = some cs' ∧ σ'.va (1000000 + k, 0) = some cs ∧ AV.close.closeL cs = some cs' ∧ x.V (1000000 + k, 0) = some b := fun k b hk => by
        have hlt : k < lent'.length := by rw [hll, ← hbl]; exact (List.getElem?_eq_some_iff.1 hk).1
        have h3 := holdM_get lent' 0 k _ hho (List.getElem?_eq_getElem hlt)
        rw [Nat.zero_add] at h3
        obtain ⟨cs, q1, q2⟩ := Option.bind_eq_some_iff.1 h3
        exact ⟨cs, _, List.getElem?_eq_getElem hlt, q1, q2, (hx.lent _ b ((lentV_get k).trans hk)).2.2.2⟩
      have hM0 : ∀ b, bs.contains b = true → x.M b = some 0 := fun b hb => by
        obtain ⟨k, hk, hkb⟩ := List.mem_iff_getElem.1 (List.contains_iff_mem.1 hb)
        obtain ⟨cs, cs', _, q1, _, q3⟩ := hvar k b (by rw [List.getElem?_eq_getElem hk, hkb])
        obtain ⟨b', vs, ty, m1, _, _, m4, _⟩ := hx.va _ _ q1
        have : b' = b := Option.some.inj (m1.symm.trans q3)
        subst this
        exact m4
      have himm : ∀ b off y, Imm w' x.M b off y → Imm w' M b off y := fun b off y hi => ⟨hi.1, hi.2.1, fun m hm => by
        rcases Nat.lt_or_ge b w.heap.size with hlt | hge
        · cases hc : bs.contains b with
          | true => exact absurd (hi.2.2 0 (hM0 b hc)) (Nat.not_lt_zero _)
          | false => exact hi.2.2 m (by rw [hx.m0 b hlt hc]; exact hm)
        · rw [hM b hge] at hm; cases hm⟩
      refine ⟨hx.defers, cv, g1, cv, rfl, ⟨hx.below.os, hx.below.tape, hx.below.output, hx.below.size, hx.below.block, hx.below.sz⟩, fun k b cs hk hcs => ?_, ?_⟩
      · obtain ⟨cs0, cs', p1, p2, p3, p4⟩ := hvar k b hk
        have : cs' = cs := Option.some.inj (p1.symm.trans hcs)
        subst this
        obtain ⟨b', vs, ty, m1, m2, m3, m4, m5, m6, m7⟩ := hx.va _ _ p2
        have : b' = b := Option.some.inj (m1.symm.trans p4)
        subst this
        obtain ⟨q1, q2⟩ := closeL_get _ _ p3
        have hlt : k < lent.length := by rw [← hbl]; exact (List.getElem?_eq_some_iff.1 hk).1
        refine ⟨(hheld k b' _ hk (List.getElem?_eq_getElem hlt)).1, vs, ty, m5, by rw [← q1]; exact m6, fun j c hj => ?_⟩
        have hj' : j < cs0.length := by rw [q1]; exact (List.getElem?_eq_some_iff.1 hj).1
        obtain ⟨v, n1, n2, n3⟩ := m7 j _ (List.getElem?_eq_getElem hj')
        exact ⟨v, n1, n2, (n3.closed c (q2 j _ c (List.getElem?_eq_getElem hj') hj) _ _).mono himm (fun _ _ hh => hh)⟩
      · cases fr with
        | none =>
          refine (g2.closedM (V' := lentV bs) (fun k b q1 q2 => ?_) r h2).mono himm (fun _ _ hh => hh)
          have hk : k < bs.length := by rw [hbl, ← hll]; exact q1
          obtain ⟨_, _, _, _, _, q3⟩ := hvar k _ (List.getElem?_eq_getElem hk)
          rw [lentV_get, List.getElem?_eq_getElem hk]
          exact q3.symm.trans q2
        | some t =>
          obtain ⟨n, z, e⟩ := t
          obtain ⟨id, k1, k2⟩ := h2
          obtain ⟨l, l1, l2, l3, l3', l4, l5⟩ := hx.gr id n z e k1
          refine ⟨l, l2, l3, l3', l4, fun b hb => ?_, (VR.expd l1 g2 r k2).mono (hzz := fun _ _ hh => hh) fun b off y hi => ⟨hi.1, hi.2.1, fun m hm => ?_⟩⟩
          · obtain ⟨p1, p2, p3, vs, p4, p5⟩ := l5 b hb
            refine ⟨p1.resolve_right fun hc => ?_, vs, p4, p5⟩
            obtain ⟨k, hk, hkb⟩ := List.mem_iff_getElem.1 (List.contains_iff_mem.1 hc)
            obtain ⟨cs, cs', _, q1, _, q3⟩ := hvar k b (by rw [List.getElem?_eq_getElem hk, hkb])
            obtain ⟨b', vs', ty, m1, _, m3, _⟩ := hx.va _ _ q1
            have : b' = b := Option.some.inj (m1.symm.trans q3)
            subst this
            rw [p2] at m3; cases m3
          · cases hbl' : l.blk with
            | none =>
              simp only [hbl'] at hm
              exact (himm b off y hi).2.2 m hm
            | some b0 =>
              simp only [hbl'] at hm
              by_cases hbb : b = b0
              · subst hbb
                rw [upd_same] at hm
                exact hi.2.2 m (by rw [(l5 b hbl').2.2.1]; exact hm)
              · rw [upd_ne _ _ hbb] at hm
                exact (himm b off y hi).2.2 m hm
    intro e σ' a' w' he hr'
    cases e with
    | normal => exact main σ' a' w' he hr'
    | ret => exact main σ' a' w' he hr'
    | exit _ => exact he.elim
    | goto _ => exact he.elim
    | panic _ => exact he.elim
    | outgrown => exact he.elim
end Go.Ab
namespace Go.Ab
open Go.RowKit
def idxA : List OId → Nat → OId → Option Nat
  | [], _, _ => none
  | x :: l, k, id => bif Nat.beq x.1 id.1 && Nat.beq x.2 id.2 then some k else idxA l (k + 1) id
theorem idxA_some : ∀ (l : List OId) (k : Nat) (id : OId) (j : Nat), idxA l k id = some j → ∃ i, j = k + i ∧ l[i]? = some id := by
  intro l
  induction l with
  | nil => intro k id j h; cases h
  | cons x l ih =>
    intro k id j h
    simp only [idxA] at h
    cases hb : Nat.beq x.1 id.1 && Nat.beq x.2 id.2 with
    | true =>
      rw [hb] at h; cases h
      simp only [Bool.and_eq_true] at hb
      exact ⟨0, rfl, by rw [show x = id from Prod.ext (Nat.eq_of_beq_eq_true hb.1) (Nat.eq_of_beq_eq_true hb.2)]; rfl⟩
    | false =>
      rw [hb] at h
      obtain ⟨i, h1, h2⟩ := ih (k + 1) id j h
      exact ⟨i + 1, by omega, h2⟩
def lendA (ids : List OId) : AV → Option AV
  | .ref id off => (idxA ids 0 id).map fun k => .ref (1000000 + k, 0) off
  | .arr id off n c => (idxA ids 0 id).map fun k => .arr (1000000 + k, 0) off n c
  | x => x.close
def backA (ids : List OId) : AV → Option AV
  | .ref id off => bif isLent ids.length id then (ids[id.1 - 1000000]?).map fun i => .ref i off else none
  | .arr id off n c => bif isLent ids.length id then (ids[id.1 - 1000000]?).map fun i => .arr i off n c else none
  | .tup cs => (backL ids cs).map .tup
  | x => x.close
where
  backL (ids : List OId) : List AV → Option (List AV)
    | [] => some []
    | c :: cs => match backA ids c, backL ids cs with
      | some d, some ds => some (d :: ds)
      | _, _ => none
theorem backL_get {ids : List OId} : ∀ (cs ds : List AV), backA.backL ids cs = some ds → cs.length = ds.length ∧ ∀ (i : Nat) (c d : AV), cs[i]? = some c → ds[i]? = some d → backA ids c = some d := by
  intro cs
  induction cs with
  | nil => intro ds h; simp [backA.backL] at h; subst h; exact ⟨rfl, by simp⟩
  | cons c cs ih =>
    intro ds h
    simp only [backA.backL] at h
    split at h
    · rename_i d ds' h1 h2
      simp at h; subst h
      obtain ⟨hl, hg⟩ := ih ds' h2
      refine ⟨by simp [hl], fun i c' d' hc hd => ?_⟩
      cases i with
      | zero => simp at hc hd; subst hc; subst hd; exact h1
      | succ i => simp at hc hd; exact hg i c' d' hc hd
    · simp at h
section
variable {w : World} {M : Nat → Option Nat} {V : OId → Option Nat} {G : OId → Option GL} {ids : List OId} {bs : List Nat}
theorem VR.lent (hb : bs.length = ids.length) (hV : ∀ (k : Nat) id b, ids[k]? = some id → bs[k]? = some b → V id = some b) {x y v} (h : VR w M V G x v) (hy : lendA ids x = some y) : VR w M (lentV bs) noG y v := by
  have hk : ∀ {id k b}, idxA ids 0 id = some k → V id = some b → lentV bs (1000000 + k, 0) = some b := fun {id k b} h1 h2 => by
    obtain ⟨i, hi, h3⟩ := idxA_some ids 0 id k h1
    rw [Nat.zero_add] at hi; subst hi
    have hlt : k < bs.length := by rw [hb]; exact (List.getElem?_eq_some_iff.1 h3).1
    rw [lentV_get, List.getElem?_eq_getElem hlt]
    exact (hV k id _ h3 (List.getElem?_eq_getElem hlt)).symm.trans h2
  cases h with
  | ref id off b h =>
    simp only [lendA, Option.map_eq_some_iff] at hy
    obtain ⟨k, h1, rfl⟩ := hy
    exact .ref _ _ _ (hk h1 h)
  | arr id off n c b cap h hcn hc hcs =>
    simp only [lendA, Option.map_eq_some_iff] at hy
    obtain ⟨k, h1, rfl⟩ := hy
    exact .arr _ _ _ _ _ _ (hk h1 h) hcn hc hcs
  | any v => exact (VR.any (V := V) (G := G) v).closed y hy _ _
  | sc v => exact (VR.sc (V := V) (G := G) v).closed y hy _ _
  | agg cs vs hl h1 h => exact (VR.agg cs vs hl h1 h).closed y hy _ _
  | tup cs vs hl h => exact (VR.tup cs vs hl h).closed y hy _ _
  | rd cs b off X hc hv => exact (VR.rd (V := V) (G := G) cs b off X hc hv).closed y hy _ _
  | sl0 a c => exact (VR.sl0 (V := V) (G := G) a c).closed y hy _ _
  | nil0 a => exact (VR.nil0 (V := V) (G := G) a).closed y hy _ _
  | sl es z b off cap X hz hcap hc hv => exact (VR.sl (V := V) (G := G) es z b off cap X hz hcap hc hv).closed y hy _ _
  | own id es v h g hg hle heq => exact (VR.own (V := V) id es v h g hg hle heq).closed y hy _ _
  | clo f cs vs hl h => exact (VR.clo f cs vs hl h).closed y hy _ _
  | bnd f cs vs hl h => exact (VR.bnd f cs vs hl h).closed y hy _ _
  | ifc t x v h => exact (VR.ifc t x v h).closed y hy _ _
theorem VR.back (hb : bs.length = ids.length) (hV : ∀ (k : Nat) id b, ids[k]? = some id → bs[k]? = some b → V id = some b) {x v} {V' G'} (h : VR w M V' G' x v) : V' = lentV bs → ∀ y, backA ids x = some y → VR w M V G y v := by
  have hk : ∀ {id i b}, isLent ids.length id = true → ids[id.1 - 1000000]? = some i → lentV bs id = some b → V i = some b := fun {id i b} h1 h2 h3 => by
    obtain ⟨_, _, h4⟩ := lentV_some h3
    exact hV _ i b h2 h4
  induction h with
  | ref id off b h =>
    intro he y hy; subst he
    simp only [backA] at hy
    cases hc : isLent ids.length id with
    | false => rw [hc] at hy; cases hy
    | true =>
      rw [hc] at hy
      obtain ⟨i, h1, rfl⟩ := Option.map_eq_some_iff.1 hy
      exact .ref _ _ _ (hk hc h1 h)
  | arr id off n c b cap h hcn hcp hcs =>
    intro he y hy; subst he
    simp only [backA] at hy
    cases hc : isLent ids.length id with
    | false => rw [hc] at hy; cases hy
    | true =>
      rw [hc] at hy
      obtain ⟨i, h1, rfl⟩ := Option.map_eq_some_iff.1 hy
      exact .arr _ _ _ _ _ _ (hk hc h1 h) hcn hcp hcs
  | tup cs vs hl _ ih =>
    intro he y hy
    simp only [backA, Option.map_eq_some_iff] at hy
    obtain ⟨ds, hd, rfl⟩ := hy
    obtain ⟨hl2, hg⟩ := backL_get cs ds hd
    refine .tup ds vs (by omega) fun i d v hdi hvi => ?_
    have hi : i < cs.length := by have := (List.getElem?_eq_some_iff.1 hdi).1; omega
    exact ih i cs[i] v (List.getElem?_eq_getElem hi) hvi he d (hg i _ d (List.getElem?_eq_getElem hi) hdi)
  | any v => intro _ y hy; exact (VR.any (V := V) (G := G) v).closed y hy _ _
  | sc v => intro _ y hy; exact (VR.sc (V := V) (G := G) v).closed y hy _ _
  | agg cs vs hl h1 h _ => intro _ y hy; exact (VR.agg cs vs hl h1 h).closed y hy _ _
  | rd cs b off X hc hv _ => intro _ y hy; exact (VR.rd (V := V) (G := G) cs b off X hc hv).closed y hy _ _
  | sl0 a c => intro _ y hy; exact (VR.sl0 (V := V) (G := G) a c).closed y hy _ _
  | nil0 a => intro _ y hy; exact (VR.nil0 (V := V) (G := G) a).closed y hy _ _
  | sl es z b off cap X hz hcap hc hv _ => intro _ y hy; exact (VR.sl (V := V) (G := G) es z b off cap X hz hcap hc hv).closed y hy _ _
  | own id es v h g hg hle heq _ => intro _ y hy; exact (VR.own (V := V) id es v h g hg hle heq).closed y hy _ _
  | clo f cs vs hl h _ => intro _ y hy; exact (VR.clo f cs vs hl h).closed y hy _ _
  | bnd f cs vs hl h _ => intro _ y hy; exact (VR.bnd f cs vs hl h).closed y hy _ _
  | ifc t x v h _ => intro _ y hy; exact (VR.ifc t x v h).closed y hy _ _
end
theorem setVas_va : ∀ (ids : List OId) (ls : List (List AV)) (σ : AS) (id : OId) cs, (σ.setVas ids ls).va id = some cs → (∃ k : Nat, ids[k]? = some id ∧ ls[k]? = some cs) ∨ ((∀ k : Nat, k < ls.length → ids[k]? ≠ some id) ∧ σ.va id = some cs) := by
  intro ids
  induction ids with
  | nil => intro ls σ id cs h; exact .inr ⟨fun k _ => by simp, h⟩
  | cons x ids ih =>
    intro ls σ id cs h
    cases ls with
    | nil => exact .inr ⟨fun k hk => absurd hk (Nat.not_lt_zero _), h⟩
    | cons c ls =>
      simp only [AS.setVas] at h
      rcases ih ls _ id cs h with ⟨k, h1, h2⟩ | ⟨h1, h2⟩
      · exact .inl ⟨k + 1, h1, h2⟩
      · change updO σ.va x (some c) id = some cs at h2
        by_cases hx : id = x
        · subst hx
          rw [updO_same] at h2; cases h2
          exact .inl ⟨0, rfl, rfl⟩
        · rw [updO_ne _ _ hx] at h2
          refine .inr ⟨fun k hk => ?_, h2⟩
          cases k with
          | zero => exact fun hh => hx (Option.some.inj hh).symm
          | succ k => exact h1 k (by simpa using hk)
theorem setVas_eq : ∀ (ids : List OId) (ls : List (List AV)) (σ : AS), (σ.setVas ids ls).n = σ.n ∧ (σ.setVas ids ls).tm = σ.tm ∧ (σ.setVas ids ls).gr = σ.gr ∧ (σ.setVas ids ls).gen = σ.gen := by
  intro ids
  induction ids with
  | nil => intro ls σ; exact ⟨rfl, rfl, rfl, rfl⟩
  | cons x ids ih =>
    intro ls σ
    cases ls with
    | nil => exact ⟨rfl, rfl, rfl, rfl⟩
    | cons c ls => exact ih ls _
section
variable {w0 : World} {M0 : MT} {σ : AS} {a : Act} {w : World} {x : Wit}
theorem RelW.lend (h : RelW w0 M0 σ a w x) {ids : List OId} {bs : List Nat} {lent' : List (List AV)} (hbl : bs.length = ids.length) (hll : lent'.length = ids.length)
    (hb : ∀ (k : Nat) id b, ids[k]? = some id → bs[k]? = some b → x.V id = some b ∧ Mine w0 M0 b ∧ x.ow b = some (true, id) ∧ x.M b = some 0 ∧ ∃ cs, σ.va id = some cs)
    {t : OId → Option Nat} {w' : World} (hk : Kept w ⟨x.M, fun k => bs.contains k, t⟩ w') (hh : ∀ (k : Nat) b cs, bs[k]? = some b → lent'[k]? = some cs → Held w' x.M b cs) : RelW w0 M0 (σ.setVas ids lent') a w' x := by
  obtain ⟨e1, e2, e3, e4⟩ := setVas_eq ids lent' σ
  have hbs : ∀ b, bs.contains b = true → ∃ id, x.ow b = some (true, id) ∧ x.M b = some 0 ∧ Mine w0 M0 b ∧ ∃ k, ids[k]? = some id := fun b hc => by
    obtain ⟨k, hk, rfl⟩ := List.mem_iff_getElem.1 (List.contains_iff_mem.1 hc)
    have hki : k < ids.length := by rw [← hbl]; exact hk
    obtain ⟨_, h2, h3, h4, _⟩ := hb k ids[k] bs[k] (List.getElem?_eq_getElem hki) (List.getElem?_eq_getElem hk)
    exact ⟨ids[k], h3, h4, h2, k, List.getElem?_eq_getElem hki⟩
  have hsame : ∀ b, b < w.heap.size → (∀ id, x.ow b = some (true, id) → ∀ k, ids[k]? ≠ some id) → w'.heap[b]? = w.heap[b]? := fun b hlt hne => by
    refine hk.block b hlt ?_
    show bs.contains b = false
    cases hc : bs.contains b with
    | false => rfl
    | true =>
      obtain ⟨id, q1, _, _, k, q4⟩ := hbs b hc
      exact absurd q4 (hne id q1 k)
  have himm : ∀ b off y, Imm w x.M b off y → Imm w' x.M b off y := fun b off y hi => by
    have hlt : b < w.heap.size := by
      rcases Nat.lt_or_ge b w.heap.size with h' | h'
      · exact h'
      · have := hi.1; simp [World.cell?, Array.getElem?_eq_none h'] at this
    have hc : bs.contains b = false := by
      cases hc : bs.contains b with
      | false => rfl
      | true =>
        obtain ⟨_, _, q2, _⟩ := hbs b hc
        exact absurd (hi.2.2 0 q2) (Nat.not_lt_zero _)
    exact ⟨by rw [cell?_same (hk.block b hlt hc)]; exact hi.1, hi.2⟩
  constructor
  · refine ⟨hk.os.trans h.below.os, hk.tape.trans h.below.tape, hk.output.trans h.below.output, Nat.le_trans h.below.size hk.size, fun b hlt ht => ?_, fun b n hh => hk.sz b n (h.below.sz b n hh)⟩
    refine (hk.block b (Nat.lt_of_lt_of_le hlt h.below.size) ?_).trans (h.below.block b hlt ht)
    show bs.contains b = false
    cases hc : bs.contains b with
    | false => rfl
    | true =>
      obtain ⟨_, _, _, q3, _⟩ := hbs b hc
      exact absurd rfl (q3.ne hlt ht)
  · exact h.defers
  · rw [e1]; exact h.size
  · rw [e2]; exact fun i => (h.tm i).mono himm hk.sz
  · exact h.m0
  · exact fun b hb' => h.mlt b (Nat.le_trans hk.size hb')
  · rw [e4]; exact h.fresh
  · rw [e1, e4]; exact h.lent
  · intro id cs hv
    rcases setVas_va ids lent' σ id cs hv with ⟨k, h1, h2⟩ | ⟨h1, h2⟩
    · have hkb : k < bs.length := by rw [hbl]; exact (List.getElem?_eq_some_iff.1 h1).1
      obtain ⟨q1, q2, q3, q4, _⟩ := hb k id bs[k] h1 (List.getElem?_eq_getElem hkb)
      obtain ⟨_, vs, ty, r1, r2, r3⟩ := hh k bs[k] cs (List.getElem?_eq_getElem hkb) h2
      refine ⟨bs[k], vs, ty, q1, q2, q3, q4, r1, r2, fun j c hj => ?_⟩
      obtain ⟨v, s1, s2, s3⟩ := r3 j c hj
      exact ⟨v, s1, s2, s3.open' _ _⟩
    · obtain ⟨b, vs, ty, q1, q2, q3, q4, q5, q6, q7⟩ := h.va id cs h2
      refine ⟨b, vs, ty, q1, q2, q3, q4, ?_, q6, fun j c hj => ?_⟩
      · rw [hsame b (lt_of_cells q5) fun id' ho k hid => ?_]
        · exact q5
        · rw [q3] at ho
          cases ho
          exact h1 k (by rw [hll]; exact (List.getElem?_eq_some_iff.1 hid).1) hid
      · obtain ⟨v, s1, s2, s3⟩ := q7 j c hj
        exact ⟨v, s1, s2, s3.mono himm hk.sz⟩
  · intro d g cs hv
    rw [e4]
    rcases setVas_va ids lent' σ (d, g) cs hv with ⟨k, h1, h2⟩ | ⟨h1, h2⟩
    · have hkb : k < bs.length := by rw [hbl]; exact (List.getElem?_eq_some_iff.1 h1).1
      obtain ⟨_, _, _, _, cs', q5⟩ := hb k (d, g) bs[k] h1 (List.getElem?_eq_getElem hkb)
      exact h.vgen d g cs' q5
    · exact h.vgen d g cs h2
  · intro id n z e hg
    rw [e3] at hg
    obtain ⟨l, h1, h2, h3, h3', h4, h5⟩ := h.gr id n z e hg
    refine ⟨l, h1, h2, h3, h3', h4, fun b hbl => ?_⟩
    obtain ⟨g1, g2, g3, vs, g4, g5⟩ := h5 b hbl
    refine ⟨g1, g2, g3, vs, ?_, g5⟩
    rw [hsame b (lt_of_cells g4) fun id' ho => by rw [g2] at ho; cases ho]
    exact g4
  · intro d g nz hg
    rw [e3] at hg; rw [e4]
    exact h.ggen d g nz hg
end
section
variable {P : Program} {w0 : World} {M0 : MT} {σ : AS} {ty : TypeId} {pos : String} {after : Array Edge} {guard : Option (Nat × Bool)}
end
end Go.Ab
namespace Go.Ab
open Go.RowKit
section
variable {P : Program} {w0 : World} {M0 : MT} {σ : AS} {ty : TypeId} {pos : String} {after : Array Edge} {guard : Option (Nat × Bool)}
theorem o_loadRefE {d : Option Tmp} {t sz off : Nat} {ag : Bool} {id : OId} {cs : List AV} {v : AV} (x : Operand) (hx : nf (σ.ev x) = some (.ref id off)) (hv : σ.va id = some cs)
    (hs : ∀ w, (sizeOf t).run P w = .ok sz w) (ha : ∀ w, (isAgg t).run P w = .ok ag w) (hp : partA ag sz (cs.drop off) = some v) (hd : okDB σ d = true) :
    OpAny P w0 M0 σ ⟨d, .load t x, ty, pos, after, guard⟩ (.val v) := ok_load_ref x (nf_eq hx) hv hs ha hp (okD hd)
end
section
variable {P : Program} {w0 : World} {M0 : MT} {σ : AS} {ty : TypeId} {pos : String} {after : Array Edge}
theorem run_nilEq {t e : Nat} (hu : P.underlying t = some (.slice e)) (x y : Operand) (a : Option Addr) (n cap : Nat) (w : World) :
    (do eqGuard .eql t x y (.slice a n cap) (.slice none 0 0); binOp .eql t (.slice a n cap) (.slice none 0 0) : Sem Value).run P w = .ok (.bool a.isNone) w := by
  have h : ∀ k, (Op.equalIn (k + 1) t (.slice a n cap) (.slice none 0 0)).run P w = .ok a.isNone w := fun k => by
    cases a <;> simp [Op.equalIn, run_underlying' hu, Result.andThen]
  have h2 : (Op.equal t (.slice a n cap) (.slice none 0 0)).run P w = .ok a.isNone w := h 9999
  simp [eqGuard, binOp, h2, Result.andThen]
theorem AOps.nilq {ops : Array Oper} {R : AS → Prop} {rest : List Oper} {t e yt : Nat} {es : List (List AV)} {d : Tmp} (x : Operand) (hu : P.underlying t = some (.slice e)) (hx : slEs (σ.ev x) = some es) (hd : okDB σ (some d) = true)
    (h : ∀ b : Bool, (b = true → es = []) → AOps P w0 M0 ops rest R (σ.put (some d) (.sc (.bool b)))) :
    AOps P w0 M0 ops (⟨some d, .binOp .eql t x (.const (.slice none 0 0)) yt, ty, pos, after, none⟩ :: rest) R σ := fun a w ⟨X, hr⟩ Q' hQ => by
  refine wpList_plain rfl fun K hK => ?_
  have h1 := slEs_spec (hr.ev x) hx
  generalize hcv : a.eval x = cv at h1
  have key : ∃ (ad : Option Addr) (n cap : Nat), cv = .slice ad n cap ∧ (ad.isNone = true → es = []) := by
    cases h1 with
    | sl0 ad c => exact ⟨ad, 0, c, rfl, fun _ => rfl⟩
    | sl _ z b off cap Xf hz hcap hc hv => exact ⟨_, _, _, rfl, fun h => by cases h⟩
  obtain ⟨ad, n, cap, rfl, hne⟩ := key
  unfold Oper.wp
  have hrun : (execOp a.eval ⟨some d, .binOp .eql t x (.const (.slice none 0 0)) yt, ty, pos, after, none⟩).run P w = .ok (.value (.bool ad.isNone)) w := by
    simp only [execOp, hcv]
    exact run_value (run_nilEq hu _ _ ad n cap w)
  rw [hrun, Oper.upon_value]
  exact hK _ _ (h _ hne _ _ ⟨X, hr.put (d := some d) (okD hd) (.sc _)⟩ Q' hQ)
end
end Go.Ab
