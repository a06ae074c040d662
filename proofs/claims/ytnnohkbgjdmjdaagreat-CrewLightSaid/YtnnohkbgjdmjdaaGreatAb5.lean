/- Stores into local variables, and append. Nothing here speaks of one program. -/
import Derived.Test.YtnnohkbgjdmjdaaGreatAb4
namespace Go.Ab
open Go.RowKit

section
variable {w0 : World} {M0 : MT} {σ : AS} {a : Act} {w : World} {x : Wit}

theorem RelW.regrow (h : RelW w0 M0 σ a w x) {d : Option Tmp} (hd : okDst σ d) {id : OId} {n m z cap : Nat} {e : TypeId} {es : List (List AV)} (hgr : σ.gr id = some (n, z, e))
    {l : GL} (hG : x.G id = some l) (hlc : l.cnt = n) (hes : es.length = n + m) {w1 : World} {tb : Nat} {vs1 : Array Value} {cv : Value} (hB : Kept w0 M0 w1) (hbase : Mine w0 M0 tb)
    (hsz : w.heap.size ≤ w1.heap.size) (hother : ∀ b, b < w.heap.size → b ≠ tb → w1.heap[b]? = w.heap[b]?)
    (htb : x.ow tb = none ∧ w.heap.size ≤ tb ∨ x.ow tb = some (false, id))
    (himm : ∀ b off y, Imm w x.M b off y → Imm w1 (upd x.M tb (some ((n + m) * z))) b off y) (hzz : ∀ b n, Sz w b n → Sz w1 b n)
    (hcells : w1.heap[tb]? = some (.cells vs1 e (0, 0))) (hvs : vs1.size = cap * z) (hcap : n + m ≤ cap) (hm : cap ≤ maxLen)
    (hsame : n + m = n → (⟨some tb, n + m, cap⟩ : GL).val = l.val)
    (hcv : VR w1 (upd x.M tb (some ((n + m) * z))) noV noG (.sl es) cv) (hcv2 : cv = (⟨some tb, n + m, cap⟩ : GL).val) :
    Rel w0 M0 (σ.app d (.grow id es z e)) (a.put d cv) w1 := by
  have lift : ∀ {c v}, VR w x.M x.V x.G c v → VR w1 (upd x.M tb (some ((n + m) * z))) x.V (updO x.G id (some ⟨some tb, n + m, cap⟩)) c v := fun hv =>
    (hv.mono himm hzz).locs (fun _ _ hh => hh) fun id' g hg => by
      by_cases hid : id' = id
      · subst hid
        refine ⟨_, updO_same _ _ _, ?_, ?_⟩
        · have : g = l := Option.some.inj (hg.symm.trans hG)
          subst this; rw [hlc]; exact Nat.le_add_right _ _
        · intro hh
          have : g = l := Option.some.inj (hg.symm.trans hG)
          subst this; exact hsame (hh.trans hlc)
      · exact ⟨g, by rw [updO_ne _ _ hid]; exact hg, Nat.le_refl _, fun _ => rfl⟩
  have htb1 : tb < w1.heap.size := lt_of_cells hcells
  have hnotown : ∀ b id' k, x.ow b = some (k, id') → (k, id') ≠ (false, id) → b ≠ tb := fun b id' k ho hne hb => by
    subst hb
    rcases htb with ⟨h1, _⟩ | h1
    · rw [h1] at ho; cases ho
    · rw [h1] at ho; exact hne (Option.some.inj ho).symm
  have main : RelW w0 M0 { σ with gr := updO σ.gr id (some (es.length, z, e)) } a w1 ⟨upd x.M tb (some ((n + m) * z)), x.V, updO x.G id (some ⟨some tb, n + m, cap⟩), upd x.ow tb (some (false, id))⟩ := by
    constructor
    · exact hB
    · exact h.defers
    · exact h.size
    · exact fun i => lift (h.tm i)
    · intro b hb ht
      show upd x.M tb _ b = M0.m b
      rw [upd_ne _ _ (hbase.ne hb ht)]; exact h.m0 b hb ht
    · intro b hb
      show upd x.M tb _ b = none ∧ upd x.ow tb _ b = none
      rw [upd_ne _ _ (by omega), upd_ne _ _ (by omega)]
      exact h.mlt b (by omega)
    · intro d' g hg
      show x.V (d', g) = none ∧ updO x.G id _ (d', g) = none
      have h1 := h.fresh d' g hg
      rw [updO_ne _ _ (fun hh => by rw [hh, hG] at h1; cases h1.2)]
      exact h1
    · exact h.lent
    · intro id' cs' hv
      obtain ⟨b, vs', ty', h1, h2, h3, h4, h5, h6, h7⟩ := h.va id' cs' hv
      have hb := hnotown b id' true h3 (by simp)
      refine ⟨b, vs', ty', h1, h2, by show upd x.ow _ _ b = _; rw [upd_ne _ _ hb]; exact h3,
        by show upd x.M _ _ b = _; rw [upd_ne _ _ hb]; exact h4, by rw [hother b (lt_of_cells h5) hb]; exact h5, h6, fun j c hj => ?_⟩
      obtain ⟨v, g1, g2, g3⟩ := h7 j c hj
      exact ⟨v, g1, g2, lift g3⟩
    · exact h.vgen
    · intro id' n' z' e' hg
      change updO σ.gr id (some (es.length, z, e)) id' = some (n', z', e') at hg
      by_cases hid : id' = id
      · subst hid
        rw [updO_same] at hg
        cases hg
        rw [hes]
        refine ⟨⟨some tb, n + m, cap⟩, updO_same _ _ _, rfl, hcap, hm, (fun hh => by cases hh), fun b hb => ?_⟩
        cases hb
        exact ⟨hbase, upd_same _ _ _, upd_same _ _ _, vs1, hcells, hvs⟩
      · rw [updO_ne _ _ hid] at hg
        obtain ⟨l', h1, h2, h3, h3', h4, h5⟩ := h.gr id' n' z' e' hg
        refine ⟨l', by show updO x.G _ _ id' = _; rw [updO_ne _ _ hid]; exact h1, h2, h3, h3', h4, fun b hb => ?_⟩
        obtain ⟨g1, g2, g3, vs', g4, g5⟩ := h5 b hb
        have hb := hnotown b id' false g2 (fun hh => hid (Prod.mk.inj hh).2)
        exact ⟨g1, by show upd x.ow _ _ b = _; rw [upd_ne _ _ hb]; exact g2, by show upd x.M _ _ b = _; rw [upd_ne _ _ hb]; exact g3, vs', by rw [hother b (lt_of_cells g4) hb]; exact g4, g5⟩
    · intro d' g nz hg
      change updO σ.gr id (some (es.length, z, e)) (d', g) = some nz at hg
      by_cases hid : (d', g) = id
      · rw [← hid] at hgr; exact h.ggen d' g _ hgr
      · rw [updO_ne _ _ hid] at hg; exact h.ggen d' g nz hg
  exact ⟨_, main.put (d := d) hd (.own id es cv hcv _ (updO_same _ _ _) (by rw [hes]; exact Nat.le_refl _) fun _ => hcv2)⟩

/-- A variable gets other cells. -/
theorem RelW.stor0 (h : RelW w0 M0 σ a w x) {id : OId} {cs cs' : List AV} (hva : σ.va id = some cs)
    {b : Nat} {vs vs' : Array Value} {ty : TypeId} (hV : x.V id = some b) (hh : w.heap[b]? = some (.cells vs ty (0, 0))) (hvs : cs'.length ≤ vs'.size) (hzz : vs.size ≤ vs'.size)
    (hc : ∀ (j : Nat) c, cs'[j]? = some c → ∃ v, vs'[j]? = some v ∧ v.oneCell' = true ∧ VR w x.M x.V x.G c v) :
    RelW w0 M0 { σ with va := updO σ.va id (some cs') } a (w.setRow b vs') ⟨upd x.M b (some 0), x.V, x.G, x.ow⟩ := by
  obtain ⟨b', vs0, ty0, h1, h2, h3, h4, h5, h6, h7⟩ := h.va id cs hva
  have : b = b' := Option.some.inj (hV.symm.trans h1)
  subst this
  have hh0 := hh
  have himm : ∀ b' off y, Imm w x.M b' off y → Imm (w.setRow b vs') (upd x.M b (some 0)) b' off y := fun b' off y hi =>
    imm_setRow hh h4 (fun j hj => absurd hj (Nat.not_lt_zero _)) (fun k hk => Nat.zero_le _) hi
  have lift : ∀ {c v}, VR w x.M x.V x.G c v → VR (w.setRow b vs') (upd x.M b (some 0)) x.V x.G c v := fun hv => hv.mono himm fun _ _ hh => hh.row fun m hm => Nat.le_trans (hm.cells hh0) hzz
  have hMb : ∀ b', upd x.M b (some 0) b' = x.M b' := fun b' => by
    by_cases hbb : b' = b
    · subst hbb; rw [upd_same, h4]
    · rw [upd_ne _ _ hbb]
  constructor
  · exact below_setRow h.below h2 vs' fun m hm => Nat.le_trans (hm.cells hh0) hzz
  · exact h.defers
  · exact h.size
  · exact fun i => lift (h.tm i)
  · intro b' hb' ht
    show upd x.M b _ b' = M0.m b'
    rw [hMb]; exact h.m0 b' hb' ht
  · intro b' hb'
    rw [setRow_size] at hb'
    show upd x.M b _ b' = none ∧ x.ow b' = none
    rw [hMb]; exact h.mlt b' hb'
  · exact h.fresh
  · exact h.lent
  · intro id' cs1 hv
    change updO σ.va id (some cs') id' = some cs1 at hv
    by_cases hid : id' = id
    · subst hid
      rw [updO_same] at hv
      cases hv
      refine ⟨b, vs', ty, h1, h2, h3, upd_same _ _ _, setRow_heap w b vs vs' ty (0, 0) hh, hvs, fun j c hj => ?_⟩
      obtain ⟨v, g1, g2, g3⟩ := hc j c hj
      exact ⟨v, g1, g2, lift g3⟩
    · rw [updO_ne _ _ hid] at hv
      obtain ⟨b1, vs1, ty1, k1, k2, k3, k4, k5, k6, k7⟩ := h.va id' cs1 hv
      have hb1 : b1 ≠ b := fun hh => by
        subst hh
        rw [h3] at k3
        exact hid (Prod.mk.inj (Option.some.inj k3)).2.symm
      refine ⟨b1, vs1, ty1, k1, k2, k3, by show upd x.M _ _ b1 = _; rw [hMb]; exact k4, by rw [setRow_other w b b1 vs' hb1]; exact k5, k6, fun j c hj => ?_⟩
      obtain ⟨v, g1, g2, g3⟩ := k7 j c hj
      exact ⟨v, g1, g2, lift g3⟩
  · intro d' g cs1 hv
    change updO σ.va id (some cs') (d', g) = some cs1 at hv
    by_cases hid : (d', g) = id
    · rw [← hid] at hva; exact h.vgen d' g _ hva
    · rw [updO_ne _ _ hid] at hv; exact h.vgen d' g _ hv
  · intro id' n' z' e' hg
    obtain ⟨l', k1, k2, k3, k3', k4, k5⟩ := h.gr id' n' z' e' hg
    refine ⟨l', k1, k2, k3, k3', k4, fun b1 hb1 => ?_⟩
    obtain ⟨g1, g2, g3, vs1, g4, g5⟩ := k5 b1 hb1
    have hne : b1 ≠ b := fun hh => by subst hh; rw [h3] at g2; cases g2
    exact ⟨g1, g2, by show upd x.M _ _ b1 = _; rw [hMb]; exact g3, vs1, by rw [setRow_other w b b1 vs' hne]; exact g4, g5⟩
  · exact h.ggen
theorem RelW.stor (h : RelW w0 M0 σ a w x) {d : Option Tmp} (hd : okDst σ d) {id : OId} {cs cs' : List AV} (hva : σ.va id = some cs)
    {b : Nat} {vs vs' : Array Value} {ty : TypeId} (hV : x.V id = some b) (hh : w.heap[b]? = some (.cells vs ty (0, 0))) (hvs : cs'.length ≤ vs'.size) (hzz : vs.size ≤ vs'.size)
    (hc : ∀ (j : Nat) c, cs'[j]? = some c → ∃ v, vs'[j]? = some v ∧ v.oneCell' = true ∧ VR w x.M x.V x.G c v) :
    Rel w0 M0 (σ.app d (.stor id cs')) (a.put d undef) (w.setRow b vs') :=
  ⟨_, (h.stor0 hva hV hh hvs hzz hc).put (d := d) hd (.sc undef)⟩
end

/-! ## The operations -/

theorem okDst_agree {σ σ' : AS} {op : Op} (h : Agree σ σ' op) {d : Option Tmp} (hd : okDst σ d) : okDst σ' d := by
  cases d with
  | none => trivial
  | some d => show d < σ'.n; rw [h.n]; exact hd

section
variable {P : Program} {w0 : World} {M0 : MT} {σ : AS} {d : Option Tmp} {ty : TypeId} {pos : String} {after : Array Edge} {guard : Option (Nat × Bool)}

/-- The zero value's cells of a type. -/
def Zero (P : Program) (t : TypeId) (zs : List Value) : Prop :=
  zs.all (·.oneCell') = true ∧ ∃ v : Value, v.cells = zs.toArray ∧ ∀ w, (zeroValue t).run P w = .ok v w

theorem ok_alloc {t : TypeId} {zs : List Value} {d : Tmp} (hz : Zero P t zs) (hd : d < σ.n) :
    OpAny P w0 M0 σ ⟨some d, .alloc t, ty, pos, after, guard⟩ (.alloc (zs.map .sc)) := by
  intro σ' hag a w ⟨x, hr⟩ K Q hK
  obtain ⟨h1, v, hv, hrun⟩ := hz
  have hx : (execOp a.eval ⟨some d, .alloc t, ty, pos, after, guard⟩).run P w = .ok (.value (.pointer (some ⟨w.heap.size, 0, none⟩))) (w.alloc (.cells zs.toArray t)) := by
    simp only [execOp]
    refine run_value ?_
    simp [Instr.alloc, hrun, newVar, newRow, hv, World.alloc_eq]
  unfold Oper.wp
  rw [hx, Oper.upon_value]
  refine hK _ _ (hr.newVar (by rw [hag.n]; exact hd) (by simp) fun j c hj => ?_)
  simp only [List.getElem?_map, Option.map_eq_some_iff] at hj
  obtain ⟨u, hu, rfl⟩ := hj
  exact ⟨u, by simpa using hu, List.all_eq_true.1 h1 u (List.mem_of_getElem? hu), .sc u⟩

/-- The cells of a value, where it is known how many they are. -/
def cellsA : AV → Option (List AV)
  | .agg cs => some cs
  | .sc v => match v.oneCell' with
    | true => some [.sc v]
    | false => none
  | .any => none
  | .tup _ => none
  | x => some [x]

theorem cellsA_spec {w M V G x v cs} (h : VR w M V G x v) (hc : cellsA x = some cs) :
    v.cells.size = cs.length ∧ ∀ (j : Nat) c, cs[j]? = some c → ∃ u, v.cells[j]? = some u ∧ u.oneCell' = true ∧ VR w M V G c u := by
  have one : ∀ {u : Value} {c : AV}, u.oneCell' = true → VR w M V G c u → u.cells.size = [c].length ∧ ∀ (j : Nat) c', [c][j]? = some c' → ∃ u', u.cells[j]? = some u' ∧ u'.oneCell' = true ∧ VR w M V G c' u' := fun {u c} ho hv => by
    have hcell : u.cells = #[u] := by cases u <;> first | rfl | cases ho
    rw [hcell]
    refine ⟨rfl, fun j c' hj => ?_⟩
    cases j with
    | zero => simp at hj; subst hj; exact ⟨u, rfl, ho, hv⟩
    | succ j => simp at hj
  cases x with
  | any => cases hc
  | tup => cases hc
  | agg cs' =>
    cases hc
    cases h with
    | agg _ vs hl h1 hh =>
      refine ⟨by simp [Value.cells, hl], fun j c hj => ?_⟩
      have hlt : j < vs.length := by have := (List.getElem?_eq_some_iff.1 hj).1; omega
      exact ⟨vs[j], by simp [Value.cells, List.getElem?_eq_getElem hlt], List.all_eq_true.1 h1 _ (List.getElem_mem hlt), hh j c _ hj (List.getElem?_eq_getElem hlt)⟩
  | sc u =>
    simp only [cellsA] at hc
    split at hc
    · rename_i ho
      cases hc
      cases h
      exact one ho (.sc _)
    · cases hc
  | ref => cases hc; exact one (h.cell1 trivial) h
  | arr => cases hc; exact one (h.cell1 trivial) h
  | rd => cases hc; exact one (h.cell1 trivial) h
  | nil0 => cases hc; exact one (h.cell1 trivial) h
  | sl => cases hc; exact one (h.cell1 trivial) h
  | own => cases hc; exact one (h.cell1 trivial) h
  | clo => cases hc; exact one (h.cell1 trivial) h
  | bnd => cases hc; exact one (h.cell1 trivial) h
  | ifc => cases hc; exact one (h.cell1 trivial) h

theorem ok_box {t : TypeId} {cs : List AV} {d : Tmp} (x : Operand) (hx : cellsA (σ.ev x) = some cs) (hd : d < σ.n) :
    OpAny P w0 M0 σ ⟨some d, .box t x, ty, pos, after, guard⟩ (.alloc cs) := by
  intro σ' hag a w ⟨X, hr⟩ K Q hK
  have h1 := hr.ev x
  rw [hag.ev x (by simp [Op.operands])] at h1
  obtain ⟨h2, h3⟩ := cellsA_spec h1 hx
  have hrun : (execOp a.eval ⟨some d, .box t x, ty, pos, after, guard⟩).run P w = .ok (.value (.pointer (some ⟨w.heap.size, 0, none⟩))) (w.alloc (.cells (a.eval x).cells t)) := by
    simp only [execOp]
    refine run_value ?_
    simp [Instr.box, newVar, newRow, World.alloc_eq]
  unfold Oper.wp
  rw [hrun, Oper.upon_value]
  exact hK _ _ (hr.newVar (by rw [hag.n]; exact hd) (Nat.le_of_eq h2.symm) h3)

/-- 'var x []T': a slice that may grow. -/
theorem ok_nil {z : Nat} {e : TypeId} {d : Tmp} (hd : d < σ.n) :
    OpAny P w0 M0 σ ⟨some d, .assign (.const (.slice none 0 0)), ty, pos, after, guard⟩ (.fresh (.own (0, 0) []) 0 z e) := by
  intro σ' hag a w ⟨X, hr⟩ K Q hK
  have hrun : (execOp a.eval ⟨some d, .assign (.const (.slice none 0 0)), ty, pos, after, guard⟩).run P w = .ok (.value (.slice none 0 0)) w := rfl
  unfold Oper.wp
  rw [hrun, Oper.upon_value]
  exact hK _ _ (hr.newNil (by rw [hag.n]; exact hd))

def splice (cs new : List AV) (off : Nat) : List AV := cs.take off ++ new ++ cs.drop (off + new.length)

theorem ok_store {t off sz : Nat} {id : OId} {cs new : List AV} (x y : Operand) (hx : σ.ev x = .ref id off) (hva : σ.va id = some cs)
    (hs : ∀ w, (sizeOf t).run P w = .ok sz w) (hy : cellsA (σ.ev y) = some new) (hn : new.length = sz) (hfit : off + sz ≤ cs.length) (hd : okDst σ d) :
    OpSeq P w0 M0 σ ⟨d, .store t x y, ty, pos, after, guard⟩ (.stor id (splice cs new off)) := by
  intro a w ⟨X, hr⟩ K Q hK
  have h1 := hr.ev x
  rw [hx] at h1
  have h2 := hr.ev y
  obtain ⟨h3, h4⟩ := cellsA_spec h2 hy
  generalize hcv : a.eval x = cv at h1
  cases h1 with
  | ref _ _ b hb =>
    obtain ⟨b', vs, ty', k1, k2, k3, k4, k5, k6, k7⟩ := hr.va id cs hva
    have : b = b' := Option.some.inj (hb.symm.trans k1)
    subst this
    have hl2 : (a.eval y).cells.toList.length = sz := by simpa using h3.trans hn
    have hst := run_storeCells_at P b off ty' (a.eval y).cells.toList 0 vs w k5 (by rw [hl2]; omega) (fun v hv => by
      obtain ⟨j, hj, rfl⟩ := List.getElem_of_mem hv
      have hj' : j < new.length := by omega
      obtain ⟨u, g1, g2, _⟩ := h4 j new[j] (List.getElem?_eq_getElem hj')
      have : (a.eval y).cells.toList[j] = u := by
        have h5 : (a.eval y).cells.toList[j]? = some u := by simpa using g1
        exact Option.some.inj ((List.getElem?_eq_getElem hj).symm.trans h5)
      rw [this]; exact g2)
    simp only [Nat.add_zero] at hst
    have hrun : (execOp a.eval ⟨d, .store t x y, ty, pos, after, guard⟩).run P w = .ok .skip (w.setRow b (vs.toList.take off ++ (a.eval y).cells.toList ++ vs.toList.drop (off + (a.eval y).cells.toList.length)).toArray) := by
      simp [execOp, hcv, Instr.storeAt, Instr.sureAddr, storeVar, hs, Result.andThen, show (a.eval y).cells.size = sz by omega, hst]
    unfold Oper.wp
    rw [hrun, Oper.upon_skip]
    refine hK _ _ (hr.stor hd hva hb k5 (by simp [splice]; omega) (by simp; omega) fun j c hj => ?_)
    simp only [splice, List.getElem?_append, List.length_append, List.length_take] at hj
    have hm : min off cs.length = off := by omega
    have hm2 : min off vs.toList.length = off := by rw [Array.length_toList]; omega
    simp only [hm] at hj
    simp only [List.getElem?_toArray, List.getElem?_append, List.length_append, List.length_take, hm2, hl2]
    rw [hn] at hj
    by_cases c1 : j < off + sz
    · rw [if_pos c1] at hj ⊢
      by_cases c2 : j < off
      · rw [if_pos c2] at hj ⊢
        rw [List.getElem?_take, if_pos c2] at hj ⊢
        simpa using k7 j c hj
      · rw [if_neg c2] at hj ⊢
        simpa using h4 _ c hj
    · rw [if_neg c1] at hj ⊢
      rw [List.getElem?_drop] at hj ⊢
      simpa using k7 _ c hj

end
end Go.Ab
