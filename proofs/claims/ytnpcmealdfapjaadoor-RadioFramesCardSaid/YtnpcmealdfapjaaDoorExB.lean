/- Operations that look into memory. Nothing here speaks of one program. -/
import Derived.Test.YtnpcmealdfapjaaDoorExA
import Derived.Laws.MakeOwn
import Derived.Laws.NewFold
import Derived.Laws.Strings
import Derived.Lib.AppendZeros
import Derived.Lib.ConvBytes
import Derived.Laws.BytesString
set_option linter.unusedVariables false
set_option linter.unusedSimpArgs false
namespace Go.Ex
section
variable {eqs : Env} {φ : Pl eqs.gs} {t : T X} {a : Act} {P : Program} {tab : Tab}  {dst : Option Tmp} {type : TypeId} {pos : String} {after : Array Edge} {guard : Option (Nat × Bool)} {h : H} {n : Pt} {w : World}

theorem ObjR.cell {cs : List X} {b s : Nat} (ho : ObjR φ w b s (.cells cs)) {off : Nat} {x : X} (hx : cs[off]? = some x) : ∃ v, w.cell? ⟨b, off, none⟩ = some v ∧ v.oneCell' = true ∧ VR φ x v := by
  obtain ⟨vs, ty, fz, h1, h0, h2, h3, h4⟩ := ho
  have hlt : off < cs.length := (List.getElem?_eq_some_iff.1 hx).1
  have hlt2 : off < (vs.toList.take cs.length).length := by rw [← h4.1.1]; exact hlt
  have hget : (vs.toList.take cs.length)[off]? = some ((vs.toList.take cs.length)[off]) := List.getElem?_eq_getElem hlt2
  refine ⟨(vs.toList.take cs.length)[off], ?_, h4.2 _ (List.getElem_mem hlt2), h4.1.2 off x _ hx hget⟩
  rw [List.getElem?_take, if_pos hlt, Array.getElem?_toList] at hget
  simp [World.cell?, h1, hget]

/-- Cells out of a block's. -/
theorem ObjR.row {cs : List X} {b s : Nat} (ho : ObjR φ w b s (.cells cs)) {off m : Nat} {l : List X} (hl : lgetL cs off m = some l) :
    ∃ us : List Value, us.length = m ∧ CR φ l us ∧ ∀ j v, us[j]? = some v → w.cell? ((⟨b, off, none⟩ : Addr).add j) = some v := by
  obtain ⟨vs, ty, fz, h1, h0, h2, h3, h4⟩ := ho
  obtain ⟨g1, g2⟩ := lgetL_ok hl h4
  refine ⟨_, ?_, g2, fun j v hj => ?_⟩
  · simp only [List.length_take, List.length_drop]; simp only [List.length_take] at g1; omega
  · rw [List.getElem?_take] at hj
    split at hj
    · rename_i hjm
      rw [List.getElem?_drop, List.getElem?_take] at hj
      split at hj
      · rw [Array.getElem?_toList] at hj
        rw [addr_add]
        simp [World.cell?, h1, hj]
      · cases hj
    · cases hj

/-- Cells that nobody changes. -/
theorem rp_row (hr : Ro φ h w) {cs : List X} {b off : Nat} {vs : Nat → Value} (hc : ∀ (j : Nat) c, cs[j]? = some c → φ.W.cell? ⟨b, off + j, none⟩ = some (vs j) ∧ (vs j).oneCell' = true) (hv : ∀ (j : Nat) c, cs[j]? = some c → VR φ c (vs j)) {m : Nat} {l : List X} (hl : lgetL cs 0 m = some l) :
    ∃ us : List Value, us.length = m ∧ CR φ l us ∧ ∀ j v, us[j]? = some v → w.cell? ((⟨b, off, none⟩ : Addr).add j) = some v := by
  unfold lgetL at hl
  cases hb : Nat.ble (0 + m) cs.length with
  | false => rw [hb] at hl; cases hl
  | true =>
    rw [hb] at hl
    simp only [cond_true, Option.some.injEq, List.drop_zero] at hl
    subst hl
    have hle := Nat.le_of_ble_eq_true hb
    have hg : ∀ j, j < m → ∃ c, cs[j]? = some c := fun j hj => ⟨_, List.getElem?_eq_getElem (by omega)⟩
    refine ⟨(List.range m).map vs, by simp, ⟨⟨by simp; omega, fun i c v h1 h2 => ?_⟩, fun v hv' => ?_⟩, fun j v hj => ?_⟩
    · rw [List.getElem?_take] at h1
      split at h1
      · rename_i hi
        rw [List.getElem?_map, List.getElem?_range hi] at h2
        cases h2
        exact hv i c h1
      · cases h1
    · obtain ⟨i, hi, rfl⟩ := List.mem_map.1 hv'
      obtain ⟨c, hcc⟩ := hg i (List.mem_range.1 hi)
      exact (hc i c hcc).2
    · rw [List.getElem?_map] at hj
      rcases Nat.lt_or_ge j m with hjm | hjm
      · rw [List.getElem?_range hjm] at hj
        cases hj
        obtain ⟨c, hcc⟩ := hg j hjm
        rw [addr_add]
        exact hr.cell (hc j c hcc).1
      · rw [List.getElem?_eq_none (by simpa using hjm)] at hj; cases hj

theorem load1_ok (hp : Hp h n w φ) (ht : TabOk P tab) (hm : TmR φ t a) {e : TypeId} {x : Operand} {d : D} {ti : TI} {r : X} (he : ty tab e = some ti) (hag : ti.agg = false) (hc : cD eqs.gs x = some d) (hr : rLoad1 d t h = some r) :
    ∃ v, (execOp a.eval ⟨dst, .load e x, type, pos, after, guard⟩).run P w = .ok (.value v) w ∧ VR φ r v := by
  unfold rLoad1 at hr
  split at hr
  · rename_i id off h1
    split at hr
    · rename_i cs h2
      obtain ⟨b, s, h3, h4⟩ := inv_ptr (ev_ok hm hc h1)
      obtain ⟨i, u, hti⟩ := ty_ok ht he
      obtain ⟨v, g1, g2, g3⟩ := (hp.obj id b s _ h3 h2).cell hr
      have ha := hti.isAgg w
      rw [hag] at ha
      exact ⟨v, by simp only [execOp, h4]; exact run_value (by simp [Instr.loadAt, Instr.sureAddr, loadVar, ha, Result.andThen, g1]), g3⟩
    · cases hr
  · rename_i cs h1
    obtain ⟨b, off, vs, h4, g1, g2⟩ := inv_rp (ev_ok hm hc h1)
    obtain ⟨i, u, hti⟩ := ty_ok ht he
    have ha := hti.isAgg w
    rw [hag] at ha
    have hcell := hp.ro.cell (g1 0 r hr).1
    rw [Nat.add_zero] at hcell
    exact ⟨vs 0, by simp only [execOp, h4]; exact run_value (by simp [Instr.loadAt, Instr.sureAddr, loadVar, ha, Result.andThen, hcell]), g2 0 r hr⟩
  · cases hr

theorem loadA_ok (hp : Hp h n w φ) (ht : TabOk P tab) (hm : TmR φ t a) {e : TypeId} {x : Operand} {d : D} {ti : TI} {r : X} (he : ty tab e = some ti) (hag : ti.agg = true) (hc : cD eqs.gs x = some d) (hr : rLoadA ti.size d t h = some r) :
    ∃ v, (execOp a.eval ⟨dst, .load e x, type, pos, after, guard⟩).run P w = .ok (.value v) w ∧ VR φ r v := by
  unfold rLoadA at hr
  split at hr
  · rename_i id off h1
    split at hr
    · rename_i cs h2
      split at hr
      · rename_i l hl
        cases hr
        obtain ⟨b, s, h3, h4⟩ := inv_ptr (ev_ok hm hc h1)
        obtain ⟨i, u, hti⟩ := ty_ok ht he
        obtain ⟨us, g1, g2, g3⟩ := (hp.obj id b s _ h3 h2).row hl
        have ha := hti.isAgg w
        rw [hag] at ha
        have hrun := run_loadCells_list (P := P) w ⟨b, off, none⟩ us g3
        rw [g1] at hrun
        exact ⟨.agg us.toArray, by simp only [execOp, h4]; exact run_value (by simp [Instr.loadAt, Instr.sureAddr, loadVar, ha, hti.size, Result.andThen, hrun]), VR.agg' g2⟩
      · cases hr
    · cases hr
  · rename_i cs h1
    split at hr
    · rename_i l hl
      cases hr
      obtain ⟨b, off, vs, h4, k1, k2⟩ := inv_rp (ev_ok hm hc h1)
      obtain ⟨i, u, hti⟩ := ty_ok ht he
      obtain ⟨us, g1, g2, g3⟩ := rp_row hp.ro k1 k2 hl
      have ha := hti.isAgg w
      rw [hag] at ha
      have hrun := run_loadCells_list (P := P) w ⟨b, off, none⟩ us g3
      rw [g1] at hrun
      exact ⟨.agg us.toArray, by simp only [execOp, h4]; exact run_value (by simp [Instr.loadAt, Instr.sureAddr, loadVar, ha, hti.size, Result.andThen, hrun]), VR.agg' g2⟩
    · cases hr
  · cases hr

/-- Entries of a map. -/
def EntR (φ : Pl eqs.gs) (k : IntKind) (es : List (Int × X)) (rl : List MapEntry) : Prop :=
  rl.length = es.length ∧ ∀ (i : Nat) e r, es[i]? = some e → rl[i]? = some r → r.key = .int k e.1 ∧ VR φ e.2 r.val
theorem EntR.tail {k e es r rl} (h : EntR φ k (e :: es) (r :: rl)) : EntR φ k es rl := ⟨by simpa using h.1, fun i e r h1 h2 => h.2 (i + 1) e r (by simpa using h1) (by simpa using h2)⟩

theorem findNow_ok {kk k : IntKind} {m : Int} : ∀ {es : List (Int × X)} {rl : List MapEntry} (i0 : Nat), EntR φ k es rl →
    (mget m es = none ∧ Instr.findNow (.int kk) (.int k m) rl i0 = some none) ∨
    (∃ x j v, mget m es = some x ∧ Instr.findNow (.int kk) (.int k m) rl i0 = some (some (i0 + j, v)) ∧ VR φ x v ∧ ∃ e, rl[j]? = some e ∧ e.key = .int k m) := by
  intro es
  induction es with
  | nil => intro rl i0 h; have : rl = [] := List.eq_nil_of_length_eq_zero h.1; subst this; exact .inl ⟨rfl, rfl⟩
  | cons e es ih =>
    intro rl i0 h
    cases rl with
    | nil => have := h.1; simp at this
    | cons r rl =>
      obtain ⟨h1, h2⟩ := h.2 0 e r rfl rfl
      by_cases hk : m = e.1
      · refine .inr ⟨e.2, 0, r.val, by simp [mget, hk], ?_, h2, r, rfl, by rw [h1, hk]⟩
        simp [Instr.findNow, Instr.sameNow, h1, hk]
      · have hne : (m == e.1) = false := by simpa using hk
        rcases ih (i0 + 1) h.tail with ⟨g1, g2⟩ | ⟨x, j, v, g1, g2, g3, en, g4, g5⟩
        · refine .inl ⟨by simp [mget, hk, g1], ?_⟩
          simp [Instr.findNow, Instr.sameNow, h1, hne, g2]
        · refine .inr ⟨x, j + 1, v, by simp [mget, hk, g1], ?_, g3, en, by simpa using g4, g5⟩
          simp [Instr.findNow, Instr.sameNow, h1, hne, g2]
          omega

theorem run_checkKey (emp : Bool) {kt : TypeId} {kk k : IntKind} {m : Int} (hu : P.underlying kt = some (.int kk)) : (Instr.checkKey emp 10000 kt (.int k m)).run P w = .ok () w := by
  have key : ∀ d, (Instr.checkKey emp (d + 1) kt (.int k m)).run P w = .ok () w := fun d => by
    unfold Instr.checkKey
    simp only [Sem.run_bind, run_underlying' hu, Result.andThen_ok, Sem.run_pure]
  exact key 9999

theorem look_ok (hp : Hp h n w φ) (ht : TabOk P tab) (hm : TmR φ t a) {e kt el : TypeId} {x y : Operand} {dx dy : D} {ok : Bool} {z r : X} {z1 z2 z3 z4 z5 y1 y2 y3 y4 y5 x1 x2 x3 x4 x5 kk} (he : ty tab e = some ⟨z1, z2, z3, .map kt el, z4, z5⟩) (hk : ty tab kt = some ⟨y1, y2, y3, .int kk, y4, y5⟩)
    (hz : ty tab el = some ⟨x1, x2, x3, x4, x5, some z⟩) (hx : cD eqs.gs x = some dx) (hy : cD eqs.gs y = some dy) (hr : rLook z ok dx dy t h = some r) :
    ∃ v, (execOp a.eval ⟨dst, .lookup e x y ok, type, pos, after, guard⟩).run P w = .ok (.value v) w ∧ VR φ r v := by
  obtain ⟨i1, u1, hti1⟩ := ty_ok ht he
  obtain ⟨i2, u2, hti2⟩ := ty_ok ht hk
  obtain ⟨i3, u3, hti3⟩ := ty_ok ht hz
  have hu1 := hti1.under
  have hu2 := hti2.under
  rw [kind_map (congrArg TI.kind hti1.eq).symm] at hu1
  rw [kind_int (congrArg TI.kind hti2.eq).symm] at hu2
  obtain ⟨zv, hzv, hz2⟩ := hti3.zv (z := z) rfl
  have hzv := hzv φ
  unfold rLook at hr
  split at hr
  · rename_i id ki km h1 h2
    split at hr
    · rename_i es kj h3
      by_cases hkk : ki = kj
      · subst hkk
        simp only [decide_true, cond_true, Option.some.injEq] at hr
        subst hr
        obtain ⟨b, s, h4, h5⟩ := inv_map (ev_ok hm hx h1)
        have h6 := inv_int (ev_ok hm hy h2)
        obtain ⟨res, clock, g1, g2, g3⟩ := hp.obj id b s _ h4 h3
        have hE : EntR φ ki es res.toList := ⟨by simpa using g2, fun i e r k1 k2 => g3 i e r k1 (by simpa using k2)⟩
        have hobj : (getObj b).run P w = .ok (.map res clock) w := by simp [getObj, Sem.run, g1]
        rcases findNow_ok (kk := kk) (m := km) 0 hE with ⟨k1, k2⟩ | ⟨xx, j, v, k1, k2, k3, _⟩
        · rw [k1]
          cases ok with
          | true =>
            refine ⟨.tuple #[zv, .bool false], ?_, VR.tup' (vs := [zv, .bool false]) ((VRL.nil.cons (.bool _)).cons hzv)⟩
            simp only [execOp, h5, h6]
            refine run_value ?_
            simp [Instr.lookup, run_underlying' hu1, hobj, run_checkKey _ hu2, Instr.findKey, run_underlying' hu2, k2, hz2, Result.andThen]
          | false =>
            refine ⟨zv, ?_, hzv⟩
            simp only [execOp, h5, h6]
            refine run_value ?_
            simp [Instr.lookup, run_underlying' hu1, hobj, run_checkKey _ hu2, Instr.findKey, run_underlying' hu2, k2, hz2, Result.andThen]
        · rw [k1]
          cases ok with
          | true =>
            refine ⟨.tuple #[v, .bool true], ?_, VR.tup' (vs := [v, .bool true]) ((VRL.nil.cons (.bool _)).cons k3)⟩
            simp only [execOp, h5, h6]
            refine run_value ?_
            simp [Instr.lookup, run_underlying' hu1, hobj, run_checkKey _ hu2, Instr.findKey, run_underlying' hu2, k2, hz2, Result.andThen]
          | false =>
            refine ⟨v, ?_, k3⟩
            simp only [execOp, h5, h6]
            refine run_value ?_
            simp [Instr.lookup, run_underlying' hu1, hobj, run_checkKey _ hu2, Instr.findKey, run_underlying' hu2, k2, hz2, Result.andThen]
      · simp [hkk] at hr
    · cases hr
  · cases hr
end
end Go.Ex

/- Operations that look into memory, and those that make a block. Nothing here speaks of one program. -/
set_option linter.unusedVariables false
set_option linter.unusedSimpArgs false
namespace Go.Ex
section
variable {eqs : Env} {φ : Pl eqs.gs} {t : T X} {a : Act} {P : Program} {tab : Tab}  {dst : Option Tmp} {type : TypeId} {pos : String} {after : Array Edge} {guard : Option (Nat × Bool)} {h : H} {n : Pt} {w : World}

theorem opR0_ok (hp : Hp h n w φ) (ht : TabOk P tab) (hm : TmR φ t a) {op : Op} {i : IR} {r : X} (hc : cOp0 tab eqs op = some (.r i)) (hr : opR i t h = some r) :
    ∃ v, (execOp a.eval ⟨dst, op, type, pos, after, guard⟩).run P w = .ok (.value v) w ∧ VR φ r v := by
  unfold cOp0 at hc
  split at hc
  all_goals first
    | (split at hc <;> cases hc; done)
    | (repeat' split at hc
       all_goals cases hc
       done)
    | skip
  · exfalso
    unfold cBuild at hc
    repeat' split at hc
    all_goals first | (cases hc; done) | skip
    all_goals (revert hc; cases (allTy tab _) <;> intro hc <;> cases hc)
  · exfalso
    unfold cBuildS at hc
    repeat' split at hc
    all_goals first | (cases hc; done) | skip
    all_goals (revert hc; cases (Nat.ble _ _ && (Nat.beq _ _ && Nat.blt _ _)) <;> intro hc <;> cases hc)
  · split at hc
    · rename_i ti d he hx
      cases hag : ti.agg with
      | true => rw [hag] at hc; cases hc; exact loadA_ok hp ht hm he hag hx hr
      | false => rw [hag] at hc; cases hc; exact load1_ok hp ht hm he hag hx hr
    · cases hc
  · repeat' split at hc
    all_goals first | (cases hc; done) | skip
    all_goals (revert hc; cases (Nat.beq _ _ && Nat.blt _ _) <;> intro hc <;> cases hc)
  · exfalso
    unfold cSlice at hc
    repeat' split at hc
    all_goals cases hc
  · repeat' split at hc
    all_goals first | (cases hc; done) | skip
    all_goals (revert hc; cases (Nat.blt _ _) <;> intro hc <;> cases hc)
  · split at hc
    · rename_i he hx hy
      split at hc
      · rename_i hk hz; cases hc
        exact look_ok hp ht hm he hk hz hx hy hr
      · cases hc
    · cases hc
  · exfalso
    unfold cBuiltin at hc
    repeat' split at hc
    all_goals first | (cases hc; done) | skip
    all_goals (revert hc; cases (Nat.beq _ _ && (Nat.beq _ _ && Nat.blt _ _)) <;> intro hc <;> cases hc)

/-- A block is made, and a value that tells of it. -/
def Alc (P : Program) (φ : Pl eqs.gs) (a : Act) (o : Oper) (m : Pt) (x : X) (ob : O) : Prop :=
  ∀ w, ∃ v obj s, (execOp a.eval o).run P w = .ok (.value v) (w.alloc obj) ∧ (∀ φ' : Pl eqs.gs, Ex φ φ' → ObjR φ' (w.alloc obj) w.heap.size s ob) ∧ ∀ φ' : Pl eqs.gs, φ' m = some (w.heap.size, s) → VR φ' x v

theorem objR_new {cs : List X} {vs : Array Value} {e : TypeId} (hc : CR φ cs vs.toList) (w : World) : ∀ φ' : Pl eqs.gs, Ex φ φ' → ObjR φ' (w.alloc (.cells vs e)) w.heap.size vs.size (.cells cs) := fun φ' he => by
  have hl : cs.length = vs.size := by rw [hc.1.1, Array.length_toList]
  refine ⟨vs, e, (0, 0), heap_new w _, .inl rfl, rfl, by omega, ?_⟩
  rw [List.take_of_length_le (by rw [Array.length_toList]; omega)]
  exact hc.mono he

theorem new_ok (ht : TabOk P tab) {e : TypeId} {m : Pt} {zs : List X} {z1 z2 z3 z4 z5} (he : ty tab e = some ⟨z1, z2, z3, z4, some zs, z5⟩) : Alc P φ a ⟨dst, .alloc e, type, pos, after, guard⟩ m (.ptr m 0) (.cells zs) := fun w => by
  obtain ⟨i, u, hti⟩ := ty_ok ht he
  obtain ⟨zv, _, hz1, hz2⟩ := hti.zero (zs := zs) rfl
  refine ⟨.pointer (some ⟨w.heap.size, 0, none⟩), .cells zv.cells e, zv.cells.size, ?_, objR_new (hz1 φ) w, fun φ' h1 => .ptr m 0 _ _ h1⟩
  simp only [execOp]
  refine run_value ?_
  simp [Instr.alloc, hz2, newVar, newRow, Result.andThen]

theorem box_ok (hm : TmR φ t a) {e : TypeId} {x : Operand} {d : D} {m : Pt} {r : X} {ob : O} (hx : cD eqs.gs x = some d) (hr : rBox d t m = some (r, ob)) : Alc P φ a ⟨dst, .box e x, type, pos, after, guard⟩ m r ob := fun w => by
  unfold rBox at hr
  split at hr
  · cases hr
  · rename_i y h1
    split at hr
    · cases hr
    · rename_i l hl
      cases hr
      have h2 := inCells_ok hl (ev_ok hm hx h1)
      refine ⟨.pointer (some ⟨w.heap.size, 0, none⟩), .cells (a.eval x).cells e, (a.eval x).cells.size, ?_, objR_new h2 w, fun φ' h1 => .ptr m 0 _ _ h1⟩
      simp only [execOp]
      refine run_value ?_
      simp [Instr.box, newVar, newRow, Result.andThen]

theorem mkM_ok {e : TypeId} {k : IntKind} {m : Pt} : Alc P φ a ⟨dst, .makeMap e none, type, pos, after, guard⟩ m (.map m) (.map [] k) := fun w => by
  refine ⟨.map (some w.heap.size), .map #[] 0, 0, ?_, fun φ' he => ⟨#[], 0, heap_new w _, rfl, fun i e r h => by simp at h⟩, fun φ' h1 => .map m _ _ h1⟩
  simp only [execOp]
  refine run_value ?_
  simp [Instr.makeMap, Result.andThen]

theorem mkMA_ok {e : TypeId} {ks : List IntKind} {m : Pt} : Alc P φ a ⟨dst, .makeMap e none, type, pos, after, guard⟩ m (.map m) (.mapA [] ks) := fun w => by
  refine ⟨.map (some w.heap.size), .map #[] 0, 0, ?_, fun φ' he => ⟨#[], 0, heap_new w _, rfl, fun i e r h => by simp at h⟩, fun φ' h1 => .map m _ _ h1⟩
  simp only [execOp]
  refine run_value ?_
  simp [Instr.makeMap, Result.andThen]

/-- Zero cells, again and again. -/
theorem range_rep (zc : Array Value) (hz : 0 < zc.size) : ∀ n, (List.range (n * zc.size)).map (fun i => zc[i % zc.size]!) = (List.replicate n zc.toList).flatten := by
  intro n
  induction n with
  | zero => simp
  | succ n ih =>
    have e : (n + 1) * zc.size = zc.size + n * zc.size := by rw [Nat.succ_mul]; omega
    rw [e, List.range_add, List.map_append, List.map_map, List.replicate_succ, List.flatten_cons]
    congr 1
    · apply List.ext_getElem?
      intro i
      by_cases hi : i < zc.size
      · simp [Nat.mod_eq_of_lt hi, hi]
      · have : zc.size ≤ i := by omega
        simp [this]
    · rw [← ih]
      apply List.map_congr_left
      intro i _
      simp

theorem zero_row (ht : TabOk P tab) {e : TypeId} {ti : TI} {i u} (hti : TyR P e ti i u) {zs : List X} (hz : ti.zero = some zs) (hl : zs.length = ti.size) (hp : 0 < ti.size) (n : Nat) :
    ∃ zv, (∀ w, (zeroValue e).run P w = .ok zv w) ∧ ∀ φ : Pl eqs.gs, CR φ (repL n zs) ((Array.range (n * ti.size)).map (zv.cells[· % zv.cells.size]!)).toList := by
  obtain ⟨zv, _, hz1, hz2⟩ := hti.zero hz
  refine ⟨zv, hz2, fun φ => ?_⟩
  have hsz : zv.cells.size = ti.size := by have := (hz1 φ).1.1; rw [hl] at this; rw [this, Array.length_toList]
  have := range_rep zv.cells (by omega) n
  rw [hsz] at this ⊢
  have e1 : ((Array.range (n * ti.size)).map fun i => zv.cells[i % ti.size]!).toList = (List.range (n * ti.size)).map fun i => zv.cells[i % ti.size]! := by simp
  rw [e1, this]
  exact (hz1 φ).rep n

theorem buildS_ok (ht : TabOk P tab) (hm : TmR φ t a) {e : TypeId} {len : Nat} {parts : Array (Nat × Operand)} {zs : List X} {ps : List (Nat × Nat × D)} {m : Pt} {r : X} {ob : O}
    (hc : cBuildS tab eqs e len parts.toList = some (.a (.buildS zs len ps))) (hr : rBuildS zs len ps t m = some (r, ob)) : Alc P φ a ⟨dst, .buildSlice e len parts, type, pos, after, guard⟩ m r ob := fun w => by
  unfold rBuildS at hr
  split at hr
  · cases hr
  · rename_i cs hf
    cases hr
    unfold cBuildS at hc
    split at hc
    · rename_i el _ _ he
      split at hc
      · rename_i size _ _ _ zs' _ hel
        split at hc
        · rename_i l hps
          cases hb : (Nat.ble (len * size) 1000000 && (Nat.beq zs'.length size && Nat.blt 0 size)) with
          | false => rw [hb] at hc; cases hc
          | true =>
            rw [hb] at hc
            cases hc
            simp only [Bool.and_eq_true] at hb
            have hb1 := Nat.le_of_ble_eq_true hb.1
            have hb2 := Nat.eq_of_beq_eq_true hb.2.1
            have hb3 : 0 < size := Nat.le_of_ble_eq_true hb.2.2
            obtain ⟨i, u, hti⟩ := ty_ok ht he
            obtain ⟨i2, u2, ht2⟩ := ty_ok ht hel
            have hu := hti.under
            rw [kind_slice (congrArg TI.kind hti.eq).symm] at hu
            obtain ⟨zv, hz1, hz2⟩ := zero_row ht ht2 (zs := zs) rfl hb2 hb3 len
            have hmap : (parts.map fun p => (p.1, a.eval p.2)).toList = parts.toList.map fun p => (p.1, a.eval p.2) := by simp
            obtain ⟨vs', k1, k2⟩ := fill_ok hm (place' := fun i => some (i * size, size)) (fun i q hq => hq) hps hf (hz2 φ)
            refine ⟨.slice (some ⟨w.heap.size, 0, none⟩) len len, .cells vs' el, vs'.size, ?_, objR_new k2 w, fun φ' h1 => .sl0 m 0 len len _ _ h1 (Nat.le_refl _)⟩
            simp only [execOp]
            refine run_value ?_
            have hs := ht2.size w
            simp only at hs
            simp only [Instr.buildSlice, Sem.run_bind, run_underlying' hu, hs, Result.andThen_ok]
            rw [if_neg (by omega)]
            by_cases h0 : len * size = 0
            · rw [if_pos h0]
              have hv : ((Array.range (len * size)).map fun i => zv.cells[i % zv.cells.size]!) = (Array.range (len * size)).map fun i => (#[] : Array Value)[i % (#[] : Array Value).size]! := by rw [h0]; apply Array.ext <;> simp
              simp only at k1 hv
              rw [hv] at k1
              simp only [Sem.run_bind, Sem.run_pure, Result.andThen_ok, hmap, k1, newRow, run_newObj_alloc]
            · rw [if_neg h0]
              simp only at k1
              simp only [Sem.run_bind, Sem.run_pure, Result.andThen_ok, hz1, hmap, k1, newRow, run_newObj_alloc]
        · cases hc
      · cases hc
    · cases hc

theorem mkS_ok (ht : TabOk P tab) (hm : TmR φ t a) {e el : TypeId} {x y : Operand} {dx dy : D} {zs : List X} {size bytes : Nat} {m : Pt} {r : X} {ob : O} {z1 z2 z3 z4 z5 y3 y4 y5} (he : ty tab e = some ⟨z1, z2, z3, .slice el, z4, z5⟩) (hel : ty tab el = some ⟨size, bytes, y3, y4, some zs, y5⟩)
    (hb2 : zs.length = size) (hb3 : 0 < size) (hx : cD eqs.gs x = some dx) (hy : cD eqs.gs y = some dy) (hr : rMkS zs bytes dx dy t m = some (r, ob)) : Alc P φ a ⟨dst, .makeSlice e x y, type, pos, after, guard⟩ m r ob := fun w => by
  unfold rMkS at hr
  split at hr
  · rename_i vx vy h1 h2
    split at hr
    · rename_i l c h3 h4
      cases hb : (Nat.ble l c && (Nat.ble c 1000000 && Nat.ble (c * bytes) 1000000000)) with
      | false => rw [hb] at hr; cases hr
      | true =>
        rw [hb] at hr
        cases hr
        simp only [Bool.and_eq_true] at hb
        have hlc := Nat.le_of_ble_eq_true hb.1
        have hcs := Nat.le_of_ble_eq_true hb.2.1
        have hcb := Nat.le_of_ble_eq_true hb.2.2
        obtain ⟨k1, g1⟩ := asI_ok h3 (ev_ok hm hx h1)
        obtain ⟨k2, g2⟩ := asI_ok h4 (ev_ok hm hy h2)
        obtain ⟨i, u, hti⟩ := ty_ok ht he
        obtain ⟨i2, u2, ht2⟩ := ty_ok ht hel
        have hu := hti.under
        rw [kind_slice (congrArg TI.kind hti.eq).symm] at hu
        obtain ⟨zv, hz1, hz2⟩ := zero_row ht ht2 (zs := zs) rfl hb2 hb3 c
        have hby : i2.bytes = bytes := (congrArg TI.bytes ht2.eq).symm
        have hsz : i2.size = size := (congrArg TI.size ht2.eq).symm
        have hcb' : (i2.bytes : Int) * (c : Int) ≤ 281474976710656 := by
          have : (i2.bytes : Int) * (c : Int) = ((c * bytes : Nat) : Int) := by rw [hby, Nat.mul_comm]; simp
          rw [this]; omega
        obtain ⟨zv', hzi, _⟩ := ht2.zero (zs := zs) rfl
        have hzz : zv' = zv := by
          have h5 : (zeroValue el).run P w = .ok zv' w := by simp [zeroValue, typeInfo, ht2.info, hzi]
          rw [hz1 w] at h5
          cases h5; rfl
        have hrun := run_make (P := P) w e el i2 zv' hu ht2.info hzi k1 k2 l c (by omega) (by omega) hcb' (by omega)
        simp only [Int.toNat_natCast, hsz, madeCells, hzz] at hrun
        refine ⟨.slice (some ⟨w.heap.size, 0, none⟩) l c, .cells _ el, _, ?_, objR_new (hz2 φ) w, fun φ' h1 => .sl0 m 0 l c _ _ h1 hlc⟩
        simp only [execOp, g1, g2]
        exact run_value hrun
    · cases hr
  · cases hr
end
end Go.Ex

/- Operations that may change what was there. Nothing here speaks of one program. -/
set_option linter.unusedVariables false
set_option linter.unusedSimpArgs false
namespace Go.Ex
section
variable {eqs : Env} {φ : Pl eqs.gs} {t : T X} {a : Act} {P : Program} {tab : Tab}  {dst : Option Tmp} {type : TypeId} {pos : String} {after : Array Edge} {guard : Option (Nat × Bool)} {h : H} {n : Pt} {w : World}

theorem opA0_ok (ht : TabOk P tab) (hm : TmR φ t a) {op : Op} {i : IA} {m : Pt} {r : X} {ob : O} (hc : cOp0 tab eqs op = some (.a i)) (hr : opA i t m = some (r, ob)) : Alc P φ a ⟨dst, op, type, pos, after, guard⟩ m r ob := by
  unfold cOp0 at hc
  split at hc
  all_goals first
    | (split at hc <;> cases hc; done)
    | (repeat' split at hc
       all_goals cases hc
       done)
    | skip
  · split at hc
    · rename_i he; cases hc; cases hr; exact new_ok ht he
    · cases hc
  · split at hc
    · rename_i hx; cases hc; exact box_ok hm hx hr
    · cases hc
  · exfalso
    unfold cBuild at hc
    repeat' split at hc
    all_goals first | (cases hc; done) | skip
    all_goals (revert hc; cases (allTy tab _) <;> intro hc <;> cases hc)
  · have : ∃ zs len l, i = .buildS zs len l := by
      unfold cBuildS at hc
      repeat' split at hc
      all_goals first | (cases hc; done) | skip
      all_goals (revert hc; cases (Nat.ble _ _ && (Nat.beq _ _ && Nat.blt _ _)) <;> intro hc <;> cases hc; exact ⟨_, _, _, rfl⟩)
    obtain ⟨zs, len, l, rfl⟩ := this
    rename_i e len' ps
    have : len = len' := by
      unfold cBuildS at hc
      repeat' split at hc
      all_goals first | (cases hc; done) | skip
      all_goals (revert hc; cases (Nat.ble _ _ && (Nat.beq _ _ && Nat.blt _ _)) <;> intro hc <;> cases hc; rfl)
    subst this
    exact buildS_ok ht hm hc hr
  · split at hc
    · split at hc
      · cases hc; cases hr; exact mkM_ok
      · split at hc
        · cases hc; cases hr; exact mkMA_ok
        · cases hc
      · cases hc
    · cases hc
  · split at hc
    · rename_i he hx hy
      split at hc
      · rename_i size bytes _ _ zs _ hel
        cases hb : (Nat.beq zs.length size && Nat.blt 0 size) with
        | false => rw [hb] at hc; cases hc
        | true =>
          rw [hb] at hc
          cases hc
          simp only [Bool.and_eq_true] at hb
          exact mkS_ok ht hm he hel (Nat.eq_of_beq_eq_true hb.1) (Nat.le_of_ble_eq_true hb.2) hx hy hr
      · cases hc
    · cases hc
  · exfalso
    unfold cSlice at hc
    repeat' split at hc
    all_goals cases hc
  · repeat' split at hc
    all_goals first | (cases hc; done) | skip
    all_goals (revert hc; cases (Nat.blt _ _) <;> intro hc <;> cases hc)
  · exfalso
    unfold cBuiltin at hc
    repeat' split at hc
    all_goals first | (cases hc; done) | skip
    all_goals (revert hc; cases (Nat.beq _ _ && (Nat.beq _ _ && Nat.blt _ _)) <;> intro hc <;> cases hc)

/-- The operation ends in a state that h', n' tell, with a value that x tells. -/
def Wr (P : Program) (φ : Pl eqs.gs) (a : Act) (o : Oper) (h : H) (n : Pt) (w : World) (x : X) (h' : H) (n' : Pt) : Prop :=
  ∀ (K : Act → World → Prop) (Q : Exit → Act → World → Prop), (∀ v w' φ', Step φ h n w φ' h' n' w' → VR φ' x v → K (a.put o.dst v) w') → o.wp P a w K Q

theorem splice_take (vs nv : List Value) (off m : Nat) (h : off + nv.length ≤ m) : (vs.take off ++ nv ++ vs.drop (off + nv.length)).take m = (vs.take m).take off ++ nv ++ (vs.take m).drop (off + nv.length) ∨ vs.length < off := by
  by_cases hlt : vs.length < off
  · exact .inr hlt
  · refine .inl ?_
    rw [List.take_append, List.take_append, List.take_take, List.take_take]
    have e1 : min m off = off := by omega
    have e2 : min off m = off := by omega
    rw [e1, e2, List.length_append, List.length_take]
    have e3 : min off vs.length = off := by omega
    rw [e3, List.take_of_length_le (l := nv) (by omega), List.drop_take]

theorem run_storeCells_m (P : Program) (g o : Nat) (t : TypeId) (fz : Nat × Nat) : ∀ (vs : List Value) (i : Nat) (cur : Array Value) (w : World), w.heap[g]? = some (.cells cur t fz) → (fz.2 = 0 ∨ cur.size ≤ fz.1) → o + i + vs.length ≤ cur.size → (∀ v ∈ vs, v.oneCell' = true) →
    (storeCells ⟨g, o, none⟩ vs i).run P w = .ok () (w.setRow g (cur.toList.take (o + i) ++ vs ++ cur.toList.drop (o + i + vs.length)).toArray)
  | [], i, cur, w, hg, _, _, _ => by
    simp only [storeCells, List.append_nil, List.length_nil, Nat.add_zero, List.take_append_drop, Array.toArray_toList]
    rw [setRow_self w g cur t fz hg]
    rfl
  | v :: rest, i, cur, w, hg, hfz, hl, h1 => by
    have hi : o + i < cur.size := by simp at hl; omega
    have hadd : (⟨g, o, none⟩ : Addr).add i = ⟨g, o + i, none⟩ := by unfold Addr.add; split <;> simp_all
    have hcell : w.cell? ⟨g, o + i, none⟩ = some cur[o + i] := by simp [World.cell?, hg, hi]
    have hfro : w.frozen? ⟨g, o + i, none⟩ = false := by
      obtain ⟨lo, hi'⟩ := fz
      simp only [World.frozen?, hg, Bool.and_eq_false_iff, decide_eq_false_iff_not]
      rcases hfz with h | h
      · right; simp only at h; omega
      · left; simp only at h; omega
    have hst : (store ((⟨g, o, none⟩ : Addr).add i) v).run P w = .ok () (w.setRow g (cur.setIfInBounds (o + i) v)) := by
      rw [hadd, run_store P w _ v _ (h1 v (by simp)), hcell]
      simp [hfro, setCell_eq_setRow w g (o + i) cur t fz v hg]
    have ih := run_storeCells_m P g o t fz rest (i + 1) (cur.setIfInBounds (o + i) v) (w.setRow g (cur.setIfInBounds (o + i) v)) (setRow_heap w g cur _ t _ hg) (by simpa using hfz) (by simp at hl ⊢; omega) (fun x hx => h1 x (by simp [hx]))
    simp only [storeCells, Sem.run_bind, hst, Result.andThen_ok, ih, setRow_setRow]
    congr 3
    have e := list_seg_step cur.toList (o + i) v rest (by simp at hl ⊢; omega)
    simpa [Array.toList_setIfInBounds, Nat.add_assoc] using e

theorem putX_ok (hp : Hp h n w φ) {id : Pt} {off b s : Nat} {l : List X} {nv : List Value} {r x : X} {h' : H} {n' : Pt} (hb : φ id = some (b, s)) (hl : CR φ l nv) (hr : putX h n id off l r = some (x, h', n')) :
    x = r ∧ n' = n ∧ ∃ w', (storeCells ⟨b, off, none⟩ nv).run P w = .ok () w' ∧ Step φ h n w φ h' n w' := by
  unfold putX at hr
  split at hr
  · rename_i cs h1
    split at hr
    · rename_i cs' h2
      cases hr
      obtain ⟨vs, ty, fz, g1, g0, g2, g3, g4⟩ := hp.obj id b s _ hb h1
      obtain ⟨k1, k2⟩ := lput_ok h2 g4 hl
      have k1' : off + nv.length ≤ min cs.length vs.size := by simpa using k1
      have hl1 : off + nv.length ≤ cs.length := by omega
      have hst := run_storeCells_m P b off ty fz nv 0 vs w g1 g0 (by omega) hl.2
      simp only [Nat.add_zero] at hst
      have hlen : cs'.length = cs.length := by
        have := k2.1.1
        simp only [List.length_append, List.length_take, List.length_drop, Array.length_toList] at this
        omega
      refine ⟨rfl, rfl, _, hst, Step.change hp hb (by rw [h1]; rfl) rfl rfl rfl (by simp [World.setRow]) (fun k hk => setRow_other w b k _ hk) ?_⟩
      have hsz2 : (vs.toList.take off ++ nv ++ vs.toList.drop (off + nv.length)).toArray.size = vs.size := by
        simp only [List.size_toArray, List.length_append, List.length_take, List.length_drop, Array.length_toList]; omega
      refine ⟨_, ty, fz, setRow_heap w b vs _ ty _ g1, by rw [hsz2]; exact g0, ?_, by omega, ?_⟩
      · simp only [List.size_toArray, List.length_append, List.length_take, List.length_drop, Array.length_toList]; omega
      · rw [hlen]
        rcases splice_take vs.toList nv off cs.length hl1 with h3 | h3
        · simp only [h3]; exact k2
        · rw [Array.length_toList] at h3; omega
    · cases hr
  · cases hr

theorem store_ok (hp : Hp h n w φ) (ht : TabOk P tab) (hm : TmR φ t a) {call : CallT} {e : TypeId} {x y : Operand} {dx dy : D} {ti : TI} {r : X} {h' : H} {n' : Pt} (he : ty tab e = some ti) (hx : cD eqs.gs x = some dx) (hy : cD eqs.gs y = some dy)
    (hr : rStore ti.size dx dy call t h n = some (r, h', n')) : Wr P φ a ⟨dst, .store e x y, type, pos, after, guard⟩ h n w r h' n' := fun K Q hK => by
  unfold rStore at hr
  split at hr
  · rename_i id off v h1 h2
    split at hr
    · rename_i l hl
      cases hb : Nat.beq l.length ti.size with
      | false => rw [hb] at hr; cases hr
      | true =>
        rw [hb] at hr
        have hsz := Nat.eq_of_beq_eq_true hb
        obtain ⟨b, s, h3, h4⟩ := inv_ptr (ev_ok hm hx h1)
        have h5 := inCells_ok hl (ev_ok hm hy h2)
        obtain ⟨rfl, rfl, w', g1, g2⟩ := putX_ok (P := P) hp h3 h5 hr
        obtain ⟨i, u, hti⟩ := ty_ok ht he
        have hcs : (a.eval y).cells.size = ti.size := by rw [← hsz, h5.1.1, Array.length_toList]
        have hrun : (execOp a.eval ⟨dst, .store e x y, type, pos, after, guard⟩).run P w = .ok .skip w' := by
          simp [execOp, h4, Instr.storeAt, Instr.sureAddr, storeVar, hti.size, Result.andThen, hcs, g1]
        unfold Oper.wp
        rw [hrun, Oper.upon_skip]
        exact hK _ _ _ g2 (.tup [] [] rfl (fun i c v h => by simp at h))
    · cases hr
  · cases hr

theorem mset_ok {kk k : IntKind} {m : Int} {x : X} {v : Value} (hv : VR φ x v) : ∀ {es : List (Int × X)} {rl : List MapEntry} (i0 : Nat), EntR φ k es rl →
    (Instr.findNow (.int kk) (.int k m) rl i0 = some none ∧ ∀ b, EntR φ k (mset m x es) (rl ++ [{ key := .int k m, val := v, born := b }])) ∨
    (∃ j u e, Instr.findNow (.int kk) (.int k m) rl i0 = some (some (i0 + j, u)) ∧ rl[j]? = some e ∧ e.key = .int k m ∧ EntR φ k (mset m x es) (rl.set j { e with key := .int k m, val := v })) := by
  intro es
  induction es with
  | nil =>
    intro rl i0 h
    have : rl = [] := List.eq_nil_of_length_eq_zero h.1
    subst this
    refine .inl ⟨rfl, fun b => ⟨rfl, fun i e r h1 h2 => ?_⟩⟩
    cases i with
    | zero => simp [mset] at h1 h2; subst h1; subst h2; exact ⟨rfl, hv⟩
    | succ i => simp [mset] at h1
  | cons e es ih =>
    intro rl i0 h
    cases rl with
    | nil => have := h.1; simp at this
    | cons r rl =>
      obtain ⟨h1, h2⟩ := h.2 0 e r rfl rfl
      by_cases hk : m = e.1
      · refine .inr ⟨0, r.val, r, by simp [Instr.findNow, Instr.sameNow, h1, hk], rfl, by rw [h1, hk], ?_⟩
        have : mset m x (e :: es) = (m, x) :: es := by simp [mset, hk]
        rw [this]
        refine ⟨by simpa using h.1, fun i e' r' g1 g2 => ?_⟩
        cases i with
        | zero => simp at g1 g2; subst g1; subst g2; exact ⟨rfl, hv⟩
        | succ i => exact h.2 (i + 1) e' r' (by simpa using g1) (by simpa using g2)
      · have hne : (m == e.1) = false := by simpa using hk
        have hms : mset m x (e :: es) = e :: mset m x es := by simp [mset, hk]
        rw [hms]
        rcases ih (i0 + 1) h.tail with ⟨g1, g2⟩ | ⟨j, u, en, g1, g2, g3, g4⟩
        · refine .inl ⟨by simp [Instr.findNow, Instr.sameNow, h1, hne, g1], fun b => ⟨by have := (g2 b).1; simpa using this, fun i e' r' k1 k2 => ?_⟩⟩
          cases i with
          | zero => simp at k1 k2; subst k1; subst k2; exact ⟨h1, h2⟩
          | succ i => exact (g2 b).2 i e' r' (by simpa using k1) (by simpa using k2)
        · refine .inr ⟨j + 1, u, en, ?_, by simpa using g2, g3, by have := g4.1; simpa using this, fun i e' r' k1 k2 => ?_⟩
          · simp [Instr.findNow, Instr.sameNow, h1, hne, g1]; omega
          · cases i with
            | zero => simp at k1 k2; subst k1; subst k2; exact ⟨h1, h2⟩
            | succ i => exact g4.2 i e' r' (by simpa using k1) (by simpa using k2)

theorem upd_ok (hp : Hp h n w φ) (ht : TabOk P tab) (hm : TmR φ t a) {call : CallT} {e kt el : TypeId} {x y z : Operand} {dx dy dz : D} {r : X} {h' : H} {n' : Pt} {z1 z2 z3 z4 z5 y1 y2 y3 y4 y5 kk} (he : ty tab e = some ⟨z1, z2, z3, .map kt el, z4, z5⟩) (hk : ty tab kt = some ⟨y1, y2, y3, .int kk, y4, y5⟩)
    (hx : cD eqs.gs x = some dx) (hy : cD eqs.gs y = some dy) (hz : cD eqs.gs z = some dz) (hr : rUpd dx dy dz call t h n = some (r, h', n')) : Wr P φ a ⟨dst, .mapUpdate e x y z, type, pos, after, guard⟩ h n w r h' n' := fun K Q hK => by
  obtain ⟨i1, u1, hti1⟩ := ty_ok ht he
  obtain ⟨i2, u2, hti2⟩ := ty_ok ht hk
  have hu1 := hti1.under
  have hu2 := hti2.under
  rw [kind_map (congrArg TI.kind hti1.eq).symm] at hu1
  rw [kind_int (congrArg TI.kind hti2.eq).symm] at hu2
  unfold rUpd at hr
  split at hr
  · rename_i id ki km v h1 h2 h2'
    split at hr
    · rename_i es kj h3
      by_cases hkk : ki = kj
      · subst hkk
        simp only [decide_true, cond_true, Option.some.injEq, Prod.mk.injEq] at hr
        obtain ⟨rfl, rfl, rfl⟩ := hr
        obtain ⟨b, s, h4, h5⟩ := inv_map (ev_ok hm hx h1)
        have h6 := inv_int (ev_ok hm hy h2)
        have h7 := ev_ok hm hz h2'
        obtain ⟨res, clock, g1, g2, g3⟩ := hp.obj id b s _ h4 h3
        have hE : EntR φ ki es res.toList := ⟨by simpa using g2, fun i e r k1 k2 => g3 i e r k1 (by simpa using k2)⟩
        have hlt : b < w.heap.size := hp.lt id b s h4
        have hobj : (getObj b).run P w = .ok (.map res clock) w := by simp [getObj, Sem.run, g1]
        have hset : ∀ o, (setObj b o).run P w = .ok () { w with heap := w.heap.setIfInBounds b o } := fun o => by simp [setObj, Sem.run, g1]
        have hstep : ∀ (res' : Array MapEntry) (clock' : Nat), EntR φ ki (mset km v es) res'.toList → Step φ h n w φ (h.put id (.map (mset km v es) ki)) n { w with heap := w.heap.setIfInBounds b (.map res' clock') } := fun res' clock' hE' => by
          refine Step.change hp h4 (by rw [h3]; rfl) rfl rfl rfl (by simp) (fun k hk => by simp [Array.getElem?_setIfInBounds, Ne.symm hk]) ?_
          exact ⟨res', clock', by simp [Array.getElem?_setIfInBounds, hlt], by simpa using hE'.1, fun i e r k1 k2 => hE'.2 i e r k1 (by simpa using k2)⟩
        rcases mset_ok (kk := kk) (m := km) h7 0 hE with ⟨k1, k2⟩ | ⟨j, u, en, k1, k2, k3, k4⟩
        · have hrun : (execOp a.eval ⟨dst, .mapUpdate e x y z, type, pos, after, guard⟩).run P w = .ok .skip { w with heap := w.heap.setIfInBounds b (.map (res.push { key := .int ki km, val := a.eval z, born := clock }) (clock + 1)) } := by
            simp [execOp, h5, h6, Instr.mapUpdate, run_underlying' hu1, hobj, run_checkKey _ hu2, Instr.findKey, run_underlying' hu2, k1, hset, Result.andThen]
          unfold Oper.wp
          rw [hrun, Oper.upon_skip]
          exact hK _ _ _ (hstep _ _ (by simpa using k2 clock)) (.tup [] [] rfl (fun i c v h => by simp at h))
        · have k2' : res[j]? = some en := by simpa using k2
          have hsame : Instr.sameBits 10000 (.int ki km) (.int ki km) = true := by
            have : ∀ d, Instr.sameBits d (.int ki km) (.int ki km) = true := fun d => by unfold Instr.sameBits; simp
            exact this _
          have hrun : (execOp a.eval ⟨dst, .mapUpdate e x y z, type, pos, after, guard⟩).run P w = .ok .skip { w with heap := w.heap.setIfInBounds b (.map (res.modify j fun e => { e with key := .int ki km, val := a.eval z }) clock) } := by
            rw [Nat.zero_add] at k1
            simp [execOp, h5, h6, Instr.mapUpdate, run_underlying' hu1, hobj, run_checkKey _ hu2, Instr.findKey, run_underlying' hu2, k1, hset, Result.andThen, k2', k3, Instr.keyThatStays, hsame]
          unfold Oper.wp
          rw [hrun, Oper.upon_skip]
          refine hK _ _ _ (hstep _ _ ?_) (.tup [] [] rfl (fun i c v h => by simp at h))
          have hjl : j < res.size := (Array.getElem?_eq_some_iff.1 k2').1
          have : (res.modify j fun e => { e with key := .int ki km, val := a.eval z }).toList = res.toList.set j { en with key := .int ki km, val := a.eval z } := by
            apply List.ext_getElem?
            intro q
            rw [Array.getElem?_toList, Array.getElem?_modify, List.getElem?_set]
            by_cases hq : j = q
            · subst hq
              have hen : res[j] = en := (Array.getElem?_eq_some_iff.1 k2').2
              simp [hjl, hen]
            · simp [hq]
          rw [this]; exact k4
      · simp [hkk] at hr
    · cases hr
  · cases hr
end
end Go.Ex

/- Calls, append and copy; all operations that may change what was there. Nothing here speaks of one program. -/
set_option linter.unusedVariables false
set_option linter.unusedSimpArgs false
namespace Go.Ex

/-- The function f has a body. -/
def Body (P : Program) (f : FuncId) : Prop := ∀ (args : Array Value) (w : World), (callFunc f args).run P w = .ok (.enter f args) w

/-- What calls do by hand they do in the model, in whatever memory in which that of the run by hand lies. -/
def CallOk (G : GEnv) (P : Program) (call : CallT) : Prop := ∀ f args h n x h' n', call f args h n = some (x, h', n') → Body P f ∧
  ∀ w (φ : Pl G) vals, Hp h n w φ → VRL φ args vals → Calls P f vals.toArray w fun e w' => ∃ v, ∃ φ' : Pl G, e = .returned v ∧ Step φ h n w φ' h' n' w' ∧ VR φ' x v

theorem Step.del {G : GEnv} {φ : Pl G} {h n w} (hp : Hp h n w φ) (id : Pt) : Step φ h n w φ (h.del id) n w := by
  have hal : ∀ id', ((h.del id).get id').isSome = true → (h.get id').isSome = true := fun id' h1 => by
    rw [get_del] at h1
    split at h1
    · cases h1
    · exact h1
  have hmine : ∀ b, Live φ (h.del id) b → w.heap.size ≤ b ∨ Live φ h b := fun b ⟨id', s, h1, h2⟩ => .inr ⟨id', s, h1, hal _ h2⟩
  refine ⟨Ex.refl _, fun _ _ h => .inl h, Nat.le_refl _, ⟨hp.lt, hp.fresh, fun id' o' h1 => (by obtain ⟨o2, h2⟩ := Option.isSome_iff_exists.1 (hal id' (by rw [h1]; rfl)); exact hp.dom id' o2 h2), fun id id' b s s' h1 h2 h3 h4 => hp.inj id id' b s s' h1 h2 (hal _ h3) (hal _ h4), fun id' b s o h1 h2 => ?_, Ro.of hp.ro (Kept.refl _ _) hmine rfl⟩, Kept.refl _ _, hmine, fun id' o' h1 => .inl (hal id' (by rw [h1]; rfl))⟩
  rw [get_del] at h2
  split at h2
  · cases h2
  · exact hp.obj id' b s o h1 h2

/-- A block goes on under another number. -/
theorem Step.move {G : GEnv} {φ : Pl G} {h n w} (hp : Hp h n w φ) {id : Pt} {b s : Nat} (hb : φ id = some (b, s)) (hl : (h.get id).isSome = true) {o : O} {w' : World}
    (hos : w'.os = w.os) (htape : w'.tape = w.tape) (hout : w'.output = w.output) (hsize : w'.heap.size = w.heap.size) (hother : ∀ k, k ≠ b → w'.heap[k]? = w.heap[k]?)
    (ho : ∀ φ' : Pl G, Ex φ φ' → ObjR φ' w' b s o) : Step φ h n w (addPl φ n (b, s)) ((h.del id).put n o) n.inc w' := by
  have hn := hp.none (Nat.le_refl _)
  have hex : Ex φ (addPl φ n (b, s)) := addPl_ex hn
  have hidn : id ≠ n := fun e => by subst e; rw [hn] at hb; cases hb
  have hcase : ∀ id' p, addPl φ n (b, s) id' = some p → (id' = n ∧ p = (b, s)) ∨ (id' ≠ n ∧ φ id' = some p) := fun id' p h1 => by
    rw [addPl_eq] at h1
    split at h1
    · rename_i h2; exact .inl ⟨h2, by cases h1; rfl⟩
    · rename_i h2; exact .inr ⟨h2, h1⟩
  have hal : ∀ id', id' ≠ n → (((h.del id).put n o).get id').isSome = true → id' ≠ id ∧ (h.get id').isSome = true := fun id' h1 h2 => by
    rw [get_put, if_neg h1, get_del] at h2
    split at h2
    · cases h2
    · rename_i h3; exact ⟨h3, h2⟩
  have hkept : Kept w (Live φ h) w' := ⟨hos, htape, hout, by omega, fun k hk hlive => hother k fun e => hlive ⟨id, s, by rw [e]; exact hb, hl⟩⟩
  have hmine : ∀ b', Live (addPl φ n (b, s)) ((h.del id).put n o) b' → w.heap.size ≤ b' ∨ Live φ h b' := fun b' ⟨id', s', h1, h2⟩ => by
    rcases hcase id' _ h1 with ⟨g1, g2⟩ | ⟨g1, g2⟩
    · cases g2; exact .inr ⟨id, s, hb, hl⟩
    · exact .inr ⟨id', s', g2, (hal id' g1 h2).2⟩
  refine ⟨hex, fun id' p h1 => ?_, by rw [num_inc]; omega, ⟨fun id' b' s' h1 => ?_, fun id' p h1 => ?_, fun id' o' h1 => ?_, fun id1 id2 b' s1 s2 h1 h2 h3 h4 => ?_, fun id' b' s' o' h1 h2 => ?_, Ro.of hp.ro hkept hmine rfl⟩, hkept, hmine, fun id' o' h1 => ?_⟩
  · rcases hcase id' p h1 with ⟨h2, _⟩ | ⟨_, h2⟩
    · subst h2; exact .inr (Nat.le_refl _)
    · exact .inl h2
  · rw [hsize]
    rcases hcase id' _ h1 with ⟨_, h2⟩ | ⟨_, h2⟩
    · cases h2; exact hp.lt id _ _ hb
    · exact hp.lt id' b' s' h2
  · rw [num_inc]
    rcases hcase id' p h1 with ⟨h2, _⟩ | ⟨_, h2⟩
    · subst h2; omega
    · have := hp.fresh id' p h2; omega
  · rw [num_inc]
    by_cases h2 : id' = n
    · subst h2; omega
    · obtain ⟨o2, h3⟩ := Option.isSome_iff_exists.1 (hal id' h2 (by rw [h1]; rfl)).2
      have := hp.dom id' o2 h3; omega
  · rcases hcase id1 _ h1 with ⟨g1, g2⟩ | ⟨g1, g2⟩
    · rcases hcase id2 _ h2 with ⟨g3, g4⟩ | ⟨g3, g4⟩
      · rw [g1, g3]
      · cases g2
        obtain ⟨k1, k2⟩ := hal id2 g3 h4
        exact absurd (hp.inj id2 id b s2 s g4 hb k2 hl) k1
    · obtain ⟨k1, k2⟩ := hal id1 g1 h3
      rcases hcase id2 _ h2 with ⟨g3, g4⟩ | ⟨g3, g4⟩
      · cases g4
        exact absurd (hp.inj id1 id b s1 s g2 hb k2 hl) k1
      · exact hp.inj id1 id2 b' s1 s2 g2 g4 k2 (hal id2 g3 h4).2
  · rcases hcase id' _ h1 with ⟨g1, g2⟩ | ⟨g1, g2⟩
    · subst g1; cases g2
      rw [get_put, if_pos rfl] at h2
      cases h2
      exact ho _ hex
    · rw [get_put, if_neg g1, get_del] at h2
      split at h2
      · cases h2
      · rename_i g3
        have hne : b' ≠ b := fun e => g3 (by subst e; exact hp.inj id' id b' s' s g2 hb (by rw [h2]; rfl) hl)
        exact (hp.obj id' b' s' o' g2 h2).mono hex (hother b' hne)
  · by_cases h2 : id' = n
    · subst h2; exact .inr (Nat.le_refl _)
    · exact .inl (hal id' h2 (by rw [h1]; rfl)).2

section
variable {eqs : Env} {φ : Pl eqs.gs} {t : T X} {a : Act} {P : Program} {tab : Tab}  {dst : Option Tmp} {type : TypeId} {pos : String} {after : Array Edge} {guard : Option (Nat × Bool)} {h : H} {n : Pt} {w : World}

theorem call_ok (hp : Hp h n w φ) (hm : TmR φ t a) {call : CallT} (hcall : CallOk eqs.gs P call) {f : FuncId} {args : Array Operand} {tys : Array TypeId} {ds : List D} {r : X} {h' : H} {n' : Pt} (hc : cDL eqs.gs args.toList = some ds)
    (hr : rCall f ds call t h n = some (r, h', n')) : Wr P φ a ⟨dst, .call ⟨.value (.func f), args, tys⟩, type, pos, after, guard⟩ h n w r h' n' := fun K Q hK => by
  unfold rCall at hr
  split at hr
  · rename_i xs h1
    have hvals := evL_ok hm hc h1
    obtain ⟨hb, hcl⟩ := hcall f xs h n r h' n' hr
    have hrun : (execOp a.eval ⟨dst, .call ⟨.value (.func f), args, tys⟩, type, pos, after, guard⟩).run P w = .ok (.enter f (args.map a.eval)) w := by
      simp [execOp, resolve, Deferred.ofValue, Act.eval, invoke]
      exact hb _ _
    unfold Oper.wp
    rw [hrun, Oper.upon_enter]
    have h2 := hcl w φ (args.toList.map a.eval) hp hvals
    have harr : (args.toList.map a.eval).toArray = args.map a.eval := by apply Array.ext'; simp
    rw [harr] at h2
    refine h2.mono fun e w' ⟨v, φ', he, hs, hv⟩ => ?_
    subst he
    exact hK v w' φ' hs hv
  · cases hr

theorem callv_ok (hp : Hp h n w φ) (hm : TmR φ t a) {call : CallT} (hcall : CallOk eqs.gs P call) {f : Operand} {args : Array Operand} {tys : Array TypeId} {d : D} {ds : List D} {r : X} {h' : H} {n' : Pt} (hf : cD eqs.gs f = some d) (hc : cDL eqs.gs args.toList = some ds)
    (hr : rCallv d ds call t h n = some (r, h', n')) : Wr P φ a ⟨dst, .call ⟨.value f, args, tys⟩, type, pos, after, guard⟩ h n w r h' n' := fun K Q hK => by
  unfold rCallv at hr
  split at hr
  · rename_i g caps xs h0 h1
    have hvals := evL_ok hm hc h1
    obtain ⟨vs, h3, h4⟩ := inv_fn (ev_ok hm hf h0)
    obtain ⟨hb, hcl⟩ := hcall g (xs ++ caps) h n r h' n' hr
    have hrun : (execOp a.eval ⟨dst, .call ⟨.value f, args, tys⟩, type, pos, after, guard⟩).run P w = .ok (.enter g (args.map a.eval ++ vs.toArray)) w := by
      simp [execOp, resolve, Deferred.ofValue, h4, invoke]
      exact hb _ _
    unfold Oper.wp
    rw [hrun, Oper.upon_enter]
    have h2 := hcl w φ (args.toList.map a.eval ++ vs) hp (hvals.append h3)
    have harr : (args.toList.map a.eval ++ vs).toArray = args.map a.eval ++ vs.toArray := by apply Array.ext'; simp
    rw [harr] at h2
    refine h2.mono fun e w' ⟨v, φ', he, hs, hv⟩ => ?_
    subst he
    exact hK v w' φ' hs hv
  · rename_i g first caps xs h0 h1
    have hvals := evL_ok hm hc h1
    obtain ⟨us, vs, h3', h3, h4⟩ := inv_fb (ev_ok hm hf h0)
    obtain ⟨hb, hcl⟩ := hcall g (first ++ xs ++ caps) h n r h' n' hr
    have hrun : (execOp a.eval ⟨dst, .call ⟨.value f, args, tys⟩, type, pos, after, guard⟩).run P w = .ok (.enter g (us.toArray ++ args.map a.eval ++ vs.toArray)) w := by
      simp only [execOp, resolve, Deferred.ofValue, h4, invoke, Sem.run_bind, Sem.run_pure, Result.andThen_ok]
      exact hb _ _
    unfold Oper.wp
    rw [hrun, Oper.upon_enter]
    have h2 := hcl w φ (us ++ args.toList.map a.eval ++ vs) hp ((h3'.append hvals).append h3)
    have harr : (us ++ args.toList.map a.eval ++ vs).toArray = us.toArray ++ args.map a.eval ++ vs.toArray := by apply Array.ext'; simp
    rw [harr] at h2
    refine h2.mono fun e w' ⟨v, φ', he, hs, hv⟩ => ?_
    subst he
    exact hK v w' φ' hs hv
  · cases hr

/-- All cells of a slice that nobody changes. -/
theorem rs_row (hr : Ro φ h w) {z b off : Nat} {vs : Nat → Nat → Value} : ∀ {es : List (List X)}, (∀ e ∈ es, e.length = z) →
    (∀ (i : Nat) e (j : Nat) c, es[i]? = some e → e[j]? = some c → φ.W.cell? ⟨b, off + (i * z + j), none⟩ = some (vs i j) ∧ (vs i j).oneCell' = true) →
    (∀ (i : Nat) e (j : Nat) c, es[i]? = some e → e[j]? = some c → VR φ c (vs i j)) →
    ∃ us : List Value, us.length = es.length * z ∧ CR φ es.flatten us ∧ ∀ (j : Nat) u, us[j]? = some u → w.cell? ((⟨b, off, none⟩ : Addr).add j) = some u := by
  intro es
  induction es generalizing off vs with
  | nil => intro _ _ _; exact ⟨[], by simp, ⟨VRL.nil, fun v hv => by cases hv⟩, fun j u hj => by simp at hj⟩
  | cons e es ih =>
    intro hz hc hv
    have he := hz e (List.mem_cons_self ..)
    obtain ⟨us, g1, g2, g3⟩ := ih (off := off + z) (vs := fun i j => vs (i + 1) j) (fun e he => hz e (List.mem_cons_of_mem _ he)) (fun i e' j c h1 h2 => by
      have := hc (i + 1) e' j c (by simpa using h1) h2
      rw [Nat.succ_mul] at this
      rw [show off + z + (i * z + j) = off + (i * z + z + j) by omega]
      exact this) (fun i e' j c h1 h2 => hv (i + 1) e' j c (by simpa using h1) h2)
    obtain ⟨ur, k1, k2, k3⟩ := rp_row (w := w) hr (cs := e) (b := b) (off := off) (vs := vs 0) (fun j c hj => by have := hc 0 e j c rfl hj; simpa using this) (fun j c hj => hv 0 e j c rfl hj) (m := z) (l := e) (by
      unfold lgetL
      rw [show Nat.ble (0 + z) e.length = true from Nat.ble_eq_true_of_le (by omega)]
      simp [← he])
    refine ⟨ur ++ us, by rw [List.length_append, k1, g1, List.length_cons, Nat.succ_mul]; omega, by rw [List.flatten_cons]; exact k2.append g2, fun j u hj => ?_⟩
    by_cases hjz : j < z
    · rw [List.getElem?_append_left (by omega)] at hj
      exact k3 j u hj
    · rw [List.getElem?_append_right (by omega), k1] at hj
      have := g3 _ u hj
      rw [addr_add] at this ⊢
      rw [show off + z + (j - z) = off + j by omega] at this
      exact this

theorem srcX_ok (hp : Hp h n w φ) {z k : Nat} {x : X} {new : List X} (hs : srcX h z x = some (k, new)) {v : Value} (hv : VR φ x v) :
    (∃ yb yc, v = .slice yb 0 yc ∧ k = 0) ∨ ∃ b off c us, v = .slice (some ⟨b, off, none⟩) k c ∧ us.length = k * z ∧ CR φ new us ∧ ∀ (j : Nat) u, us[j]? = some u → w.cell? ((⟨b, off, none⟩ : Addr).add j) = some u := by
  unfold srcX at hs
  split at hs
  · cases hs; exact .inl ⟨_, _, inv_nils hv, rfl⟩
  · cases hs; obtain ⟨a0, c0, h0⟩ := inv_es hv; exact .inl ⟨_, _, h0, rfl⟩
  · rename_i id off k' c z'
    split at hs
    · rename_i cs h1
      split at hs
      · rename_i l hl
        cases hs
        obtain ⟨b, s, c', h2, h3, _⟩ := inv_sl hv
        obtain ⟨us, g1, g2, g3⟩ := (hp.obj id b s _ h2 h1).row hl
        exact .inr ⟨b, off, c', us, h3, g1, g2, g3⟩
      · cases hs
    · cases hs
  · rename_i full z' es
    cases hz : Nat.beq z' z with
    | false => rw [hz] at hs; cases hs
    | true =>
      rw [hz] at hs
      cases hs
      have hzz := Nat.eq_of_beq_eq_true hz
      subst hzz
      obtain ⟨b, off, c', vs, h3, g1, g2, g3, g4, g5⟩ := inv_rs hv
      obtain ⟨us, k1, k2, k3⟩ := rs_row hp.ro g1 g4 g5
      exact .inr ⟨b, off, c', us, h3, k1, k2, k3⟩
  · cases hs

end
end Go.Ex
namespace Go.Ex
section
variable {eqs : Env} {φ : Pl eqs.gs} {t : T X} {a : Act} {P : Program} {tab : Tab}  {dst : Option Tmp} {type : TypeId} {pos : String} {after : Array Edge} {guard : Option (Nat × Bool)} {h : H} {n : Pt} {w : World}

theorem appN_eq {z bytes k : Nat} {new : List X} {x : X} {h' : H} {n' : Pt} (hr : appN z bytes k new h n = some (x, h', n')) :
    k ≤ 1000000 ∧ k * bytes ≤ 1000000000 ∧ x = .sl n 0 k k (z + 1) ∧ h' = h.put n (.cells new) ∧ n' = n.inc := by
  unfold appN at hr
  cases hb : (Nat.ble k 1000000 && Nat.ble (k * bytes) 1000000000) with
  | false => rw [hb] at hr; cases hr
  | true =>
    rw [hb] at hr
    simp only [cond_true, incK_eq, Option.some.injEq, Prod.mk.injEq] at hr
    simp only [Bool.and_eq_true] at hb
    exact ⟨Nat.le_of_ble_eq_true hb.1, Nat.le_of_ble_eq_true hb.2, hr.1.symm, hr.2.1.symm, hr.2.2.symm⟩

/-- The block of a slice that has grown. -/
theorem grown_step (hp : Hp h n w φ) {e : TypeId} {z cap k : Nat} {new : List X} {vs : Array Value} {us : List Value} (hl : us.length = k * z) (hc : CR φ new us) (hs : vs.size = cap * z) (htake : vs.toList.take (k * z) = us) (hk : k ≤ cap) (hm : cap ≤ maxLen) :
    Step φ h n w (addPl φ n (w.heap.size, cap * z)) (h.put n (.cells new)) n.inc (w.drew.alloc (.cells vs e)) ∧ VR (addPl φ n (w.heap.size, cap * z)) (.sl n 0 k k (z + 1)) (.slice (some ⟨w.heap.size, 0, none⟩) k cap) := by
  have hlen : new.length = k * z := by rw [hc.1.1, hl]
  refine ⟨(Step.drew hp).trans (Step.alloc (w := w.drew) hp.drew (Nat.le_refl _) (by rw [num_inc]; omega) fun φ' he => ?_), .sl1 n 0 k k z cap _ (cap * z) (by simp [addPl]) (Nat.le_refl _) hk (by omega) hm⟩
  refine ⟨vs, e, (0, 0), heap_new w.drew _, .inl rfl, hs, ?_, ?_⟩
  · rw [hlen]; exact Nat.mul_le_mul_right _ hk
  · rw [hlen, htake]; exact hc.mono he
end
end Go.Ex

/- Append and copy; all operations that may change what was there. Nothing here speaks of one program. -/
set_option linter.unusedVariables false
set_option linter.unusedSimpArgs false
namespace Go.Ex
section
variable {eqs : Env} {φ : Pl eqs.gs} {t : T X} {a : Act} {P : Program} {tab : Tab}  {dst : Option Tmp} {type : TypeId} {pos : String} {after : Array Edge} {guard : Option (Nat × Bool)} {h : H} {n : Pt} {w : World}

/-- The value and the memory behind an append. -/
def AppR (P : Program) (φ : Pl eqs.gs) (e ty : TypeId) (s x : Value) (h : H) (n : Pt) (w : World) (r : X) (h' : H) (n' : Pt) : Prop :=
  ∃ v w' φ', (Builtin.append_ #[e, e] ty #[s, x]).run P w = .ok v w' ∧ Step φ h n w φ' h' n' w' ∧ VR φ' r v

theorem app_none {e el ty : TypeId} {z : Nat} (hu : P.underlying e = some (.slice el)) (hs : ∀ w, (sizeOf el).run P w = .ok z w) (b yb : Option Addr) (m cap yc : Nat) (hn : m ≤ cap) (w : World) :
    (Builtin.append_ #[e, e] ty #[.slice b m cap, .slice yb 0 yc]).run P w = .ok (.slice b m cap) w := by
  cases b <;> cases yb <;> simp [Builtin.append_, run_underlying' hu, hs, Builtin.lenOf, Builtin.firstCells, loadCells, loadCellsFrom, hn, storeCells, Result.andThen]

theorem app_room {e el ty : TypeId} {i : TypeInfo} (hu : P.underlying e = some (.slice el)) (hi : P.info? el = some i) {b off sLen sCap m c : Nat} {ab : Addr} {us : List Value} {w w' : World} (hl : us.length = m * i.size)
    (hus : ∀ (j : Nat) u, us[j]? = some u → w.cell? (ab.add j) = some u) (hroom : sLen + m ≤ sCap) (hst : (storeCells ⟨b, off + sLen * i.size, none⟩ us).run P w = .ok () w') :
    (Builtin.append_ #[e, e] ty #[.slice (some ⟨b, off, none⟩) sLen sCap, .slice (some ab) m c]).run P w = .ok (.slice (some ⟨b, off, none⟩) (sLen + m) sCap) w' := by
  have hf := run_firstCells_some (P := P) w i.size m ab m c us hl hus
  simp [Builtin.append_, run_underlying' hu, sizeOf, typeInfo, hi, Builtin.lenOf, hroom, hf, addr_add, hst, Result.andThen]

theorem appX_ok (hp : Hp h n w φ) (ht : TabOk P tab) {e el ty0 : TypeId} {size bytes k : Nat} {zs new : List X} {s r : X} {h' : H} {n' : Pt} {z1 z2 z3 z4 z5 y3 y4 y5} (he : ty tab e = some ⟨z1, z2, z3, .slice el, z4, z5⟩) (hel : ty tab el = some ⟨size, bytes, y3, y4, some zs, y5⟩)
    (hb2 : zs.length = size) (hb3 : 0 < size) {sv : Value} (hsv : VR φ s sv) (hk : k ≠ 0) {ab : Addr} {c : Nat} {us : List Value} (hl : us.length = k * size) (hc : CR φ new us) (hus : ∀ (j : Nat) u, us[j]? = some u → w.cell? (ab.add j) = some u)
    (hr : appX size bytes k new s h n = some (r, h', n')) : AppR P φ e ty0 sv (.slice (some ab) k c) h n w r h' n' := by
  obtain ⟨i1, u1, hti⟩ := ty_ok ht he
  obtain ⟨i2, u2, ht2⟩ := ty_ok ht hel
  have hu := hti.under
  rw [kind_slice (congrArg TI.kind hti.eq).symm] at hu
  have hsz : i2.size = size := (congrArg TI.size ht2.eq).symm
  have hby : i2.bytes = bytes := (congrArg TI.bytes ht2.eq).symm
  obtain ⟨zv, hzi, hz1, _⟩ := ht2.zero (zs := zs) rfl
  have hzs : zv.cells.size = size := by have := (hz1 φ).1.1; rw [hb2] at this; rw [this, Array.length_toList]
  unfold appX at hr
  split at hr
  · -- nil
    obtain ⟨g1, g2, rfl, rfl, rfl⟩ := appN_eq hr
    have h2 := inv_nils hsv
    subst h2
    have hrun := run_append_nil (P := P) w e ty0 el i2 zv hu ht2.info hzi ab k c us (by rw [hsz]; exact hl) hus (by omega) (by omega) (by rw [hby]; omega)
    have hge := grownCap_ge w k 0 el
    obtain ⟨k1, k2⟩ := grown_step hp (e := el) (z := size) (cap := grownCap w k 0 el) (k := k) (vs := us.toArray ++ Builtin.zeroCells zv.cells (grownCap w k 0 el - k)) hl hc
      (by simp only [Array.size_append, List.size_toArray, size_zeroCells, hzs, hl, ← Nat.add_mul]; congr 1; omega) (by simp only [Array.toList_append]; rw [← hl]; exact List.take_left) hge (grownCap_le_maxLen w k 0 el (by unfold maxLen; omega))
    exact ⟨_, _, _, hrun, k1, k2⟩
  · rename_i id off len cap z'
    obtain ⟨b, sb, c', h1, h2, h3, h4, h5, h6⟩ := inv_sl hsv
    subst h2
    cases hroom : Nat.ble (len + k) cap with
    | true =>
      rw [hroom] at hr
      simp only [cond_true] at hr
      have hle := Nat.le_of_ble_eq_true hroom
      obtain ⟨rfl, rfl, w', g1, g2⟩ := putX_ok (P := P) hp h1 hc hr
      refine ⟨_, w', φ, app_room (i := i2) hu ht2.info (by rw [hsz]; exact hl) hus (by omega) (by rw [hsz]; exact g1), g2, ?_⟩
      cases z' with
      | zero =>
        have := h5 rfl
        subst this
        exact .sl0 id off _ _ b sb h1 hle
      | succ z' =>
        obtain ⟨g3, g4⟩ := h6 z' rfl
        exact .sl1 id off _ _ z' c' b sb h1 hle h4 g3 g4
    | false =>
      rw [hroom] at hr
      simp only [cond_false] at hr
      have hgt : cap < len + k := by
        have := Nat.le_of_ble_eq_true (n := len + k) (m := cap)
        rcases Nat.lt_or_ge cap (len + k) with h7 | h7
        · exact h7
        · rw [Nat.ble_eq_true_of_le h7] at hroom; cases hroom
      split at hr
      · cases hr
      · rename_i q old hold
        -- the old elements
        unfold srcX at hold
        simp only at hold
        split at hold
        · rename_i cs hcs
          split at hold
          · rename_i l hlg
            cases hold
            obtain ⟨os, o1, o2, o3⟩ := (hp.obj id b sb _ h1 hcs).row hlg
            have hnl : (os ++ us).length = (len + k) * size := by rw [List.length_append, o1, hl, Nat.add_mul]
            have hnc : CR φ (old ++ new) (os ++ us) := o2.append hc
            have grow : c' < len + k → len + k ≤ 1000000 → (len + k) * bytes ≤ 1000000000 → ∀ h0, Step φ h n w φ h0 n w → ∃ v w' φ', (Builtin.append_ #[e, e] ty0 #[.slice (some ⟨b, off, none⟩) len c', .slice (some ab) k c]).run P w = .ok v w' ∧
                Step φ h n w φ' (h0.put n (.cells (old ++ new))) n.inc w' ∧ VR φ' (.sl n 0 (len + k) (len + k) (size + 1)) v := fun hlt hsm hbm h0 hs0 => by
              have hrun := run_append_grow (P := P) w e ty0 el i2 zv hu ht2.info hzi ⟨b, off, none⟩ len c' os (by rw [hsz]; exact o1) o3 ab k c us (by rw [hsz]; exact hl) hus hlt (by omega) (growslice_fits hlt (by rw [hby]; omega))
              have hge := grownCap_ge w (len + k) c' el
              obtain ⟨k1, k2⟩ := grown_step hs0.hp (e := el) (z := size) (cap := grownCap w (len + k) c' el) (k := len + k) (vs := os.toArray ++ us.toArray ++ Builtin.zeroCells zv.cells (grownCap w (len + k) c' el - (len + k))) hnl hnc
                (by simp only [Array.size_append, List.size_toArray, size_zeroCells, hzs, o1, hl, ← Nat.add_mul]; congr 1; omega)
                (by simp only [Array.toList_append]; rw [← hnl]; exact List.take_left) hge (grownCap_le_maxLen w (len + k) c' el (by unfold maxLen; omega))
              exact ⟨_, _, _, hrun, hs0.trans k1, k2⟩
            cases hz : Nat.beq z' 0 with
            | true =>
              rw [hz] at hr
              simp only [cond_true] at hr
              have hz0 := Nat.eq_of_beq_eq_true hz
              have hcc := h5 hz0
              obtain ⟨g1, g2, rfl, rfl, rfl⟩ := appN_eq hr
              exact grow (by omega) g1 g2 h (Step.refl hp)
            | false =>
              rw [hz] at hr
              simp only [cond_false] at hr
              cases hoz : (Nat.beq off 0 && Nat.beq z' (size + 1)) with
              | false => rw [hoz] at hr; cases hr
              | true =>
                rw [hoz] at hr
                simp only [cond_true] at hr
                simp only [Bool.and_eq_true] at hoz
                have ho := Nat.eq_of_beq_eq_true hoz.1
                have hzz := Nat.eq_of_beq_eq_true hoz.2
                subst ho; subst hzz
                obtain ⟨g1, g2, rfl, rfl, rfl⟩ := appN_eq hr
                obtain ⟨g3, g4⟩ := h6 size rfl
                by_cases hin : len + k ≤ c'
                · -- in place
                  obtain ⟨vs, ty, fz, q1, q0, q2, q3, q4⟩ := hp.obj id b sb _ h1 hcs
                  have hfit : (len + k) * size ≤ c' * size := Nat.mul_le_mul_right _ hin
                  rw [Nat.add_mul] at hfit
                  have hst := run_storeCells_m P b (len * size) ty fz us 0 vs w q1 q0 (by rw [hl]; omega) hc.2
                  simp only [Nat.add_zero] at hst
                  have hll : old.length = len * size := by rw [o2.1.1, o1]
                  have hcl : len * size ≤ cs.length := by
                    obtain ⟨f1, _⟩ := lgetL_ok hlg q4
                    rw [List.length_take] at f1; omega
                  refine ⟨_, w.setRow b (vs.toList.take (len * size) ++ us ++ vs.toList.drop (len * size + us.length)).toArray, addPl φ n (b, sb), app_room (i := i2) hu ht2.info (by rw [hsz]; exact hl) hus hin (by rw [hsz, Nat.zero_add]; exact hst), Step.move hp h1 (by rw [hcs]; rfl) rfl rfl rfl (by simp) (fun q hq => setRow_other w b q _ hq) fun φ' hφ => ?_,
                    .sl1 n 0 _ _ size c' b sb (by simp [addPl]) (Nat.le_refl _) hin g3 g4⟩
                  refine ⟨_, ty, fz, setRow_heap w b vs _ ty _ q1, by
                    have : (vs.toList.take (len * size) ++ us ++ vs.toList.drop (len * size + us.length)).toArray.size = vs.size := by
                      simp only [List.size_toArray, List.length_append, List.length_take, List.length_drop, Array.length_toList, hl]; omega
                    rw [this]; exact q0, ?_, ?_, ?_⟩
                  · simp only [List.size_toArray, List.length_append, List.length_take, List.length_drop, Array.length_toList, hl]; omega
                  · rw [hnc.1.1, hnl, Nat.add_mul]; omega
                  · rw [hnc.1.1, hnl]
                    have : (vs.toList.take (len * size) ++ us ++ vs.toList.drop (len * size + us.length)).toArray.toList.take ((len + k) * size) = vs.toList.take (len * size) ++ us := by
                      have e1 : (vs.toList.take (len * size) ++ us).length = (len + k) * size := by
                        rw [List.length_append, List.length_take, Array.length_toList, hl, Nat.add_mul]; omega
                      rw [← e1]; exact List.take_left
                    rw [this]
                    refine (CR.append ?_ hc).mono hφ
                    obtain ⟨f1, f2⟩ := lgetL_ok hlg q4
                    rw [List.drop_zero, List.take_take] at f2
                    have e2 : min (len * size) cs.length = len * size := by omega
                    rw [e2] at f2
                    exact f2
                · exact grow (by omega) g1 g2 (h.del id) (Step.del hp id)
          · cases hold
        · cases hold
  · cases hr

theorem app_ok (hp : Hp h n w φ) (ht : TabOk P tab) (hm : TmR φ t a) {call : CallT} {e el : TypeId} {x y : Operand} {dx dy : D} {size bytes : Nat} {zs : List X} {r : X} {h' : H} {n' : Pt} {z1 z2 z3 z4 z5 y3 y4 y5} (he : ty tab e = some ⟨z1, z2, z3, .slice el, z4, z5⟩) (hel : ty tab el = some ⟨size, bytes, y3, y4, some zs, y5⟩)
    (hb2 : zs.length = size) (hb3 : 0 < size) (hx : cD eqs.gs x = some dx) (hy : cD eqs.gs y = some dy) (hr : rApp size bytes dx dy call t h n = some (r, h', n')) : Wr P φ a ⟨dst, .call ⟨.builtin .append, #[x, y], #[e, e]⟩, type, pos, after, guard⟩ h n w r h' n' := fun K Q hK => by
  have hstep : ∀ cv w', (Builtin.append_ #[e, e] type #[a.eval x, a.eval y]).run P w = .ok cv w' → (execOp a.eval ⟨dst, .call ⟨.builtin .append, #[x, y], #[e, e]⟩, type, pos, after, guard⟩).run P w = .ok (.value cv) w' := fun cv w' h => by
    simp [execOp, resolve, invoke, builtin, h, Result.andThen]
  have key : AppR P φ e type (a.eval x) (a.eval y) h n w r h' n' := by
    obtain ⟨i1, u1, hti⟩ := ty_ok ht he
    obtain ⟨i2, u2, ht2⟩ := ty_ok ht hel
    have hu := hti.under
    rw [kind_slice (congrArg TI.kind hti.eq).symm] at hu
    unfold rApp at hr
    split at hr
    · rename_i s x' h1 h2
      split at hr
      · rename_i k new hsrc
        have hsv := ev_ok hm hx h1
        have hxv := ev_ok hm hy h2
        have hsx := srcX_ok hp hsrc hxv
        cases hk0 : Nat.beq k 0 with
        | true =>
          rw [hk0] at hr
          simp only [cond_true] at hr
          have hk := Nat.eq_of_beq_eq_true hk0
          subst hk
          have hy0 : ∃ yb yc, a.eval y = .slice yb 0 yc := by
            rcases hsx with ⟨yb, yc, g1, _⟩ | ⟨b, off, c, us, g1, _⟩
            · exact ⟨_, _, g1⟩
            · exact ⟨_, _, g1⟩
          obtain ⟨yb, yc, hy0⟩ := hy0
          split at hr
          · cases hr
            have g := inv_nils hsv
            exact ⟨_, w, φ, by rw [hy0, g]; exact app_none hu ht2.size none yb 0 0 yc (Nat.le_refl _) w, Step.refl hp, .nils⟩
          · cases hr
            obtain ⟨b, sb, c', g1, g2, g3, g4, _⟩ := inv_sl hsv
            exact ⟨_, w, φ, by rw [hy0, g2]; exact app_none hu ht2.size _ yb _ _ yc (by omega) w, Step.refl hp, by rw [g2] at hsv; exact hsv⟩
          · cases hr
        | false =>
          rw [hk0] at hr
          simp only [cond_false] at hr
          have hk := Nat.ne_of_beq_eq_false hk0
          rcases hsx with ⟨_, _, _, g2⟩ | ⟨b, off, c, us, g1, g2, g3, g4⟩
          · exact absurd g2 hk
          · rw [g1]
            exact appX_ok hp ht he hel hb2 hb3 hsv hk g2 g3 g4 hr
      · cases hr
    · cases hr
  obtain ⟨v, w', φ', k1, k2, k3⟩ := key
  unfold Oper.wp
  rw [hstep v w' k1, Oper.upon_value]
  exact hK v w' φ' k2 k3

section
variable {G : GEnv} {φ : Pl G}
theorem inv_str {s : List UInt8} {v} (h : VR φ (.str s) v) : v = .string ⟨s.toArray⟩ := by
  generalize hx : X.str s = x at h
  cases h <;> first | cases hx | skip
  rfl
theorem VR.str' (s : List UInt8) : VR φ (.str s) (.string ⟨s.toArray⟩) := by
  have := VR.str (φ := φ) ⟨s.toArray⟩
  simpa using this
theorem kind_str {u} (h : kindOf u = .str) : u = .string := by cases u <;> simp_all [kindOf]
end
theorem bytes_ok (l : List UInt8) : CR φ (l.map byteX) (l.map fun b => Value.int .u8 b.toNat) := by
  refine ⟨⟨by simp, fun i c v h1 h2 => ?_⟩, fun v hv => ?_⟩
  · rw [List.getElem?_map, Option.map_eq_some_iff] at h1 h2
    obtain ⟨b, g1, rfl⟩ := h1
    obtain ⟨b', g2, rfl⟩ := h2
    rw [g1] at g2; cases g2
    exact .int .u8 _
  · obtain ⟨b, _, rfl⟩ := List.mem_map.1 hv; rfl

/-- What is copied out of is read. -/
theorem srcS_ok (hp : Hp h n w φ) {z k : Nat} {x : X} {cs : List X} (hs : srcS h z x = some (k, cs)) {v : Value} (hv : VR φ x v) :
    (Builtin.lenOf v).run P w = .ok k w ∧ ∀ m l, m ≤ k → lgetL cs 0 (m * z) = some l → ∃ us : Array Value, (Builtin.firstCells z m v).run P w = .ok us w ∧ CR φ l us.toList := by
  unfold srcS at hs
  split at hs
  · rename_i s
    cases hz : Nat.beq z 1 with
    | false => rw [hz] at hs; cases hs
    | true =>
      rw [hz] at hs
      cases hs
      have hz1 := Nat.eq_of_beq_eq_true hz
      subst hz1
      have h1 := inv_str hv
      subst h1
      refine ⟨by simp [Builtin.lenOf, ByteArray.size], fun m l hm hl => ?_⟩
      obtain ⟨g1, g2⟩ := lgetL_ok hl (bytes_ok (φ := φ) s)
      refine ⟨_, rfl, ?_⟩
      have e : (Array.map (fun b : UInt8 => Value.int .u8 b.toNat) ((⟨s.toArray⟩ : ByteArray).extract 0 m).data).toList = ((s.map fun b => Value.int .u8 b.toNat).drop 0).take (m * 1) := by
        simp [ByteArray.data_extract, List.extract_eq_take_drop]
      rw [e]; exact g2
  · rename_i x _
    rcases srcX_ok hp hs hv with ⟨yb, yc, rfl, rfl⟩ | ⟨b, off, c, us, rfl, g1, g2, g3⟩
    · refine ⟨by simp [Builtin.lenOf], fun m l hm hl => ?_⟩
      have hm0 : m = 0 := by omega
      subst hm0
      have hl0 : l = [] := by
        unfold lgetL at hl
        simp only [Nat.zero_mul] at hl
        rw [show Nat.ble (0 + 0) cs.length = true from Nat.ble_eq_true_of_le (Nat.zero_le _)] at hl
        simpa using hl.symm
      subst hl0
      refine ⟨#[], ?_, VRL.nil, fun v hv => by simp at hv⟩
      cases yb with
      | none => simp [Builtin.firstCells]
      | some a => simp [Builtin.firstCells, loadCells, loadCellsFrom]
    · refine ⟨by simp [Builtin.lenOf], fun m l hm hl => ?_⟩
      obtain ⟨f1, f2⟩ := lgetL_ok hl g2
      rw [List.drop_zero] at f2
      have hf := run_firstCells_some (P := P) w z m ⟨b, off, none⟩ k c (us.take (m * z)) (by rw [List.length_take]; omega) (fun j v hj => by
        rw [List.getElem?_take] at hj
        split at hj
        · exact g3 j v hj
        · cases hj)
      exact ⟨_, hf, by simpa using f2⟩

theorem copy_ok (hp : Hp h n w φ) (ht : TabOk P tab) (hm : TmR φ t a) {call : CallT} {e el t2 : TypeId} {x y : Operand} {dx dy : D} {ei : TI} {r : X} {h' : H} {n' : Pt} {z1 z2 z3 z4 z5} (he : ty tab e = some ⟨z1, z2, z3, .slice el, z4, z5⟩) (hel : ty tab el = some ei)
    (hx : cD eqs.gs x = some dx) (hy : cD eqs.gs y = some dy) (hr : rCopy ei.size dx dy call t h n = some (r, h', n')) : Wr P φ a ⟨dst, .call ⟨.builtin .copy, #[x, y], #[e, t2]⟩, type, pos, after, guard⟩ h n w r h' n' := fun K Q hK => by
  obtain ⟨i1, u1, hti⟩ := ty_ok ht he
  obtain ⟨i2, u2, ht2⟩ := ty_ok ht hel
  have hu := hti.under
  rw [kind_slice (congrArg TI.kind hti.eq).symm] at hu
  have none_ok : ∀ (b : Option Addr) (c k' : Nat) (cs : List X) (xv : X), ev t dy = some xv → srcS h ei.size xv = some (k', cs) → a.eval x = .slice b 0 c → r = .int .i64 (.ofNat 0) → h' = h → n' = n →
      (⟨dst, .call ⟨.builtin .copy, #[x, y], #[e, t2]⟩, type, pos, after, guard⟩ : Oper).wp P a w K Q := fun b c k' cs xv g1 g2 g3 g4 g5 g6 => by
    subst g4; subst g5; subst g6
    obtain ⟨q1, q2⟩ := srcS_ok (P := P) hp g2 (ev_ok hm hy g1)
    obtain ⟨us, q3, q4⟩ := q2 0 [] (Nat.zero_le _) (by unfold lgetL; rw [show Nat.ble (0 + 0 * ei.size) cs.length = true from Nat.ble_eq_true_of_le (by omega)]; simp)
    have hus : us = #[] := by
      have := q4.1.1
      apply Array.eq_empty_of_size_eq_zero
      simpa using this.symm
    subst hus
    have hmin : Nat.min k' 0 = 0 := Nat.min_zero _
    have hrun : (execOp a.eval ⟨dst, .call ⟨.builtin .copy, #[x, y], #[e, t2]⟩, type, pos, after, guard⟩).run P w = .ok (.value (.int .i64 (0 : Nat))) w := by
      cases b with
      | none => simp [execOp, resolve, invoke, builtin, g3, Builtin.copy_, run_underlying' hu, q1, ht2.size, hmin, q3, Result.andThen, goInt]
      | some b => simp [execOp, resolve, invoke, builtin, g3, Builtin.copy_, run_underlying' hu, q1, ht2.size, hmin, q3, Result.andThen, goInt, storeCells]
    unfold Oper.wp
    rw [hrun, Oper.upon_value]
    exact hK _ w φ (Step.refl hp) (.int _ _)
  unfold rCopy at hr
  split at hr
  · rename_i id off k c1 z1' xv h1 h2
    split at hr
    · rename_i k' cs hsrc
      split at hr
      · rename_i l hl
        obtain ⟨b, s, c, g1, g2, _⟩ := inv_sl (ev_ok hm hx h1)
        obtain ⟨q1, q2⟩ := srcS_ok (P := P) hp hsrc (ev_ok hm hy h2)
        obtain ⟨us, q3, q4⟩ := q2 (Nat.min k' k) l (Nat.min_le_left _ _) hl
        obtain ⟨rfl, rfl, w', m1, m2⟩ := putX_ok (P := P) hp g1 q4 hr
        have hrun : (execOp a.eval ⟨dst, .call ⟨.builtin .copy, #[x, y], #[e, t2]⟩, type, pos, after, guard⟩).run P w = .ok (.value (.int .i64 (Nat.min k' k))) w' := by
          simp [execOp, resolve, invoke, builtin, g2, Builtin.copy_, run_underlying' hu, q1, ht2.size, q3, m1, Result.andThen, goInt]
        unfold Oper.wp
        rw [hrun, Oper.upon_value]
        exact hK _ w' φ m2 (.int _ _)
      · cases hr
    · cases hr
  · rename_i xv h1 h2
    split at hr
    · rename_i q hsrc
      cases hr
      exact none_ok none 0 q.1 q.2 xv h2 hsrc (inv_nils (ev_ok hm hx h1)) rfl rfl rfl
    · cases hr
  · rename_i xv h1 h2
    split at hr
    · rename_i q hsrc
      cases hr
      obtain ⟨a0, c0, h3⟩ := inv_es (ev_ok hm hx h1)
      exact none_ok (some a0) c0 q.1 q.2 xv h2 hsrc h3 rfl rfl rfl
    · cases hr
  · cases hr

theorem opW0_ok (hp : Hp h n w φ) (ht : TabOk P tab) (hm : TmR φ t a) {call : CallT} (hcall : CallOk eqs.gs P call) {op : Op} {i : IW} {r : X} {h' : H} {n' : Pt} (hc : cOp0 tab eqs op = some (.w i)) (hr : opW i call t h n = some (r, h', n')) :
    Wr P φ a ⟨dst, op, type, pos, after, guard⟩ h n w r h' n' := by
  unfold cOp0 at hc
  split at hc
  all_goals first
    | (split at hc <;> cases hc; done)
    | (repeat' split at hc
       all_goals cases hc
       done)
    | skip
  · exfalso
    unfold cBuild at hc
    repeat' split at hc
    all_goals first | (cases hc; done) | skip
    all_goals (revert hc; cases (allTy tab _) <;> intro hc <;> cases hc)
  · exfalso
    unfold cBuildS at hc
    repeat' split at hc
    all_goals first | (cases hc; done) | skip
    all_goals (revert hc; cases (Nat.ble _ _ && (Nat.beq _ _ && Nat.blt _ _)) <;> intro hc <;> cases hc)
  · split at hc
    · rename_i he hx hy; cases hc; exact store_ok (call := call) hp ht hm he hx hy hr
    · cases hc
  · repeat' split at hc
    all_goals first | (cases hc; done) | skip
    all_goals (revert hc; cases (Nat.beq _ _ && Nat.blt _ _) <;> intro hc <;> cases hc)
  · exfalso
    unfold cSlice at hc
    repeat' split at hc
    all_goals cases hc
  · repeat' split at hc
    all_goals first | (cases hc; done) | skip
    all_goals (revert hc; cases (Nat.blt _ _) <;> intro hc <;> cases hc)
  · split at hc
    · rename_i he hx hy hz
      split at hc
      · rename_i hk; cases hc; exact upd_ok (call := call) hp ht hm he hk hx hy hz hr
      · cases hc
    · cases hc
  · split at hc
    · rename_i h1; cases hc; exact call_ok hp hm hcall h1 hr
    · cases hc
  · split at hc
    · rename_i h1 h2; cases hc; exact callv_ok hp hm hcall h1 h2 hr
    · cases hc
  · rename_i b args tys
    unfold cBuiltin at hc
    split at hc
    · repeat' split at hc
      all_goals cases hc
    · rename_i t1 t2 x y ht1 hx1
      have e1 : tys = #[t1, t2] := by apply Array.ext'; simpa using ht1
      have e2 : args = #[x, y] := by apply Array.ext'; simpa using hx1
      subst e1; subst e2
      split at hc
      · rename_i he hx hy
        split at hc
        · rename_i size bytes _ _ zs _ hel
          cases hb : (Nat.beq t1 t2 && (Nat.beq zs.length size && Nat.blt 0 size)) with
          | false => rw [hb] at hc; cases hc
          | true =>
            rw [hb] at hc
            cases hc
            simp only [Bool.and_eq_true] at hb
            have := Nat.eq_of_beq_eq_true hb.1
            subst this
            exact app_ok (call := call) hp ht hm he hel (Nat.eq_of_beq_eq_true hb.2.1) (Nat.le_of_ble_eq_true hb.2.2) hx hy hr
        · cases hc
      · cases hc
    · rename_i t1 t2 x y ht1 hx1
      have e1 : tys = #[t1, t2] := by apply Array.ext'; simpa using ht1
      have e2 : args = #[x, y] := by apply Array.ext'; simpa using hx1
      subst e1; subst e2
      split at hc
      · rename_i he hx hy
        split at hc
        · rename_i hel; cases hc; exact copy_ok (call := call) hp ht hm he hel hx hy hr
        · cases hc
      · cases hc
    · repeat' split at hc
      all_goals cases hc
    · repeat' split at hc
      all_goals cases hc
    · cases hc
end
end Go.Ex
namespace Go.Ex
section
variable {eqs : Env} {φ : Pl eqs.gs} {t : T X} {a : Act} {P : Program} {tab : Tab}  {dst : Option Tmp} {type : TypeId} {pos : String} {after : Array Edge} {guard : Option (Nat × Bool)} {h : H} {n : Pt} {w : World}


theorem sbin_ok (h : TmR φ t a) {op : BinOp} {x y : Operand} {dx dy : D} {r : X} {e e' : TypeId} (hx : cD eqs.gs x = some dx) (hy : cD eqs.gs y = some dy) (hr : rSbin op dx dy t = some r) :
    Pure P φ a ⟨dst, .binOp op e x y e', type, pos, after, guard⟩ r := fun w => by
  unfold rSbin at hr
  split at hr
  · rename_i m k h1 h2
    have h3 := inv_str (ev_ok h hx h1)
    have h4 := inv_str (ev_ok h hy h2)
    have hg : ∀ op, (eqGuard op e x y (.string ⟨m.toArray⟩) (.string ⟨k.toArray⟩)).run P w = .ok () w := fun op => by
      unfold eqGuard
      split <;> simp
    have hcat : (⟨m.toArray⟩ : ByteArray) ++ ⟨k.toArray⟩ = ⟨(m ++ k).toArray⟩ := by
      apply ByteArray.ext
      simp
    have heq : (((⟨m.toArray⟩ : ByteArray).toList == (⟨k.toArray⟩ : ByteArray).toList) : Bool) = decide (m = k) := by
      rw [ByteArray.toList_mk, ByteArray.toList_mk]
      by_cases hmk : m = k
      · subst hmk; simp
      · rw [decide_eq_false hmk]; simpa using hmk
    have hrun : ∀ v, (Op.stringOp op ⟨m.toArray⟩ ⟨k.toArray⟩).run P w = .ok v w → (execOp a.eval ⟨dst, .binOp op e x y e', type, pos, after, guard⟩).run P w = .ok (.value v) w := fun v hv => by
      simp only [execOp, h3, h4]
      refine run_value ?_
      have hb : binOp op e (.string ⟨m.toArray⟩) (.string ⟨k.toArray⟩) = Op.stringOp op ⟨m.toArray⟩ ⟨k.toArray⟩ := by cases op <;> rfl
      rw [Sem.run_bind, hg, Result.andThen_ok, hb]
      exact hv
    unfold strB at hr
    split at hr
    · cases hb : Nat.ble (m.length + k.length) 1000000 with
      | false => rw [hb] at hr; cases hr
      | true =>
        rw [hb] at hr
        simp only [cond_true, Option.some.injEq] at hr
        subst hr
        have hle := Nat.le_of_ble_eq_true hb
        refine ⟨.string ⟨(m ++ k).toArray⟩, hrun _ ?_, VR.str' _⟩
        have hmax : IntKind.i64.max = 9223372036854775807 := by decide
        have hsz : ¬ (((((⟨m.toArray⟩ : ByteArray).size + (⟨k.toArray⟩ : ByteArray).size : Nat)) : Int) > IntKind.i64.max) := by
          rw [hmax]
          have e1 : (⟨m.toArray⟩ : ByteArray).size = m.length := by simp [ByteArray.size]
          have e2 : (⟨k.toArray⟩ : ByteArray).size = k.length := by simp [ByteArray.size]
          rw [e1, e2]; omega
        simp only [Op.stringOp, if_neg hsz, Sem.run_pure, hcat]
    · cases hr
      exact ⟨.bool (decide (m = k)), hrun _ (by simp only [Op.stringOp, heq, Sem.run_pure]), .bool _⟩
    · cases hr
      exact ⟨.bool (!decide (m = k)), hrun _ (by simp only [Op.stringOp, heq, Sem.run_pure]), .bool _⟩
    all_goals first
      | (cases hr; exact ⟨_, hrun _ (by simp only [Op.stringOp, heq, Sem.run_pure]; simp only [ByteArray.toList_mk]), .bool _⟩)
      | cases hr
  · cases hr

theorem samX_ok : ∀ {ks : List CK} {xs ys : List X} {r : Bool}, samX ks xs ys = some r → ∀ {us vs : List Value}, VRL φ xs us → VRL φ ys vs → ckOk ks us ∧ ckOk ks vs ∧ samV ks us vs = r := by
  intro ks
  induction ks with
  | nil =>
    intro xs ys r h us vs hu hv
    cases xs with
    | cons x xs => simp [samX] at h
    | nil =>
      cases ys with
      | cons y ys => simp [samX] at h
      | nil =>
        simp [samX] at h
        have e1 : us = [] := List.length_eq_zero_iff.1 (by have := hu.1; simpa using this.symm)
        have e2 : vs = [] := List.length_eq_zero_iff.1 (by have := hv.1; simpa using this.symm)
        subst e1; subst e2; subst h
        exact ⟨trivial, trivial, rfl⟩
  | cons k ks ih =>
    intro xs ys r h us vs hu hv
    cases xs with
    | nil => cases k <;> simp [samX] at h
    | cons x xs =>
      cases ys with
      | nil => cases k <;> cases x <;> simp [samX] at h
      | cons y ys =>
        cases us with
        | nil => have := hu.1; simp at this
        | cons u us =>
          cases vs with
          | nil => have := hv.1; simp at this
          | cons v vs =>
            have hu0 := hu.2 0 x u rfl rfl
            have hv0 := hv.2 0 y v rfl rfl
            have hut : VRL φ xs us := ⟨by have := hu.1; simpa using this, fun i c w h1 h2 => hu.2 (i + 1) c w (by simpa using h1) (by simpa using h2)⟩
            have hvt : VRL φ ys vs := ⟨by have := hv.1; simpa using this, fun i c w h1 h2 => hv.2 (i + 1) c w (by simpa using h1) (by simpa using h2)⟩
            cases k with
            | i k =>
              cases x with
              | int k1 m =>
                cases y with
                | int k2 n =>
                  simp only [samX] at h
                  by_cases hk1 : k = k1
                  · by_cases hk2 : k = k2
                    · subst hk1; subst hk2
                      simp only [decide_true, Bool.and_self, cond_true] at h
                      cases hl : samX ks xs ys with
                      | none => rw [hl] at h; cases h
                      | some q =>
                        rw [hl] at h; cases h
                        obtain ⟨g1, g2, g3⟩ := ih hl hut hvt
                        rw [inv_int hu0, inv_int hv0]
                        exact ⟨⟨⟨_, rfl⟩, g1⟩, ⟨⟨_, rfl⟩, g2⟩, by simp only [samV, g3]⟩
                    · simp [hk2] at h
                  · simp [hk1] at h
                | _ => simp [samX] at h
              | _ => simp [samX] at h
            | b =>
              cases x with
              | bool m =>
                cases y with
                | bool n =>
                  simp only [samX] at h
                  cases hl : samX ks xs ys with
                  | none => rw [hl] at h; cases h
                  | some q =>
                    rw [hl] at h; cases h
                    obtain ⟨g1, g2, g3⟩ := ih hl hut hvt
                    rw [inv_bool hu0, inv_bool hv0]
                    exact ⟨⟨⟨_, rfl⟩, g1⟩, ⟨⟨_, rfl⟩, g2⟩, by simp only [samV, g3]⟩
                | _ => simp [samX] at h
              | _ => simp [samX] at h
            | s =>
              cases x with
              | str m =>
                cases y with
                | str n =>
                  simp only [samX] at h
                  cases hl : samX ks xs ys with
                  | none => rw [hl] at h; cases h
                  | some q =>
                    rw [hl] at h; cases h
                    obtain ⟨g1, g2, g3⟩ := ih hl hut hvt
                    rw [inv_str hu0, inv_str hv0]
                    exact ⟨⟨⟨_, rfl⟩, g1⟩, ⟨⟨_, rfl⟩, g2⟩, by simp only [samV, g3]⟩
                | _ => simp [samX] at h
              | _ => simp [samX] at h

theorem eqp_ok (h : TmR φ t a) {neg : Bool} {ks : List CK} {x y : Operand} {dx dy : D} {r : X} {e e' : TypeId} (he : EqPx P e ks) (hx : cD eqs.gs x = some dx) (hy : cD eqs.gs y = some dy) (hr : rEqp neg ks dx dy t = some r) :
    Pure P φ a ⟨dst, .binOp (bif neg then .neq else .eql) e x y e', type, pos, after, guard⟩ r := fun w => by
  unfold rEqp at hr
  split at hr
  · rename_i ca cb h1 h2
    split at hr
    · rename_i q hq
      obtain ⟨va, ga, g1⟩ := inv_agg (ev_ok h hx h1)
      obtain ⟨vb, gb, g2⟩ := inv_agg (ev_ok h hy h2)
      obtain ⟨k1, k2, k3⟩ := samX_ok hq ga.1 gb.1
      have hE := he va vb x y w k1 k2
      rw [k3] at hE
      cases hr
      cases neg with
      | false =>
        refine ⟨.bool q, ?_, .bool _⟩
        simp only [cond_false, execOp, g1, g2]
        refine run_value ?_
        rw [Sem.run_bind, hE.2, Result.andThen_ok]
        simp [binOp, hE.1, Result.andThen]
      | true =>
        refine ⟨.bool (!q), ?_, .bool _⟩
        simp only [cond_true, execOp, g1, g2]
        refine run_value ?_
        rw [Sem.run_bind, hE.2, Result.andThen_ok]
        simp [binOp, hE.1, Result.andThen]
    · cases hr
  · cases hr
theorem px_mem {t : TypeId} {q : TypeId × List CK} : ∀ {l : List (TypeId × List CK)}, l.find? (fun q => Nat.beq q.1 t) = some q → q ∈ l ∧ q.1 = t := by
  intro l h
  exact ⟨List.mem_of_find?_eq_some h, Nat.eq_of_beq_eq_true (by have := List.find?_some h; simpa using this)⟩

theorem idxA_ok (h : TmR φ t a) (ht : TabOk P tab) {x i : Operand} {d di : D} {r : X} {e el : TypeId} {m : Nat} {ei : TI} {z1 z2 z3 z4 z5} (he : ty tab e = some ⟨z1, z2, z3, .array m el, z4, z5⟩) (hel : ty tab el = some ei)
    (hc : cD eqs.gs x = some d) (hi : cD eqs.gs i = some di) (hr : rIdxA ei.agg m ei.size d di t = some r) : Pure P φ a ⟨dst, .index e x i, type, pos, after, guard⟩ r := fun w => by
  obtain ⟨i1, u1, ht1⟩ := ty_ok ht he
  have hu := ht1.under
  rw [kind_array (congrArg TI.kind ht1.eq).symm] at hu
  obtain ⟨i2, u2, ht2⟩ := ty_ok ht hel
  unfold rIdxA at hr
  split at hr
  · rename_i cs y h1 h1'
    split at hr
    · rename_i q h2
      cases hb : Nat.blt q m with
      | false => rw [hb] at hr; cases hr
      | true =>
        rw [hb] at hr
        simp only [cond_true] at hr
        have hlt : q < m := Nat.le_of_ble_eq_true hb
        obtain ⟨vs, g1, g2⟩ := inv_agg (ev_ok h hc h1)
        obtain ⟨k, h5⟩ := asI_ok h2 (ev_ok h hi h1')
        obtain ⟨v, k1, k2⟩ := part_ok ht2 hr g1 w
        refine ⟨v, ?_, k2⟩
        simp only [execOp, g2, h5]
        refine run_value ?_
        have hlt' : (q : Int) < m := by omega
        simp [Instr.index, asIntOf, run_underlying' hu, hlt', hlt, ht2.size, k1, Result.andThen]
    · cases hr
  · cases hr

theorem sidx_ok (h : TmR φ t a) (ht : TabOk P tab) {x i : Operand} {d di : D} {r : X} {e : TypeId} {z1 z2 z3 z4 z5} (he : ty tab e = some ⟨z1, z2, z3, .str, z4, z5⟩)
    (hc : cD eqs.gs x = some d) (hi : cD eqs.gs i = some di) (hr : rSidx d di t = some r) : Pure P φ a ⟨dst, .index e x i, type, pos, after, guard⟩ r := fun w => by
  obtain ⟨i1, u1, ht1⟩ := ty_ok ht he
  have hu := ht1.under
  rw [kind_str (congrArg TI.kind ht1.eq).symm] at hu
  unfold rSidx at hr
  split at hr
  · rename_i s y h1 h1'
    split at hr
    · rename_i m h2
      split at hr
      · rename_i b h3
        cases hr
        have h4 := inv_str (ev_ok h hc h1)
        obtain ⟨k, h5⟩ := asI_ok h2 (ev_ok h hi h1')
        refine ⟨.int .u8 b.toNat, ?_, .int _ _⟩
        simp only [execOp, h4, h5]
        refine run_value ?_
        have hb : (⟨s.toArray⟩ : ByteArray)[m]? = some b := by
          obtain ⟨hlt, hb⟩ := List.getElem?_eq_some_iff.1 h3
          have hlt' : m < (⟨s.toArray⟩ : ByteArray).size := by simpa [ByteArray.size] using hlt
          rw [getElem?_pos (⟨s.toArray⟩ : ByteArray) m hlt']
          congr 1
        simp [Instr.index, asIntOf, run_underlying' hu, hb, Result.andThen]
      · cases hr
    · cases hr
  · cases hr

theorem sslc_ok (h : TmR φ t a) (ht : TabOk P tab) {x : Operand} {lo hi : Option Operand} {d : D} {dl dh : Option D} {r : X} {e : TypeId} {z1 z2 z3 z4 z5} (he : ty tab e = some ⟨z1, z2, z3, .str, z4, z5⟩)
    (hc : cD eqs.gs x = some d) (hl : cDO eqs.gs lo = some dl) (hh : cDO eqs.gs hi = some dh) (hr : rSslc d dl dh t = some r) :
    Pure P φ a ⟨dst, .slice e x lo hi none, type, pos, after, guard⟩ r := fun w => by
  obtain ⟨i1, u1, ht1⟩ := ty_ok ht he
  have hu := ht1.under
  rw [kind_str (congrArg TI.kind ht1.eq).symm] at hu
  unfold rSslc at hr
  split at hr
  · rename_i s hx
    have h2 := inv_str (ev_ok h hc hx)
    split at hr
    · rename_i l hh' hbl hbh
      have hlo := bnd_ok h hl hbl
      have hhi := bnd_ok h hh hbh
      cases hb : Nat.ble l hh' && Nat.ble hh' s.length with
      | false => rw [hb] at hr; cases hr
      | true =>
        rw [hb] at hr
        simp only [cond_true, Option.some.injEq] at hr
        subst hr
        simp only [Bool.and_eq_true] at hb
        have hb1 := Nat.le_of_ble_eq_true hb.1
        have hb2 := Nat.le_of_ble_eq_true hb.2
        have hsz : (⟨s.toArray⟩ : ByteArray).size = s.length := by simp [ByteArray.size]
        have hB : (Instr.sliceBounds false s.length s.length (lo.map a.eval) (hi.map a.eval) none).run P w = .ok (l, hh', s.length) w := by
          rcases hlo with ⟨rfl, rfl⟩ | ⟨o, k, rfl, ho⟩ <;> rcases hhi with ⟨rfl, rfl⟩ | ⟨o', k', rfl, ho'⟩ <;>
            simp_all [Instr.sliceBounds, run_bound, Result.andThen]
        have hex : (⟨s.toArray⟩ : ByteArray).extract l hh' = ⟨((s.drop l).take (hh' - l)).toArray⟩ := by
          apply ByteArray.ext
          rw [ByteArray.data_extract]
          apply Array.ext'
          simp [Array.toList_extract, List.extract_eq_take_drop]
        refine ⟨.string ⟨((s.drop l).take (hh' - l)).toArray⟩, ?_, VR.str' _⟩
        simp only [execOp, h2]
        refine run_value ?_
        simp only [Instr.sliceAt, Sem.run_bind, run_underlying' hu, Result.andThen_ok, Instr.slice, Option.map_none, Option.isSome_none, hsz, hB]
        simp [Result.andThen, hex, hB]
    · cases hr
  · cases hr

theorem slen_ok (h : TmR φ t a) (ht : TabOk P tab) {x : Operand} {d : D} {r : X} {e : TypeId} {z1 z2 z3 z4 z5} (he : ty tab e = some ⟨z1, z2, z3, .str, z4, z5⟩) (hc : cD eqs.gs x = some d) (hr : rSlen d t = some r) :
    Pure P φ a ⟨dst, .call ⟨.builtin .len, #[x], #[e]⟩, type, pos, after, guard⟩ r := fun w => by
  obtain ⟨i1, u1, ht1⟩ := ty_ok ht he
  have hu := ht1.under
  rw [kind_str (congrArg TI.kind ht1.eq).symm] at hu
  unfold rSlen at hr
  split at hr
  · rename_i s h1
    cases hr
    have h3 := inv_str (ev_ok h hc h1)
    have hsz : (⟨s.toArray⟩ : ByteArray).size = s.length := by simp [ByteArray.size]
    exact ⟨.int .i64 s.length, by simp [execOp, resolve, invoke, builtin, Builtin.len_, run_underlying' hu, h3, Result.andThen, goInt, hsz], .int _ _⟩
  · cases hr

theorem capn_ok (h : TmR φ t a) (ht : TabOk P tab) {x : Operand} {d : D} {r : X} {e el : TypeId} {z1 z2 z3 z4 z5} (he : ty tab e = some ⟨z1, z2, z3, .slice el, z4, z5⟩) (hc : cD eqs.gs x = some d) (hr : rCapn d t = some r) :
    Pure P φ a ⟨dst, .call ⟨.builtin .cap, #[x], #[e]⟩, type, pos, after, guard⟩ r := fun w => by
  obtain ⟨i1, u1, ht1⟩ := ty_ok ht he
  have hu := ht1.under
  rw [kind_slice (congrArg TI.kind ht1.eq).symm] at hu
  unfold rCapn at hr
  split at hr
  · rename_i h1
    cases hr
    have h3 := inv_nils (ev_ok h hc h1)
    exact ⟨.int .i64 0, by simp [execOp, resolve, invoke, builtin, Builtin.cap_, run_underlying' hu, h3, Result.andThen, goInt], .int _ _⟩
  · rename_i id off k c z h1
    cases hz : Nat.beq z 0 with
    | false => rw [hz] at hr; cases hr
    | true =>
      rw [hz] at hr
      cases hr
      have hz0 := Nat.eq_of_beq_eq_true hz
      obtain ⟨b, s, c', h2, h3, _, _, h4, _⟩ := inv_sl (ev_ok h hc h1)
      have := h4 hz0
      subst this
      exact ⟨.int .i64 c', by simp [execOp, resolve, invoke, builtin, Builtin.cap_, run_underlying' hu, h3, Result.andThen, goInt], .int _ _⟩
  · rename_i full z es h1
    cases hf : full with
    | false => rw [hf] at hr; cases hr
    | true =>
      rw [hf] at hr
      cases hr
      obtain ⟨b, off, c', vs, h3, _, _, h4, _⟩ := inv_rs (ev_ok h hc h1)
      have := h4 hf
      subst this
      exact ⟨.int .i64 es.length, by simp [execOp, resolve, invoke, builtin, Builtin.cap_, run_underlying' hu, h3, Result.andThen, goInt], .int _ _⟩
  · cases hr

theorem rowsOf_ok {z : Nat} : ∀ {k : Nat} {cs : List X} {es : List (List X)}, rowsOf z k cs = some es → es.length = k ∧ (∀ e ∈ es, e.length = z) ∧ ∀ (i : Nat) e (j : Nat) c, es[i]? = some e → e[j]? = some c → cs[i * z + j]? = some c := by
  intro k
  induction k with
  | zero => intro cs es h; simp [rowsOf] at h; subst h; exact ⟨rfl, (fun e he => by cases he), fun i e j c h1 => by simp at h1⟩
  | succ k ih =>
    intro cs es h
    unfold rowsOf at h
    cases hb : Nat.ble z cs.length with
    | false => rw [hb] at h; cases h
    | true =>
      rw [hb] at h
      simp only [cond_true] at h
      split at h
      · rename_i l hl
        cases h
        have hle := Nat.le_of_ble_eq_true hb
        obtain ⟨g1, g2, g3⟩ := ih hl
        refine ⟨by simp [g1], fun e he => ?_, fun i e j c h1 h2 => ?_⟩
        · rcases List.mem_cons.1 he with h3 | h3
          · subst h3; simp; omega
          · exact g2 e h3
        · cases i with
          | zero =>
            simp only [List.getElem?_cons_zero, Option.some.injEq] at h1
            subst h1
            rw [List.getElem?_take] at h2
            split at h2
            · rw [Nat.zero_mul, Nat.zero_add]; exact h2
            · cases h2
          | succ i =>
            have := g3 i e j c (by simpa using h1) h2
            rw [List.getElem?_drop] at this
            rw [Nat.succ_mul, show i * z + z + j = z + (i * z + j) by omega]
            exact this
      · cases h

theorem slA_ok (h : TmR φ t a) (ht : TabOk P tab) {x : Operand} {lo hi : Option Operand} {d : D} {dl dh : Option D} {r : X} {e el : TypeId} {m : Nat} {ei : TI} {z1 z2 z3 z4 z5} (he : ty tab e = some ⟨z1, z2, z3, .array m el, z4, z5⟩) (hel : ty tab el = some ei)
    (hc : cD eqs.gs x = some d) (hl : cDO eqs.gs lo = some dl) (hh : cDO eqs.gs hi = some dh) (hr : rSlA m ei.size d dl dh t = some r) :
    Pure P φ a ⟨dst, .slice e x lo hi none, type, pos, after, guard⟩ r := fun w => by
  obtain ⟨i1, u1, ht1⟩ := ty_ok ht he
  have hu := ht1.under
  rw [kind_array (congrArg TI.kind ht1.eq).symm] at hu
  obtain ⟨i2, u2, ht2⟩ := ty_ok ht hel
  have key : ∀ (b off l hh' : Nat), a.eval x = .pointer (some ⟨b, off, none⟩) → l ≤ hh' → hh' ≤ m → ((lo = none ∧ l = 0) ∨ ∃ x k, lo = some x ∧ a.eval x = .int k l) → ((hi = none ∧ hh' = m) ∨ ∃ x k, hi = some x ∧ a.eval x = .int k hh') →
      (execOp a.eval ⟨dst, .slice e x lo hi none, type, pos, after, guard⟩).run P w = .ok (.value (.slice (some (if m = l then ⟨b, off, none⟩ else ⟨b, off + l * ei.size, none⟩)) (hh' - l) (m - l))) w := fun b off l hh' h4 hb1 hb2 hlo hhi => by
    have hB : (Instr.sliceBounds false m m (lo.map a.eval) (hi.map a.eval) none).run P w = .ok (l, hh', m) w := by
      rcases hlo with ⟨rfl, rfl⟩ | ⟨o, k, rfl, ho⟩ <;> rcases hhi with ⟨rfl, rfl⟩ | ⟨o', k', rfl, ho'⟩ <;>
        simp_all [Instr.sliceBounds, run_bound, Result.andThen]
    simp only [execOp, h4]
    refine run_value ?_
    by_cases hml : m = l
    · subst hml
      simp [Instr.sliceAt, run_underlying' hu, Result.andThen, Instr.sureAddr, hB, ht2.size]
    · simp [Instr.sliceAt, run_underlying' hu, Result.andThen, Instr.sureAddr, hB, ht2.size, hml, addr_add]
  unfold rSlA at hr
  split at hr
  · rename_i id off hx
    obtain ⟨b, s, h3, h4⟩ := inv_ptr (ev_ok h hc hx)
    split at hr
    · rename_i l hh' hbl hbh
      have hlo := bnd_ok h hl hbl
      have hhi := bnd_ok h hh hbh
      cases hb : Nat.ble l hh' && Nat.ble hh' m with
      | false => rw [hb] at hr; cases hr
      | true =>
        rw [hb] at hr
        simp only [cond_true, Option.some.injEq] at hr
        subst hr
        simp only [Bool.and_eq_true] at hb
        have hb1 := Nat.le_of_ble_eq_true hb.1
        have hb2 := Nat.le_of_ble_eq_true hb.2
        refine ⟨_, key b off l hh' h4 hb1 hb2 hlo hhi, ?_⟩
        by_cases hml : m = l
        · subst hml
          simp
          exact .sl0 id _ _ _ b s h3 (by omega)
        · rw [beq_ff hml, if_neg hml]
          exact .sl0 id _ _ _ b s h3 (by omega)
    · cases hr
  · rename_i cs hx
    obtain ⟨b, off, vs, h4, k1, k2⟩ := inv_rp (ev_ok h hc hx)
    split at hr
    · rename_i l hh' hbl hbh
      have hlo := bnd_ok h hl hbl
      have hhi := bnd_ok h hh hbh
      cases hb : Nat.ble l hh' && Nat.ble hh' m with
      | false => rw [hb] at hr; cases hr
      | true =>
        rw [hb] at hr
        simp only [cond_true] at hr
        split at hr
        · rename_i es hes
          simp only [Option.some.injEq] at hr
          subst hr
          simp only [Bool.and_eq_true] at hb
          have hb1 := Nat.le_of_ble_eq_true hb.1
          have hb2 := Nat.le_of_ble_eq_true hb.2
          obtain ⟨g1, g2, g3⟩ := rowsOf_ok hes
          refine ⟨_, key b off l hh' h4 hb1 hb2 hlo hhi, ?_⟩
          rw [← g1]
          by_cases hml : m = l
          · have h0 : es = [] := List.eq_nil_of_length_eq_zero (by omega)
            rw [if_pos hml, h0]
            exact .rs _ _ [] b off _ (fun _ _ => undef) (fun e he => by cases he) (Nat.zero_le _) (fun _ => by rw [hml]; simp) (fun i e j c he => by simp at he) fun i e j c he => by simp at he
          · rw [if_neg hml]
            refine .rs _ _ es b _ _ (fun i j => vs (l * ei.size + (i * ei.size + j))) g2 (by omega) (fun hf => by have := Nat.eq_of_beq_eq_true hf; omega) (fun i e j c he hj => ?_) fun i e j c he hj => ?_
            · have := g3 i e j c he hj
              rw [List.getElem?_drop] at this
              rw [Nat.add_assoc]
              exact k1 _ c this
            · have := g3 i e j c he hj
              rw [List.getElem?_drop] at this
              exact k2 _ c this
        · cases hr
    · cases hr
  · cases hr

theorem mx_mem {t : TypeId} {q : TypeId × List (Option IntKind)} : ∀ {l : List (TypeId × List (Option IntKind))}, l.find? (fun q => Nat.beq q.1 t) = some q → q ∈ l ∧ q.1 = t := by
  intro l h
  exact ⟨List.mem_of_find?_eq_some h, Nat.eq_of_beq_eq_true (by have := List.find?_some h; simpa using this)⟩
theorem eqx_ok (h : TmR φ t a) {neg : Bool} {ks : List (Option IntKind)} {x y : Operand} {dx dy : D} {r : X} {e e' : TypeId} (he : EqM P e ks) (hx : cD eqs.gs x = some dx) (hy : cD eqs.gs y = some dy) (hr : rEqx neg ks dx dy t = some r) :
    Pure P φ a ⟨dst, .binOp (bif neg then .neq else .eql) e x y e', type, pos, after, guard⟩ r := fun w => by
  unfold rEqx at hr
  split at hr
  · rename_i ca cb h1 h2
    split at hr
    · rename_i m k hm hk
      obtain ⟨va, ga, g1⟩ := inv_agg (ev_ok h hx h1)
      obtain ⟨vb, gb, g2⟩ := inv_agg (ev_ok h hy h2)
      obtain ⟨ea, oa⟩ := mixOf_ok hm ga.1
      obtain ⟨eb, ob⟩ := mixOf_ok hk gb.1
      subst ea; subst eb
      have hE := he m k x y w oa ob
      cases hr
      cases neg with
      | false =>
        refine ⟨.bool (decide (m = k)), ?_, .bool _⟩
        simp only [cond_false, execOp, g1, g2]
        refine run_value ?_
        rw [Sem.run_bind, hE.2, Result.andThen_ok]
        simp [binOp, hE.1, Result.andThen]
      | true =>
        refine ⟨.bool (!decide (m = k)), ?_, .bool _⟩
        simp only [cond_true, execOp, g1, g2]
        refine run_value ?_
        rw [Sem.run_bind, hE.2, Result.andThen_ok]
        simp [binOp, hE.1, Result.andThen]
    · cases hr
  · cases hr
theorem mkFb_ok (h : TmR φ t a) {f : FuncId} {fa b : Array Operand} {da db : List D} {r : X} (hc : cDL eqs.gs fa.toList = some da) (hc' : cDL eqs.gs b.toList = some db) (hr : rMkFb f da db t = some r) : Pure P φ a ⟨dst, .makeFunc (.func f) fa b, type, pos, after, guard⟩ r := fun w => by
  unfold rMkFb at hr
  split at hr
  · rename_i xs ys h1 h2
    cases hr
    have h3 := evL_ok h hc h1
    have h4 := evL_ok h hc' h2
    refine ⟨_, by simp [execOp, Instr.makeFunc, Result.andThen]; rfl, ?_⟩
    have := VR.fb (φ := φ) f xs (fa.toList.map a.eval) ys (b.toList.map a.eval) h3.1 h3.2 h4.1 h4.2
    have he : (b.toList.map a.eval).toArray = b.map a.eval := by apply Array.ext'; simp
    have he' : (fa.toList.map a.eval).toArray = fa.map a.eval := by apply Array.ext'; simp
    rw [he, he'] at this
    exact this
  · cases hr
theorem mkI_ok (h : TmR φ t a) (ht : TabOk P tab) {x : Operand} {d : D} {r : X} {e : TypeId} {fs : List (Nat × TypeId)} {z1 z2 z3 z4 z5} (he : ty tab e = some ⟨z1, z2, z3, .struct fs, z4, z5⟩) (hc : cD eqs.gs x = some d) (hr : rMkI e d t = some r) :
    Pure P φ a ⟨dst, .makeInterface e x, type, pos, after, guard⟩ r := fun w => by
  obtain ⟨i1, u1, ht1⟩ := ty_ok ht he
  have hu := ht1.under
  obtain ⟨fa, g1, _⟩ := kind_struct (congrArg TI.kind ht1.eq).symm
  rw [g1] at hu
  unfold rMkI at hr
  split at hr
  · rename_i y h1
    cases hr
    refine ⟨.iface e (a.eval x), ?_, .ifc _ _ _ (ev_ok h hc h1)⟩
    simp only [execOp]
    refine run_value ?_
    simp [Instr.makeInterface, run_underlying' hu, Result.andThen]
  · cases hr

theorem opP_ok (ht : TabOk P tab) (he : EqsOk P eqs) (h : TmR φ t a) {op : Op} {i : IP} {r : X} (hc : cOp tab eqs op = some (.p i)) (hr : opP i t = some r) :
    Pure P φ a ⟨dst, op, type, pos, after, guard⟩ r := by
  unfold cOp at hc
  split at hc
  · rename_i j h0
    cases hc
    exact opP0_ok ht he h h0 hr
  · unfold cNew at hc
    split at hc
    · split at hc
      · rename_i h1 h2
        split at hc
        · rename_i t' ks hf
          obtain ⟨g1, g2⟩ := mx_mem hf
          have hE := he.2.2.1 _ g1
          simp only at g2
          subst g2
          split at hc
          · cases hc; exact eqx_ok (neg := false) h hE h1 h2 hr
          · cases hc; exact eqx_ok (neg := true) h hE h1 h2 hr
          · cases hc
        · split at hc
          · rename_i t' ks hf
            obtain ⟨g1, g2⟩ := px_mem hf
            have hE := he.2.2.2 _ g1
            simp only at g2
            subst g2
            split at hc
            · cases hc; exact eqp_ok (neg := false) h hE h1 h2 hr
            · cases hc; exact eqp_ok (neg := true) h hE h1 h2 hr
            · cases hc
          · cases hc; exact sbin_ok h h1 h2 hr
      · cases hc
    · split at hc
      · rename_i h1 h2 h3; cases hc; exact sidx_ok h ht h1 h2 h3 hr
      · rename_i h1 h2 h3
        split at hc
        · rename_i h4; cases hc; exact idxA_ok h ht h1 h4 h2 h3 hr
        · cases hc
      · cases hc
    · split at hc
      · rename_i h1 h2 h3 h4; cases hc; exact sslc_ok h ht h1 h2 h3 h4 hr
      · rename_i h1 h2 h3 h4
        split at hc
        · rename_i h5; cases hc; exact slA_ok h ht h1 h5 h2 h3 h4 hr
        · cases hc
      · cases hc
    · repeat' split at hc
      all_goals cases hc
    · repeat' split at hc
      all_goals cases hc
    · repeat' split at hc
      all_goals cases hc
    · split at hc
      · rename_i h1 h2; cases hc; exact mkFb_ok h h1 h2 hr
      · cases hc
    · split at hc
      · rename_i h1 h2; cases hc; exact mkI_ok h ht h1 h2 hr
      · cases hc
    · split at hc <;> cases hc
    · rename_i b args tys _
      unfold cNewB at hc
      split at hc
      · rename_i t1 x ht1 hx1 _
        have e1 : tys = #[t1] := by apply Array.ext'; simpa using ht1
        have e2 : args = #[x] := by apply Array.ext'; simpa using hx1
        subst e1; subst e2
        split at hc
        · rename_i h1 h2; cases hc; exact slen_ok h ht h1 h2 hr
        · cases hc
      · rename_i t1 x ht1 hx1 _
        have e1 : tys = #[t1] := by apply Array.ext'; simpa using ht1
        have e2 : args = #[x] := by apply Array.ext'; simpa using hx1
        subst e1; subst e2
        split at hc
        · rename_i h1 h2; cases hc; exact capn_ok h ht h1 h2 hr
        · cases hc
      · repeat' split at hc
        all_goals first | (cases hc; done) | skip
        all_goals (revert hc; cases (Nat.beq _ _ && Nat.blt _ _) <;> intro hc <;> cases hc)
      · repeat' split at hc
        all_goals first | (cases hc; done) | skip
        all_goals (revert hc; cases (Nat.beq _ _ && Nat.blt _ _) <;> intro hc <;> cases hc)
      · cases hc
    · cases hc

theorem bytesOf_ok : ∀ {l : List X} {b : List UInt8}, bytesOf l = some b → ∀ {us : List Value}, CR φ l us → ∃ ns : List Int, us = ns.map (Value.int .u8) ∧ b = ns.map fun n => UInt8.ofNat n.toNat := by
  intro l
  induction l with
  | nil =>
    intro b h us hc
    cases h
    have : us = [] := List.length_eq_zero_iff.1 (by have := hc.1.1; simpa using this.symm)
    exact ⟨[], this, rfl⟩
  | cons x l ih =>
    intro b h us hc
    unfold bytesOf at h
    split at h
    · rename_i h0; cases h0
    · rename_i n l' h0
      cases h0
      split at h
      · rename_i r hr
        cases h
        cases us with
        | nil => have := hc.1.1; simp at this
        | cons u us =>
          obtain ⟨ns, g1, g2⟩ := ih hr (us := us) ⟨⟨by have := hc.1.1; simpa using this, fun i c v h1 h2 => hc.1.2 (i + 1) c v (by simpa using h1) (by simpa using h2)⟩, fun v hv => hc.2 v (List.mem_cons_of_mem _ hv)⟩
          have hu := inv_int (hc.1.2 0 _ u rfl rfl)
          exact ⟨n :: ns, by rw [hu, g1]; rfl, by rw [g2]; rfl⟩
      · cases h
    · cases h
theorem push_fold (f : Int → UInt8) : ∀ (ns : List Int) (s : ByteArray), ns.foldl (fun r n => r.push (f n)) s = ⟨(s.data.toList ++ ns.map f).toArray⟩ := by
  intro ns
  induction ns with
  | nil => intro s; apply ByteArray.ext; simp
  | cons n ns ih => intro s; rw [List.foldl_cons, ih]; apply ByteArray.ext; simp [ByteArray.push]

theorem b2s_ok (hp : Hp h n w φ) (ht : TabOk P tab) (hm : TmR φ t a) {x : Operand} {d : D} {r : X} {s e el : TypeId} {z1 z2 z3 z4 z5 y1 y2 y3 y4 y5 x1 x2 x3 x4 x5} (hs : ty tab s = some ⟨z1, z2, z3, .slice el, z4, z5⟩) (he : ty tab e = some ⟨y1, y2, y3, .str, y4, y5⟩) (hel : ty tab el = some ⟨x1, x2, x3, .int .u8, x4, x5⟩)
    (hc : cD eqs.gs x = some d) (hr : rB2s d t h = some r) : ∃ v, (execOp a.eval ⟨dst, .convert s e x, type, pos, after, guard⟩).run P w = .ok (.value v) w ∧ VR φ r v := by
  obtain ⟨i1, u1, ht1⟩ := ty_ok ht hs
  have hu := ht1.under
  rw [kind_slice (congrArg TI.kind ht1.eq).symm] at hu
  obtain ⟨i2, u2, ht2⟩ := ty_ok ht he
  have hu2 := ht2.under
  rw [kind_str (congrArg TI.kind ht2.eq).symm] at hu2
  obtain ⟨i3, u3, ht3⟩ := ty_ok ht hel
  have hu3 := ht3.under
  rw [kind_int (congrArg TI.kind ht3.eq).symm] at hu3
  unfold rB2s at hr
  split at hr
  · rename_i h1
    cases hr
    have h3 := inv_nils (ev_ok hm hc h1)
    refine ⟨.string ByteArray.empty, ?_, VR.str' []⟩
    simp only [execOp, h3]
    refine run_value ?_
    rw [run_convert_bytes_string w s e el none 0 0 hu hu3 hu2]
    rfl
  · rename_i id off len c z h1
    split at hr
    · rename_i cs h2
      split at hr
      · rename_i l hl
        split at hr
        · rename_i b hb
          cases hr
          obtain ⟨bk, sz, c', g1, g2, _⟩ := inv_sl (ev_ok hm hc h1)
          obtain ⟨us, q1, q2, q3⟩ := (hp.obj id bk sz _ g1 h2).row (m := len) hl
          obtain ⟨ns, m1, m2⟩ := bytesOf_ok hb q2
          subst m1
          have hll := run_loadCells_list (P := P) w ⟨bk, off, none⟩ (ns.map (Value.int .u8)) (fun j v hj => q3 j v hj)
          rw [q1] at hll
          refine ⟨.string ⟨b.toArray⟩, ?_, VR.str' b⟩
          simp only [execOp, g2]
          refine run_value ?_
          rw [run_convert_bytes_string w s e el _ len c' hu hu3 hu2, run_bytesToString w _ len c' ns hll, push_fold, m2]
          rfl
        · cases hr
      · cases hr
    · cases hr
  · rename_i full z es h1
    cases hz : Nat.beq z 1 with
    | false => rw [hz] at hr; cases hr
    | true =>
      rw [hz] at hr
      simp only [cond_true] at hr
      split at hr
      · rename_i b hb
        cases hr
        have hz1 := Nat.eq_of_beq_eq_true hz
        subst hz1
        obtain ⟨bk, off, c', vs, g2, k1, k2, k3, k4, k5⟩ := inv_rs (ev_ok hm hc h1)
        obtain ⟨us, q1, q2, q3⟩ := rs_row hp.ro k1 k4 k5
        obtain ⟨ns, m1, m2⟩ := bytesOf_ok hb q2
        subst m1
        have hll := run_loadCells_list (P := P) w ⟨bk, off, none⟩ (ns.map (Value.int .u8)) (fun j v hj => q3 j v hj)
        rw [q1, Nat.mul_one] at hll
        refine ⟨.string ⟨b.toArray⟩, ?_, VR.str' b⟩
        simp only [execOp, g2]
        refine run_value ?_
        rw [run_convert_bytes_string w s e el _ es.length c' hu hu3 hu2, run_bytesToString w _ es.length c' ns hll, push_fold, m2]
        rfl
      · cases hr
  · cases hr

/-- Entries of a map whose keys are structs or arrays of integers. -/
def EntA (φ : Pl eqs.gs) (ks : List IntKind) (es : List (List Int × X)) (rl : List MapEntry) : Prop :=
  rl.length = es.length ∧ ∀ (i : Nat) e r, es[i]? = some e → rl[i]? = some r → r.key = .agg (intVals ks e.1).toArray ∧ e.1.length = ks.length ∧ VR φ e.2 r.val
theorem EntA.tail {k e es r rl} (h : EntA φ k (e :: es) (r :: rl)) : EntA φ k es rl := ⟨by simpa using h.1, fun i e r h1 h2 => h.2 (i + 1) e r (by simpa using h1) (by simpa using h2)⟩
theorem findAsk_ok {kt : TypeId} {ks : List IntKind} (hE : EqT P kt ks) {m : List Int} (hm : m.length = ks.length) : ∀ {es : List (List Int × X)} {rl : List MapEntry} (i0 : Nat), EntA φ ks es rl →
    (mgetA m es = none ∧ (Instr.findAsking kt (.agg (intVals ks m).toArray) rl i0).run P w = .ok none w) ∨
    (∃ x j v, mgetA m es = some x ∧ (Instr.findAsking kt (.agg (intVals ks m).toArray) rl i0).run P w = .ok (some (i0 + j, v)) w ∧ VR φ x v) := by
  intro es
  induction es with
  | nil => intro rl i0 h; have : rl = [] := List.eq_nil_of_length_eq_zero h.1; subst this; exact .inl ⟨rfl, by simp [Instr.findAsking]⟩
  | cons e es ih =>
    intro rl i0 h
    cases rl with
    | nil => have := h.1; simp at this
    | cons r rl =>
      obtain ⟨h1, h2, h3⟩ := h.2 0 e r rfl rfl
      have heq := (hE m e.1 (.tmp 0) (.tmp 0) w hm h2).1
      by_cases hk : m = e.1
      · refine .inr ⟨e.2, 0, r.val, by simp [mgetA, hk], ?_, h3⟩
        rw [decide_eq_true hk] at heq
        simp [Instr.findAsking, h1, heq, Result.andThen]
      · rw [decide_eq_false hk] at heq
        have hstep : (Instr.findAsking kt (.agg (intVals ks m).toArray) (r :: rl) i0).run P w = (Instr.findAsking kt (.agg (intVals ks m).toArray) rl (i0 + 1)).run P w := by
          simp [Instr.findAsking, h1, heq, Result.andThen]
        have hg : mgetA m (e :: es) = mgetA m es := by simp [mgetA, hk]
        rw [hstep, hg]
        rcases ih (i0 + 1) h.tail with ⟨g1, g2⟩ | ⟨x, j, v, g1, g2, g3⟩
        · exact .inl ⟨g1, g2⟩
        · exact .inr ⟨x, j + 1, v, g1, by rw [g2, show i0 + 1 + j = i0 + (j + 1) by omega], g3⟩
theorem findKeyA_ok {kt : TypeId} {ks : List IntKind} (hE : EqT P kt ks) (hK : KeyT P kt ks) {m : List Int} (hm : m.length = ks.length) {es : List (List Int × X)} {rl : List MapEntry} (h : EntA φ ks es rl) :
    (mgetA m es = none ∧ (Instr.findKey kt (.agg (intVals ks m).toArray) rl).run P w = .ok none w) ∨
    (∃ x j v, mgetA m es = some x ∧ (Instr.findKey kt (.agg (intVals ks m).toArray) rl).run P w = .ok (some (j, v)) w ∧ VR φ x v) := by
  obtain ⟨⟨u, hu, hs⟩, _⟩ := hK
  have hf : (Instr.findKey kt (.agg (intVals ks m).toArray) rl).run P w = (Instr.findAsking kt (.agg (intVals ks m).toArray) rl 0).run P w := by
    cases rl with
    | nil => simp [Instr.findKey, run_underlying' hu, Instr.findNow, Instr.findAsking, Result.andThen]
    | cons r rl => simp [Instr.findKey, run_underlying' hu, Instr.findNow, hs, Result.andThen]
  rw [hf]
  rcases findAsk_ok (w := w) hE hm 0 h with ⟨g1, g2⟩ | ⟨x, j, v, g1, g2, g3⟩
  · exact .inl ⟨g1, g2⟩
  · exact .inr ⟨x, 0 + j, v, g1, g2, g3⟩

theorem keyA {ks : List IntKind} {cs : List X} {key : List Int} (hk : intsOf ks cs = some key) {v : Value} (hv : VR φ (.agg cs) v) : v = .agg (intVals ks key).toArray ∧ key.length = ks.length := by
  obtain ⟨vs, h1, rfl⟩ := inv_agg hv
  obtain ⟨g1, g2⟩ := intsOf_ok hk h1.1
  exact ⟨by rw [g1], g2⟩

theorem lookA_ok (hp : Hp h n w φ) (ht : TabOk P tab) (hm : TmR φ t a) {e kt el : TypeId} {ks : List IntKind} (hE : EqT P kt ks) (hK : KeyT P kt ks) {x y : Operand} {dx dy : D} {ok : Bool} {z r : X} {z1 z2 z3 z4 z5 x1 x2 x3 x4 x5} (he : ty tab e = some ⟨z1, z2, z3, .map kt el, z4, z5⟩)
    (hz : ty tab el = some ⟨x1, x2, x3, x4, x5, some z⟩) (hx : cD eqs.gs x = some dx) (hy : cD eqs.gs y = some dy) (hr : rLookA z ok ks dx dy t h = some r) :
    ∃ v, (execOp a.eval ⟨dst, .lookup e x y ok, type, pos, after, guard⟩).run P w = .ok (.value v) w ∧ VR φ r v := by
  obtain ⟨i1, u1, hti1⟩ := ty_ok ht he
  obtain ⟨i3, u3, hti3⟩ := ty_ok ht hz
  have hu1 := hti1.under
  rw [kind_map (congrArg TI.kind hti1.eq).symm] at hu1
  obtain ⟨zv, hzv, hz2⟩ := hti3.zv (z := z) rfl
  have hzv := hzv φ
  unfold rLookA at hr
  split at hr
  · rename_i id cs h1 h2
    split at hr
    · rename_i key hkey
      split at hr
      · rename_i es ks' h3
        by_cases hkk : ks = ks'
        · subst hkk
          simp only [decide_true, cond_true, Option.some.injEq] at hr
          subst hr
          obtain ⟨b, s, h4, h5⟩ := inv_map (ev_ok hm hx h1)
          obtain ⟨h6, h7⟩ := keyA hkey (ev_ok hm hy h2)
          obtain ⟨res, clock, g1, g2, g3⟩ := hp.obj id b s _ h4 h3
          have hEn : EntA φ ks es res.toList := ⟨by simpa using g2, fun i e r k1 k2 => g3 i e r k1 (by simpa using k2)⟩
          have hobj : (getObj b).run P w = .ok (.map res clock) w := by simp [getObj, Sem.run, g1]
          have hck := fun bb => (hK.2 key bb w h7).1
          rcases findKeyA_ok (w := w) hE hK h7 hEn with ⟨k1, k2⟩ | ⟨xx, j, v, k1, k2, k3⟩
          · rw [k1]
            cases ok with
            | true =>
              refine ⟨.tuple #[zv, .bool false], ?_, VR.tup' (vs := [zv, .bool false]) ((VRL.nil.cons (.bool _)).cons hzv)⟩
              simp only [execOp, h5, h6]
              refine run_value ?_
              simp [Instr.lookup, run_underlying' hu1, hobj, hck, k2, hz2, Result.andThen]
            | false =>
              refine ⟨zv, ?_, hzv⟩
              simp only [execOp, h5, h6]
              refine run_value ?_
              simp [Instr.lookup, run_underlying' hu1, hobj, hck, k2, hz2, Result.andThen]
          · rw [k1]
            cases ok with
            | true =>
              refine ⟨.tuple #[v, .bool true], ?_, VR.tup' (vs := [v, .bool true]) ((VRL.nil.cons (.bool _)).cons k3)⟩
              simp only [execOp, h5, h6]
              refine run_value ?_
              simp [Instr.lookup, run_underlying' hu1, hobj, hck, k2, hz2, Result.andThen]
            | false =>
              refine ⟨v, ?_, k3⟩
              simp only [execOp, h5, h6]
              refine run_value ?_
              simp [Instr.lookup, run_underlying' hu1, hobj, hck, k2, hz2, Result.andThen]
        · simp [hkk] at hr
      · cases hr
    · cases hr
  · cases hr

theorem opR_ok (hp : Hp h n w φ) (ht : TabOk P tab) (hq : EqsOk P eqs) (hm : TmR φ t a) {op : Op} {i : IR} {r : X} (hc : cOp tab eqs op = some (.r i)) (hr : opR i t h = some r) :
    ∃ v, (execOp a.eval ⟨dst, op, type, pos, after, guard⟩).run P w = .ok (.value v) w ∧ VR φ r v := by
  unfold cOp at hc
  split at hc
  · rename_i j h0
    cases hc
    exact opR0_ok hp ht hm h0 hr
  · unfold cNew at hc
    split at hc
    · repeat' split at hc
      all_goals cases hc
    · repeat' split at hc
      all_goals cases hc
    · repeat' split at hc
      all_goals cases hc
    · split at hc
      · rename_i h1 h2 h3
        split at hc
        · rename_i h4; cases hc; exact b2s_ok hp ht hm h1 h2 h4 h3 hr
        · cases hc
      · split at hc <;> cases hc
      · cases hc
    · split at hc
      · rename_i h1 h2 h3
        split at hc
        · rename_i t' ks _ _ _ _ _ z hf hz
          cases hc
          obtain ⟨g1, g2⟩ := find_mem hf
          have hE := hq.1 _ g1
          simp only at g2
          subst g2
          exact lookA_ok hp ht hm hE.1 hE.2 h1 hz h2 h3 hr
        · cases hc
      · cases hc
    · repeat' split at hc
      all_goals cases hc
    · split at hc <;> cases hc
    · split at hc <;> cases hc
    · split at hc <;> cases hc
    · unfold cNewB at hc
      repeat' split at hc
      all_goals first | (cases hc; done) | skip
      all_goals (revert hc; cases (Nat.beq _ _ && Nat.blt _ _) <;> intro hc <;> cases hc)
    · cases hc
theorem opA_ok (ht : TabOk P tab) (hm : TmR φ t a) {op : Op} {i : IA} {m : Pt} {r : X} {ob : O} (hc : cOp tab eqs op = some (.a i)) (hr : opA i t m = some (r, ob)) : Alc P φ a ⟨dst, op, type, pos, after, guard⟩ m r ob := by
  unfold cOp at hc
  split at hc
  · rename_i j h0
    cases hc
    exact opA0_ok ht hm h0 hr
  · unfold cNew at hc
    split at hc
    · repeat' split at hc
      all_goals cases hc
    · repeat' split at hc
      all_goals cases hc
    · repeat' split at hc
      all_goals cases hc
    · repeat' split at hc
      all_goals cases hc
    · repeat' split at hc
      all_goals cases hc
    · repeat' split at hc
      all_goals cases hc
    · split at hc <;> cases hc
    · split at hc <;> cases hc
    · split at hc <;> cases hc
    · unfold cNewB at hc
      repeat' split at hc
      all_goals first | (cases hc; done) | skip
      all_goals (revert hc; cases (Nat.beq _ _ && Nat.blt _ _) <;> intro hc <;> cases hc)
    · cases hc

theorem clr_ok (hp : Hp h n w φ) (ht : TabOk P tab) (hm : TmR φ t a) {call : CallT} {e el : TypeId} {x : Operand} {dx : D} {size : Nat} {zs : List X} {r : X} {h' : H} {n' : Pt} {z1 z2 z3 z4 z5 y2 y3 y4 y5} (he : ty tab e = some ⟨z1, z2, z3, .slice el, z4, z5⟩) (hel : ty tab el = some ⟨size, y2, y3, y4, some zs, y5⟩)
    (hb2 : zs.length = size) (hb3 : 0 < size) (hx : cD eqs.gs x = some dx) (hr : rClr zs size dx call t h n = some (r, h', n')) : Wr P φ a ⟨dst, .call ⟨.builtin .clear, #[x], #[e]⟩, type, pos, after, guard⟩ h n w r h' n' := fun K Q hK => by
  obtain ⟨i1, u1, hti⟩ := ty_ok ht he
  obtain ⟨i2, u2, ht2⟩ := ty_ok ht hel
  have hu := hti.under
  rw [kind_slice (congrArg TI.kind hti.eq).symm] at hu
  have done : ∀ w', (Builtin.clear_ #[e] type #[a.eval x]).run P w = .ok (.tuple #[]) w' → ∀ φ', Step φ h n w φ' h' n' w' → r = .tup [] → (⟨dst, .call ⟨.builtin .clear, #[x], #[e]⟩, type, pos, after, guard⟩ : Oper).wp P a w K Q := fun w' hrun φ' hst hr' => by
    have : (execOp a.eval ⟨dst, .call ⟨.builtin .clear, #[x], #[e]⟩, type, pos, after, guard⟩).run P w = .ok (.value (.tuple #[])) w' := by
      simp [execOp, resolve, invoke, builtin, hrun, Result.andThen]
    unfold Oper.wp
    rw [this, Oper.upon_value]
    subst hr'
    exact hK _ w' φ' hst (.tup [] [] rfl (fun i c v h => by simp at h))
  unfold rClr at hr
  split at hr
  · rename_i h1
    cases hr
    have h3 := inv_nils (ev_ok hm hx h1)
    exact done w (by rw [h3]; simp [Builtin.clear_, run_underlying' hu, Result.andThen]) φ (Step.refl hp) rfl
  · rename_i id off len c z h1
    obtain ⟨b, s, c', g1, g2, _⟩ := inv_sl (ev_ok hm hx h1)
    cases hb : Nat.beq len 0 with
    | true =>
      rw [hb] at hr
      simp only [cond_true] at hr
      cases hr
      have := Nat.eq_of_beq_eq_true hb
      subst this
      exact done w (by rw [g2]; simp [Builtin.clear_, run_underlying' hu, Result.andThen]) φ (Step.refl hp) rfl
    | false =>
      rw [hb] at hr
      simp only [cond_false] at hr
      have hne := Nat.ne_of_beq_eq_false hb
      have hz : Nat.beq size 0 = false := beq_ff (by omega)
      rw [hz] at hr
      simp only [cond_false] at hr
      obtain ⟨zv, hzv, hcr⟩ := zero_row ht ht2 (zs := zs) rfl hb2 hb3 len
      obtain ⟨zv', _, hz1, hz2⟩ := ht2.zero (zs := zs) rfl
      have hzz : zv' = zv := by
        have h1 := hz2 w
        rw [hzv w] at h1
        cases h1; rfl
      subst hzz
      have hsz : zv'.cells.size = size := by have := (hz1 φ).1.1; rw [hb2] at this; rw [this, Array.length_toList]
      obtain ⟨rfl, rfl, w', m1, m2⟩ := putX_ok (P := P) hp g1 (hcr φ) hr
      have hzc : Builtin.zeroCells zv'.cells len = (Array.range (len * size)).map (zv'.cells[· % zv'.cells.size]!) := by
        unfold Builtin.zeroCells; rw [hsz]
      refine done w' ?_ φ m2 rfl
      rw [g2]
      obtain ⟨len', rfl⟩ : ∃ m, len = m + 1 := ⟨len - 1, by omega⟩
      simp only [Builtin.clear_]
      simp only [List.getElem?_toArray, List.getElem?_cons_zero, Sem.run_bind, run_underlying' hu, Result.andThen_ok, hzv, hzc, m1, Sem.run_pure]
  · cases hr

theorem appz_ok (hp : Hp h n w φ) (ht : TabOk P tab) (hm : TmR φ t a) {call : CallT} {e el tn : TypeId} {k0 : IntKind} {x y : Operand} {dx dy : D} {size bytes : Nat} {zs : List X} {r : X} {h' : H} {n' : Pt} {z1 z2 z3 z4 z5 y3 y4 y5 x1 x2 x3 x4 x5} (he : ty tab e = some ⟨z1, z2, z3, .slice el, z4, z5⟩) (hn : ty tab tn = some ⟨x1, x2, x3, .int k0, x4, x5⟩) (hel : ty tab el = some ⟨size, bytes, y3, y4, some zs, y5⟩)
    (hb2 : zs.length = size) (hb3 : 0 < size) (hx : cD eqs.gs x = some dx) (hy : cD eqs.gs y = some dy) (hr : rAppz zs size bytes dx dy call t h n = some (r, h', n')) : Wr P φ a ⟨dst, .call ⟨.builtin .append, #[x, y], #[e, tn]⟩, type, pos, after, guard⟩ h n w r h' n' := fun K Q hK => by
  obtain ⟨i1, u1, hti⟩ := ty_ok ht he
  obtain ⟨i2, u2, ht2⟩ := ty_ok ht hel
  obtain ⟨i3, u3, ht3⟩ := ty_ok ht hn
  have hu := hti.under
  rw [kind_slice (congrArg TI.kind hti.eq).symm] at hu
  have hu3 := ht3.under
  rw [kind_int (congrArg TI.kind ht3.eq).symm] at hu3
  have hsz : i2.size = size := (congrArg TI.size ht2.eq).symm
  have hby : i2.bytes = bytes := (congrArg TI.bytes ht2.eq).symm
  have hstep : ∀ cv w', (Builtin.append_ #[e, tn] type #[a.eval x, a.eval y]).run P w = .ok cv w' → (execOp a.eval ⟨dst, .call ⟨.builtin .append, #[x, y], #[e, tn]⟩, type, pos, after, guard⟩).run P w = .ok (.value cv) w' := fun cv w' h => by
    simp [execOp, resolve, invoke, builtin, h, Result.andThen]
  unfold rAppz at hr
  split at hr
  · rename_i y' h1 h2
    split at hr
    · rename_i k hk
      have h3 := inv_nils (ev_ok hm hx h1)
      obtain ⟨kk, h4⟩ := asI_ok hk (ev_ok hm hy h2)
      cases hk0 : Nat.beq k 0 with
      | true =>
        rw [hk0] at hr
        simp only [cond_true] at hr
        cases hr
        have hk00 := Nat.eq_of_beq_eq_true hk0
        subst hk00
        have hw0 : IntKind.i64.wrap ((0 : Nat) : Int) = 0 := by decide
        have hrun : (Builtin.append_ #[e, tn] type #[a.eval x, a.eval y]).run P w = .ok (.slice none 0 0) w := by
          rw [h3, h4]
          simp [Builtin.append_, run_underlying' hu, run_underlying' hu3, ht2.size, typeInfo, ht2.info, asInt, asIntOf, Result.andThen, show IntKind.i64.wrap 0 = 0 by decide]
        unfold Oper.wp
        rw [hstep _ w hrun, Oper.upon_value]
        exact hK _ w φ (Step.refl hp) .nils
      | false =>
        rw [hk0] at hr
        simp only [cond_false] at hr
        have hk1 := Nat.ne_of_beq_eq_false hk0
        obtain ⟨g1, g2, rfl, rfl, rfl⟩ := appN_eq hr
        obtain ⟨zv, hzi, hz1, hz2⟩ := ht2.zero (zs := zs) rfl
        have hzs : zv.cells.size = size := by have := (hz1 φ).1.1; rw [hb2] at this; rw [this, Array.length_toList]
        have hrun := Lib.run_append_nil_zeros (P := P) w e tn type el i2 zv kk k0 hu hu3 ht2.info hzi k (by omega) (by rw [hsz]; exact hb3) (by omega) (by rw [hby]; omega)
        rw [← h3, ← h4] at hrun
        obtain ⟨zv', hzv, hcr⟩ := zero_row ht ht2 (zs := zs) rfl hb2 hb3 k
        have hzz : zv' = zv := by
          have h1 := hz2 w
          rw [hzv w] at h1
          cases h1; rfl
        subst hzz
        have hzc : Builtin.zeroCells zv'.cells k = (Array.range (k * size)).map (zv'.cells[· % zv'.cells.size]!) := by
          unfold Builtin.zeroCells; rw [hzs]
        have hge := grownCap_ge w k 0 el
        obtain ⟨k1, k2⟩ := grown_step hp (e := el) (z := size) (cap := grownCap w k 0 el) (k := k) (vs := Builtin.zeroCells zv'.cells k ++ Builtin.zeroCells zv'.cells (grownCap w k 0 el - k)) (us := (Builtin.zeroCells zv'.cells k).toList) (new := repL k zs)
          (by rw [Array.length_toList, size_zeroCells, hzs]) (by rw [hzc]; exact hcr φ)
          (by simp only [Array.size_append, size_zeroCells, hzs, ← Nat.add_mul]; congr 1; omega)
          (by
            simp only [Array.toList_append]
            have e1 : (Builtin.zeroCells zv'.cells k).toList.length = k * size := by rw [Array.length_toList, size_zeroCells, hzs]
            rw [← e1]; exact List.take_left) hge (grownCap_le_maxLen w k 0 el (by unfold maxLen; omega))
        unfold Oper.wp
        rw [hstep _ _ hrun, Oper.upon_value]
        exact hK _ _ _ k1 k2
    · cases hr
  · cases hr

theorem msetA_ok {kt : TypeId} {ks : List IntKind} (hE : EqT P kt ks) {m : List Int} (hm : m.length = ks.length) {x : X} {v : Value} (hv : VR φ x v) : ∀ {es : List (List Int × X)} {rl : List MapEntry} (i0 : Nat), EntA φ ks es rl →
    ((Instr.findAsking kt (.agg (intVals ks m).toArray) rl i0).run P w = .ok none w ∧ ∀ b, EntA φ ks (msetA m x es) (rl ++ [{ key := .agg (intVals ks m).toArray, val := v, born := b }])) ∨
    (∃ j u e, (Instr.findAsking kt (.agg (intVals ks m).toArray) rl i0).run P w = .ok (some (i0 + j, u)) w ∧ rl[j]? = some e ∧ e.key = .agg (intVals ks m).toArray ∧ EntA φ ks (msetA m x es) (rl.set j { e with key := .agg (intVals ks m).toArray, val := v })) := by
  intro es
  induction es with
  | nil =>
    intro rl i0 h
    have : rl = [] := List.eq_nil_of_length_eq_zero h.1
    subst this
    refine .inl ⟨by simp [Instr.findAsking], fun b => ⟨rfl, fun i e r h1 h2 => ?_⟩⟩
    cases i with
    | zero => simp [msetA] at h1 h2; subst h1; subst h2; exact ⟨rfl, hm, hv⟩
    | succ i => simp [msetA] at h1
  | cons e es ih =>
    intro rl i0 h
    cases rl with
    | nil => have := h.1; simp at this
    | cons r rl =>
      obtain ⟨h1, h2, h3⟩ := h.2 0 e r rfl rfl
      have heq := (hE m e.1 (.tmp 0) (.tmp 0) w hm h2).1
      by_cases hk : m = e.1
      · rw [decide_eq_true hk] at heq
        refine .inr ⟨0, r.val, r, by simp [Instr.findAsking, h1, heq, Result.andThen], rfl, by rw [h1, hk], ?_⟩
        have : msetA m x (e :: es) = (m, x) :: es := by simp [msetA, hk]
        rw [this]
        refine ⟨by simpa using h.1, fun i e' r' g1 g2 => ?_⟩
        cases i with
        | zero => simp at g1 g2; subst g1; subst g2; exact ⟨rfl, hm, hv⟩
        | succ i => exact h.2 (i + 1) e' r' (by simpa using g1) (by simpa using g2)
      · rw [decide_eq_false hk] at heq
        have hstep : (Instr.findAsking kt (.agg (intVals ks m).toArray) (r :: rl) i0).run P w = (Instr.findAsking kt (.agg (intVals ks m).toArray) rl (i0 + 1)).run P w := by
          simp [Instr.findAsking, h1, heq, Result.andThen]
        have hms : msetA m x (e :: es) = e :: msetA m x es := by simp [msetA, hk]
        rw [hms, hstep]
        rcases ih (i0 + 1) h.tail with ⟨g1, g2⟩ | ⟨j, u, en, g1, g2, g3, g4⟩
        · refine .inl ⟨g1, fun b => ⟨by have := (g2 b).1; simpa using this, fun i e' r' k1 k2 => ?_⟩⟩
          cases i with
          | zero => simp at k1 k2; subst k1; subst k2; exact ⟨h1, h2, h3⟩
          | succ i => exact (g2 b).2 i e' r' (by simpa using k1) (by simpa using k2)
        · refine .inr ⟨j + 1, u, en, by rw [g1, show i0 + 1 + j = i0 + (j + 1) by omega], by simpa using g2, g3, by have := g4.1; simpa using this, fun i e' r' k1 k2 => ?_⟩
          cases i with
          | zero => simp at k1 k2; subst k1; subst k2; exact ⟨h1, h2, h3⟩
          | succ i => exact g4.2 i e' r' (by simpa using k1) (by simpa using k2)

theorem updA_ok (hp : Hp h n w φ) (ht : TabOk P tab) (hm : TmR φ t a) {call : CallT} {e kt el : TypeId} {ks : List IntKind} (hE : EqT P kt ks) (hK : KeyT P kt ks) {x y z : Operand} {dx dy dz : D} {r : X} {h' : H} {n' : Pt} {z1 z2 z3 z4 z5} (he : ty tab e = some ⟨z1, z2, z3, .map kt el, z4, z5⟩)
    (hx : cD eqs.gs x = some dx) (hy : cD eqs.gs y = some dy) (hz : cD eqs.gs z = some dz) (hr : rUpdA ks dx dy dz call t h n = some (r, h', n')) : Wr P φ a ⟨dst, .mapUpdate e x y z, type, pos, after, guard⟩ h n w r h' n' := fun K Q hK' => by
  obtain ⟨i1, u1, hti1⟩ := ty_ok ht he
  have hu1 := hti1.under
  rw [kind_map (congrArg TI.kind hti1.eq).symm] at hu1
  unfold rUpdA at hr
  split at hr
  · rename_i id cs v h1 h2 h2'
    split at hr
    · rename_i key hkey
      split at hr
      · rename_i es ks' h3
        by_cases hkk : ks = ks'
        · subst hkk
          simp only [decide_true, cond_true, Option.some.injEq, Prod.mk.injEq] at hr
          obtain ⟨rfl, rfl, rfl⟩ := hr
          obtain ⟨b, s, h4, h5⟩ := inv_map (ev_ok hm hx h1)
          obtain ⟨h6, h6'⟩ := keyA hkey (ev_ok hm hy h2)
          have h7 := ev_ok hm hz h2'
          obtain ⟨res, clock, g1, g2, g3⟩ := hp.obj id b s _ h4 h3
          have hEn : EntA φ ks es res.toList := ⟨by simpa using g2, fun i e r k1 k2 => g3 i e r k1 (by simpa using k2)⟩
          have hlt : b < w.heap.size := hp.lt id b s h4
          have hobj : (getObj b).run P w = .ok (.map res clock) w := by simp [getObj, Sem.run, g1]
          have hset : ∀ o, (setObj b o).run P w = .ok () { w with heap := w.heap.setIfInBounds b o } := fun o => by simp [setObj, Sem.run, g1]
          have hck := fun bb => (hK.2 key bb w h6').1
          have hsb := (hK.2 key true w h6').2
          have hfk : (Instr.findKey kt (.agg (intVals ks key).toArray) res.toList).run P w = (Instr.findAsking kt (.agg (intVals ks key).toArray) res.toList 0).run P w := by
            obtain ⟨⟨u, hu, hs⟩, _⟩ := hK
            cases res.toList with
            | nil => simp [Instr.findKey, run_underlying' hu, Instr.findNow, Instr.findAsking, Result.andThen]
            | cons r rl => simp [Instr.findKey, run_underlying' hu, Instr.findNow, hs, Result.andThen]
          have hstep : ∀ (res' : Array MapEntry) (clock' : Nat), EntA φ ks (msetA key v es) res'.toList → Step φ h n w φ (h.put id (.mapA (msetA key v es) ks)) n { w with heap := w.heap.setIfInBounds b (.map res' clock') } := fun res' clock' hE' => by
            refine Step.change hp h4 (by rw [h3]; rfl) rfl rfl rfl (by simp) (fun k hk => by simp [Array.getElem?_setIfInBounds, Ne.symm hk]) ?_
            exact ⟨res', clock', by simp [Array.getElem?_setIfInBounds, hlt], by simpa using hE'.1, fun i e r k1 k2 => hE'.2 i e r k1 (by simpa using k2)⟩
          rcases msetA_ok (w := w) hE h6' h7 0 hEn with ⟨k1, k2⟩ | ⟨j, u, en, k1, k2, k3, k4⟩
          · have hrun : (execOp a.eval ⟨dst, .mapUpdate e x y z, type, pos, after, guard⟩).run P w = .ok .skip { w with heap := w.heap.setIfInBounds b (.map (res.push { key := .agg (intVals ks key).toArray, val := a.eval z, born := clock }) (clock + 1)) } := by
              simp [execOp, h5, h6, Instr.mapUpdate, run_underlying' hu1, hobj, hck, hfk, k1, hset, Result.andThen]
            unfold Oper.wp
            rw [hrun, Oper.upon_skip]
            exact hK' _ _ _ (hstep _ _ (by simpa using k2 clock)) (.tup [] [] rfl (fun i c v h => by simp at h))
          · have k2' : res[j]? = some en := by simpa using k2
            have hrun : (execOp a.eval ⟨dst, .mapUpdate e x y z, type, pos, after, guard⟩).run P w = .ok .skip { w with heap := w.heap.setIfInBounds b (.map (res.modify j fun e => { e with key := .agg (intVals ks key).toArray, val := a.eval z }) clock) } := by
              rw [Nat.zero_add] at k1
              simp [execOp, h5, h6, Instr.mapUpdate, run_underlying' hu1, hobj, hck, hfk, k1, hset, Result.andThen, k2', k3, Instr.keyThatStays, hsb]
            unfold Oper.wp
            rw [hrun, Oper.upon_skip]
            refine hK' _ _ _ (hstep _ _ ?_) (.tup [] [] rfl (fun i c v h => by simp at h))
            have hjl : j < res.size := (Array.getElem?_eq_some_iff.1 k2').1
            have : (res.modify j fun e => { e with key := .agg (intVals ks key).toArray, val := a.eval z }).toList = res.toList.set j { en with key := .agg (intVals ks key).toArray, val := a.eval z } := by
              apply List.ext_getElem?
              intro q
              rw [Array.getElem?_toList, Array.getElem?_modify, List.getElem?_set]
              by_cases hq : j = q
              · subst hq
                have hen : res[j] = en := (Array.getElem?_eq_some_iff.1 k2').2
                simp [hjl, hen]
              · simp [hq]
            rw [this]; exact k4
        · simp [hkk] at hr
      · cases hr
    · cases hr
  · cases hr

theorem findM_mem {t : TypeId} {f : FuncId} {name : String} : ∀ {l : List (TypeId × String × FuncId)}, findM t (msOf name l) = some f → (t, name, f) ∈ l := by
  intro l
  induction l with
  | nil => intro h; cases h
  | cons m l ih =>
    obtain ⟨t', m', f'⟩ := m
    intro h
    unfold msOf at h
    split at h
    · rename_i hm
      subst hm
      unfold findM at h
      cases hb : Nat.beq t' t with
      | true => rw [hb] at h; have := Nat.eq_of_beq_eq_true hb; subst this; cases h; exact List.mem_cons_self
      | false => rw [hb] at h; exact List.mem_cons_of_mem _ (ih h)
    · exact List.mem_cons_of_mem _ (ih h)
theorem run_method {t f : Nat} {u : Value} {name : String} {ti : TypeInfo} {m : Method} {fs : Array Field} (hi : P.info? t = some ti) (hm : ti.methods.find? (·.name == name) = some m) (hp : m.path = #[]) (hf : m.func = some (f, false)) (hu : P.underlying t = some (.struct fs)) (k : Nat) (w : World) :
    (method (k + 1) t u name).run P w = .ok (f, u) w := by
  simp [method, typeInfo, hi, hm, hp, follow, hf, receiverAt, run_underlying' hu, Result.andThen, Place.get]
theorem calli_ok (hp : Hp h n w φ) (hq : EqsOk P eqs) (hm : TmR φ t a) {call : CallT} (hcall : CallOk eqs.gs P call) {x : Operand} {name : String} {args : Array Operand} {tys : Array TypeId} {d : D} {ds : List D} {r : X} {h' : H} {n' : Pt} (hx : cD eqs.gs x = some d) (hc : cDL eqs.gs args.toList = some ds)
    (hr : rCalli (msOf name eqs.ms) d ds call t h n = some (r, h', n')) : Wr P φ a ⟨dst, .call ⟨.invoke x name, args, tys⟩, type, pos, after, guard⟩ h n w r h' n' := fun K Q hK => by
  unfold rCalli at hr
  split at hr
  · rename_i tyv y xs h0 h1
    split at hr
    · rename_i f hf
      have hvals := evL_ok hm hc h1
      obtain ⟨u, h3, h4⟩ := inv_ifc (ev_ok hm hx h0)
      obtain ⟨hb, hcl⟩ := hcall f (y :: xs) h n r h' n' hr
      obtain ⟨ti, m, fs, m1, m2, m3, m4, m5⟩ := hq.2.1 _ (findM_mem hf)
      have hrun : (execOp a.eval ⟨dst, .call ⟨.invoke x name, args, tys⟩, type, pos, after, guard⟩).run P w = .ok (.enter f (#[u] ++ args.map a.eval)) w := by
        obtain ⟨k, hk⟩ : ∃ k, P.types.size + Made.depth = k + 1 := ⟨P.types.size + 99, rfl⟩
        have hp0 : Sem.run P (Sem.program Sem.pure) w = .ok P w := rfl
        have hlen : (List.map a.eval args.toList).length = args.size := by simp
        have he : ∀ k, k = args.size → List.take k (List.map a.eval args.toList) = List.map a.eval args.toList := fun k hk => by rw [hk, ← hlen]; exact List.take_length
        have he2 : ((#[Value.iface tyv u] ++ args.map a.eval).extract 1 (1 + args.size)) = args.map a.eval := by apply Array.ext'; simp [Nat.add_comm 1 args.size, he _ rfl]
        have he3 : ((#[Value.iface tyv u] ++ args.map a.eval).extract 1 (#[Value.iface tyv u] ++ args.map a.eval).size) = args.map a.eval := by
          rw [show (#[Value.iface tyv u] ++ args.map a.eval).size = 1 + args.size by simp [Nat.add_comm]]; exact he2
        have hres : (execOp a.eval ⟨dst, .call ⟨.invoke x name, args, tys⟩, type, pos, after, guard⟩).run P w = (invoke (.fn (.method name) #[]) (#[.iface tyv u] ++ args.map a.eval)).run P w := by
          simp [execOp, resolve, h4, Result.andThen]
        rw [hres]
        have hi : (#[Value.iface tyv u] ++ args.map a.eval)[0]? = some (.iface tyv u) := by rw [Array.getElem?_append_left (by simp)]; rfl
        simp only [invoke, hi, he3, callMethod, program, Sem.run_bind, hp0, Result.andThen_ok, hk, run_method m1 m2 m3 m4 m5 k w]
        exact hb _ _
      unfold Oper.wp
      rw [hrun, Oper.upon_enter]
      have h2 := hcl w φ (u :: args.toList.map a.eval) hp (hvals.cons h3)
      have harr : (u :: args.toList.map a.eval).toArray = #[u] ++ args.map a.eval := by apply Array.ext'; simp
      rw [harr] at h2
      refine h2.mono fun e w' ⟨v, φ', he, hs, hv⟩ => ?_
      subst he
      exact hK v w' φ' hs hv
    · cases hr
  · cases hr

theorem s2b_ok (hp : Hp h n w φ) (ht : TabOk P tab) (hm : TmR φ t a) {call : CallT} {s e el : TypeId} {x : Operand} {d : D} {r : X} {h' : H} {n' : Pt} {z1 z2 z3 z4 z5 y1 y2 y3 y4 y5 x1 x2 x3 x4 x5} (hs : ty tab s = some ⟨z1, z2, z3, .str, z4, z5⟩) (he : ty tab e = some ⟨y1, y2, y3, .slice el, y4, y5⟩) (hel : ty tab el = some ⟨x1, x2, x3, .int .u8, x4, x5⟩)
    (hc : cD eqs.gs x = some d) (hr : rS2b d call t h n = some (r, h', n')) : Wr P φ a ⟨dst, .convert s e x, type, pos, after, guard⟩ h n w r h' n' := fun K Q hK => by
  obtain ⟨i1, u1, ht1⟩ := ty_ok ht hs
  have hu := ht1.under
  rw [kind_str (congrArg TI.kind ht1.eq).symm] at hu
  obtain ⟨i2, u2, ht2⟩ := ty_ok ht he
  have hu2 := ht2.under
  rw [kind_slice (congrArg TI.kind ht2.eq).symm] at hu2
  obtain ⟨i3, u3, ht3⟩ := ty_ok ht hel
  have hu3 := ht3.under
  rw [kind_int (congrArg TI.kind ht3.eq).symm] at hu3
  unfold rS2b at hr
  split at hr
  · rename_i l h1
    cases hb : Nat.ble l.length 1000000 with
    | false => rw [hb] at hr; cases hr
    | true =>
      rw [hb] at hr
      simp only [cond_true, incK_eq, Option.some.injEq, Prod.mk.injEq] at hr
      obtain ⟨rfl, rfl, rfl⟩ := hr
      have hle := Nat.le_of_ble_eq_true hb
      have h3 := inv_str (ev_ok hm hc h1)
      have hsz : (⟨l.toArray⟩ : ByteArray).size = l.length := by simp [ByteArray.size]
      have hrun := Lib.run_convert_string_bytes (P := P) w s e el ⟨l.toArray⟩ hu hu2 hu3
      rw [hsz] at hrun
      have hge := grownCap_ge w l.length 0 el
      have hmx := grownCap_le_maxLen w l.length 0 el (by unfold maxLen; omega)
      have hcs : (Lib.bytesCells w el ⟨l.toArray⟩).size = grownCap w l.length 0 el := by
        simp only [Lib.bytesCells, hsz]; simp; omega
      have hnew := Lib.bytesWorld_at_new w el ⟨l.toArray⟩
      have hlb := bytes_ok (φ := φ) l
      have hst : Step φ h n w (addPl φ n (w.heap.size, grownCap w l.length 0 el)) (h.put n (.cells (l.map byteX))) n.inc (Lib.bytesWorld w el ⟨l.toArray⟩) := by
        have hN : n.num < n.inc.num := by rw [num_inc]; omega
        have hno := hp.none (Nat.le_refl n.num)
        have hex : Ex φ (addPl φ n (w.heap.size, grownCap w l.length 0 el)) := addPl_ex hno
        have hcase : ∀ id p, addPl φ n (w.heap.size, grownCap w l.length 0 el) id = some p → (id = n ∧ p = (w.heap.size, grownCap w l.length 0 el)) ∨ (id ≠ n ∧ φ id = some p) := fun id p h1 => by
          rw [addPl_eq] at h1
          split at h1
          · rename_i h2; exact .inl ⟨h2, by cases h1; rfl⟩
          · rename_i h2; exact .inr ⟨h2, h1⟩
        have hlive : ∀ id, id ≠ n → (h.put n (.cells (l.map byteX))).get id = h.get id := fun id h1 => by rw [get_put, if_neg h1]
        have hkept : Kept w (Live φ h) (Lib.bytesWorld w el ⟨l.toArray⟩) := by
          refine ⟨?_, ?_, ?_, ?_, fun k hk _ => Lib.bytesWorld_at_old w el _ k hk⟩
          · unfold Lib.bytesWorld World.freeze; split <;> rfl
          · unfold Lib.bytesWorld World.freeze; split <;> rfl
          · unfold Lib.bytesWorld World.freeze; split <;> rfl
          · rw [Lib.bytesWorld_size]; omega
        have hmine : ∀ b, Live (addPl φ n (w.heap.size, grownCap w l.length 0 el)) (h.put n (.cells (l.map byteX))) b → w.heap.size ≤ b ∨ Live φ h b := fun b ⟨id, s', h1, h2⟩ => by
          rcases hcase id _ h1 with ⟨_, g2⟩ | ⟨g1, g2⟩
          · cases g2; exact .inl (Nat.le_refl _)
          · rw [hlive id g1] at h2; exact .inr ⟨id, s', g2, h2⟩
        refine ⟨hex, fun id p h1 => ?_, by omega, ⟨fun id b s' h1 => ?_, fun id p h1 => ?_, fun id o' h1 => ?_, fun id id' b s1 s2 h1 h2 h3 h4 => ?_, fun id b s' o' h1 h2 => ?_, Ro.of hp.ro hkept hmine rfl⟩, hkept, hmine, fun id o' h1 => ?_⟩
        · rcases hcase id p h1 with ⟨h2, _⟩ | ⟨_, h2⟩
          · subst h2; exact .inr (Nat.le_refl _)
          · exact .inl h2
        · rw [Lib.bytesWorld_size]
          rcases hcase id _ h1 with ⟨_, h2⟩ | ⟨_, h2⟩
          · cases h2; omega
          · have := hp.lt id b s' h2; omega
        · rcases hcase id p h1 with ⟨h2, _⟩ | ⟨_, h2⟩
          · subst h2; exact hN
          · have := hp.fresh id p h2; omega
        · by_cases h2 : id = n
          · subst h2; exact hN
          · rw [hlive id h2] at h1
            have := hp.dom id o' h1; omega
        · rcases hcase id _ h1 with ⟨g1, g2⟩ | ⟨g1, g2⟩
          · rcases hcase id' _ h2 with ⟨g3, g4⟩ | ⟨g3, g4⟩
            · rw [g1, g3]
            · cases g2; have := hp.lt id' _ _ g4; omega
          · rcases hcase id' _ h2 with ⟨g3, g4⟩ | ⟨g3, g4⟩
            · cases g4; have := hp.lt id _ _ g2; omega
            · rw [hlive id g1] at h3; rw [hlive id' g3] at h4
              exact hp.inj id id' b s1 s2 g2 g4 h3 h4
        · rcases hcase id _ h1 with ⟨g1, g2⟩ | ⟨g1, g2⟩
          · subst g1; cases g2
            rw [get_put, if_pos rfl] at h2
            cases h2
            refine ⟨_, el, _, hnew, .inr (Nat.le_refl _), hcs, by simp; omega, ?_⟩
            have e : (Lib.bytesCells w el ⟨l.toArray⟩).toList.take (l.map byteX).length = l.map fun b => Value.int .u8 b.toNat := by
              simp [Lib.bytesCells]
            rw [e]
            exact hlb.mono hex
          · rw [hlive id g1] at h2
            exact (hp.obj id b s' o' g2 h2).mono hex (Lib.bytesWorld_at_old w el _ b (hp.lt id b s' g2))
        · by_cases h2 : id = n
          · subst h2; exact .inr (Nat.le_refl _)
          · rw [hlive id h2] at h1; exact .inl (by rw [h1]; rfl)
      unfold Oper.wp
      rw [show (execOp a.eval ⟨dst, .convert s e x, type, pos, after, guard⟩).run P w = .ok (.value (.slice (some ⟨w.heap.size, 0, none⟩) l.length (grownCap w l.length 0 el))) (Lib.bytesWorld w el ⟨l.toArray⟩) by
        simp only [execOp, h3]; exact run_value hrun, Oper.upon_value]
      exact hK _ _ _ hst (.sl1 n 0 _ _ 1 _ _ _ (by rw [addPl_eq, if_pos rfl]) (Nat.le_refl _) hge (by omega) hmx)
  · cases hr

theorem opW_ok (hp : Hp h n w φ) (ht : TabOk P tab) (hq : EqsOk P eqs) (hm : TmR φ t a) {call : CallT} (hcall : CallOk eqs.gs P call) {op : Op} {i : IW} {r : X} {h' : H} {n' : Pt} (hc : cOp tab eqs op = some (.w i)) (hr : opW i call t h n = some (r, h', n')) :
    Wr P φ a ⟨dst, op, type, pos, after, guard⟩ h n w r h' n' := by
  unfold cOp at hc
  split at hc
  · rename_i j h0
    cases hc
    exact opW0_ok hp ht hm hcall h0 hr
  · unfold cNew at hc
    split at hc
    · repeat' split at hc
      all_goals cases hc
    · repeat' split at hc
      all_goals cases hc
    · repeat' split at hc
      all_goals cases hc
    · split at hc
      · split at hc <;> cases hc
      · rename_i h1 h2 h3
        split at hc
        · rename_i h4; cases hc; exact s2b_ok (call := call) hp ht hm h1 h2 h4 h3 hr
        · cases hc
      · cases hc
    · repeat' split at hc
      all_goals cases hc
    · split at hc
      · rename_i h1 h2 h3 h4
        split at hc
        · rename_i t' ks hf
          cases hc
          obtain ⟨g1, g2⟩ := find_mem hf
          have hE := hq.1 _ g1
          simp only at g2
          subst g2
          exact updA_ok (call := call) hp ht hm hE.1 hE.2 h1 h2 h3 h4 hr
        · cases hc
      · cases hc
    · split at hc <;> cases hc
    · split at hc <;> cases hc
    · split at hc
      · rename_i h1 h2; cases hc; exact calli_ok (call := call) hp hq hm hcall h1 h2 hr
      · cases hc
    · rename_i b args tys _
      unfold cNewB at hc
      split at hc
      · repeat' split at hc
        all_goals cases hc
      · repeat' split at hc
        all_goals cases hc
      · rename_i t1 x ht1 hx1 _
        have e1 : tys = #[t1] := by apply Array.ext'; simpa using ht1
        have e2 : args = #[x] := by apply Array.ext'; simpa using hx1
        subst e1; subst e2
        split at hc
        · rename_i h1 h2
          split at hc
          · rename_i size _ _ _ zs _ h3
            cases hb : (Nat.beq zs.length size && Nat.blt 0 size) with
            | false => rw [hb] at hc; cases hc
            | true =>
              rw [hb] at hc
              cases hc
              simp only [Bool.and_eq_true] at hb
              exact clr_ok (call := call) hp ht hm h1 h3 (Nat.eq_of_beq_eq_true hb.1) (Nat.le_of_ble_eq_true hb.2) h2 hr
          · cases hc
        · cases hc
      · rename_i t1 t2 x y ht1 hx1 _
        have e1 : tys = #[t1, t2] := by apply Array.ext'; simpa using ht1
        have e2 : args = #[x, y] := by apply Array.ext'; simpa using hx1
        subst e1; subst e2
        split at hc
        · rename_i h1 h2 h3 h4
          split at hc
          · rename_i size bytes _ _ zs _ h5
            cases hb : (Nat.beq zs.length size && Nat.blt 0 size) with
            | false => rw [hb] at hc; cases hc
            | true =>
              rw [hb] at hc
              cases hc
              simp only [Bool.and_eq_true] at hb
              exact appz_ok (call := call) hp ht hm h1 h2 h5 (Nat.eq_of_beq_eq_true hb.1) (Nat.le_of_ble_eq_true hb.2) h3 h4 hr
          · cases hc
        · cases hc
      · cases hc
    · cases hc
end
end Go.Ex

/- One operation, and operations in the order of the text. Nothing here speaks of one program. -/
set_option linter.unusedVariables false
set_option linter.unusedSimpArgs false
namespace Go.Ex

/-- A frame and a memory as the run by hand has them. -/
structure St {G : GEnv} (nt : Nat) (φ : Pl G) (t : T X) (h : H) (n : Pt) (a : Act) (w : World) : Prop where
  defers : a.defers = []
  size : a.tmps.size = nt
  tm : TmR φ t a
  hp : Hp h n w φ

section
variable {nt : Nat} {eqs : Env} {φ : Pl eqs.gs} {t : T X} {a : Act} {P : Program} {tab : Tab}  {h : H} {n : Pt} {w : World}

theorem put_defers (a : Act) (d : Option Tmp) (v : Value) : (a.put d v).defers = a.defers := by cases d <;> rfl
theorem put_size (a : Act) (d : Option Tmp) (v : Value) : (a.put d v).tmps.size = a.tmps.size := by
  cases d with
  | none => rfl
  | some d => show (a.tmps.setIfInBounds d v).size = _; simp

/-- Behind an operation with a value. -/
theorem St.put (st : St nt φ t h n a w) {φ' : Pl eqs.gs} {h' : H} {n' : Pt} {w' : World} (hs : Step φ h n w φ' h' n' w') {d : Option Tmp} (hd : ∀ i, d = some i → i < nt) {x : X} {v : Value} (hv : VR φ' x v) : St nt φ' (putO t (d.map .ofNat) x) h' n' (a.put d v) w' where
  defers := by rw [put_defers]; exact st.defers
  size := by rw [put_size]; exact st.size
  tm := by
    cases d with
    | none => exact st.tm.mono hs.ex
    | some d => exact (st.tm.mono hs.ex).put (by rw [st.size]; exact hd d rfl) hv
  hp := hs.hp

theorem okDst {i : Nat} (h : Nat.blt i nt = true) : i < nt := Nat.le_of_ble_eq_true h

/-- An operation that is not guarded, or may come. -/
theorem step0_ok (ht : TabOk P tab) (he : EqsOk P eqs) {call : CallT} (hcall : CallOk eqs.gs P call) {o : Oper} {j : J} (hj : cJ0 tab eqs nt o = some j) {t' : T X} {h' : H} {n' : Pt} (hs : step j call t h n = .ok t' h' n') (st : St nt φ t h n a w)
    (K : Act → World → Prop) (Q : Exit → Act → World → Prop) (hK : ∀ a' w' φ', Step φ h n w φ' h' n' w' → St nt φ' t' h' n' a' w' → K a' w') : o.wp P a w K Q := by
  obtain ⟨dst, op, type, pos, after, guard⟩ := o
  unfold cJ0 at hj
  split at hj
  · rename_i i hc
    split at hj
    · rename_i d hd
      cases hb : Nat.blt d nt with
      | false => rw [hb] at hj; cases hj
      | true =>
        rw [hb] at hj
        cases hj
        simp only at hd
        subst hd
        have hs' : stP (.ofNat d) i call t h n = .ok t' h' n' := hs
        unfold stP at hs'
        cases hr : opP i t with
        | none => rw [hr] at hs'; cases hs'
        | some x =>
          rw [hr] at hs'
          cases hs'
          obtain ⟨v, g1, g2⟩ := opP_ok (dst := some d) (type := type) (pos := pos) (after := after) (guard := guard) ht he st.tm hc hr w
          unfold Oper.wp
          rw [g1, Oper.upon_value]
          exact hK _ _ φ (Step.refl st.hp) (st.put (d := some d) (Step.refl st.hp) (fun i hi => by cases hi; exact okDst hb) g2)
    · cases hj
  · rename_i i hc
    split at hj
    · rename_i d hd
      cases hb : Nat.blt d nt with
      | false => rw [hb] at hj; cases hj
      | true =>
        rw [hb] at hj
        cases hj
        simp only at hd
        subst hd
        have hs' : stR (.ofNat d) i call t h n = .ok t' h' n' := hs
        unfold stR at hs'
        cases hr : opR i t h with
        | none => rw [hr] at hs'; cases hs'
        | some x =>
          rw [hr] at hs'
          cases hs'
          obtain ⟨v, g1, g2⟩ := opR_ok (dst := some d) (type := type) (pos := pos) (after := after) (guard := guard) st.hp ht he st.tm hc hr
          unfold Oper.wp
          rw [g1, Oper.upon_value]
          exact hK _ _ φ (Step.refl st.hp) (st.put (d := some d) (Step.refl st.hp) (fun i hi => by cases hi; exact okDst hb) g2)
    · cases hj
  · rename_i i hc
    split at hj
    · rename_i d hd
      cases hb : Nat.blt d nt with
      | false => rw [hb] at hj; cases hj
      | true =>
        rw [hb] at hj
        cases hj
        simp only at hd
        subst hd
        have hs' : stA (.ofNat d) i call t h n = .ok t' h' n' := hs
        unfold stA at hs'
        cases hr : opA i t n with
        | none => rw [hr] at hs'; cases hs'
        | some q =>
          obtain ⟨x, ob⟩ := q
          rw [hr] at hs'
          simp only [incK_eq] at hs'
          cases hs'
          obtain ⟨v, obj, s, g1, g2, g3⟩ := opA_ok (dst := some d) (type := type) (pos := pos) (after := after) (guard := guard) ht st.tm hc hr w
          unfold Oper.wp
          rw [g1, Oper.upon_value]
          have hst := Step.alloc st.hp (Nat.le_refl _) (show n.num < n.inc.num by rw [num_inc]; omega) g2
          exact hK _ _ _ hst (st.put (d := some d) hst (fun i hi => by cases hi; exact okDst hb) (g3 _ (by simp [addPl])))
    · cases hj
  · rename_i i hc
    have key : ∀ (hd : ∀ q, dst = some q → q < nt), j = .w (dst.map .ofNat) i → (⟨dst, op, type, pos, after, guard⟩ : Oper).wp P a w K Q := fun hd hjj => by
      subst hjj
      have hs' : stW (dst.map .ofNat) i call t h n = .ok t' h' n' := hs
      unfold stW at hs'
      cases hr : opW i call t h n with
      | none => rw [hr] at hs'; cases hs'
      | some q =>
        obtain ⟨x, h1, n1⟩ := q
        rw [hr] at hs'
        cases hs'
        exact opW_ok (dst := dst) (type := type) (pos := pos) (after := after) (guard := guard) st.hp ht he st.tm hcall hc hr K Q fun v w' φ' k1 k2 => hK _ _ φ' k1 (st.put k1 hd k2)
    split at hj
    · rename_i d hd
      simp only at hd
      subst hd
      cases hb : Nat.blt d nt with
      | false => rw [hb] at hj; cases hj
      | true =>
        rw [hb] at hj
        cases hj
        exact key (fun q hq => by cases hq; exact okDst hb) rfl
    · rename_i hd
      simp only at hd
      subst hd
      cases hj
      exact key (fun q hq => by cases hq) rfl
  · cases hj

/-- What a guard says. -/
theorem guard_ok {ops : Array Oper} (htm : TmR φ t a) (hsz : a.tmps.size = nt) {j g : Nat} (hg : (ops[j]?).bind (·.dst) = some g) (hlt : g < nt) {x : X} (hx : t.get (.ofNat g) = some x) :
    (∀ b, x = .bool b → yielded ops a.tmps j = some b) ∧ (x = .tup [] → yielded ops a.tmps j = none) := by
  have hv := htm g x hx
  have h2 : a.tmps[g]? = some (a.tmps.getD g undef) := by
    have hs : g < a.tmps.size := by omega
    simp [Array.getD, hs]
  unfold yielded
  rw [hg]
  simp only [Option.bind_some]
  rw [h2]
  generalize a.tmps.getD g undef = v at hv
  refine ⟨fun b hb => ?_, fun hb => ?_⟩
  · subst hb; rw [inv_bool hv]
  · subst hb
    obtain ⟨vs, _, g2⟩ := inv_tup hv
    subst g2; rfl

theorem step_ok (ht : TabOk P tab) (he : EqsOk P eqs) {call : CallT} (hcall : CallOk eqs.gs P call) {ops : Array Oper} {i : Nat} {o : Oper} (ho : ops[i]? = some o) {t' : T X} {h' : H} {n' : Pt} (hs : step (cJ tab eqs nt ops o) call t h n = .ok t' h' n') (st : St nt φ t h n a w)
    (K : Act → World → Prop) (Q : Exit → Act → World → Prop) (hK : ∀ a' w' φ', Step φ h n w φ' h' n' w' → St nt φ' t' h' n' a' w' → K a' w') : wpOp P ops Q i K a w := by
  unfold wpOp
  simp only [ho]
  unfold cJ at hs
  split at hs
  · rename_i jj hj
    unfold cJ1 at hj
    split at hj
    · rename_i hg
      have hw : Region.wanted o (yielded ops a.tmps) = true := by unfold Region.wanted; rw [hg]
      rw [if_pos hw]
      exact .inl (step0_ok ht he hcall hj hs st K Q hK)
    · rename_i q want hg
      split at hj
      · rename_i g i0 hq hj0
        -- the guard's part
        have key : ∀ (dd : Option Tmp), o.dst = dd → (∀ q, dd = some q → q < nt) → g < nt → jj = .g (.ofNat g) want (dd.map .ofNat) i0 →
            (if Region.wanted o (yielded ops a.tmps) then o.wp P a w K Q ∨ (o.asks P a w ∧ LetsOut Q) else K (a.put o.dst undef) w) := fun dd hdd hlt hgl hjj => by
          subst hjj
          have hs' : stG (.ofNat g) want (dd.map .ofNat) i0 (step i0) call t h n = .ok t' h' n' := hs
          unfold stG at hs'
          have hskip : ∀ (hno : Region.wanted o (yielded ops a.tmps) = false), S3.ok (putO t (dd.map .ofNat) (.tup [])) h n = .ok t' h' n' →
              (if Region.wanted o (yielded ops a.tmps) then o.wp P a w K Q ∨ (o.asks P a w ∧ LetsOut Q) else K (a.put o.dst undef) w) := fun hno heq => by
            cases heq
            rw [if_neg (by rw [hno]; simp)]
            rw [hdd]
            exact hK _ _ φ (Step.refl st.hp) (st.put (Step.refl st.hp) hlt (.tup [] [] rfl (fun i c v h => by simp at h)))
          split at hs'
          · rename_i b hb
            have hy := (guard_ok st.tm st.size hq hgl hb).1 b rfl
            by_cases hbw : b = want
            · subst hbw
              simp only [beq_self_eq_true, cond_true] at hs'
              have hw : Region.wanted o (yielded ops a.tmps) = true := by unfold Region.wanted; rw [hg]; simp [hy]
              rw [if_pos hw]
              exact .inl (step0_ok ht he hcall hj0 hs' st K Q hK)
            · have hbw' : (b == want) = false := by simpa using hbw
              rw [hbw'] at hs'
              exact hskip (by unfold Region.wanted; rw [hg]; simp [hy, hbw]) hs'
          · rename_i hb
            have hy := (guard_ok st.tm st.size hq hgl hb).2 rfl
            exact hskip (by unfold Region.wanted; rw [hg]; simp [hy]) hs'
          · cases hs'
        split at hj
        · rename_i d hd
          cases hb : (Nat.blt g nt && Nat.blt d nt) with
          | false => rw [hb] at hj; cases hj
          | true =>
            rw [hb] at hj
            cases hj
            simp only [Bool.and_eq_true] at hb
            exact key (some d) hd (fun q hq => by cases hq; exact okDst hb.2) (okDst hb.1) rfl
        · rename_i hd
          cases hb : Nat.blt g nt with
          | false => rw [hb] at hj; cases hj
          | true =>
            rw [hb] at hj
            cases hj
            exact key none hd (fun q hq => by cases hq) (okDst hb) rfl
      · cases hj
  · cases hs

theorem ops_ok (ht : TabOk P tab) (he : EqsOk P eqs) {call : CallT} (hcall : CallOk eqs.gs P call) {ops : Array Oper} : ∀ (l : List Oper) (k : Nat), (∀ j, l[j]? = ops[k + j]?) → ∀ {φ : Pl eqs.gs} {t h n a w} {e : E} {t' : T X} {h' : H} {n' : Pt},
    opsX call (cJL tab eqs nt ops l) t h n = .go e t' h' n' → St nt φ t h n a w → ∀ Q : Exit → Act → World → Prop, (∀ a' w' φ', Step φ h n w φ' h' n' w' → St nt φ' t' h' n' a' w' → Q .normal a' w') →
    e = .normal ∧ wpOps P ops Q (List.range' k l.length) a w := by
  intro l
  induction l with
  | nil =>
    intro k _ φ t h n a w e t' h' n' hx st Q hQ
    have : Res.go .normal t h n = .go e t' h' n' := hx
    cases this
    refine ⟨rfl, ?_⟩
    simp only [List.length_nil, List.range'_zero, wpOps]
    exact hQ a w φ (Step.refl st.hp) st
  | cons o l ih =>
    intro k hl φ t h n a w e t' h' n' hx st Q hQ
    have hx' : (S3.rec .no (fun t h n => opsX call (cJL tab eqs nt ops l) t h n) (step (cJ tab eqs nt ops o) call t h n) : Res) = .go e t' h' n' := hx
    cases hs : step (cJ tab eqs nt ops o) call t h n with
    | no => rw [hs] at hx'; cases hx'
    | ok t1 h1 n1 =>
      rw [hs] at hx'
      have hl' : ∀ j, l[j]? = ops[k + 1 + j]? := fun j => by have := hl (j + 1); rw [List.getElem?_cons_succ] at this; rw [this]; congr 1; omega
      have ho : ops[k]? = some o := by have := hl 0; simpa using this.symm
      have hx2 : opsX call (cJL tab eqs nt ops l) t1 h1 n1 = .go e t' h' n' := hx'
      have hne : e = .normal := by
        have aux : ∀ (ll : List J) t h n, opsX call ll t h n = .go e t' h' n' → e = .normal := by
          intro ll
          induction ll with
          | nil => intro t h n hh; have : Res.go .normal t h n = .go e t' h' n' := hh; cases this; rfl
          | cons j ll ih2 =>
            intro t h n hh
            have hh' : (S3.rec .no (fun t h n => opsX call ll t h n) (step j call t h n) : Res) = .go e t' h' n' := hh
            cases hsj : step j call t h n with
            | no => rw [hsj] at hh'; cases hh'
            | ok t2 h2 n2 => rw [hsj] at hh'; exact ih2 _ _ _ hh'
        exact aux _ _ _ _ hx2
      refine ⟨hne, ?_⟩
      rw [List.length_cons, List.range'_succ, wpOps_cons]
      exact step_ok ht he hcall ho hs st _ _ fun a1 w1 φ1 s1 st1 => (ih (k + 1) hl' hx2 st1 Q fun a2 w2 φ2 s2 st2 => hQ a2 w2 φ2 (s1.trans s2) st2).2
end
end Go.Ex

/- What an operation looks at. Nothing here speaks of one program. -/
set_option linter.unusedVariables false
set_option linter.unusedSimpArgs false
namespace Go.Ex
variable {G : GEnv}

def D.use : D → List Pt
  | .t p => [p]
  | .c _ => []
def usesL : List D → List Pt
  | [] => []
  | d :: l => d.use ++ usesL l
def usesO : Option D → List Pt
  | none => []
  | some d => d.use
def usesP : List (Nat × Nat × D) → List Pt
  | [] => []
  | p :: l => p.2.2.use ++ usesP l
def IP.uses : IP → List Pt
  | .mov x => x.use
  | .pick c a b => c.use ++ (a.use ++ b.use)
  | .build _ ps => usesP ps
  | .nilc x => x.use
  | .bin _ x y => x.use ++ y.use
  | .binb _ x y => x.use ++ y.use
  | .eqa _ _ x y => x.use ++ y.use
  | .isnilS _ x => x.use
  | .isnilP _ x => x.use
  | .isnilF _ x => x.use
  | .not x => x.use
  | .neg x => x.use
  | .conv _ x => x.use
  | .mkF _ b => usesL b
  | .slS _ x lo hi mx => x.use ++ (usesO lo ++ (usesO hi ++ usesO mx))
  | .faddr _ x => x.use
  | .fld _ _ _ x => x.use
  | .iaddrA _ _ x i => x.use ++ i.use
  | .iaddrS _ x i => x.use ++ i.use
  | .ext x _ => x.use
  | .len x => x.use
  | .max x y => x.use ++ y.use
  | .min x y => x.use ++ y.use
  | .sbin _ x y => x.use ++ y.use
  | .sidx x i => x.use ++ i.use
  | .sslc x lo hi => x.use ++ (usesO lo ++ usesO hi)
  | .slen x => x.use
  | .capn x => x.use
  | .slA _ _ x lo hi => x.use ++ (usesO lo ++ usesO hi)
  | .mkFb _ a b => usesL a ++ usesL b
  | .mkI _ x => x.use
  | .eqx _ _ x y => x.use ++ y.use
  | .idxA _ _ _ x i => x.use ++ i.use
  | .eqp _ _ x y => x.use ++ y.use
  | .bad => []
def IR.uses : IR → List Pt
  | .load1 a => a.use
  | .loadA _ a => a.use
  | .look _ _ m k => m.use ++ k.use
  | .b2s x => x.use
  | .lookA _ _ _ m k => m.use ++ k.use
def IA.uses : IA → List Pt
  | .new _ => []
  | .box x => x.use
  | .buildS _ _ ps => usesP ps
  | .mkM _ => []
  | .mkMA _ => []
  | .mkS _ _ l c => l.use ++ c.use
def IW.uses : IW → List Pt
  | .store _ a x => a.use ++ x.use
  | .upd m k v => m.use ++ (k.use ++ v.use)
  | .call _ args => usesL args
  | .callv f args => f.use ++ usesL args
  | .app _ _ s x => s.use ++ x.use
  | .copy _ d s => d.use ++ s.use
  | .clr _ _ x => x.use
  | .appz _ _ _ s x => s.use ++ x.use
  | .updA _ m k v => m.use ++ (k.use ++ v.use)
  | .calli _ x args => x.use ++ usesL args
  | .s2b x => x.use
def J.uses : J → List Pt
  | .p _ i => i.uses
  | .r _ i => i.uses
  | .a _ i => i.uses
  | .w _ i => i.uses
  | .g q0 _ _ j0 => q0 :: j0.uses

def Same (t t' : T X) (l : List Pt) : Prop := ∀ p ∈ l, t'.get p = t.get p
theorem Same.left {t t' : T X} {l m : List Pt} (h : Same t t' (l ++ m)) : Same t t' l := fun p hp => h p (List.mem_append.2 (.inl hp))
theorem Same.right {t t' : T X} {l m : List Pt} (h : Same t t' (l ++ m)) : Same t t' m := fun p hp => h p (List.mem_append.2 (.inr hp))

section
variable {t t' : T X}
theorem ev_same {d : D} (h : Same t t' d.use) : ev t' d = ev t d := by
  cases d with
  | t p => exact h p (by simp [D.use])
  | c x => rfl
theorem evL_same : ∀ {l : List D}, Same t t' (usesL l) → evL t' l = evL t l := by
  intro l
  induction l with
  | nil => intro _; rfl
  | cons d l ih =>
    intro h
    show (match ev t' d with | none => none | some x => match evL t' l with | none => none | some xs => some (x :: xs)) = (match ev t d with | none => none | some x => match evL t l with | none => none | some xs => some (x :: xs))
    rw [ev_same h.left, ih h.right]
theorem bnd_same {d : Option D} {n : Nat} (h : Same t t' (usesO d)) : bnd t' d n = bnd t d n := by
  cases d with
  | none => rfl
  | some d => simp only [bnd]; rw [ev_same h]
theorem fill_same : ∀ {l : List (Nat × Nat × D)} {cs : List X}, Same t t' (usesP l) → fillX t' l cs = fillX t l cs := by
  intro l
  induction l with
  | nil => intro cs _; rfl
  | cons p l ih =>
    intro cs h
    obtain ⟨off, size, d⟩ := p
    simp only [fillX]
    rw [ev_same (d := d) h.left]
    split
    · rfl
    · split
      · rfl
      · rename_i vc _
        cases Nat.beq vc.length size with
        | false => rfl
        | true =>
          simp only [cond_true]
          split
          · rfl
          · exact ih h.right

theorem opP_same {i : IP} (h : Same t t' i.uses) : opP i t' = opP i t := by
  cases i with
  | mov x => exact ev_same h
  | pick c a b => show rPick c a b t' = rPick c a b t; unfold rPick; rw [ev_same h.left, ev_same h.right.left, ev_same h.right.right]
  | build zs ps => show rBuild zs ps t' = rBuild zs ps t; unfold rBuild; rw [fill_same h]
  | nilc x => show rNilc x t' = rNilc x t; unfold rNilc; rw [ev_same h]
  | bin op x y => show rBin op x y t' = rBin op x y t; unfold rBin; rw [ev_same h.left, ev_same h.right]
  | binb op x y => show rBinb op x y t' = rBinb op x y t; unfold rBinb; rw [ev_same h.left, ev_same h.right]
  | eqa neg ks x y => show rEqa neg ks x y t' = rEqa neg ks x y t; unfold rEqa; rw [ev_same h.left, ev_same h.right]
  | isnilS neg x => show rIsnilS neg x t' = rIsnilS neg x t; unfold rIsnilS; rw [ev_same h]
  | isnilP neg x => show rIsnilP neg x t' = rIsnilP neg x t; unfold rIsnilP; rw [ev_same h]
  | isnilF neg x => show rIsnilF neg x t' = rIsnilF neg x t; unfold rIsnilF; rw [ev_same h]
  | not x => show rNot x t' = rNot x t; unfold rNot; rw [ev_same h]
  | neg x => show rNeg x t' = rNeg x t; unfold rNeg; rw [ev_same h]
  | conv k x => show rConv k x t' = rConv k x t; unfold rConv; rw [ev_same h]
  | mkF f b => show rMkF f b t' = rMkF f b t; unfold rMkF; rw [evL_same h]
  | slS z x lo hi mx => show rSlS z x lo hi mx t' = rSlS z x lo hi mx t; unfold rSlS; simp only [ev_same h.left, bnd_same h.right.left, bnd_same h.right.right.left, bnd_same h.right.right.right]
  | faddr o x => show rFaddr o x t' = rFaddr o x t; unfold rFaddr; rw [ev_same h]
  | fld g o s x => show rFld g o s x t' = rFld g o s x t; unfold rFld; rw [ev_same h]
  | iaddrA n z x i => show rIaddrA n z x i t' = rIaddrA n z x i t; unfold rIaddrA; rw [ev_same h.left, ev_same h.right]
  | iaddrS z x i => show rIaddrS z x i t' = rIaddrS z x i t; unfold rIaddrS; rw [ev_same h.left, ev_same h.right]
  | ext x i => show rExt x i t' = rExt x i t; unfold rExt; rw [ev_same h]
  | len x => show rLen x t' = rLen x t; unfold rLen; rw [ev_same h]
  | max x y => show rMax x y t' = rMax x y t; unfold rMax; rw [ev_same h.left, ev_same h.right]
  | min x y => show rMin x y t' = rMin x y t; unfold rMin; rw [ev_same h.left, ev_same h.right]
  | sbin op x y => show rSbin op x y t' = rSbin op x y t; unfold rSbin; rw [ev_same h.left, ev_same h.right]
  | sidx x i => show rSidx x i t' = rSidx x i t; unfold rSidx; rw [ev_same h.left, ev_same h.right]
  | sslc x lo hi => show rSslc x lo hi t' = rSslc x lo hi t; unfold rSslc; simp only [ev_same h.left, bnd_same h.right.left, bnd_same h.right.right]
  | slen x => show rSlen x t' = rSlen x t; unfold rSlen; rw [ev_same h]
  | capn x => show rCapn x t' = rCapn x t; unfold rCapn; rw [ev_same h]
  | slA n z x lo hi => show rSlA n z x lo hi t' = rSlA n z x lo hi t; unfold rSlA; simp only [ev_same h.left, bnd_same h.right.left, bnd_same h.right.right]
  | mkFb f a b => show rMkFb f a b t' = rMkFb f a b t; unfold rMkFb; rw [evL_same h.left, evL_same h.right]
  | mkI ty x => show rMkI ty x t' = rMkI ty x t; unfold rMkI; rw [ev_same h]
  | eqx neg ks x y => show rEqx neg ks x y t' = rEqx neg ks x y t; unfold rEqx; rw [ev_same h.left, ev_same h.right]
  | idxA g m z x i => show rIdxA g m z x i t' = rIdxA g m z x i t; unfold rIdxA; rw [ev_same h.left, ev_same h.right]
  | eqp neg ks x y => show rEqp neg ks x y t' = rEqp neg ks x y t; unfold rEqp; rw [ev_same h.left, ev_same h.right]
  | bad => rfl
theorem opR_same {i : IR} {m : H} (h : Same t t' i.uses) : opR i t' m = opR i t m := by
  cases i with
  | load1 a => show rLoad1 a t' m = rLoad1 a t m; unfold rLoad1; rw [ev_same h]
  | loadA s a => show rLoadA s a t' m = rLoadA s a t m; unfold rLoadA; rw [ev_same h]
  | look z ok x k => show rLook z ok x k t' m = rLook z ok x k t m; unfold rLook; rw [ev_same h.left, ev_same h.right]
  | b2s x => show rB2s x t' m = rB2s x t m; unfold rB2s; rw [ev_same h]
  | lookA z ok ks x k => show rLookA z ok ks x k t' m = rLookA z ok ks x k t m; unfold rLookA; rw [ev_same h.left, ev_same h.right]
theorem opA_same {i : IA} {m : Pt} (h : Same t t' i.uses) : opA i t' m = opA i t m := by
  cases i with
  | new zs => rfl
  | box x => show rBox x t' m = rBox x t m; unfold rBox; rw [ev_same h]
  | buildS zs len ps => show rBuildS zs len ps t' m = rBuildS zs len ps t m; unfold rBuildS; rw [fill_same h]
  | mkM k => rfl
  | mkMA k => rfl
  | mkS zs b l c => show rMkS zs b l c t' m = rMkS zs b l c t m; unfold rMkS; rw [ev_same h.left, ev_same h.right]
theorem opW_same {i : IW} {call : CallT} {m : H} {n : Pt} (h : Same t t' i.uses) : opW i call t' m n = opW i call t m n := by
  cases i with
  | store s a x => show rStore s a x call t' m n = rStore s a x call t m n; unfold rStore; rw [ev_same h.left, ev_same h.right]
  | upd x k v => show rUpd x k v call t' m n = rUpd x k v call t m n; unfold rUpd; rw [ev_same h.left, ev_same h.right.left, ev_same h.right.right]
  | call f args => show rCall f args call t' m n = rCall f args call t m n; unfold rCall; rw [evL_same h]
  | callv f args => show rCallv f args call t' m n = rCallv f args call t m n; unfold rCallv; rw [ev_same h.left, evL_same h.right]
  | app z b s x => show rApp z b s x call t' m n = rApp z b s x call t m n; unfold rApp; rw [ev_same h.left, ev_same h.right]
  | copy z d s => show rCopy z d s call t' m n = rCopy z d s call t m n; unfold rCopy; rw [ev_same h.left, ev_same h.right]
  | clr zs z x => show rClr zs z x call t' m n = rClr zs z x call t m n; unfold rClr; rw [ev_same h]
  | appz zs z b s x => show rAppz zs z b s x call t' m n = rAppz zs z b s x call t m n; unfold rAppz; rw [ev_same h.left, ev_same h.right]
  | updA ks x k v => show rUpdA ks x k v call t' m n = rUpdA ks x k v call t m n; unfold rUpdA; rw [ev_same h.left, ev_same h.right.left, ev_same h.right.right]
  | calli fs x args => show rCalli fs x args call t' m n = rCalli fs x args call t m n; unfold rCalli; rw [ev_same h.left, evL_same h.right]
  | s2b x => show rS2b x call t' m n = rS2b x call t m n; unfold rS2b; rw [ev_same h]
end

/-- What an operation does, told of the value alone: x: its value. -/
inductive Eff (call : CallT) (t : T X) (h : H) (n : Pt) : J → X → H → Pt → Prop
  | p (d : Pt) (i : IP) (x : X) (hr : opP i t = some x) : Eff call t h n (.p d i) x h n
  | r (d : Pt) (i : IR) (x : X) (hr : opR i t h = some x) : Eff call t h n (.r d i) x h n
  | a (d : Pt) (i : IA) (x : X) (o : O) (hr : opA i t n = some (x, o)) : Eff call t h n (.a d i) x (h.put n o) n.inc
  | w (d : Option Pt) (i : IW) (x : X) (h' : H) (n' : Pt) (hr : opW i call t h n = some (x, h', n')) : Eff call t h n (.w d i) x h' n'
  | go (p : Pt) (b : Bool) (d : Option Pt) (j : J) (x : X) (h' : H) (n' : Pt) (hp : t.get p = some (.bool b)) (hj : Eff call t h n j x h' n') : Eff call t h n (.g p b d j) x h' n'
  | no (p : Pt) (b : Bool) (d : Option Pt) (j : J) (c : Bool) (hp : t.get p = some (.bool c)) (hc : c ≠ b) : Eff call t h n (.g p b d j) (.tup []) h n
  | un (p : Pt) (b : Bool) (d : Option Pt) (j : J) (hp : t.get p = some (.tup [])) : Eff call t h n (.g p b d j) (.tup []) h n

/-- The guards name the destination of what they guard. -/
def J.fine : J → Prop
  | .g _ _ d0 j0 => j0.dst = d0 ∧ j0.fine
  | _ => True

theorem step_eff {call : CallT} {h : H} {n : Pt} : ∀ {j : J} {t t1 : T X} {h' : H} {n' : Pt}, j.fine → step j call t h n = .ok t1 h' n' → ∃ x, Eff call t h n j x h' n' ∧ t1 = putO t j.dst x := by
  intro j
  induction j with
  | p d i =>
    intro t t1 h' n' _ hs
    have hs' : stP d i call t h n = .ok t1 h' n' := hs
    unfold stP at hs'
    cases hr : opP i t with
    | none => rw [hr] at hs'; cases hs'
    | some x => rw [hr] at hs'; cases hs'; exact ⟨x, .p d i x hr, rfl⟩
  | r d i =>
    intro t t1 h' n' _ hs
    have hs' : stR d i call t h n = .ok t1 h' n' := hs
    unfold stR at hs'
    cases hr : opR i t h with
    | none => rw [hr] at hs'; cases hs'
    | some x => rw [hr] at hs'; cases hs'; exact ⟨x, .r d i x hr, rfl⟩
  | a d i =>
    intro t t1 h' n' _ hs
    have hs' : stA d i call t h n = .ok t1 h' n' := hs
    unfold stA at hs'
    cases hr : opA i t n with
    | none => rw [hr] at hs'; cases hs'
    | some q =>
      obtain ⟨x, o⟩ := q
      rw [hr] at hs'
      simp only [incK_eq] at hs'
      cases hs'; exact ⟨x, .a d i x o hr, rfl⟩
  | w d i =>
    intro t t1 h' n' _ hs
    have hs' : stW d i call t h n = .ok t1 h' n' := hs
    unfold stW at hs'
    cases hr : opW i call t h n with
    | none => rw [hr] at hs'; cases hs'
    | some q =>
      obtain ⟨x, h1, n1⟩ := q
      rw [hr] at hs'
      cases hs'; exact ⟨x, .w d i x h' n' hr, rfl⟩
  | g p b d j ih =>
    intro t t1 h' n' hf hs
    have hs' : stG p b d j (step j) call t h n = .ok t1 h' n' := hs
    unfold stG at hs'
    split at hs'
    · rename_i c hc
      by_cases hcb : c = b
      · subst hcb
        simp only [beq_self_eq_true, cond_true] at hs'
        obtain ⟨x, g1, g2⟩ := ih hf.2 hs'
        exact ⟨x, .go p c d j x h' n' hc g1, by rw [g2, hf.1]; rfl⟩
      · have : (c == b) = false := by simpa using hcb
        rw [this] at hs'
        cases hs'
        exact ⟨.tup [], .no p b d j c hc hcb, rfl⟩
    · rename_i hc
      cases hs'
      exact ⟨.tup [], .un p b d j hc, rfl⟩
    · cases hs'

theorem Eff.step {call : CallT} {t : T X} {h : H} {n : Pt} {j : J} {x : X} {h' : H} {n' : Pt} (he : Eff call t h n j x h' n') (hf : j.fine) : Ex.step j call t h n = .ok (putO t j.dst x) h' n' := by
  induction he with
  | p d i x hr => show stP d i call t h n = _; unfold stP; rw [hr]; rfl
  | r d i x hr => show stR d i call t h n = _; unfold stR; rw [hr]; rfl
  | a d i x o hr => show stA d i call t h n = _; unfold stA; rw [hr]; simp only [incK_eq]; rfl
  | w d i x h' n' hr => show stW d i call t h n = _; unfold stW; rw [hr]; rfl
  | go p b d j x h' n' hp hj ih =>
    show stG p b d j (Ex.step j) call t h n = _
    unfold stG
    rw [hp]
    simp only [beq_self_eq_true, cond_true]
    rw [ih hf.2, hf.1]; rfl
  | no p b d j c hp hc =>
    show stG p b d j (Ex.step j) call t h n = _
    unfold stG
    rw [hp]
    have : (c == b) = false := by simpa using hc
    simp only [this, cond_false]
    rfl
  | un p b d j hp =>
    show stG p b d j (Ex.step j) call t h n = _
    unfold stG
    rw [hp]
    rfl

theorem Eff.same {call : CallT} {t t' : T X} {h : H} {n : Pt} {j : J} {x : X} {h' : H} {n' : Pt} (he : Eff call t h n j x h' n') (hs : Same t t' j.uses) : Eff call t' h n j x h' n' := by
  induction he with
  | p d i x hr => exact .p d i x (by rw [opP_same hs]; exact hr)
  | r d i x hr => exact .r d i x (by rw [opR_same hs]; exact hr)
  | a d i x o hr => exact .a d i x o (by rw [opA_same hs]; exact hr)
  | w d i x h' n' hr => exact .w d i x h' n' (by rw [opW_same hs]; exact hr)
  | go p b d j x h' n' hp hj ih => exact .go p b d j x h' n' (by rw [hs p (by simp [J.uses])]; exact hp) (ih fun q hq => hs q (by simp [J.uses, hq]))
  | no p b d j c hp hc => exact .no p b d j c (by rw [hs p (by simp [J.uses])]; exact hp) hc
  | un p b d j hp => exact .un p b d j (by rw [hs p (by simp [J.uses])]; exact hp)

theorem kind_p (d : Pt) (i : IP) : (J.p d i).kind = 0 := rfl
theorem kind_r (d : Pt) (i : IR) : (J.r d i).kind = 1 := rfl
theorem kind_a (d : Pt) (i : IA) : (J.a d i).kind = 2 := rfl
theorem kind_w (d : Option Pt) (i : IW) : (J.w d i).kind = 3 := rfl
theorem kind_g (p : Pt) (b : Bool) (d : Option Pt) (j : J) : (J.g p b d j).kind = j.kind := rfl

/-- Operations that leave the memory as it is. -/
theorem Eff.value {call : CallT} {t : T X} {h : H} {n : Pt} {j : J} {x : X} {h' : H} {n' : Pt} (he : Eff call t h n j x h' n') (hk : j.kind = 0 ∨ j.kind = 1) : h' = h ∧ n' = n := by
  induction he with
  | p => exact ⟨rfl, rfl⟩
  | r => exact ⟨rfl, rfl⟩
  | a => simp [kind_a] at hk
  | w => simp [kind_w] at hk
  | go p b d j x h' n' hp hj ih => exact ih hk
  | no => exact ⟨rfl, rfl⟩
  | un => exact ⟨rfl, rfl⟩
theorem Eff.pure {call : CallT} {t : T X} {h : H} {n : Pt} {j : J} {x : X} {h' : H} {n' : Pt} (he : Eff call t h n j x h' n') (hk : j.kind = 0) (h2 : H) (n2 : Pt) : Eff call t h2 n2 j x h2 n2 := by
  induction he with
  | p d i x hr => exact .p d i x hr
  | r => simp [kind_r] at hk
  | a => simp [kind_a] at hk
  | w => simp [kind_w] at hk
  | go p b d j x h' n' hp hj ih => exact .go p b d j x _ _ hp (ih hk)
  | no p b d j c hp hc => exact .no p b d j c hp hc
  | un p b d j hp => exact .un p b d j hp
theorem Eff.read {call : CallT} {t : T X} {h : H} {n : Pt} {j : J} {x : X} {h' : H} {n' : Pt} (he : Eff call t h n j x h' n') (hk : j.kind = 1) (n2 : Pt) : Eff call t h n2 j x h n2 := by
  induction he with
  | p => simp [kind_p] at hk
  | r d i x hr => exact .r d i x hr
  | a => simp [kind_a] at hk
  | w => simp [kind_w] at hk
  | go p b d j x h' n' hp hj ih => exact .go p b d j x _ _ hp (ih hk)
  | no p b d j c hp hc => exact .no p b d j c hp hc
  | un p b d j hp => exact .un p b d j hp
/-- An operation that makes a block, or is passed over. -/
theorem Eff.alc {call : CallT} {t : T X} {h : H} {n : Pt} {j : J} {x : X} {h' : H} {n' : Pt} (he : Eff call t h n j x h' n') (hk : j.kind = 2) :
    (h' = h ∧ n' = n ∧ ∀ h2 n2, Eff call t h2 n2 j x h2 n2) ∨ (∃ o, h' = h.put n o ∧ n' = n.inc ∧ ∀ h2, Eff call t h2 n j x (h2.put n o) n.inc) := by
  induction he with
  | p => simp [kind_p] at hk
  | r => simp [kind_r] at hk
  | w => simp [kind_w] at hk
  | a d i x o hr => exact .inr ⟨o, rfl, rfl, fun h2 => .a d i x o hr⟩
  | go p b d j x h' n' hp hj ih =>
    rcases ih hk with ⟨g1, g2, g3⟩ | ⟨o, g1, g2, g3⟩
    · exact .inl ⟨g1, g2, fun h2 n2 => .go p b d j x _ _ hp (g3 h2 n2)⟩
    · exact .inr ⟨o, g1, g2, fun h2 => .go p b d j x _ _ hp (g3 h2)⟩
  | no p b d j c hp hc => exact .inl ⟨rfl, rfl, fun h2 n2 => .no p b d j c hp hc⟩
  | un p b d j hp => exact .inl ⟨rfl, rfl, fun h2 n2 => .un p b d j hp⟩
end Go.Ex

/- One operation in the model, told by what it does by hand. Nothing here speaks of one program. -/
set_option linter.unusedVariables false
set_option linter.unusedSimpArgs false
namespace Go.Ex
section
variable {nt : Nat} {eqs : Env} {φ : Pl eqs.gs} {t : T X} {a : Act} {P : Program} {tab : Tab}  {h : H} {n : Pt} {w : World} {call : CallT} {ops : Array Oper} {o : Oper} {x : X} {h' : H} {n' : Pt}

theorem cJ0_dst {j : J} (hj : cJ0 tab eqs nt o = some j) : j.fine ∧ j.dst = o.dst.map .ofNat ∧ ∀ q, o.dst = some q → q < nt := by
  unfold cJ0 at hj
  split at hj
  all_goals first
    | cases hj; done
    | skip
  all_goals
    split at hj
    · rename_i d hd
      cases hb : Nat.blt d nt with
      | false => rw [hb] at hj; cases hj
      | true =>
        rw [hb] at hj
        cases hj
        refine ⟨trivial, by rw [hd]; rfl, fun q hq => ?_⟩
        rw [hd] at hq; cases hq; exact okDst hb
    · first
        | cases hj; done
        | (rename_i hd; cases hj; exact ⟨trivial, by rw [hd]; rfl, fun q hq => by rw [hd] at hq; cases hq⟩)

theorem cJ_form {j : J} (hj : cJ tab eqs nt ops o = j) (he : Eff call t h n j x h' n') : j.fine ∧ j.dst = o.dst.map .ofNat ∧ (∀ q, o.dst = some q → q < nt) ∧
    ∃ j0, cJ0 tab eqs nt o = some j0 ∧ ((o.guard = none ∧ j = j0) ∨ ∃ jj want g, o.guard = some (jj, want) ∧ (ops[jj]?).bind (·.dst) = some g ∧ g < nt ∧ j = .g (.ofNat g) want (o.dst.map .ofNat) j0) := by
  unfold cJ at hj
  split at hj
  · rename_i j1 h1
    subst hj
    unfold cJ1 at h1
    split at h1
    · rename_i hg
      obtain ⟨g1, g2, g3⟩ := cJ0_dst h1
      exact ⟨g1, g2, g3, j1, h1, .inl ⟨hg, rfl⟩⟩
    · rename_i jj want hg
      split at h1
      · rename_i g j0 hq h0
        obtain ⟨g1, g2, g3⟩ := cJ0_dst h0
        split at h1
        · rename_i d hd
          cases hb : (Nat.blt g nt && Nat.blt d nt) with
          | false => rw [hb] at h1; cases h1
          | true =>
            rw [hb] at h1
            cases h1
            simp only [Bool.and_eq_true] at hb
            refine ⟨⟨by rw [g2, hd]; rfl, g1⟩, by rw [hd]; rfl, g3, j0, h0, .inr ⟨jj, want, g, hg, hq, okDst hb.1, by rw [hd]; rfl⟩⟩
        · rename_i hd
          cases hb : Nat.blt g nt with
          | false => rw [hb] at h1; cases h1
          | true =>
            rw [hb] at h1
            cases h1
            exact ⟨⟨by rw [g2, hd]; rfl, g1⟩, by rw [hd]; rfl, g3, j0, h0, .inr ⟨jj, want, g, hg, hq, okDst hb, by rw [hd]; rfl⟩⟩
      · cases h1
  · subst hj
    cases he with
    | p d i x hr => cases hr

/-- Whether it comes, and what it does then. -/
theorem cJ_comes {j : J} (hj : cJ tab eqs nt ops o = j) (he : Eff call t h n j x h' n') (htm : TmR φ t a) (hsz : a.tmps.size = nt) :
    ∃ j0, cJ0 tab eqs nt o = some j0 ∧ j0.kind = j.kind ∧ ((Region.wanted o (yielded ops a.tmps) = true ∧ Eff call t h n j0 x h' n') ∨ (Region.wanted o (yielded ops a.tmps) = false ∧ x = .tup [] ∧ h' = h ∧ n' = n)) := by
  obtain ⟨_, _, _, j0, h0, hc⟩ := cJ_form hj he
  rcases hc with ⟨g1, g2⟩ | ⟨jj, want, g, g1, g2, g3, g4⟩
  · subst g2
    exact ⟨j, h0, rfl, .inl ⟨by unfold Region.wanted; rw [g1], he⟩⟩
  · subst g4
    refine ⟨j0, h0, rfl, ?_⟩
    cases he with
    | go _ _ _ _ _ _ _ hp hj =>
      have hy := (guard_ok htm hsz g2 g3 hp).1 want rfl
      exact .inl ⟨by unfold Region.wanted; rw [g1]; simp [hy], hj⟩
    | no _ _ _ _ c hp hc =>
      have hy := (guard_ok htm hsz g2 g3 hp).1 c rfl
      exact .inr ⟨by unfold Region.wanted; rw [g1]; simp [hy, hc], rfl, rfl, rfl⟩
    | un _ _ _ _ hp =>
      have hy := (guard_ok htm hsz g2 g3 hp).2 rfl
      exact .inr ⟨by unfold Region.wanted; rw [g1]; simp [hy], rfl, rfl, rfl⟩

theorem real_val (ht : TabOk P tab) (hq : EqsOk P eqs) {i : Nat} (ho : ops[i]? = some o) {j : J} (hj : cJ tab eqs nt ops o = j) (hk : j.kind = 0 ∨ j.kind = 1) (he : Eff call t h n j x h' n') (htm : TmR φ t a) (hsz : a.tmps.size = nt) (hp : j.kind = 1 → Hp h n w φ) :
    ∃ v, VR φ x v ∧ ∀ (K : Act → World → Prop) (Q : Exit → Act → World → Prop), K (a.put o.dst v) w → wpOp P ops Q i K a w := by
  obtain ⟨j0, h0, hk0, hc⟩ := cJ_comes hj he htm hsz
  rcases hc with ⟨hw, he0⟩ | ⟨hw, g1, g2, g3⟩
  · have key : ∀ v, (execOp a.eval o).run P w = .ok (.value v) w → ∀ (K : Act → World → Prop) (Q : Exit → Act → World → Prop), K (a.put o.dst v) w → wpOp P ops Q i K a w := fun v hv K Q hK => by
      unfold wpOp
      simp only [ho]
      rw [if_pos hw]
      refine .inl ?_
      unfold Oper.wp
      rw [hv, Oper.upon_value]
      exact hK
    obtain ⟨dst, op, type, pos, after, guard⟩ := o
    unfold cJ0 at h0
    split at h0
    · rename_i i0 hc
      split at h0
      · rename_i d hd
        cases hb : Nat.blt d nt with
        | false => rw [hb] at h0; cases h0
        | true =>
          rw [hb] at h0; cases h0
          cases he0 with
          | p _ _ _ hr =>
            obtain ⟨v, k1, k2⟩ := opP_ok (dst := dst) (type := type) (pos := pos) (after := after) (guard := guard) ht hq htm hc hr w
            exact ⟨v, k2, key v k1⟩
      · cases h0
    · rename_i i0 hc
      split at h0
      · rename_i d hd
        cases hb : Nat.blt d nt with
        | false => rw [hb] at h0; cases h0
        | true =>
          rw [hb] at h0; cases h0
          have hk1 : j.kind = 1 := hk0.symm
          cases he0 with
          | r _ _ _ hr =>
            obtain ⟨v, k1, k2⟩ := opR_ok (dst := dst) (type := type) (pos := pos) (after := after) (guard := guard) (hp hk1) ht hq htm hc hr
            exact ⟨v, k2, key v k1⟩
      · cases h0
    · exfalso
      split at h0
      · rename_i d hd
        cases hb : Nat.blt d nt with
        | false => rw [hb] at h0; cases h0
        | true => rw [hb] at h0; cases h0; rw [← hk0] at hk; simp [kind_a] at hk
      · cases h0
    · exfalso
      split at h0
      · rename_i d hd
        cases hb : Nat.blt d nt with
        | false => rw [hb] at h0; cases h0
        | true => rw [hb] at h0; cases h0; rw [← hk0] at hk; simp [kind_w] at hk
      · cases h0; rw [← hk0] at hk; simp [kind_w] at hk
    · cases h0
  · subst g1
    refine ⟨undef, .tup [] [] rfl (fun i c v h => by simp at h), fun K Q hK => ?_⟩
    unfold wpOp
    simp only [ho]
    rw [if_neg (by rw [hw]; simp)]
    exact hK

theorem real_alc (ht : TabOk P tab) {i : Nat} (ho : ops[i]? = some o) {j : J} (hj : cJ tab eqs nt ops o = j) (hk : j.kind = 2) {m : Pt} {ob : O} (he : Eff call t h m j x (h.put m ob) m.inc) (htm : TmR φ t a) (hsz : a.tmps.size = nt) :
    ∃ v obj s, (∀ φ' : Pl eqs.gs, Ex φ φ' → ObjR φ' (w.alloc obj) w.heap.size s ob) ∧ (∀ φ' : Pl eqs.gs, φ' m = some (w.heap.size, s) → VR φ' x v) ∧ ∀ (K : Act → World → Prop) (Q : Exit → Act → World → Prop), K (a.put o.dst v) (w.alloc obj) → wpOp P ops Q i K a w := by
  obtain ⟨j0, h0, hk0, hc⟩ := cJ_comes hj he htm hsz
  rcases hc with ⟨hw, he0⟩ | ⟨hw, g1, g2, g3⟩
  · obtain ⟨dst, op, type, pos, after, guard⟩ := o
    unfold cJ0 at h0
    split at h0
    · exfalso
      split at h0
      · rename_i d hd
        cases hb : Nat.blt d nt with
        | false => rw [hb] at h0; cases h0
        | true => rw [hb] at h0; cases h0; rw [← hk0] at hk; simp [kind_p] at hk
      · cases h0
    · exfalso
      split at h0
      · rename_i d hd
        cases hb : Nat.blt d nt with
        | false => rw [hb] at h0; cases h0
        | true => rw [hb] at h0; cases h0; rw [← hk0] at hk; simp [kind_r] at hk
      · cases h0
    · rename_i i0 hc
      split at h0
      · rename_i d hd
        cases hb : Nat.blt d nt with
        | false => rw [hb] at h0; cases h0
        | true =>
          rw [hb] at h0; cases h0
          generalize hh2 : h.put m ob = h2 at he0
          generalize hn2 : m.inc = n2 at he0
          cases he0 with
          | a _ _ _ ob' hr =>
            have hob : ob' = ob := by
              have h5 := congrArg (fun q => T.get q m) hh2
              simp only [get_put, if_true] at h5
              exact (Option.some.inj h5).symm
            subst hob
            obtain ⟨v, obj, s, k1, k2, k3⟩ := opA_ok (dst := dst) (type := type) (pos := pos) (after := after) (guard := guard) ht htm hc hr w
            refine ⟨v, obj, s, k2, k3, fun K Q hK => ?_⟩
            unfold wpOp
            simp only [ho]
            rw [if_pos hw]
            refine .inl ?_
            unfold Oper.wp
            rw [k1, Oper.upon_value]
            exact hK
      · cases h0
    · exfalso
      split at h0
      · rename_i d hd
        cases hb : Nat.blt d nt with
        | false => rw [hb] at h0; cases h0
        | true => rw [hb] at h0; cases h0; rw [← hk0] at hk; simp [kind_w] at hk
      · cases h0; rw [← hk0] at hk; simp [kind_w] at hk
    · cases h0
  · exfalso
    have := congrArg Pt.num g3
    rw [num_inc] at this
    omega

theorem real_wr (ht : TabOk P tab) (hq : EqsOk P eqs) (hcall : CallOk eqs.gs P call) {i : Nat} (ho : ops[i]? = some o) {j : J} (hj : cJ tab eqs nt ops o = j) (he : Eff call t h n j x h' n') (st : St nt φ t h n a w)
    (K : Act → World → Prop) (Q : Exit → Act → World → Prop) (hK : ∀ a' w' φ', Step φ h n w φ' h' n' w' → St nt φ' (putO t j.dst x) h' n' a' w' → K a' w') : wpOp P ops Q i K a w := by
  obtain ⟨hf, _⟩ := cJ_form hj he
  have hs := he.step hf
  subst hj
  exact step_ok ht hq hcall ho hs st K Q hK
end
end Go.Ex

