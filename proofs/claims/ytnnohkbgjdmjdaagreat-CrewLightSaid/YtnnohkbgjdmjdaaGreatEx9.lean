/- Operations that look into memory. Nothing here speaks of one program. -/
import Derived.Test.YtnnohkbgjdmjdaaGreatEx8
set_option linter.unusedVariables false
set_option linter.unusedSimpArgs false
namespace Go.Ex
section
variable {φ : Pl} {t : T X} {a : Act} {P : Program} {tab : Tab} {eqs : List (TypeId × List IntKind)} {dst : Option Tmp} {type : TypeId} {pos : String} {after : Array Edge} {guard : Option (Nat × Bool)} {h : H} {n : Pt} {w : World}

theorem ObjR.cell {cs : List X} {b s : Nat} (ho : ObjR φ w b s (.cells cs)) {off : Nat} {x : X} (hx : cs[off]? = some x) : ∃ v, w.cell? ⟨b, off, none⟩ = some v ∧ v.oneCell' = true ∧ VR φ x v := by
  obtain ⟨vs, ty, h1, h2, h3, h4⟩ := ho
  have hlt : off < cs.length := (List.getElem?_eq_some_iff.1 hx).1
  have hlt2 : off < (vs.toList.take cs.length).length := by rw [← h4.1.1]; exact hlt
  have hget : (vs.toList.take cs.length)[off]? = some ((vs.toList.take cs.length)[off]) := List.getElem?_eq_getElem hlt2
  refine ⟨(vs.toList.take cs.length)[off], ?_, h4.2 _ (List.getElem_mem hlt2), h4.1.2 off x _ hx hget⟩
  rw [List.getElem?_take, if_pos hlt, Array.getElem?_toList] at hget
  simp [World.cell?, h1, hget]

/-- Cells out of a block's. -/
theorem ObjR.row {cs : List X} {b s : Nat} (ho : ObjR φ w b s (.cells cs)) {off m : Nat} {l : List X} (hl : lgetL cs off m = some l) :
    ∃ us : List Value, us.length = m ∧ CR φ l us ∧ ∀ j v, us[j]? = some v → w.cell? ((⟨b, off, none⟩ : Addr).add j) = some v := by
  obtain ⟨vs, ty, h1, h2, h3, h4⟩ := ho
  obtain ⟨g1, g2⟩ := lgetL_ok hl h4
  refine ⟨_, ?_, g2, fun j v hj => ?_⟩
  · simp only [List.length_take, List.length_drop]; simp only [List.length_take] at g1; omega
  · rw [List.getElem?_take] at hj
    split at hj
    · rename_i hjm
      rw [List.getElem?_drop, List.getElem?_take] at hj
      split at hj
      · rw [Array.getElem?_toList] at hj
        rw [addr_add]
        simp [World.cell?, h1, hj]
      · cases hj
    · cases hj

theorem load1_ok (hp : Hp h n w φ) (ht : TabOk P tab) (hm : TmR φ t a) {e : TypeId} {x : Operand} {d : D} {ti : TI} {r : X} (he : ty tab e = some ti) (hag : ti.agg = false) (hc : cD x = some d) (hr : rLoad1 d t h = some r) :
    ∃ v, (execOp a.eval ⟨dst, .load e x, type, pos, after, guard⟩).run P w = .ok (.value v) w ∧ VR φ r v := by
  unfold rLoad1 at hr
  split at hr
  · rename_i id off h1
    split at hr
    · rename_i cs h2
      obtain ⟨b, s, h3, h4⟩ := inv_ptr (ev_ok hm hc h1)
      obtain ⟨i, u, hti⟩ := ty_ok ht he
      obtain ⟨v, g1, g2, g3⟩ := (hp.obj id b s _ h3 h2).cell hr
      have ha := hti.isAgg w
      rw [hag] at ha
      exact ⟨v, by simp only [execOp, h4]; exact run_value (by simp [Instr.loadAt, Instr.sureAddr, loadVar, ha, Result.andThen, g1]), g3⟩
    · cases hr
  · cases hr

theorem loadA_ok (hp : Hp h n w φ) (ht : TabOk P tab) (hm : TmR φ t a) {e : TypeId} {x : Operand} {d : D} {ti : TI} {r : X} (he : ty tab e = some ti) (hag : ti.agg = true) (hc : cD x = some d) (hr : rLoadA ti.size d t h = some r) :
    ∃ v, (execOp a.eval ⟨dst, .load e x, type, pos, after, guard⟩).run P w = .ok (.value v) w ∧ VR φ r v := by
  unfold rLoadA at hr
  split at hr
  · rename_i id off h1
    split at hr
    · rename_i cs h2
      split at hr
      · rename_i l hl
        cases hr
        obtain ⟨b, s, h3, h4⟩ := inv_ptr (ev_ok hm hc h1)
        obtain ⟨i, u, hti⟩ := ty_ok ht he
        obtain ⟨us, g1, g2, g3⟩ := (hp.obj id b s _ h3 h2).row hl
        have ha := hti.isAgg w
        rw [hag] at ha
        have hrun := run_loadCells_list (P := P) w ⟨b, off, none⟩ us g3
        rw [g1] at hrun
        exact ⟨.agg us.toArray, by simp only [execOp, h4]; exact run_value (by simp [Instr.loadAt, Instr.sureAddr, loadVar, ha, hti.size, Result.andThen, hrun]), VR.agg' g2⟩
      · cases hr
    · cases hr
  · cases hr

/-- Entries of a map. -/
def EntR (φ : Pl) (k : IntKind) (es : List (Int × X)) (rl : List MapEntry) : Prop :=
  rl.length = es.length ∧ ∀ (i : Nat) e r, es[i]? = some e → rl[i]? = some r → r.key = .int k e.1 ∧ VR φ e.2 r.val
theorem EntR.tail {k e es r rl} (h : EntR φ k (e :: es) (r :: rl)) : EntR φ k es rl := ⟨by simpa using h.1, fun i e r h1 h2 => h.2 (i + 1) e r (by simpa using h1) (by simpa using h2)⟩

theorem findNow_ok {kk k : IntKind} {m : Int} : ∀ {es : List (Int × X)} {rl : List MapEntry} (i0 : Nat), EntR φ k es rl →
    (mget m es = none ∧ Instr.findNow (.int kk) (.int k m) rl i0 = some none) ∨
    (∃ x j v, mget m es = some x ∧ Instr.findNow (.int kk) (.int k m) rl i0 = some (some (i0 + j, v)) ∧ VR φ x v ∧ ∃ e, rl[j]? = some e ∧ e.key = .int k m) := by
  intro es
  induction es with
  | nil => intro rl i0 h; have : rl = [] := List.eq_nil_of_length_eq_zero h.1; subst this; exact .inl ⟨rfl, rfl⟩
  | cons e es ih =>
    intro rl i0 h
    cases rl with
    | nil => have := h.1; simp at this
    | cons r rl =>
      obtain ⟨h1, h2⟩ := h.2 0 e r rfl rfl
      by_cases hk : m = e.1
      · refine .inr ⟨e.2, 0, r.val, by simp [mget, hk], ?_, h2, r, rfl, by rw [h1, hk]⟩
        simp [Instr.findNow, Instr.sameNow, h1, hk]
      · have hne : (m == e.1) = false := by simpa using hk
        rcases ih (i0 + 1) h.tail with ⟨g1, g2⟩ | ⟨x, j, v, g1, g2, g3, en, g4, g5⟩
        · refine .inl ⟨by simp [mget, hk, g1], ?_⟩
          simp [Instr.findNow, Instr.sameNow, h1, hne, g2]
        · refine .inr ⟨x, j + 1, v, by simp [mget, hk, g1], ?_, g3, en, by simpa using g4, g5⟩
          simp [Instr.findNow, Instr.sameNow, h1, hne, g2]
          omega

theorem run_checkKey (emp : Bool) {kt : TypeId} {kk k : IntKind} {m : Int} (hu : P.underlying kt = some (.int kk)) : (Instr.checkKey emp 10000 kt (.int k m)).run P w = .ok () w := by
  have key : ∀ d, (Instr.checkKey emp (d + 1) kt (.int k m)).run P w = .ok () w := fun d => by
    unfold Instr.checkKey
    simp only [Sem.run_bind, run_underlying' hu, Result.andThen_ok, Sem.run_pure]
  exact key 9999

theorem look_ok (hp : Hp h n w φ) (ht : TabOk P tab) (hm : TmR φ t a) {e kt el : TypeId} {x y : Operand} {dx dy : D} {ok : Bool} {z r : X} {z1 z2 z3 z4 z5 y1 y2 y3 y4 y5 x1 x2 x3 x4 x5 kk} (he : ty tab e = some ⟨z1, z2, z3, .map kt el, z4, z5⟩) (hk : ty tab kt = some ⟨y1, y2, y3, .int kk, y4, y5⟩)
    (hz : ty tab el = some ⟨x1, x2, x3, x4, x5, some z⟩) (hx : cD x = some dx) (hy : cD y = some dy) (hr : rLook z ok dx dy t h = some r) :
    ∃ v, (execOp a.eval ⟨dst, .lookup e x y ok, type, pos, after, guard⟩).run P w = .ok (.value v) w ∧ VR φ r v := by
  obtain ⟨i1, u1, hti1⟩ := ty_ok ht he
  obtain ⟨i2, u2, hti2⟩ := ty_ok ht hk
  obtain ⟨i3, u3, hti3⟩ := ty_ok ht hz
  have hu1 := hti1.under
  have hu2 := hti2.under
  rw [kind_map (congrArg TI.kind hti1.eq).symm] at hu1
  rw [kind_int (congrArg TI.kind hti2.eq).symm] at hu2
  obtain ⟨zv, hzv, hz2⟩ := hti3.zv (z := z) rfl
  have hzv := hzv φ
  unfold rLook at hr
  split at hr
  · rename_i id ki km h1 h2
    split at hr
    · rename_i es kj h3
      by_cases hkk : ki = kj
      · subst hkk
        simp only [decide_true, cond_true, Option.some.injEq] at hr
        subst hr
        obtain ⟨b, s, h4, h5⟩ := inv_map (ev_ok hm hx h1)
        have h6 := inv_int (ev_ok hm hy h2)
        obtain ⟨res, clock, g1, g2, g3⟩ := hp.obj id b s _ h4 h3
        have hE : EntR φ ki es res.toList := ⟨by simpa using g2, fun i e r k1 k2 => g3 i e r k1 (by simpa using k2)⟩
        have hobj : (getObj b).run P w = .ok (.map res clock) w := by simp [getObj, Sem.run, g1]
        rcases findNow_ok (kk := kk) (m := km) 0 hE with ⟨k1, k2⟩ | ⟨xx, j, v, k1, k2, k3, _⟩
        · rw [k1]
          cases ok with
          | true =>
            refine ⟨.tuple #[zv, .bool false], ?_, VR.tup' (vs := [zv, .bool false]) ((VRL.nil.cons (.bool _)).cons hzv)⟩
            simp only [execOp, h5, h6]
            refine run_value ?_
            simp [Instr.lookup, run_underlying' hu1, hobj, run_checkKey _ hu2, Instr.findKey, run_underlying' hu2, k2, hz2, Result.andThen]
          | false =>
            refine ⟨zv, ?_, hzv⟩
            simp only [execOp, h5, h6]
            refine run_value ?_
            simp [Instr.lookup, run_underlying' hu1, hobj, run_checkKey _ hu2, Instr.findKey, run_underlying' hu2, k2, hz2, Result.andThen]
        · rw [k1]
          cases ok with
          | true =>
            refine ⟨.tuple #[v, .bool true], ?_, VR.tup' (vs := [v, .bool true]) ((VRL.nil.cons (.bool _)).cons k3)⟩
            simp only [execOp, h5, h6]
            refine run_value ?_
            simp [Instr.lookup, run_underlying' hu1, hobj, run_checkKey _ hu2, Instr.findKey, run_underlying' hu2, k2, hz2, Result.andThen]
          | false =>
            refine ⟨v, ?_, k3⟩
            simp only [execOp, h5, h6]
            refine run_value ?_
            simp [Instr.lookup, run_underlying' hu1, hobj, run_checkKey _ hu2, Instr.findKey, run_underlying' hu2, k2, hz2, Result.andThen]
      · simp [hkk] at hr
    · cases hr
  · cases hr
end
end Go.Ex
