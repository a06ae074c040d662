/- Operations that may change what was there. Nothing here speaks of one program. -/
import Derived.Test.YtnnohkbgjdmjdaaGreatEx10
set_option linter.unusedVariables false
set_option linter.unusedSimpArgs false
namespace Go.Ex
section
variable {φ : Pl} {t : T X} {a : Act} {P : Program} {tab : Tab} {eqs : List (TypeId × List IntKind)} {dst : Option Tmp} {type : TypeId} {pos : String} {after : Array Edge} {guard : Option (Nat × Bool)} {h : H} {n : Pt} {w : World}

theorem opA_ok (ht : TabOk P tab) (hm : TmR φ t a) {op : Op} {i : IA} {m : Pt} {r : X} {ob : O} (hc : cOp tab eqs op = some (.a i)) (hr : opA i t m = some (r, ob)) : Alc P φ a ⟨dst, op, type, pos, after, guard⟩ m r ob := by
  unfold cOp at hc
  split at hc
  all_goals first
    | (split at hc <;> cases hc; done)
    | (repeat' split at hc
       all_goals cases hc
       done)
    | skip
  · split at hc
    · rename_i he; cases hc; cases hr; exact new_ok ht he
    · cases hc
  · split at hc
    · rename_i hx; cases hc; exact box_ok hm hx hr
    · cases hc
  · exfalso
    unfold cBuild at hc
    repeat' split at hc
    all_goals first | (cases hc; done) | skip
    all_goals (revert hc; cases (allTy tab _) <;> intro hc <;> cases hc)
  · have : ∃ zs len l, i = .buildS zs len l := by
      unfold cBuildS at hc
      repeat' split at hc
      all_goals first | (cases hc; done) | skip
      all_goals (revert hc; cases (Nat.ble _ _ && (Nat.beq _ _ && Nat.blt _ _)) <;> intro hc <;> cases hc; exact ⟨_, _, _, rfl⟩)
    obtain ⟨zs, len, l, rfl⟩ := this
    rename_i e len' ps
    have : len = len' := by
      unfold cBuildS at hc
      repeat' split at hc
      all_goals first | (cases hc; done) | skip
      all_goals (revert hc; cases (Nat.ble _ _ && (Nat.beq _ _ && Nat.blt _ _)) <;> intro hc <;> cases hc; rfl)
    subst this
    exact buildS_ok ht hm hc hr
  · split at hc
    · split at hc
      · cases hc; cases hr; exact mkM_ok
      · split at hc
        · cases hc; cases hr; exact mkMA_ok
        · cases hc
      · cases hc
    · cases hc
  · split at hc
    · rename_i he hx hy
      split at hc
      · rename_i size bytes _ _ zs _ hel
        cases hb : (Nat.beq zs.length size && Nat.blt 0 size) with
        | false => rw [hb] at hc; cases hc
        | true =>
          rw [hb] at hc
          cases hc
          simp only [Bool.and_eq_true] at hb
          exact mkS_ok ht hm he hel (Nat.eq_of_beq_eq_true hb.1) (Nat.le_of_ble_eq_true hb.2) hx hy hr
      · cases hc
    · cases hc
  · exfalso
    unfold cSlice at hc
    repeat' split at hc
    all_goals cases hc
  · repeat' split at hc
    all_goals first | (cases hc; done) | skip
    all_goals (revert hc; cases (Nat.blt _ _) <;> intro hc <;> cases hc)
  · exfalso
    unfold cBuiltin at hc
    repeat' split at hc
    all_goals first | (cases hc; done) | skip
    all_goals (revert hc; cases (Nat.beq _ _ && (Nat.beq _ _ && Nat.blt _ _)) <;> intro hc <;> cases hc)

/-- The operation ends in a state that h', n' tell, with a value that x tells. -/
def Wr (P : Program) (φ : Pl) (a : Act) (o : Oper) (h : H) (n : Pt) (w : World) (x : X) (h' : H) (n' : Pt) : Prop :=
  ∀ (K : Act → World → Prop) (Q : Exit → Act → World → Prop), (∀ v w' φ', Step φ h n w φ' h' n' w' → VR φ' x v → K (a.put o.dst v) w') → o.wp P a w K Q

theorem splice_take (vs nv : List Value) (off m : Nat) (h : off + nv.length ≤ m) : (vs.take off ++ nv ++ vs.drop (off + nv.length)).take m = (vs.take m).take off ++ nv ++ (vs.take m).drop (off + nv.length) ∨ vs.length < off := by
  by_cases hlt : vs.length < off
  · exact .inr hlt
  · refine .inl ?_
    rw [List.take_append, List.take_append, List.take_take, List.take_take]
    have e1 : min m off = off := by omega
    have e2 : min off m = off := by omega
    rw [e1, e2, List.length_append, List.length_take]
    have e3 : min off vs.length = off := by omega
    rw [e3, List.take_of_length_le (l := nv) (by omega), List.drop_take]

theorem putX_ok (hp : Hp h n w φ) {id : Pt} {off b s : Nat} {l : List X} {nv : List Value} {r x : X} {h' : H} {n' : Pt} (hb : φ id = some (b, s)) (hl : CR φ l nv) (hr : putX h n id off l r = some (x, h', n')) :
    x = r ∧ n' = n ∧ ∃ w', (storeCells ⟨b, off, none⟩ nv).run P w = .ok () w' ∧ Step φ h n w φ h' n w' := by
  unfold putX at hr
  split at hr
  · rename_i cs h1
    split at hr
    · rename_i cs' h2
      cases hr
      obtain ⟨vs, ty, g1, g2, g3, g4⟩ := hp.obj id b s _ hb h1
      obtain ⟨k1, k2⟩ := lput_ok h2 g4 hl
      have k1' : off + nv.length ≤ min cs.length vs.size := by simpa using k1
      have hl1 : off + nv.length ≤ cs.length := by omega
      have hst := run_storeCells_at P b off ty nv 0 vs w g1 (by omega) hl.2
      simp only [Nat.add_zero] at hst
      have hlen : cs'.length = cs.length := by
        have := k2.1.1
        simp only [List.length_append, List.length_take, List.length_drop, Array.length_toList] at this
        omega
      refine ⟨rfl, rfl, _, hst, Step.change hp hb (by rw [h1]; rfl) rfl rfl rfl (by simp [World.setRow]) (fun k hk => setRow_other w b k _ hk) ?_⟩
      refine ⟨_, ty, setRow_heap w b vs _ ty _ g1, ?_, by omega, ?_⟩
      · simp only [List.size_toArray, List.length_append, List.length_take, List.length_drop, Array.length_toList]; omega
      · rw [hlen]
        rcases splice_take vs.toList nv off cs.length hl1 with h3 | h3
        · simp only [h3]; exact k2
        · rw [Array.length_toList] at h3; omega
    · cases hr
  · cases hr

theorem store_ok (hp : Hp h n w φ) (ht : TabOk P tab) (hm : TmR φ t a) {call : CallT} {e : TypeId} {x y : Operand} {dx dy : D} {ti : TI} {r : X} {h' : H} {n' : Pt} (he : ty tab e = some ti) (hx : cD x = some dx) (hy : cD y = some dy)
    (hr : rStore ti.size dx dy call t h n = some (r, h', n')) : Wr P φ a ⟨dst, .store e x y, type, pos, after, guard⟩ h n w r h' n' := fun K Q hK => by
  unfold rStore at hr
  split at hr
  · rename_i id off v h1 h2
    split at hr
    · rename_i l hl
      cases hb : Nat.beq l.length ti.size with
      | false => rw [hb] at hr; cases hr
      | true =>
        rw [hb] at hr
        have hsz := Nat.eq_of_beq_eq_true hb
        obtain ⟨b, s, h3, h4⟩ := inv_ptr (ev_ok hm hx h1)
        have h5 := inCells_ok hl (ev_ok hm hy h2)
        obtain ⟨rfl, rfl, w', g1, g2⟩ := putX_ok (P := P) hp h3 h5 hr
        obtain ⟨i, u, hti⟩ := ty_ok ht he
        have hcs : (a.eval y).cells.size = ti.size := by rw [← hsz, h5.1.1, Array.length_toList]
        have hrun : (execOp a.eval ⟨dst, .store e x y, type, pos, after, guard⟩).run P w = .ok .skip w' := by
          simp [execOp, h4, Instr.storeAt, Instr.sureAddr, storeVar, hti.size, Result.andThen, hcs, g1]
        unfold Oper.wp
        rw [hrun, Oper.upon_skip]
        exact hK _ _ _ g2 (.tup [] [] rfl (fun i c v h => by simp at h))
    · cases hr
  · cases hr

theorem mset_ok {kk k : IntKind} {m : Int} {x : X} {v : Value} (hv : VR φ x v) : ∀ {es : List (Int × X)} {rl : List MapEntry} (i0 : Nat), EntR φ k es rl →
    (Instr.findNow (.int kk) (.int k m) rl i0 = some none ∧ ∀ b, EntR φ k (mset m x es) (rl ++ [{ key := .int k m, val := v, born := b }])) ∨
    (∃ j u e, Instr.findNow (.int kk) (.int k m) rl i0 = some (some (i0 + j, u)) ∧ rl[j]? = some e ∧ e.key = .int k m ∧ EntR φ k (mset m x es) (rl.set j { e with key := .int k m, val := v })) := by
  intro es
  induction es with
  | nil =>
    intro rl i0 h
    have : rl = [] := List.eq_nil_of_length_eq_zero h.1
    subst this
    refine .inl ⟨rfl, fun b => ⟨rfl, fun i e r h1 h2 => ?_⟩⟩
    cases i with
    | zero => simp [mset] at h1 h2; subst h1; subst h2; exact ⟨rfl, hv⟩
    | succ i => simp [mset] at h1
  | cons e es ih =>
    intro rl i0 h
    cases rl with
    | nil => have := h.1; simp at this
    | cons r rl =>
      obtain ⟨h1, h2⟩ := h.2 0 e r rfl rfl
      by_cases hk : m = e.1
      · refine .inr ⟨0, r.val, r, by simp [Instr.findNow, Instr.sameNow, h1, hk], rfl, by rw [h1, hk], ?_⟩
        have : mset m x (e :: es) = (m, x) :: es := by simp [mset, hk]
        rw [this]
        refine ⟨by simpa using h.1, fun i e' r' g1 g2 => ?_⟩
        cases i with
        | zero => simp at g1 g2; subst g1; subst g2; exact ⟨rfl, hv⟩
        | succ i => exact h.2 (i + 1) e' r' (by simpa using g1) (by simpa using g2)
      · have hne : (m == e.1) = false := by simpa using hk
        have hms : mset m x (e :: es) = e :: mset m x es := by simp [mset, hk]
        rw [hms]
        rcases ih (i0 + 1) h.tail with ⟨g1, g2⟩ | ⟨j, u, en, g1, g2, g3, g4⟩
        · refine .inl ⟨by simp [Instr.findNow, Instr.sameNow, h1, hne, g1], fun b => ⟨by have := (g2 b).1; simpa using this, fun i e' r' k1 k2 => ?_⟩⟩
          cases i with
          | zero => simp at k1 k2; subst k1; subst k2; exact ⟨h1, h2⟩
          | succ i => exact (g2 b).2 i e' r' (by simpa using k1) (by simpa using k2)
        · refine .inr ⟨j + 1, u, en, ?_, by simpa using g2, g3, by have := g4.1; simpa using this, fun i e' r' k1 k2 => ?_⟩
          · simp [Instr.findNow, Instr.sameNow, h1, hne, g1]; omega
          · cases i with
            | zero => simp at k1 k2; subst k1; subst k2; exact ⟨h1, h2⟩
            | succ i => exact g4.2 i e' r' (by simpa using k1) (by simpa using k2)

theorem upd_ok (hp : Hp h n w φ) (ht : TabOk P tab) (hm : TmR φ t a) {call : CallT} {e kt el : TypeId} {x y z : Operand} {dx dy dz : D} {r : X} {h' : H} {n' : Pt} {z1 z2 z3 z4 z5 y1 y2 y3 y4 y5 kk} (he : ty tab e = some ⟨z1, z2, z3, .map kt el, z4, z5⟩) (hk : ty tab kt = some ⟨y1, y2, y3, .int kk, y4, y5⟩)
    (hx : cD x = some dx) (hy : cD y = some dy) (hz : cD z = some dz) (hr : rUpd dx dy dz call t h n = some (r, h', n')) : Wr P φ a ⟨dst, .mapUpdate e x y z, type, pos, after, guard⟩ h n w r h' n' := fun K Q hK => by
  obtain ⟨i1, u1, hti1⟩ := ty_ok ht he
  obtain ⟨i2, u2, hti2⟩ := ty_ok ht hk
  have hu1 := hti1.under
  have hu2 := hti2.under
  rw [kind_map (congrArg TI.kind hti1.eq).symm] at hu1
  rw [kind_int (congrArg TI.kind hti2.eq).symm] at hu2
  unfold rUpd at hr
  split at hr
  · rename_i id ki km v h1 h2 h2'
    split at hr
    · rename_i es kj h3
      by_cases hkk : ki = kj
      · subst hkk
        simp only [decide_true, cond_true, Option.some.injEq, Prod.mk.injEq] at hr
        obtain ⟨rfl, rfl, rfl⟩ := hr
        obtain ⟨b, s, h4, h5⟩ := inv_map (ev_ok hm hx h1)
        have h6 := inv_int (ev_ok hm hy h2)
        have h7 := ev_ok hm hz h2'
        obtain ⟨res, clock, g1, g2, g3⟩ := hp.obj id b s _ h4 h3
        have hE : EntR φ ki es res.toList := ⟨by simpa using g2, fun i e r k1 k2 => g3 i e r k1 (by simpa using k2)⟩
        have hlt : b < w.heap.size := hp.lt id b s h4
        have hobj : (getObj b).run P w = .ok (.map res clock) w := by simp [getObj, Sem.run, g1]
        have hset : ∀ o, (setObj b o).run P w = .ok () { w with heap := w.heap.setIfInBounds b o } := fun o => by simp [setObj, Sem.run, g1]
        have hstep : ∀ (res' : Array MapEntry) (clock' : Nat), EntR φ ki (mset km v es) res'.toList → Step φ h n w φ (h.put id (.map (mset km v es) ki)) n { w with heap := w.heap.setIfInBounds b (.map res' clock') } := fun res' clock' hE' => by
          refine Step.change hp h4 (by rw [h3]; rfl) rfl rfl rfl (by simp) (fun k hk => by simp [Array.getElem?_setIfInBounds, Ne.symm hk]) ?_
          exact ⟨res', clock', by simp [Array.getElem?_setIfInBounds, hlt], by simpa using hE'.1, fun i e r k1 k2 => hE'.2 i e r k1 (by simpa using k2)⟩
        rcases mset_ok (kk := kk) (m := km) h7 0 hE with ⟨k1, k2⟩ | ⟨j, u, en, k1, k2, k3, k4⟩
        · have hrun : (execOp a.eval ⟨dst, .mapUpdate e x y z, type, pos, after, guard⟩).run P w = .ok .skip { w with heap := w.heap.setIfInBounds b (.map (res.push { key := .int ki km, val := a.eval z, born := clock }) (clock + 1)) } := by
            simp [execOp, h5, h6, Instr.mapUpdate, run_underlying' hu1, hobj, run_checkKey _ hu2, Instr.findKey, run_underlying' hu2, k1, hset, Result.andThen]
          unfold Oper.wp
          rw [hrun, Oper.upon_skip]
          exact hK _ _ _ (hstep _ _ (by simpa using k2 clock)) (.tup [] [] rfl (fun i c v h => by simp at h))
        · have k2' : res[j]? = some en := by simpa using k2
          have hsame : Instr.sameBits 10000 (.int ki km) (.int ki km) = true := by
            have : ∀ d, Instr.sameBits d (.int ki km) (.int ki km) = true := fun d => by unfold Instr.sameBits; simp
            exact this _
          have hrun : (execOp a.eval ⟨dst, .mapUpdate e x y z, type, pos, after, guard⟩).run P w = .ok .skip { w with heap := w.heap.setIfInBounds b (.map (res.modify j fun e => { e with key := .int ki km, val := a.eval z }) clock) } := by
            rw [Nat.zero_add] at k1
            simp [execOp, h5, h6, Instr.mapUpdate, run_underlying' hu1, hobj, run_checkKey _ hu2, Instr.findKey, run_underlying' hu2, k1, hset, Result.andThen, k2', k3, Instr.keyThatStays, hsame]
          unfold Oper.wp
          rw [hrun, Oper.upon_skip]
          refine hK _ _ _ (hstep _ _ ?_) (.tup [] [] rfl (fun i c v h => by simp at h))
          have hjl : j < res.size := (Array.getElem?_eq_some_iff.1 k2').1
          have : (res.modify j fun e => { e with key := .int ki km, val := a.eval z }).toList = res.toList.set j { en with key := .int ki km, val := a.eval z } := by
            apply List.ext_getElem?
            intro q
            rw [Array.getElem?_toList, Array.getElem?_modify, List.getElem?_set]
            by_cases hq : j = q
            · subst hq
              have hen : res[j] = en := (Array.getElem?_eq_some_iff.1 k2').2
              simp [hjl, hen]
            · simp [hq]
          rw [this]; exact k4
      · simp [hkk] at hr
    · cases hr
  · cases hr
end
end Go.Ex
