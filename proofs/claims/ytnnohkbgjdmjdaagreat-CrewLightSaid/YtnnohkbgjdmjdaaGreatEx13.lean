/- Append and copy; all operations that may change what was there. Nothing here speaks of one program. -/
import Derived.Test.YtnnohkbgjdmjdaaGreatEx12
set_option linter.unusedVariables false
set_option linter.unusedSimpArgs false
namespace Go.Ex
section
variable {φ : Pl} {t : T X} {a : Act} {P : Program} {tab : Tab} {eqs : List (TypeId × List IntKind)} {dst : Option Tmp} {type : TypeId} {pos : String} {after : Array Edge} {guard : Option (Nat × Bool)} {h : H} {n : Pt} {w : World}

/-- The value and the memory behind an append. -/
def AppR (P : Program) (φ : Pl) (e ty : TypeId) (s x : Value) (h : H) (n : Pt) (w : World) (r : X) (h' : H) (n' : Pt) : Prop :=
  ∃ v w' φ', (Builtin.append_ #[e, e] ty #[s, x]).run P w = .ok v w' ∧ Step φ h n w φ' h' n' w' ∧ VR φ' r v

theorem app_none {e el ty : TypeId} {z : Nat} (hu : P.underlying e = some (.slice el)) (hs : ∀ w, (sizeOf el).run P w = .ok z w) (b yb : Option Addr) (m cap yc : Nat) (hn : m ≤ cap) (w : World) :
    (Builtin.append_ #[e, e] ty #[.slice b m cap, .slice yb 0 yc]).run P w = .ok (.slice b m cap) w := by
  cases b <;> cases yb <;> simp [Builtin.append_, run_underlying' hu, hs, Builtin.lenOf, Builtin.firstCells, loadCells, loadCellsFrom, hn, storeCells, Result.andThen]

theorem app_room {e el ty : TypeId} {i : TypeInfo} (hu : P.underlying e = some (.slice el)) (hi : P.info? el = some i) {b off sLen sCap m c : Nat} {ab : Addr} {us : List Value} {w w' : World} (hl : us.length = m * i.size)
    (hus : ∀ (j : Nat) u, us[j]? = some u → w.cell? (ab.add j) = some u) (hroom : sLen + m ≤ sCap) (hst : (storeCells ⟨b, off + sLen * i.size, none⟩ us).run P w = .ok () w') :
    (Builtin.append_ #[e, e] ty #[.slice (some ⟨b, off, none⟩) sLen sCap, .slice (some ab) m c]).run P w = .ok (.slice (some ⟨b, off, none⟩) (sLen + m) sCap) w' := by
  have hf := run_firstCells_some (P := P) w i.size m ab m c us hl hus
  simp [Builtin.append_, run_underlying' hu, sizeOf, typeInfo, hi, Builtin.lenOf, hroom, hf, addr_add, hst, Result.andThen]

theorem appX_ok (hp : Hp h n w φ) (ht : TabOk P tab) {e el ty0 : TypeId} {size bytes k : Nat} {zs new : List X} {s r : X} {h' : H} {n' : Pt} {z1 z2 z3 z4 z5 y3 y4 y5} (he : ty tab e = some ⟨z1, z2, z3, .slice el, z4, z5⟩) (hel : ty tab el = some ⟨size, bytes, y3, y4, some zs, y5⟩)
    (hb2 : zs.length = size) (hb3 : 0 < size) {sv : Value} (hsv : VR φ s sv) (hk : k ≠ 0) {ab : Addr} {c : Nat} {us : List Value} (hl : us.length = k * size) (hc : CR φ new us) (hus : ∀ (j : Nat) u, us[j]? = some u → w.cell? (ab.add j) = some u)
    (hr : appX size bytes k new s h n = some (r, h', n')) : AppR P φ e ty0 sv (.slice (some ab) k c) h n w r h' n' := by
  obtain ⟨i1, u1, hti⟩ := ty_ok ht he
  obtain ⟨i2, u2, ht2⟩ := ty_ok ht hel
  have hu := hti.under
  rw [kind_slice (congrArg TI.kind hti.eq).symm] at hu
  have hsz : i2.size = size := (congrArg TI.size ht2.eq).symm
  have hby : i2.bytes = bytes := (congrArg TI.bytes ht2.eq).symm
  obtain ⟨zv, hzi, hz1, _⟩ := ht2.zero (zs := zs) rfl
  have hzs : zv.cells.size = size := by have := (hz1 φ).1.1; rw [hb2] at this; rw [this, Array.length_toList]
  unfold appX at hr
  split at hr
  · -- nil
    obtain ⟨g1, g2, rfl, rfl, rfl⟩ := appN_eq hr
    have h2 := inv_nils hsv
    subst h2
    have hrun := run_append_nil (P := P) w e ty0 el i2 zv hu ht2.info hzi ab k c us (by rw [hsz]; exact hl) hus (by omega) (by omega) (by rw [hby]; omega)
    have hge := grownCap_ge w k 0 el
    obtain ⟨k1, k2⟩ := grown_step hp (e := el) (z := size) (cap := grownCap w k 0 el) (k := k) (vs := us.toArray ++ Builtin.zeroCells zv.cells (grownCap w k 0 el - k)) hl hc
      (by simp only [Array.size_append, List.size_toArray, size_zeroCells, hzs, hl, ← Nat.add_mul]; congr 1; omega) (by simp only [Array.toList_append]; rw [← hl]; exact List.take_left) hge (grownCap_le_maxLen w k 0 el (by unfold maxLen; omega))
    exact ⟨_, _, _, hrun, k1, k2⟩
  · rename_i id off len cap z'
    obtain ⟨b, sb, c', h1, h2, h3, h4, h5, h6⟩ := inv_sl hsv
    subst h2
    cases hroom : Nat.ble (len + k) cap with
    | true =>
      rw [hroom] at hr
      simp only [cond_true] at hr
      have hle := Nat.le_of_ble_eq_true hroom
      obtain ⟨rfl, rfl, w', g1, g2⟩ := putX_ok (P := P) hp h1 hc hr
      refine ⟨_, w', φ, app_room (i := i2) hu ht2.info (by rw [hsz]; exact hl) hus (by omega) (by rw [hsz]; exact g1), g2, ?_⟩
      cases z' with
      | zero =>
        have := h5 rfl
        subst this
        exact .sl0 id off _ _ b sb h1 hle
      | succ z' =>
        obtain ⟨g3, g4⟩ := h6 z' rfl
        exact .sl1 id off _ _ z' c' b sb h1 hle h4 g3 g4
    | false =>
      rw [hroom] at hr
      simp only [cond_false] at hr
      have hgt : cap < len + k := by
        have := Nat.le_of_ble_eq_true (n := len + k) (m := cap)
        rcases Nat.lt_or_ge cap (len + k) with h7 | h7
        · exact h7
        · rw [Nat.ble_eq_true_of_le h7] at hroom; cases hroom
      split at hr
      · cases hr
      · rename_i q old hold
        -- the old elements
        unfold srcX at hold
        simp only at hold
        split at hold
        · rename_i cs hcs
          split at hold
          · rename_i l hlg
            cases hold
            obtain ⟨os, o1, o2, o3⟩ := (hp.obj id b sb _ h1 hcs).row hlg
            have hnl : (os ++ us).length = (len + k) * size := by rw [List.length_append, o1, hl, Nat.add_mul]
            have hnc : CR φ (old ++ new) (os ++ us) := o2.append hc
            have grow : c' < len + k → len + k ≤ 1000000 → (len + k) * bytes ≤ 1000000000 → ∀ h0, Step φ h n w φ h0 n w → ∃ v w' φ', (Builtin.append_ #[e, e] ty0 #[.slice (some ⟨b, off, none⟩) len c', .slice (some ab) k c]).run P w = .ok v w' ∧
                Step φ h n w φ' (h0.put n (.cells (old ++ new))) n.inc w' ∧ VR φ' (.sl n 0 (len + k) (len + k) (size + 1)) v := fun hlt hsm hbm h0 hs0 => by
              have hrun := run_append_grow (P := P) w e ty0 el i2 zv hu ht2.info hzi ⟨b, off, none⟩ len c' os (by rw [hsz]; exact o1) o3 ab k c us (by rw [hsz]; exact hl) hus hlt (by omega) (growslice_fits hlt (by rw [hby]; omega))
              have hge := grownCap_ge w (len + k) c' el
              obtain ⟨k1, k2⟩ := grown_step hs0.hp (e := el) (z := size) (cap := grownCap w (len + k) c' el) (k := len + k) (vs := os.toArray ++ us.toArray ++ Builtin.zeroCells zv.cells (grownCap w (len + k) c' el - (len + k))) hnl hnc
                (by simp only [Array.size_append, List.size_toArray, size_zeroCells, hzs, o1, hl, ← Nat.add_mul]; congr 1; omega)
                (by simp only [Array.toList_append]; rw [← hnl]; exact List.take_left) hge (grownCap_le_maxLen w (len + k) c' el (by unfold maxLen; omega))
              exact ⟨_, _, _, hrun, hs0.trans k1, k2⟩
            cases hz : Nat.beq z' 0 with
            | true =>
              rw [hz] at hr
              simp only [cond_true] at hr
              have hz0 := Nat.eq_of_beq_eq_true hz
              have hcc := h5 hz0
              obtain ⟨g1, g2, rfl, rfl, rfl⟩ := appN_eq hr
              exact grow (by omega) g1 g2 h (Step.refl hp)
            | false =>
              rw [hz] at hr
              simp only [cond_false] at hr
              cases hoz : (Nat.beq off 0 && Nat.beq z' (size + 1)) with
              | false => rw [hoz] at hr; cases hr
              | true =>
                rw [hoz] at hr
                simp only [cond_true] at hr
                simp only [Bool.and_eq_true] at hoz
                have ho := Nat.eq_of_beq_eq_true hoz.1
                have hzz := Nat.eq_of_beq_eq_true hoz.2
                subst ho; subst hzz
                obtain ⟨g1, g2, rfl, rfl, rfl⟩ := appN_eq hr
                obtain ⟨g3, g4⟩ := h6 size rfl
                by_cases hin : len + k ≤ c'
                · -- in place
                  obtain ⟨vs, ty, q1, q2, q3, q4⟩ := hp.obj id b sb _ h1 hcs
                  have hfit : (len + k) * size ≤ c' * size := Nat.mul_le_mul_right _ hin
                  rw [Nat.add_mul] at hfit
                  have hst := run_storeCells_at P b (len * size) ty us 0 vs w q1 (by rw [hl]; omega) hc.2
                  simp only [Nat.add_zero] at hst
                  have hll : old.length = len * size := by rw [o2.1.1, o1]
                  have hcl : len * size ≤ cs.length := by
                    obtain ⟨f1, _⟩ := lgetL_ok hlg q4
                    rw [List.length_take] at f1; omega
                  refine ⟨_, w.setRow b (vs.toList.take (len * size) ++ us ++ vs.toList.drop (len * size + us.length)).toArray, addPl φ n (b, sb), app_room (i := i2) hu ht2.info (by rw [hsz]; exact hl) hus hin (by rw [hsz, Nat.zero_add]; exact hst), Step.move hp h1 (by rw [hcs]; rfl) rfl rfl rfl (by simp) (fun q hq => setRow_other w b q _ hq) fun φ' hφ => ?_,
                    .sl1 n 0 _ _ size c' b sb (by simp [addPl]) (Nat.le_refl _) hin g3 g4⟩
                  refine ⟨_, ty, setRow_heap w b vs _ ty _ q1, ?_, ?_, ?_⟩
                  · simp only [List.size_toArray, List.length_append, List.length_take, List.length_drop, Array.length_toList, hl]; omega
                  · rw [hnc.1.1, hnl, Nat.add_mul]; omega
                  · rw [hnc.1.1, hnl]
                    have : (vs.toList.take (len * size) ++ us ++ vs.toList.drop (len * size + us.length)).toArray.toList.take ((len + k) * size) = vs.toList.take (len * size) ++ us := by
                      have e1 : (vs.toList.take (len * size) ++ us).length = (len + k) * size := by
                        rw [List.length_append, List.length_take, Array.length_toList, hl, Nat.add_mul]; omega
                      rw [← e1]; exact List.take_left
                    rw [this]
                    refine (CR.append ?_ hc).mono hφ
                    obtain ⟨f1, f2⟩ := lgetL_ok hlg q4
                    rw [List.drop_zero, List.take_take] at f2
                    have e2 : min (len * size) cs.length = len * size := by omega
                    rw [e2] at f2
                    exact f2
                · exact grow (by omega) g1 g2 (h.del id) (Step.del hp id)
          · cases hold
        · cases hold
  · cases hr

theorem app_ok (hp : Hp h n w φ) (ht : TabOk P tab) (hm : TmR φ t a) {call : CallT} {e el : TypeId} {x y : Operand} {dx dy : D} {size bytes : Nat} {zs : List X} {r : X} {h' : H} {n' : Pt} {z1 z2 z3 z4 z5 y3 y4 y5} (he : ty tab e = some ⟨z1, z2, z3, .slice el, z4, z5⟩) (hel : ty tab el = some ⟨size, bytes, y3, y4, some zs, y5⟩)
    (hb2 : zs.length = size) (hb3 : 0 < size) (hx : cD x = some dx) (hy : cD y = some dy) (hr : rApp size bytes dx dy call t h n = some (r, h', n')) : Wr P φ a ⟨dst, .call ⟨.builtin .append, #[x, y], #[e, e]⟩, type, pos, after, guard⟩ h n w r h' n' := fun K Q hK => by
  have hstep : ∀ cv w', (Builtin.append_ #[e, e] type #[a.eval x, a.eval y]).run P w = .ok cv w' → (execOp a.eval ⟨dst, .call ⟨.builtin .append, #[x, y], #[e, e]⟩, type, pos, after, guard⟩).run P w = .ok (.value cv) w' := fun cv w' h => by
    simp [execOp, resolve, invoke, builtin, h, Result.andThen]
  have key : AppR P φ e type (a.eval x) (a.eval y) h n w r h' n' := by
    obtain ⟨i1, u1, hti⟩ := ty_ok ht he
    obtain ⟨i2, u2, ht2⟩ := ty_ok ht hel
    have hu := hti.under
    rw [kind_slice (congrArg TI.kind hti.eq).symm] at hu
    unfold rApp at hr
    split at hr
    · rename_i s x' h1 h2
      split at hr
      · rename_i k new hsrc
        have hsv := ev_ok hm hx h1
        have hxv := ev_ok hm hy h2
        have hsx := srcX_ok hp hsrc hxv
        cases hk0 : Nat.beq k 0 with
        | true =>
          rw [hk0] at hr
          simp only [cond_true] at hr
          have hk := Nat.eq_of_beq_eq_true hk0
          subst hk
          have hy0 : ∃ yb yc, a.eval y = .slice yb 0 yc := by
            rcases hsx with ⟨g1, _⟩ | ⟨b, off, c, us, g1, _⟩
            · exact ⟨_, _, g1⟩
            · exact ⟨_, _, g1⟩
          obtain ⟨yb, yc, hy0⟩ := hy0
          split at hr
          · cases hr
            have g := inv_nils hsv
            exact ⟨_, w, φ, by rw [hy0, g]; exact app_none hu ht2.size none yb 0 0 yc (Nat.le_refl _) w, Step.refl hp, .nils⟩
          · cases hr
            obtain ⟨b, sb, c', g1, g2, g3, g4, _⟩ := inv_sl hsv
            exact ⟨_, w, φ, by rw [hy0, g2]; exact app_none hu ht2.size _ yb _ _ yc (by omega) w, Step.refl hp, by rw [g2] at hsv; exact hsv⟩
          · cases hr
        | false =>
          rw [hk0] at hr
          simp only [cond_false] at hr
          have hk := Nat.ne_of_beq_eq_false hk0
          rcases hsx with ⟨_, g2⟩ | ⟨b, off, c, us, g1, g2, g3, g4⟩
          · exact absurd g2 hk
          · rw [g1]
            exact appX_ok hp ht he hel hb2 hb3 hsv hk g2 g3 g4 hr
      · cases hr
    · cases hr
  obtain ⟨v, w', φ', k1, k2, k3⟩ := key
  unfold Oper.wp
  rw [hstep v w' k1, Oper.upon_value]
  exact hK v w' φ' k2 k3

theorem copy_ok (hp : Hp h n w φ) (ht : TabOk P tab) (hm : TmR φ t a) {call : CallT} {e el t2 : TypeId} {x y : Operand} {dx dy : D} {ei : TI} {r : X} {h' : H} {n' : Pt} {z1 z2 z3 z4 z5} (he : ty tab e = some ⟨z1, z2, z3, .slice el, z4, z5⟩) (hel : ty tab el = some ei)
    (hx : cD x = some dx) (hy : cD y = some dy) (hr : rCopy ei.size dx dy call t h n = some (r, h', n')) : Wr P φ a ⟨dst, .call ⟨.builtin .copy, #[x, y], #[e, t2]⟩, type, pos, after, guard⟩ h n w r h' n' := fun K Q hK => by
  obtain ⟨i1, u1, hti⟩ := ty_ok ht he
  obtain ⟨i2, u2, ht2⟩ := ty_ok ht hel
  have hu := hti.under
  rw [kind_slice (congrArg TI.kind hti.eq).symm] at hu
  unfold rCopy at hr
  split at hr
  · rename_i id off k c1 z1' id' off' k' c2 z2' h1 h2
    split at hr
    · rename_i cs h3
      split at hr
      · rename_i l hl
        obtain ⟨b, s, c, g1, g2, _⟩ := inv_sl (ev_ok hm hx h1)
        obtain ⟨b', s', c', g3, g4, _⟩ := inv_sl (ev_ok hm hy h2)
        obtain ⟨us, q1, q2, q3⟩ := (hp.obj id' b' s' _ g3 h3).row hl
        obtain ⟨rfl, rfl, w', m1, m2⟩ := putX_ok (P := P) hp g1 q2 hr
        have hf := run_firstCells_some (P := P) w ei.size (Nat.min k' k) ⟨b', off', none⟩ k' c' us q1 q3
        have hrun : (execOp a.eval ⟨dst, .call ⟨.builtin .copy, #[x, y], #[e, t2]⟩, type, pos, after, guard⟩).run P w = .ok (.value (.int .i64 (Nat.min k' k))) w' := by
          simp [execOp, resolve, invoke, builtin, g2, g4, Builtin.copy_, run_underlying' hu, Builtin.lenOf, ht2.size, hf, m1, Result.andThen, goInt]
        unfold Oper.wp
        rw [hrun, Oper.upon_value]
        exact hK _ w' φ m2 (.int _ _)
      · cases hr
    · cases hr
  · cases hr

theorem opW_ok (hp : Hp h n w φ) (ht : TabOk P tab) (hm : TmR φ t a) {call : CallT} (hcall : CallOk P call) {op : Op} {i : IW} {r : X} {h' : H} {n' : Pt} (hc : cOp tab eqs op = some (.w i)) (hr : opW i call t h n = some (r, h', n')) :
    Wr P φ a ⟨dst, op, type, pos, after, guard⟩ h n w r h' n' := by
  unfold cOp at hc
  split at hc
  all_goals first
    | (split at hc <;> cases hc; done)
    | (repeat' split at hc
       all_goals cases hc
       done)
    | skip
  · exfalso
    unfold cBuild at hc
    repeat' split at hc
    all_goals first | (cases hc; done) | skip
    all_goals (revert hc; cases (allTy tab _) <;> intro hc <;> cases hc)
  · exfalso
    unfold cBuildS at hc
    repeat' split at hc
    all_goals first | (cases hc; done) | skip
    all_goals (revert hc; cases (Nat.ble _ _ && (Nat.beq _ _ && Nat.blt _ _)) <;> intro hc <;> cases hc)
  · split at hc
    · rename_i he hx hy; cases hc; exact store_ok (call := call) hp ht hm he hx hy hr
    · cases hc
  · repeat' split at hc
    all_goals first | (cases hc; done) | skip
    all_goals (revert hc; cases (Nat.beq _ _ && Nat.blt _ _) <;> intro hc <;> cases hc)
  · exfalso
    unfold cSlice at hc
    repeat' split at hc
    all_goals cases hc
  · repeat' split at hc
    all_goals first | (cases hc; done) | skip
    all_goals (revert hc; cases (Nat.blt _ _) <;> intro hc <;> cases hc)
  · split at hc
    · rename_i he hx hy hz
      split at hc
      · rename_i hk; cases hc; exact upd_ok (call := call) hp ht hm he hk hx hy hz hr
      · cases hc
    · cases hc
  · split at hc
    · rename_i h1; cases hc; exact call_ok hp hm hcall h1 hr
    · cases hc
  · split at hc
    · rename_i h1 h2; cases hc; exact callv_ok hp hm hcall h1 h2 hr
    · cases hc
  · rename_i b args tys
    unfold cBuiltin at hc
    split at hc
    · repeat' split at hc
      all_goals cases hc
    · rename_i t1 t2 x y ht1 hx1
      have e1 : tys = #[t1, t2] := by apply Array.ext'; simpa using ht1
      have e2 : args = #[x, y] := by apply Array.ext'; simpa using hx1
      subst e1; subst e2
      split at hc
      · rename_i he hx hy
        split at hc
        · rename_i size bytes _ _ zs _ hel
          cases hb : (Nat.beq t1 t2 && (Nat.beq zs.length size && Nat.blt 0 size)) with
          | false => rw [hb] at hc; cases hc
          | true =>
            rw [hb] at hc
            cases hc
            simp only [Bool.and_eq_true] at hb
            have := Nat.eq_of_beq_eq_true hb.1
            subst this
            exact app_ok (call := call) hp ht hm he hel (Nat.eq_of_beq_eq_true hb.2.1) (Nat.le_of_ble_eq_true hb.2.2) hx hy hr
        · cases hc
      · cases hc
    · rename_i t1 t2 x y ht1 hx1
      have e1 : tys = #[t1, t2] := by apply Array.ext'; simpa using ht1
      have e2 : args = #[x, y] := by apply Array.ext'; simpa using hx1
      subst e1; subst e2
      split at hc
      · rename_i he hx hy
        split at hc
        · rename_i hel; cases hc; exact copy_ok (call := call) hp ht hm he hel hx hy hr
        · cases hc
      · cases hc
    · repeat' split at hc
      all_goals cases hc
    · repeat' split at hc
      all_goals cases hc
    · cases hc
end
end Go.Ex
