/- One operation, and operations in the order of the text. Nothing here speaks of one program. -/
import Derived.Test.YtnnohkbgjdmjdaaGreatEx13
set_option linter.unusedVariables false
set_option linter.unusedSimpArgs false
namespace Go.Ex

/-- A frame and a memory as the run by hand has them. -/
structure St (nt : Nat) (φ : Pl) (t : T X) (h : H) (n : Pt) (a : Act) (w : World) : Prop where
  defers : a.defers = []
  size : a.tmps.size = nt
  tm : TmR φ t a
  hp : Hp h n w φ

section
variable {nt : Nat} {φ : Pl} {t : T X} {a : Act} {P : Program} {tab : Tab} {eqs : List (TypeId × List IntKind)} {h : H} {n : Pt} {w : World}

theorem put_defers (a : Act) (d : Option Tmp) (v : Value) : (a.put d v).defers = a.defers := by cases d <;> rfl
theorem put_size (a : Act) (d : Option Tmp) (v : Value) : (a.put d v).tmps.size = a.tmps.size := by
  cases d with
  | none => rfl
  | some d => show (a.tmps.setIfInBounds d v).size = _; simp

/-- Behind an operation with a value. -/
theorem St.put (st : St nt φ t h n a w) {φ' : Pl} {h' : H} {n' : Pt} {w' : World} (hs : Step φ h n w φ' h' n' w') {d : Option Tmp} (hd : ∀ i, d = some i → i < nt) {x : X} {v : Value} (hv : VR φ' x v) : St nt φ' (putO t (d.map .ofNat) x) h' n' (a.put d v) w' where
  defers := by rw [put_defers]; exact st.defers
  size := by rw [put_size]; exact st.size
  tm := by
    cases d with
    | none => exact st.tm.mono hs.ex
    | some d => exact (st.tm.mono hs.ex).put (by rw [st.size]; exact hd d rfl) hv
  hp := hs.hp

theorem okDst {i : Nat} (h : Nat.blt i nt = true) : i < nt := Nat.le_of_ble_eq_true h

/-- An operation that is not guarded, or may come. -/
theorem step0_ok (ht : TabOk P tab) (he : EqsOk P eqs) {call : CallT} (hcall : CallOk P call) {o : Oper} {j : J} (hj : cJ0 tab eqs nt o = some j) {t' : T X} {h' : H} {n' : Pt} (hs : step j call t h n = .ok t' h' n') (st : St nt φ t h n a w)
    (K : Act → World → Prop) (Q : Exit → Act → World → Prop) (hK : ∀ a' w' φ', Step φ h n w φ' h' n' w' → St nt φ' t' h' n' a' w' → K a' w') : o.wp P a w K Q := by
  obtain ⟨dst, op, type, pos, after, guard⟩ := o
  unfold cJ0 at hj
  split at hj
  · rename_i i hc
    split at hj
    · rename_i d hd
      cases hb : Nat.blt d nt with
      | false => rw [hb] at hj; cases hj
      | true =>
        rw [hb] at hj
        cases hj
        simp only at hd
        subst hd
        have hs' : stP (.ofNat d) i call t h n = .ok t' h' n' := hs
        unfold stP at hs'
        cases hr : opP i t with
        | none => rw [hr] at hs'; cases hs'
        | some x =>
          rw [hr] at hs'
          cases hs'
          obtain ⟨v, g1, g2⟩ := opP_ok (dst := some d) (type := type) (pos := pos) (after := after) (guard := guard) ht he st.tm hc hr w
          unfold Oper.wp
          rw [g1, Oper.upon_value]
          exact hK _ _ φ (Step.refl st.hp) (st.put (d := some d) (Step.refl st.hp) (fun i hi => by cases hi; exact okDst hb) g2)
    · cases hj
  · rename_i i hc
    split at hj
    · rename_i d hd
      cases hb : Nat.blt d nt with
      | false => rw [hb] at hj; cases hj
      | true =>
        rw [hb] at hj
        cases hj
        simp only at hd
        subst hd
        have hs' : stR (.ofNat d) i call t h n = .ok t' h' n' := hs
        unfold stR at hs'
        cases hr : opR i t h with
        | none => rw [hr] at hs'; cases hs'
        | some x =>
          rw [hr] at hs'
          cases hs'
          obtain ⟨v, g1, g2⟩ := opR_ok (dst := some d) (type := type) (pos := pos) (after := after) (guard := guard) st.hp ht st.tm hc hr
          unfold Oper.wp
          rw [g1, Oper.upon_value]
          exact hK _ _ φ (Step.refl st.hp) (st.put (d := some d) (Step.refl st.hp) (fun i hi => by cases hi; exact okDst hb) g2)
    · cases hj
  · rename_i i hc
    split at hj
    · rename_i d hd
      cases hb : Nat.blt d nt with
      | false => rw [hb] at hj; cases hj
      | true =>
        rw [hb] at hj
        cases hj
        simp only at hd
        subst hd
        have hs' : stA (.ofNat d) i call t h n = .ok t' h' n' := hs
        unfold stA at hs'
        cases hr : opA i t n with
        | none => rw [hr] at hs'; cases hs'
        | some q =>
          obtain ⟨x, ob⟩ := q
          rw [hr] at hs'
          simp only [incK_eq] at hs'
          cases hs'
          obtain ⟨v, obj, s, g1, g2, g3⟩ := opA_ok (dst := some d) (type := type) (pos := pos) (after := after) (guard := guard) ht st.tm hc hr w
          unfold Oper.wp
          rw [g1, Oper.upon_value]
          have hst := Step.alloc st.hp (Nat.le_refl _) (show n.num < n.inc.num by rw [num_inc]; omega) g2
          exact hK _ _ _ hst (st.put (d := some d) hst (fun i hi => by cases hi; exact okDst hb) (g3 _ (by simp [addPl])))
    · cases hj
  · rename_i i hc
    have key : ∀ (hd : ∀ q, dst = some q → q < nt), j = .w (dst.map .ofNat) i → (⟨dst, op, type, pos, after, guard⟩ : Oper).wp P a w K Q := fun hd hjj => by
      subst hjj
      have hs' : stW (dst.map .ofNat) i call t h n = .ok t' h' n' := hs
      unfold stW at hs'
      cases hr : opW i call t h n with
      | none => rw [hr] at hs'; cases hs'
      | some q =>
        obtain ⟨x, h1, n1⟩ := q
        rw [hr] at hs'
        cases hs'
        exact opW_ok (dst := dst) (type := type) (pos := pos) (after := after) (guard := guard) st.hp ht st.tm hcall hc hr K Q fun v w' φ' k1 k2 => hK _ _ φ' k1 (st.put k1 hd k2)
    split at hj
    · rename_i d hd
      simp only at hd
      subst hd
      cases hb : Nat.blt d nt with
      | false => rw [hb] at hj; cases hj
      | true =>
        rw [hb] at hj
        cases hj
        exact key (fun q hq => by cases hq; exact okDst hb) rfl
    · rename_i hd
      simp only at hd
      subst hd
      cases hj
      exact key (fun q hq => by cases hq) rfl
  · cases hj

/-- What a guard says. -/
theorem guard_ok {ops : Array Oper} (htm : TmR φ t a) (hsz : a.tmps.size = nt) {j g : Nat} (hg : (ops[j]?).bind (·.dst) = some g) (hlt : g < nt) {x : X} (hx : t.get (.ofNat g) = some x) :
    (∀ b, x = .bool b → yielded ops a.tmps j = some b) ∧ (x = .tup [] → yielded ops a.tmps j = none) := by
  have hv := htm g x hx
  have h2 : a.tmps[g]? = some (a.tmps.getD g undef) := by
    have hs : g < a.tmps.size := by omega
    simp [Array.getD, hs]
  unfold yielded
  rw [hg]
  simp only [Option.bind_some]
  rw [h2]
  generalize a.tmps.getD g undef = v at hv
  refine ⟨fun b hb => ?_, fun hb => ?_⟩
  · subst hb; rw [inv_bool hv]
  · subst hb
    obtain ⟨vs, _, g2⟩ := inv_tup hv
    subst g2; rfl

theorem step_ok (ht : TabOk P tab) (he : EqsOk P eqs) {call : CallT} (hcall : CallOk P call) {ops : Array Oper} {i : Nat} {o : Oper} (ho : ops[i]? = some o) {t' : T X} {h' : H} {n' : Pt} (hs : step (cJ tab eqs nt ops o) call t h n = .ok t' h' n') (st : St nt φ t h n a w)
    (K : Act → World → Prop) (Q : Exit → Act → World → Prop) (hK : ∀ a' w' φ', Step φ h n w φ' h' n' w' → St nt φ' t' h' n' a' w' → K a' w') : wpOp P ops Q i K a w := by
  unfold wpOp
  simp only [ho]
  unfold cJ at hs
  split at hs
  · rename_i jj hj
    unfold cJ1 at hj
    split at hj
    · rename_i hg
      have hw : Region.wanted o (yielded ops a.tmps) = true := by unfold Region.wanted; rw [hg]
      rw [if_pos hw]
      exact .inl (step0_ok ht he hcall hj hs st K Q hK)
    · rename_i q want hg
      split at hj
      · rename_i g i0 hq hj0
        -- the guard's part
        have key : ∀ (dd : Option Tmp), o.dst = dd → (∀ q, dd = some q → q < nt) → g < nt → jj = .g (.ofNat g) want (dd.map .ofNat) i0 →
            (if Region.wanted o (yielded ops a.tmps) then o.wp P a w K Q ∨ (o.asks P a w ∧ LetsOut Q) else K (a.put o.dst undef) w) := fun dd hdd hlt hgl hjj => by
          subst hjj
          have hs' : stG (.ofNat g) want (dd.map .ofNat) i0 (step i0) call t h n = .ok t' h' n' := hs
          unfold stG at hs'
          have hskip : ∀ (hno : Region.wanted o (yielded ops a.tmps) = false), S3.ok (putO t (dd.map .ofNat) (.tup [])) h n = .ok t' h' n' →
              (if Region.wanted o (yielded ops a.tmps) then o.wp P a w K Q ∨ (o.asks P a w ∧ LetsOut Q) else K (a.put o.dst undef) w) := fun hno heq => by
            cases heq
            rw [if_neg (by rw [hno]; simp)]
            rw [hdd]
            exact hK _ _ φ (Step.refl st.hp) (st.put (Step.refl st.hp) hlt (.tup [] [] rfl (fun i c v h => by simp at h)))
          split at hs'
          · rename_i b hb
            have hy := (guard_ok st.tm st.size hq hgl hb).1 b rfl
            by_cases hbw : b = want
            · subst hbw
              simp only [beq_self_eq_true, cond_true] at hs'
              have hw : Region.wanted o (yielded ops a.tmps) = true := by unfold Region.wanted; rw [hg]; simp [hy]
              rw [if_pos hw]
              exact .inl (step0_ok ht he hcall hj0 hs' st K Q hK)
            · have hbw' : (b == want) = false := by simpa using hbw
              rw [hbw'] at hs'
              exact hskip (by unfold Region.wanted; rw [hg]; simp [hy, hbw]) hs'
          · rename_i hb
            have hy := (guard_ok st.tm st.size hq hgl hb).2 rfl
            exact hskip (by unfold Region.wanted; rw [hg]; simp [hy]) hs'
          · cases hs'
        split at hj
        · rename_i d hd
          cases hb : (Nat.blt g nt && Nat.blt d nt) with
          | false => rw [hb] at hj; cases hj
          | true =>
            rw [hb] at hj
            cases hj
            simp only [Bool.and_eq_true] at hb
            exact key (some d) hd (fun q hq => by cases hq; exact okDst hb.2) (okDst hb.1) rfl
        · rename_i hd
          cases hb : Nat.blt g nt with
          | false => rw [hb] at hj; cases hj
          | true =>
            rw [hb] at hj
            cases hj
            exact key none hd (fun q hq => by cases hq) (okDst hb) rfl
      · cases hj
  · cases hs

theorem ops_ok (ht : TabOk P tab) (he : EqsOk P eqs) {call : CallT} (hcall : CallOk P call) {ops : Array Oper} : ∀ (l : List Oper) (k : Nat), (∀ j, l[j]? = ops[k + j]?) → ∀ {φ t h n a w} {e : E} {t' : T X} {h' : H} {n' : Pt},
    opsX call (cJL tab eqs nt ops l) t h n = .go e t' h' n' → St nt φ t h n a w → ∀ Q : Exit → Act → World → Prop, (∀ a' w' φ', Step φ h n w φ' h' n' w' → St nt φ' t' h' n' a' w' → Q .normal a' w') →
    e = .normal ∧ wpOps P ops Q (List.range' k l.length) a w := by
  intro l
  induction l with
  | nil =>
    intro k _ φ t h n a w e t' h' n' hx st Q hQ
    have : Res.go .normal t h n = .go e t' h' n' := hx
    cases this
    refine ⟨rfl, ?_⟩
    simp only [List.length_nil, List.range'_zero, wpOps]
    exact hQ a w φ (Step.refl st.hp) st
  | cons o l ih =>
    intro k hl φ t h n a w e t' h' n' hx st Q hQ
    have hx' : (S3.rec .no (fun t h n => opsX call (cJL tab eqs nt ops l) t h n) (step (cJ tab eqs nt ops o) call t h n) : Res) = .go e t' h' n' := hx
    cases hs : step (cJ tab eqs nt ops o) call t h n with
    | no => rw [hs] at hx'; cases hx'
    | ok t1 h1 n1 =>
      rw [hs] at hx'
      have hl' : ∀ j, l[j]? = ops[k + 1 + j]? := fun j => by have := hl (j + 1); rw [List.getElem?_cons_succ] at this; rw [this]; congr 1; omega
      have ho : ops[k]? = some o := by have := hl 0; simpa using this.symm
      have hx2 : opsX call (cJL tab eqs nt ops l) t1 h1 n1 = .go e t' h' n' := hx'
      have hne : e = .normal := by
        have aux : ∀ (ll : List J) t h n, opsX call ll t h n = .go e t' h' n' → e = .normal := by
          intro ll
          induction ll with
          | nil => intro t h n hh; have : Res.go .normal t h n = .go e t' h' n' := hh; cases this; rfl
          | cons j ll ih2 =>
            intro t h n hh
            have hh' : (S3.rec .no (fun t h n => opsX call ll t h n) (step j call t h n) : Res) = .go e t' h' n' := hh
            cases hsj : step j call t h n with
            | no => rw [hsj] at hh'; cases hh'
            | ok t2 h2 n2 => rw [hsj] at hh'; exact ih2 _ _ _ hh'
        exact aux _ _ _ _ hx2
      refine ⟨hne, ?_⟩
      rw [List.length_cons, List.range'_succ, wpOps_cons]
      exact step_ok ht he hcall ho hs st _ _ fun a1 w1 φ1 s1 st1 => (ih (k + 1) hl' hx2 st1 Q fun a2 w2 φ2 s2 st2 => hQ a2 w2 φ2 (s1.trans s2) st2).2
end
end Go.Ex
