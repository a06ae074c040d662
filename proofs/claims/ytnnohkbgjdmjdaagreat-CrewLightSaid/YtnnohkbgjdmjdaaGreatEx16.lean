/- One operation in the model, told by what it does by hand. Nothing here speaks of one program. -/
import Derived.Test.YtnnohkbgjdmjdaaGreatEx15
set_option linter.unusedVariables false
set_option linter.unusedSimpArgs false
namespace Go.Ex
section
variable {nt : Nat} {φ : Pl} {t : T X} {a : Act} {P : Program} {tab : Tab} {eqs : List (TypeId × List IntKind)} {h : H} {n : Pt} {w : World} {call : CallT} {ops : Array Oper} {o : Oper} {x : X} {h' : H} {n' : Pt}

theorem cJ0_dst {j : J} (hj : cJ0 tab eqs nt o = some j) : j.fine ∧ j.dst = o.dst.map .ofNat ∧ ∀ q, o.dst = some q → q < nt := by
  unfold cJ0 at hj
  split at hj
  all_goals first
    | cases hj; done
    | skip
  all_goals
    split at hj
    · rename_i d hd
      cases hb : Nat.blt d nt with
      | false => rw [hb] at hj; cases hj
      | true =>
        rw [hb] at hj
        cases hj
        refine ⟨trivial, by rw [hd]; rfl, fun q hq => ?_⟩
        rw [hd] at hq; cases hq; exact okDst hb
    · first
        | cases hj; done
        | (rename_i hd; cases hj; exact ⟨trivial, by rw [hd]; rfl, fun q hq => by rw [hd] at hq; cases hq⟩)

theorem cJ_form {j : J} (hj : cJ tab eqs nt ops o = j) (he : Eff call t h n j x h' n') : j.fine ∧ j.dst = o.dst.map .ofNat ∧ (∀ q, o.dst = some q → q < nt) ∧
    ∃ j0, cJ0 tab eqs nt o = some j0 ∧ ((o.guard = none ∧ j = j0) ∨ ∃ jj want g, o.guard = some (jj, want) ∧ (ops[jj]?).bind (·.dst) = some g ∧ g < nt ∧ j = .g (.ofNat g) want (o.dst.map .ofNat) j0) := by
  unfold cJ at hj
  split at hj
  · rename_i j1 h1
    subst hj
    unfold cJ1 at h1
    split at h1
    · rename_i hg
      obtain ⟨g1, g2, g3⟩ := cJ0_dst h1
      exact ⟨g1, g2, g3, j1, h1, .inl ⟨hg, rfl⟩⟩
    · rename_i jj want hg
      split at h1
      · rename_i g j0 hq h0
        obtain ⟨g1, g2, g3⟩ := cJ0_dst h0
        split at h1
        · rename_i d hd
          cases hb : (Nat.blt g nt && Nat.blt d nt) with
          | false => rw [hb] at h1; cases h1
          | true =>
            rw [hb] at h1
            cases h1
            simp only [Bool.and_eq_true] at hb
            refine ⟨⟨by rw [g2, hd]; rfl, g1⟩, by rw [hd]; rfl, g3, j0, h0, .inr ⟨jj, want, g, hg, hq, okDst hb.1, by rw [hd]; rfl⟩⟩
        · rename_i hd
          cases hb : Nat.blt g nt with
          | false => rw [hb] at h1; cases h1
          | true =>
            rw [hb] at h1
            cases h1
            exact ⟨⟨by rw [g2, hd]; rfl, g1⟩, by rw [hd]; rfl, g3, j0, h0, .inr ⟨jj, want, g, hg, hq, okDst hb, by rw [hd]; rfl⟩⟩
      · cases h1
  · subst hj
    cases he with
    | p d i x hr => cases hr

/-- Whether it comes, and what it does then. -/
theorem cJ_comes {j : J} (hj : cJ tab eqs nt ops o = j) (he : Eff call t h n j x h' n') (htm : TmR φ t a) (hsz : a.tmps.size = nt) :
    ∃ j0, cJ0 tab eqs nt o = some j0 ∧ j0.kind = j.kind ∧ ((Region.wanted o (yielded ops a.tmps) = true ∧ Eff call t h n j0 x h' n') ∨ (Region.wanted o (yielded ops a.tmps) = false ∧ x = .tup [] ∧ h' = h ∧ n' = n)) := by
  obtain ⟨_, _, _, j0, h0, hc⟩ := cJ_form hj he
  rcases hc with ⟨g1, g2⟩ | ⟨jj, want, g, g1, g2, g3, g4⟩
  · subst g2
    exact ⟨j, h0, rfl, .inl ⟨by unfold Region.wanted; rw [g1], he⟩⟩
  · subst g4
    refine ⟨j0, h0, rfl, ?_⟩
    cases he with
    | go _ _ _ _ _ _ _ hp hj =>
      have hy := (guard_ok htm hsz g2 g3 hp).1 want rfl
      exact .inl ⟨by unfold Region.wanted; rw [g1]; simp [hy], hj⟩
    | no _ _ _ _ c hp hc =>
      have hy := (guard_ok htm hsz g2 g3 hp).1 c rfl
      exact .inr ⟨by unfold Region.wanted; rw [g1]; simp [hy, hc], rfl, rfl, rfl⟩
    | un _ _ _ _ hp =>
      have hy := (guard_ok htm hsz g2 g3 hp).2 rfl
      exact .inr ⟨by unfold Region.wanted; rw [g1]; simp [hy], rfl, rfl, rfl⟩

theorem real_val (ht : TabOk P tab) (hq : EqsOk P eqs) {i : Nat} (ho : ops[i]? = some o) {j : J} (hj : cJ tab eqs nt ops o = j) (hk : j.kind = 0 ∨ j.kind = 1) (he : Eff call t h n j x h' n') (htm : TmR φ t a) (hsz : a.tmps.size = nt) (hp : j.kind = 1 → Hp h n w φ) :
    ∃ v, VR φ x v ∧ ∀ (K : Act → World → Prop) (Q : Exit → Act → World → Prop), K (a.put o.dst v) w → wpOp P ops Q i K a w := by
  obtain ⟨j0, h0, hk0, hc⟩ := cJ_comes hj he htm hsz
  rcases hc with ⟨hw, he0⟩ | ⟨hw, g1, g2, g3⟩
  · have key : ∀ v, (execOp a.eval o).run P w = .ok (.value v) w → ∀ (K : Act → World → Prop) (Q : Exit → Act → World → Prop), K (a.put o.dst v) w → wpOp P ops Q i K a w := fun v hv K Q hK => by
      unfold wpOp
      simp only [ho]
      rw [if_pos hw]
      refine .inl ?_
      unfold Oper.wp
      rw [hv, Oper.upon_value]
      exact hK
    obtain ⟨dst, op, type, pos, after, guard⟩ := o
    unfold cJ0 at h0
    split at h0
    · rename_i i0 hc
      split at h0
      · rename_i d hd
        cases hb : Nat.blt d nt with
        | false => rw [hb] at h0; cases h0
        | true =>
          rw [hb] at h0; cases h0
          cases he0 with
          | p _ _ _ hr =>
            obtain ⟨v, k1, k2⟩ := opP_ok (dst := dst) (type := type) (pos := pos) (after := after) (guard := guard) ht hq htm hc hr w
            exact ⟨v, k2, key v k1⟩
      · cases h0
    · rename_i i0 hc
      split at h0
      · rename_i d hd
        cases hb : Nat.blt d nt with
        | false => rw [hb] at h0; cases h0
        | true =>
          rw [hb] at h0; cases h0
          have hk1 : j.kind = 1 := hk0.symm
          cases he0 with
          | r _ _ _ hr =>
            obtain ⟨v, k1, k2⟩ := opR_ok (dst := dst) (type := type) (pos := pos) (after := after) (guard := guard) (hp hk1) ht htm hc hr
            exact ⟨v, k2, key v k1⟩
      · cases h0
    · exfalso
      split at h0
      · rename_i d hd
        cases hb : Nat.blt d nt with
        | false => rw [hb] at h0; cases h0
        | true => rw [hb] at h0; cases h0; rw [← hk0] at hk; simp [kind_a] at hk
      · cases h0
    · exfalso
      split at h0
      · rename_i d hd
        cases hb : Nat.blt d nt with
        | false => rw [hb] at h0; cases h0
        | true => rw [hb] at h0; cases h0; rw [← hk0] at hk; simp [kind_w] at hk
      · cases h0; rw [← hk0] at hk; simp [kind_w] at hk
    · cases h0
  · subst g1
    refine ⟨undef, .tup [] [] rfl (fun i c v h => by simp at h), fun K Q hK => ?_⟩
    unfold wpOp
    simp only [ho]
    rw [if_neg (by rw [hw]; simp)]
    exact hK

theorem real_alc (ht : TabOk P tab) {i : Nat} (ho : ops[i]? = some o) {j : J} (hj : cJ tab eqs nt ops o = j) (hk : j.kind = 2) {m : Pt} {ob : O} (he : Eff call t h m j x (h.put m ob) m.inc) (htm : TmR φ t a) (hsz : a.tmps.size = nt) :
    ∃ v obj s, (∀ φ', Ex φ φ' → ObjR φ' (w.alloc obj) w.heap.size s ob) ∧ (∀ φ', φ' m = some (w.heap.size, s) → VR φ' x v) ∧ ∀ (K : Act → World → Prop) (Q : Exit → Act → World → Prop), K (a.put o.dst v) (w.alloc obj) → wpOp P ops Q i K a w := by
  obtain ⟨j0, h0, hk0, hc⟩ := cJ_comes hj he htm hsz
  rcases hc with ⟨hw, he0⟩ | ⟨hw, g1, g2, g3⟩
  · obtain ⟨dst, op, type, pos, after, guard⟩ := o
    unfold cJ0 at h0
    split at h0
    · exfalso
      split at h0
      · rename_i d hd
        cases hb : Nat.blt d nt with
        | false => rw [hb] at h0; cases h0
        | true => rw [hb] at h0; cases h0; rw [← hk0] at hk; simp [kind_p] at hk
      · cases h0
    · exfalso
      split at h0
      · rename_i d hd
        cases hb : Nat.blt d nt with
        | false => rw [hb] at h0; cases h0
        | true => rw [hb] at h0; cases h0; rw [← hk0] at hk; simp [kind_r] at hk
      · cases h0
    · rename_i i0 hc
      split at h0
      · rename_i d hd
        cases hb : Nat.blt d nt with
        | false => rw [hb] at h0; cases h0
        | true =>
          rw [hb] at h0; cases h0
          generalize hh2 : h.put m ob = h2 at he0
          generalize hn2 : m.inc = n2 at he0
          cases he0 with
          | a _ _ _ ob' hr =>
            have hob : ob' = ob := by
              have h5 := congrArg (fun q => T.get q m) hh2
              simp only [get_put, if_true] at h5
              exact (Option.some.inj h5).symm
            subst hob
            obtain ⟨v, obj, s, k1, k2, k3⟩ := opA_ok (dst := dst) (type := type) (pos := pos) (after := after) (guard := guard) ht htm hc hr w
            refine ⟨v, obj, s, k2, k3, fun K Q hK => ?_⟩
            unfold wpOp
            simp only [ho]
            rw [if_pos hw]
            refine .inl ?_
            unfold Oper.wp
            rw [k1, Oper.upon_value]
            exact hK
      · cases h0
    · exfalso
      split at h0
      · rename_i d hd
        cases hb : Nat.blt d nt with
        | false => rw [hb] at h0; cases h0
        | true => rw [hb] at h0; cases h0; rw [← hk0] at hk; simp [kind_w] at hk
      · cases h0; rw [← hk0] at hk; simp [kind_w] at hk
    · cases h0
  · exfalso
    have := congrArg Pt.num g3
    rw [num_inc] at this
    omega

theorem real_wr (ht : TabOk P tab) (hq : EqsOk P eqs) (hcall : CallOk P call) {i : Nat} (ho : ops[i]? = some o) {j : J} (hj : cJ tab eqs nt ops o = j) (he : Eff call t h n j x h' n') (st : St nt φ t h n a w)
    (K : Act → World → Prop) (Q : Exit → Act → World → Prop) (hK : ∀ a' w' φ', Step φ h n w φ' h' n' w' → St nt φ' (putO t j.dst x) h' n' a' w' → K a' w') : wpOp P ops Q i K a w := by
  obtain ⟨hf, _⟩ := cJ_form hj he
  have hs := he.step hf
  subst hj
  exact step_ok ht hq hcall ho hs st K Q hK
end
end Go.Ex
