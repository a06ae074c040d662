/- Code: loops, jumps, branches. Nothing here speaks of one program. -/
import Derived.Test.YtnnohkbgjdmjdaaGreatEx22
import Derived.LoopN
import Derived.ScopeJumps
set_option linter.unusedVariables false
set_option linter.unusedSimpArgs false
namespace Go.Ex

/-- What is left of a code behind its first label. -/
def restK : K → Option K
  | .seq a b => match restK a with
    | some r => some (.seq r b)
    | none => restK b
  | .label => some .skip
  | _ => none
def labelOf : Code → Option Nat
  | .seq a b => match labelOf a with | some l => some l | none => labelOf b
  | .label l => some l
  | _ => none
section
variable (tab : Tab) (eqs : List (TypeId × List IntKind)) (nt : Nat)
noncomputable def cK : Code → K
  | .skip => .skip
  | .region _ ops draw => match draw with
    | true => cDraw tab eqs nt ops
    | false => .reg (cJL tab eqs nt ops ops.toList)
  | .seq a b => .seq (cK a) (cK b)
  | .cond c a b => match cD c with | some d => .cond d (cK a) (cK b) | none => .bad
  | .block i b => .block i (cK b)
  | .loop b => .loop (cK b)
  | .exit i => .exit i
  | .scope b => match labelOf b with
    | some l => match restK (cK b) with
      | some r => .scope (cK b) l r
      | none => .bad
    | none => .bad
  | .label l => .label
  | .goto l => .goto l
  | .ret => .ret
  | _ => .bad
end

section
variable {tab : Tab} {eqs : List (TypeId × List IntKind)} {nt : Nat}
theorem restK_draw (ops : Array Oper) : restK (cDraw tab eqs nt ops) = none := by
  unfold cDraw drawK
  cases sOk ops.toList (cJL tab eqs nt ops ops.toList) (masks ops.toList []) (wrs (kinds (cJL tab eqs nt ops ops.toList)) 0) <;> rfl
theorem rest_ok : ∀ (c : Code), (labelOf c = none → restK (cK tab eqs nt c) = none ∧ ∀ l, findLabel c l = none) ∧
    ∀ l, labelOf c = some l → ∃ r, findLabel c l = some r ∧ restK (cK tab eqs nt c) = some (cK tab eqs nt r) := by
  intro c
  induction c with
  | seq a b iha ihb =>
    refine ⟨fun h => ?_, fun l h => ?_⟩
    · simp only [labelOf] at h
      cases ha : labelOf a with
      | some l => rw [ha] at h; cases h
      | none =>
        rw [ha] at h
        obtain ⟨h1, h2⟩ := iha.1 ha
        obtain ⟨h3, h4⟩ := ihb.1 h
        exact ⟨by simp only [cK, restK, h1, h3], fun l => by simp only [findLabel, h2, h4]⟩
    · simp only [labelOf] at h
      cases ha : labelOf a with
      | some l' =>
        rw [ha] at h
        cases h
        obtain ⟨r, h1, h2⟩ := iha.2 _ ha
        exact ⟨.seq r b, by simp only [findLabel, h1], by simp only [cK, restK, h2]⟩
      | none =>
        rw [ha] at h
        obtain ⟨h1, h2⟩ := iha.1 ha
        obtain ⟨r, h3, h4⟩ := ihb.2 l h
        exact ⟨r, by simp only [findLabel, h2, h3], by simp only [cK, restK, h1, h4]⟩
  | label l' =>
    refine ⟨fun h => (by cases h), fun l h => ?_⟩
    cases h
    refine ⟨.skip, ?_, rfl⟩
    simp [findLabel]
  | region id ops d =>
    refine ⟨fun _ => ⟨?_, fun l => rfl⟩, fun l h => by cases h⟩
    cases d with
    | true => exact restK_draw ops
    | false => rfl
  | cond c a b => 
    refine ⟨fun _ => ⟨?_, fun l => rfl⟩, fun l h => by cases h⟩
    simp only [cK]
    cases cD c <;> rfl
  | scope b =>
    refine ⟨fun _ => ⟨?_, fun l => rfl⟩, fun l h => by cases h⟩
    simp only [cK]
    cases labelOf b with
    | none => rfl
    | some l => cases restK (cK tab eqs nt b) <;> rfl
  | _ => exact ⟨fun _ => ⟨rfl, fun l => rfl⟩, fun l h => by cases h⟩

def eX : E → Exit
  | .normal => .normal
  | .exit i => .exit i
  | .ret => .ret
  | .goto l => .goto l

/-- What the code does by hand it does in the model. -/
def CodeOk (P : Program) (tab : Tab) (eqs : List (TypeId × List IntKind)) (nt : Nat) (call : CallT) (fuel : Nat) (c : Code) : Prop :=
  ∀ {t h n e t' h' n'}, codeX call fuel (cK tab eqs nt c) t h n = .go e t' h' n' → ∀ {φ a w}, St nt φ t h n a w → ∀ Q : Exit → Act → World → Prop,
    (∀ a' w' φ', Step φ h n w φ' h' n' w' → St nt φ' t' h' n' a' w' → Q (eX e) a' w') → c.wp P Q a w

variable {P : Program} {call : CallT} {fuel : Nat}
theorem seq_okC {a b : Code} (ha : CodeOk P tab eqs nt call fuel a) (hb : CodeOk P tab eqs nt call fuel b) : CodeOk P tab eqs nt call fuel (.seq a b) := by
  intro t h n e t' h' n' hx φ A w st Q hQ
  have hx' : thenR (codeX call fuel (cK tab eqs nt a) t h n) (codeX call fuel (cK tab eqs nt b)) = .go e t' h' n' := hx
  apply wp_seq
  cases hr : codeX call fuel (cK tab eqs nt a) t h n with
  | no => rw [hr] at hx'; cases hx'
  | go e1 t1 h1 n1 =>
    rw [hr] at hx'
    refine ha hr st _ fun a1 w1 φ1 s1 st1 => ?_
    cases e1 with
    | normal => exact hb hx' st1 _ fun a2 w2 φ2 s2 st2 => hQ a2 w2 φ2 (s1.trans s2) st2
    | exit i => cases hx'; exact hQ a1 w1 φ1 s1 st1
    | ret => cases hx'; exact hQ a1 w1 φ1 s1 st1
    | goto l => cases hx'; exact hQ a1 w1 φ1 s1 st1

theorem cond_okC {c : Operand} {a b : Code} (ha : CodeOk P tab eqs nt call fuel a) (hb : CodeOk P tab eqs nt call fuel b) : CodeOk P tab eqs nt call fuel (.cond c a b) := by
  intro t h n e t' h' n' hx φ A w st Q hQ
  simp only [cK] at hx
  cases hd : cD c with
  | none => rw [hd] at hx; cases hx
  | some d =>
    rw [hd] at hx
    have hx' : condR t d (codeX call fuel (cK tab eqs nt a) t h n) (codeX call fuel (cK tab eqs nt b) t h n) = .go e t' h' n' := hx
    unfold condR at hx'
    split at hx'
    · rename_i hv
      exact wp_cond_true (inv_bool (ev_ok st.tm hd hv)) (ha hx' st Q hQ)
    · rename_i hv
      exact wp_cond_false (inv_bool (ev_ok st.tm hd hv)) (hb hx' st Q hQ)
    · cases hx'

theorem block_okC {id : Nat} {b : Code} (hb : CodeOk P tab eqs nt call fuel b) : CodeOk P tab eqs nt call fuel (.block id b) := by
  intro t h n e t' h' n' hx φ A w st Q hQ
  have hx' : blockR id (codeX call fuel (cK tab eqs nt b) t h n) = .go e t' h' n' := hx
  apply wp_block
  cases hr : codeX call fuel (cK tab eqs nt b) t h n with
  | no => rw [hr] at hx'; cases hx'
  | go e1 t1 h1 n1 =>
    rw [hr] at hx'
    refine hb hr st _ fun a1 w1 φ1 s1 st1 => ?_
    cases e1 with
    | exit i =>
      simp only [blockR] at hx'
      show (if i = id then Q .normal a1 w1 else Q (.exit i) a1 w1)
      cases hi : Nat.beq i id with
      | true =>
        rw [hi] at hx'
        have : i = id := Nat.eq_of_beq_eq_true hi
        subst this
        cases hx'
        rw [if_pos rfl]
        exact hQ a1 w1 φ1 s1 st1
      | false =>
        rw [hi] at hx'
        cases hx'
        rw [if_neg (Nat.ne_of_beq_eq_false hi)]
        exact hQ a1 w1 φ1 s1 st1
    | normal => cases hx'; exact hQ a1 w1 φ1 s1 st1
    | ret => cases hx'; exact hQ a1 w1 φ1 s1 st1
    | goto l => cases hx'; exact hQ a1 w1 φ1 s1 st1

theorem rounds_ok {b : Code} (hb : CodeOk P tab eqs nt call fuel b) : ∀ (f : Nat) {t h n e t' h' n'}, loopX (codeX call fuel (cK tab eqs nt b)) f t h n = .go e t' h' n' → ∀ {φ a w}, St nt φ t h n a w → ∀ Q : Exit → Act → World → Prop,
    (∀ a' w' φ', Step φ h n w φ' h' n' w' → St nt φ' t' h' n' a' w' → Q (eX e) a' w') → Code.rounds P b Q f a w := by
  intro f
  induction f with
  | zero => intro t h n e t' h' n' hx; cases hx
  | succ f ih =>
    intro t h n e t' h' n' hx φ A w st Q hQ
    have hx' : thenR (codeX call fuel (cK tab eqs nt b) t h n) (loopX (codeX call fuel (cK tab eqs nt b)) f) = .go e t' h' n' := hx
    rw [rounds_succ]
    cases hr : codeX call fuel (cK tab eqs nt b) t h n with
    | no => rw [hr] at hx'; cases hx'
    | go e1 t1 h1 n1 =>
      rw [hr] at hx'
      refine hb hr st _ fun a1 w1 φ1 s1 st1 => ?_
      cases e1 with
      | normal => exact ih hx' st1 _ fun a2 w2 φ2 s2 st2 => hQ a2 w2 φ2 (s1.trans s2) st2
      | exit i => cases hx'; exact hQ a1 w1 φ1 s1 st1
      | ret => cases hx'; exact hQ a1 w1 φ1 s1 st1
      | goto l => cases hx'; exact hQ a1 w1 φ1 s1 st1

theorem scope_okC {b : Code} (hb : CodeOk P tab eqs nt call fuel b) (hrest : ∀ l r, findLabel b l = some r → CodeOk P tab eqs nt call fuel r) : CodeOk P tab eqs nt call fuel (.scope b) := by
  intro t h n e t' h' n' hx φ A w st Q hQ
  simp only [cK] at hx
  cases hl : labelOf b with
  | none => rw [hl] at hx; cases hx
  | some l =>
    obtain ⟨r, hf, hk⟩ := (rest_ok (tab := tab) (eqs := eqs) (nt := nt) b).2 l hl
    rw [hl, hk] at hx
    have hx' : scopeR l (codeX call fuel (cK tab eqs nt b) t h n) (codeX call fuel (cK tab eqs nt r)) = .go e t' h' n' := hx
    cases hr : codeX call fuel (cK tab eqs nt b) t h n with
    | no => rw [hr] at hx'; cases hx'
    | go e1 t1 h1 n1 =>
      rw [hr] at hx'
      have other : (∀ l', e1 ≠ .goto l') → Res.go e1 t1 h1 n1 = .go e t' h' n' → (Code.scope b).wp P Q A w := fun hne he => by
        cases he
        refine wp_scope_jumps l (fun _ _ => False) (fun _ _ => 0) hf (hb hr st _ fun a1 w1 φ1 s1 st1 => ?_) fun _ _ h => h.elim
        have := hQ a1 w1 φ1 s1 st1
        cases e with
        | goto l' => exact absurd rfl (hne l')
        | _ => exact this
      cases e1 with
      | goto l' =>
        simp only [scopeR] at hx'
        cases hll : Nat.beq l' l with
        | false => rw [hll] at hx'; cases hx'
        | true =>
          rw [hll] at hx'
          have := Nat.eq_of_beq_eq_true hll
          subst this
          refine wp_scope_jumps l' (fun a1 w1 => ∃ φ1, Step φ h n w φ1 h1 n1 w1 ∧ St nt φ1 t1 h1 n1 a1 w1) (fun _ _ => 0) hf (hb hr st _ fun a1 w1 φ1 s1 st1 => ⟨rfl, φ1, s1, st1⟩) ?_
          rintro a1 w1 ⟨φ1, s1, st1⟩
          simp only [cond_true] at hx'
          cases hr2 : codeX call fuel (cK tab eqs nt r) t1 h1 n1 with
          | no => rw [hr2] at hx'; cases hx'
          | go e2 t2 h2 n2 =>
            rw [hr2] at hx'
            refine hrest l' r hf hr2 st1 _ fun a2 w2 φ2 s2 st2 => ?_
            cases e2 with
            | goto l2 => cases hx'
            | normal => cases hx'; exact hQ a2 w2 φ2 (s1.trans s2) st2
            | exit i => cases hx'; exact hQ a2 w2 φ2 (s1.trans s2) st2
            | ret => cases hx'; exact hQ a2 w2 φ2 (s1.trans s2) st2
      | normal => exact other (fun _ h => by cases h) hx'
      | exit i => exact other (fun _ h => by cases h) hx'
      | ret => exact other (fun _ h => by cases h) hx'

theorem skip_okC : CodeOk P tab eqs nt call fuel .skip := by
  intro t h n e t' h' n' hx φ A w st Q hQ
  cases hx
  exact wp_skip (hQ A w φ (Step.refl st.hp) st)

theorem region_okC (ht : TabOk P tab) (hq : EqsOk P eqs) (hcall : CallOk P call) (hmx : P.follows .mixedOrders = true) {id : Nat} {ops : Array Oper} {d : Bool} : CodeOk P tab eqs nt call fuel (.region id ops d) := by
  intro t h n e t' h' n' hx φ A w st Q hQ
  cases d with
  | true =>
    have hx' : codeX call fuel (cDraw tab eqs nt ops) t h n = .go e t' h' n' := hx
    have := cDraw_ok ht hq hcall hmx hx' st (fun e' a' w' => e = .normal → Q e' a' w') (fun a' w' φ' s1 st1 he => by have := hQ a' w' φ' s1 st1; rw [he] at this; exact this) id
    exact wp_mono this.2 fun e' a' w' h1 => h1 this.1
  | false =>
    have hx' : opsX call (cJL tab eqs nt ops ops.toList) t h n = .go e t' h' n' := hx
    have h0 := (ops_ok ht hq hcall (nt := nt) ops.toList 0 (fun j => by simp) hx' st (fun _ _ _ => True) (fun _ _ _ _ _ => trivial)).1
    subst h0
    have h2 := (ops_ok ht hq hcall (nt := nt) ops.toList 0 (fun j => by simp) hx' st Q hQ).2
    refine wp_region ?_
    rw [List.range_eq_range']
    rw [Array.length_toList] at h2
    exact h2

theorem code_ok (ht : TabOk P tab) (hq : EqsOk P eqs) (hcall : CallOk P call) (hmx : P.follows .mixedOrders = true) : ∀ (c : Code), CodeOk P tab eqs nt call fuel c ∧ ∀ l r, findLabel c l = some r → CodeOk P tab eqs nt call fuel r := by
  intro c
  induction c with
  | skip => exact ⟨skip_okC, fun l r h => by cases h⟩
  | region id ops d => exact ⟨region_okC ht hq hcall hmx, fun l r h => by cases h⟩
  | seq a b iha ihb =>
    refine ⟨seq_okC iha.1 ihb.1, fun l r h => ?_⟩
    simp only [findLabel] at h
    split at h
    · rename_i r1 h1
      cases h
      exact seq_okC (iha.2 l r1 h1) ihb.1
    · exact ihb.2 l r h
  | cond c a b iha ihb => exact ⟨cond_okC iha.1 ihb.1, fun l r h => by cases h⟩
  | block id b ih => exact ⟨block_okC ih.1, fun l r h => by cases h⟩
  | loop b ih =>
    refine ⟨?_, fun l r h => by cases h⟩
    intro t h n e t' h' n' hx φ A w st Q hQ
    exact wp_loop_rounds fuel (rounds_ok ih.1 fuel hx st Q hQ)
  | scope b ih => exact ⟨scope_okC ih.1 ih.2, fun l r h => by cases h⟩
  | exit i =>
    refine ⟨?_, fun l r h => by cases h⟩
    intro t h n e t' h' n' hx φ A w st Q hQ
    cases hx
    exact wp_exit (hQ A w φ (Step.refl st.hp) st)
  | label l =>
    refine ⟨?_, fun l' r h => ?_⟩
    · intro t h n e t' h' n' hx φ A w st Q hQ
      cases hx
      exact wp_label (hQ A w φ (Step.refl st.hp) st)
    · simp only [findLabel] at h
      split at h
      · cases h; exact skip_okC
      · cases h
  | goto l =>
    refine ⟨?_, fun l r h => by cases h⟩
    intro t h n e t' h' n' hx φ A w st Q hQ
    cases hx
    exact wp_goto (hQ A w φ (Step.refl st.hp) st)
  | ret =>
    refine ⟨?_, fun l r h => by cases h⟩
    intro t h n e t' h' n' hx φ A w st Q hQ
    cases hx
    exact wp_ret (hQ A w φ (Step.refl st.hp) st)
  | _ =>
    refine ⟨?_, fun l r h => by cases h⟩
    intro t h n e t' h' n' hx
    cases hx
end
end Go.Ex
