/- A chain of statements told in parts. Nothing here speaks of one program. -/
import Derived.Test.YtnpcmealdfapjaaDoorExC
set_option linter.unusedVariables false
set_option linter.unusedSimpArgs false
namespace Go.Ex

/-- A trie out of its entries. -/
noncomputable def ofAL {α : Type} (l : List (Nat × α)) : T α := List.rec (motive := fun _ => T α → T α) (fun t => t) (fun p _ g t => g (t.put (.ofNat p.1) p.2)) l .e

def chainC : List Code → Code → Code
  | [], r => r
  | a :: l, r => .seq a (chainC l r)
def takeC : Code → Nat → List Code
  | .seq a b, k + 1 => a :: takeC b k
  | _, _ => []
def restC : Code → Nat → Code
  | .seq a b, k + 1 => restC b k
  | c, _ => c
theorem chain_take : ∀ (k : Nat) (c : Code), chainC (takeC c k) (restC c k) = c := by
  intro k
  induction k with
  | zero => intro c; cases c <;> rfl
  | succ k ih =>
    intro c
    cases c with
    | seq a b => show Code.seq a (chainC (takeC b k) (restC b k)) = _; rw [ih]
    | _ => rfl

noncomputable def runL (call : CallT) (fuel : Nat) (tab : Tab) (eqs : Env) (nt : Nat) (l : List Code) : T X → H → Pt → Res :=
  List.rec (motive := fun _ => T X → H → Pt → Res) (fun t h n => .go .normal t h n) (fun c _ g t h n => thenR (codeX call fuel (cK tab eqs nt c) t h n) g) l

section
variable {eqs : Env} {t t1 t2 : T X} {P : Program} {h h1 h2 : H} {n n1 n2 : Pt} {nt : Nat}
theorem Tri.many (hn : namesB P.funcs.toList = true) (hmx : P.follows .mixedOrders = true) (hq : EqsOk P eqs) {d : Nat} {rest : Code} {e : E} : ∀ (l : List Code) {t : T X} {h : H} {n : Pt},
    endB (runL (callF (mkFns P eqs) d) 1000000 (mkTab P) eqs nt l t h n) .normal t1 h1 n1 = true → Tri eqs P nt rest t1 h1 n1 e t2 h2 n2 → Tri eqs P nt (chainC l rest) t h n e t2 h2 n2 := by
  intro l
  induction l with
  | nil =>
    intro t h n hx hr φ a w st Q hQ
    have hx : (beqE .normal .normal && (decide (n1 = n) && (subT beqX t1 t && subT beqO h1 h))) = true := hx
    simp only [Bool.and_eq_true, decide_eq_true_eq] at hx
    obtain ⟨_, g2, g3, g4⟩ := hx
    subst g2
    have s0 : Step φ h n1 w φ h1 n1 w := (Step.refl st.hp).less (subT_ok (fun _ _ => beqO_eq) g4)
    exact hr (st.less (subT_ok (fun _ _ => beqX_eq) g3) (subT_ok (fun _ _ => beqO_eq) g4)) Q fun a' w' φ' s1 st1 => hQ a' w' φ' (s0.trans s1) st1
  | cons c l ih =>
    intro t h n hx hr φ a w st Q hQ
    have hx : endB (thenR (codeX (callF (mkFns P eqs) d) 1000000 (cK (mkTab P) eqs nt c) t h n) (runL (callF (mkFns P eqs) d) 1000000 (mkTab P) eqs nt l)) .normal t1 h1 n1 = true := hx
    refine wp_seq ?_
    cases hrun : codeX (callF (mkFns P eqs) d) 1000000 (cK (mkTab P) eqs nt c) t h n with
    | no => rw [hrun] at hx; cases hx
    | go e' t' h' n' =>
      rw [hrun] at hx
      refine (code_ok (mkTab_ok P) hq (callG_ok hn (mkTab_ok P) hq hmx (mkFns_ok P eqs) 1000000 d) hmx c).1 hrun st _ fun a' w' φ' s1 st1 => ?_
      cases e' with
      | normal => exact ih hx hr st1 Q fun a2 w2 φ2 s2 st2 => hQ a2 w2 φ2 (s1.trans s2) st2
      | exit i => exact absurd hx (by simp [endB, thenR, beqE])
      | ret => exact absurd hx (by simp [endB, thenR, beqE])
      | goto l => exact absurd hx (by simp [endB, thenR, beqE])
theorem Tri.part (hn : namesB P.funcs.toList = true) (hmx : P.follows .mixedOrders = true) (hq : EqsOk P eqs) {d : Nat} {c : Code} (k : Nat) {e : E}
    (hx : endB (runL (callF (mkFns P eqs) d) 1000000 (mkTab P) eqs nt (takeC c k) t h n) .normal t1 h1 n1 = true) (hr : Tri eqs P nt (restC c k) t1 h1 n1 e t2 h2 n2) : Tri eqs P nt c t h n e t2 h2 n2 := by
  have hh : Tri eqs P nt (chainC (takeC c k) (restC c k)) t h n e t2 h2 n2 := fun {φ a w} => Tri.many hn hmx hq (takeC c k) hx hr
  rw [chain_take] at hh
  exact @hh
/-- The run ended so, with at least so much; what the next block's number is does not matter. -/
noncomputable def finB (r : Res) (e1 : E) (t1 : T X) (h1 : H) : Bool := match r with
  | .go e t h n => beqE e1 e && (subT beqX t1 t && subT beqO h1 h)
  | .no => false
theorem Tri.last (hn : namesB P.funcs.toList = true) (hmx : P.follows .mixedOrders = true) (hq : EqsOk P eqs) {d : Nat} {c : Code} {e : E}
    (hx : finB (codeX (callF (mkFns P eqs) d) 1000000 (cK (mkTab P) eqs nt c) t h n) e t1 h1 = true) : ∃ n1, Tri eqs P nt c t h n e t1 h1 n1 := by
  cases hr : codeX (callF (mkFns P eqs) d) 1000000 (cK (mkTab P) eqs nt c) t h n with
  | no => rw [hr] at hx; cases hx
  | go e' t' h' n' =>
    rw [hr] at hx
    have hx : (beqE e e' && (subT beqX t1 t' && subT beqO h1 h')) = true := hx
    refine ⟨n', Tri.run hn hmx hq (d := d) ?_⟩
    rw [hr]
    show (beqE e e' && (decide (n' = n') && (subT beqX t1 t' && subT beqO h1 h'))) = true
    simpa using hx
end
end Go.Ex

