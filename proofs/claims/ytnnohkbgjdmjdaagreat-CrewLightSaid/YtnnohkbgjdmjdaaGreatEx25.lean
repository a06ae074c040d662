/- A run told in parts: each part is worked out by itself, and what the next one does not need is forgotten. Nothing here speaks of one program. -/
import Derived.Test.YtnnohkbgjdmjdaaGreatEx24
set_option linter.unusedVariables false
set_option linter.unusedSimpArgs false
namespace Go.Ex

def subV {α : Type} (eq : α → α → Bool) (v u : Option α) : Bool := match v with
  | none => true
  | some x => match u with
    | some y => eq x y
    | none => false
/-- Each entry of the first is one of the second. -/
noncomputable def subT {α : Type} (eq : α → α → Bool) (s : T α) : T α → Bool :=
  T.rec (motive := fun _ => T α → Bool) (fun _ => true)
    (fun _ v _ gl gr t => T.rec (motive := fun _ => Bool) false (fun l u r _ _ => subV eq v u && (gl l && gr r)) t) s
theorem subT_ok {α : Type} {eq : α → α → Bool} (heq : ∀ x y, eq x y = true → x = y) : ∀ {s t : T α}, subT eq s t = true → ∀ p x, s.get p = some x → t.get p = some x := by
  intro s
  induction s with
  | e => intro t _ p x h; rw [get_e] at h; cases h
  | n l v r ihl ihr =>
    intro t h p x hx
    cases t with
    | e => cases h
    | n l' u r' =>
      have h : (subV eq v u && (subT eq l l' && subT eq r r')) = true := h
      simp only [Bool.and_eq_true] at h
      cases p with
      | z =>
        rw [get_z] at hx ⊢
        subst hx
        have h1 := h.1
        cases u with
        | none => cases h1
        | some y => rw [heq _ _ h1]
      | l p => rw [get_l] at hx ⊢; exact ihl h.2.1 p x hx
      | r p => rw [get_r] at hx ⊢; exact ihr h.2.2 p x hx

section
variable {φ φ' : Pl} {t t1 : T X} {a : Act} {P : Program} {h h1 h' : H} {n n' : Pt} {w w' : World} {nt : Nat}

theorem Hp.less (hp : Hp h n w φ) (hs : ∀ id o, h1.get id = some o → h.get id = some o) : Hp h1 n w φ := by
  have hl : ∀ id, (h1.get id).isSome = true → (h.get id).isSome = true := fun id hh => by
    obtain ⟨o, ho⟩ := Option.isSome_iff_exists.1 hh
    rw [hs id o ho]; rfl
  exact ⟨hp.lt, hp.fresh, fun id o ho => hp.dom id o (hs id o ho), fun id id' b s s' g1 g2 g3 g4 => hp.inj id id' b s s' g1 g2 (hl _ g3) (hl _ g4), fun id b s o g1 g2 => hp.obj id b s o g1 (hs id o g2)⟩
theorem St.less (st : St nt φ t h n a w) (ht : ∀ p x, t1.get p = some x → t.get p = some x) (hs : ∀ id o, h1.get id = some o → h.get id = some o) : St nt φ t1 h1 n a w :=
  ⟨st.defers, st.size, fun i x hx => st.tm i x (ht _ x hx), st.hp.less hs⟩
theorem Step.less (s : Step φ h n w φ' h' n' w') (hs : ∀ id o, h1.get id = some o → h'.get id = some o) : Step φ h n w φ' h1 n' w' := by
  refine ⟨s.ex, s.new, s.le, s.hp.less hs, s.kept, fun b ⟨id, s', g1, g2⟩ => ?_, fun id o ho => s.grow id o (hs id o ho)⟩
  obtain ⟨o, ho⟩ := Option.isSome_iff_exists.1 g2
  exact s.mine b ⟨id, s', g1, by rw [hs id o ho]; rfl⟩

/-- The code takes one known state to another. -/
def Tri (P : Program) (nt : Nat) (c : Code) (t : T X) (h : H) (n : Pt) (e : E) (t' : T X) (h' : H) (n' : Pt) : Prop :=
  ∀ {φ a w}, St nt φ t h n a w → ∀ Q : Exit → Act → World → Prop, (∀ a' w' φ', Step φ h n w φ' h' n' w' → St nt φ' t' h' n' a' w' → Q (eX e) a' w') → c.wp P Q a w

def beqE : E → E → Bool
  | .normal, .normal => true
  | .ret, .ret => true
  | .exit i, .exit j => Nat.beq i j
  | _, _ => false
theorem beqE_eq {x y : E} (h : beqE x y = true) : x = y := by
  unfold beqE at h
  split at h
  · rfl
  · rfl
  · rw [Nat.eq_of_beq_eq_true h]
  · cases h
/-- The run ended so, with at least so much. -/
noncomputable def endB (r : Res) (e1 : E) (t1 : T X) (h1 : H) (n1 : Pt) : Bool := match r with
  | .go e t h n => beqE e1 e && (decide (n1 = n) && (subT beqX t1 t && subT beqO h1 h))
  | .no => false

theorem Tri.run (hn : namesB P.funcs.toList = true) (hmx : P.follows .mixedOrders = true) {eqs : List (TypeId × List IntKind)} (hq : EqsOk P eqs) {d : Nat} {c : Code} {e : E} {t1 : T X} {h1 : H} {n1 : Pt}
    (hx : endB (codeX (callF (mkFns P eqs) d) 1000000 (cK (mkTab P) eqs nt c) t h n) e t1 h1 n1 = true) : Tri P nt c t h n e t1 h1 n1 := by
  intro φ a w st Q hQ
  unfold endB at hx
  split at hx
  · rename_i e' t' h' n' hr
    simp only [Bool.and_eq_true, decide_eq_true_eq] at hx
    obtain ⟨g1, g2, g3, g4⟩ := hx
    have := beqE_eq g1
    subst this
    subst g2
    refine (code_ok (mkTab_ok P) hq (callF_ok hn (mkTab_ok P) hq hmx (mkFns_ok P eqs) d) hmx c).1 hr st Q fun a' w' φ' s1 st1 => hQ a' w' φ' (s1.less (subT_ok (fun _ _ => beqO_eq) g4)) (st1.less (subT_ok (fun _ _ => beqX_eq) g3) (subT_ok (fun _ _ => beqO_eq) g4))
  · cases hx

theorem Tri.seq {x y : Code} {e : E} {t t1 t2 : T X} {h h1 h2 : H} {n n1 n2 : Pt} (hx : Tri P nt x t h n .normal t1 h1 n1) (hy : Tri P nt y t1 h1 n1 e t2 h2 n2) : Tri P nt (.seq x y) t h n e t2 h2 n2 := by
  intro φ a w st Q hQ
  exact wp_seq (hx st _ fun a1 w1 φ1 s1 st1 => hy st1 _ fun a2 w2 φ2 s2 st2 => hQ a2 w2 φ2 (s1.trans s2) st2)
theorem Tri.exit {x y : Code} {e : E} {t t1 : T X} {h h1 : H} {n n1 : Pt} (he : beqE e .normal = false) (hx : Tri P nt x t h n e t1 h1 n1) : Tri P nt (.seq x y) t h n e t1 h1 n1 := by
  intro φ a w st Q hQ
  refine wp_seq (hx st _ fun a1 w1 φ1 s1 st1 => ?_)
  cases e with
  | normal => cases he
  | _ => exact hQ a1 w1 φ1 s1 st1

/-- A closed function out of what its body does. -/
theorem Tri.call (hn : namesB P.funcs.toList = true) {f : FuncId} {fn : Func} {c : Code} (hf : P.funcs[f]? = some fn) (hb : fn.body = some c) {e : E} (he : beqE e .normal || beqE e .ret = true) {t' : T X} {h' : H} {n' : Pt} {rs : List R} {b : Bool}
    (hr : cRs (mkTab P) fn.results.toList = some rs) (hx : resX t' h' rs = some [.bool b]) (hc : Tri P fn.ntmps c .e .e .z e t' h' n') (w : World) :
    Body P f ∧ Calls P f #[] w fun e w' => e = .returned (.bool b) ∧ Kept w (fun _ => False) w' := by
  refine ⟨body_ok hn hf hb, calls_of_wp hf hb ?_⟩
  have st : St fn.ntmps (fun _ => none) T.e T.e Pt.z { tmps := #[] ++ Array.replicate (fn.ntmps - (#[] : Array Value).size) undef, defers := [] } w :=
    ⟨rfl, by simp, fun i y hy => (by rw [get_e] at hy; cases hy), Hp.start w⟩
  refine hc st _ fun a' w' φ' s1 st1 => ?_
  obtain ⟨cv, g1, g2⟩ := results_ok (a := a') (fn := fn) st1.hp (mkTab_ok P) st1.tm hr hx
  have g3 : cv = .bool b := inv_bool g2
  subst g3
  have hk : Kept w (fun _ => False) w' := ⟨s1.kept.os, s1.kept.tape, s1.kept.output, s1.kept.size, fun k hk _ => s1.kept.block k hk fun ⟨id, s, g1, _⟩ => by cases g1⟩
  have he' : e = .normal ∨ e = .ret := by
    cases e with
    | normal => exact .inl rfl
    | ret => exact .inr rfl
    | exit i => cases he
    | goto l => cases he
  rcases he' with rfl | rfl
  · exact ⟨st1.defers, _, g1, rfl, hk⟩
  · exact ⟨st1.defers, _, g1, rfl, hk⟩
end
end Go.Ex
