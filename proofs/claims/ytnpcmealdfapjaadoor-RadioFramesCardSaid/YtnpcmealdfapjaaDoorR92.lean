/- The product of two bytes. -/
import Derived.Test.YtnpcmealdfapjaaDoorR91
set_option linter.unusedVariables false
set_option linter.unusedSimpArgs false
set_option maxRecDepth 20000
namespace Go.Ex
open Go.Proofs
def prF : Nat → Nat → Nat → Nat → Nat
  | 0, _, _, out => out
  | f + 1, a, b, out => if b = 0 then out else prF f (tw a) (b / 2) (if b % 2 = 1 then out ^^^ a else out)
def pr (a b : Nat) : Nat := prF 8 a b 0
theorem prF_lt : ∀ (f a b out : Nat), a < 256 → out < 256 → prF f a b out < 256 := by
  intro f
  induction f with
  | zero => intro a b out _ h; exact h
  | succ f ih =>
    intro a b out ha ho
    unfold prF
    split
    · exact ho
    · refine ih _ _ _ (tw_lt a) ?_
      split
      · exact Nat.xor_lt_two_pow (n := 8) ho ha
      · exact ho
theorem pr_lt (a b : Nat) (ha : a < 256) : pr a b < 256 := prF_lt 8 a b 0 ha (by omega)
theorem shr1 (b : Nat) : Int.fdiv (Int.ofNat b) (2 ^ (Nat.min (Int.ofNat 1).toNat IntKind.u8.bits)) = Int.ofNat (b / 2) := by
  show Int.fdiv (b : Int) (2 ^ 1) = _
  rw [show ((2 : Int) ^ 1) = 2 from rfl, Int.fdiv_eq_ediv_of_nonneg _ (by omega)]
  rfl
theorem land1 {b : Nat} (hb : b < 256) : IntKind.wrap .u8 (((BitVec.ofInt 8 (Int.ofNat b) &&& BitVec.ofInt 8 (Int.ofNat 1)).toNat : Nat) : Int) = Int.ofNat (b % 2) := by
  have := and8 hb (show 1 < 256 by omega)
  rw [Nat.and_one_is_mod] at this
  exact this

theorem product_L (Q : E → T X → H → Pt → Prop) : ∀ (f a b out : Nat) (n : Pt), a < 256 → b < 2 ^ f → b < 256 → out < 256 → (∀ t' n', Le (ofPL [(p5, B8 (prF f a b out))]) t' → Q (.exit 0) t' .e n') →
    XL Tryd.prog eqs9 19 k61L0 (ofPL [(p0, B8 a), (p1, B8 b), (p5, B8 out)]) .e n Q := by
  intro f
  induction f with
  | zero =>
    intro a b out n ha hb hb8 h0 hQ
    have hb0 : b = 0 := by rw [Nat.pow_zero] at hb; omega
    refine XL.body ?_
    refine XK.seq ?_
    refine XK.seq ?_
    refine XK.op S9 rfl ?_
    refine seqQ_n ?_
    refine XK.cond rfl (fun h1 => ?_) (fun h1 => ?_)
    · skip
      exfalso
      have := h1
      simp at this
      omega
    · skip
      refine XK.exit S9 ?_
      refine seqQ_x ?_
      refine loopQ_x ?_
      exact hQ _ _ (Le.cons (p := p5) rfl rfl Le.nil)
  | succ f ih =>
    intro a b out n ha hb hb8 h0 hQ
    refine XL.body ?_
    refine XK.seq ?_
    refine XK.seq ?_
    refine XK.op S9 rfl ?_
    refine seqQ_n ?_
    refine XK.cond rfl (fun h1 => ?_) (fun h1 => ?_)
    · skip
      have hb0 : 0 < b := by simpa using h1
      refine XK.skip S9 ?_
      refine seqQ_n ?_
      refine XK.seq ?_
      refine XK.block ?_
      refine XK.seq ?_
      refine XK.seq ?_
      refine XK.op S9 rfl ?_
      refine seqQ_n ?_
      refine XK.cond rfl (fun h2 => ?_) (fun h2 => ?_)
      · skip
        have ho : b % 2 = 1 := Int.ofNat_inj.1 ((land1 hb8).symm.trans (of_decide_eq_true h2))
        refine XK.op S9 rfl ?_
        refine seqQ_n ?_
        refine XK.reg1 S9 (twice_c a ha) fun call hcl => ?_
        refine OG_p rfl ?_
        refine OG_c rfl hcl ?_
        refine OG_p rfl ?_
        refine OG_nil ?_
        refine blockQ_n ?_
        refine seqQ_n ?_
        refine XK.op S9 rfl ?_
        refine loopQ_n ?_
        first
          | (refine XL.less (t1 := ofPL [(p0, B8 (tw a)), (p1, B8 (b / 2)), (p5, B8 (out ^^^ a))]) (Le.cons (p := p0) rfl rfl (Le.cons (p := p1) rfl (congrArg (X.int .u8) (shr1 b)) (Le.cons (p := p5) rfl (congrArg (X.int .u8) (xor8 h0 ha)) Le.nil))) (Le.refl _) ?_
             exact ih _ _ _ _ (tw_lt a) (by rw [Nat.pow_succ] at hb; omega) (by omega) (Nat.xor_lt_two_pow (n := 8) h0 ha) fun t' n' hle => hQ t' n' (by rw [prF, if_neg (by omega), if_pos ho]; exact hle))
          | (refine XL.less (t1 := ofPL [(p0, B8 (tw a)), (p1, B8 (b / 2)), (p5, B8 out)]) (Le.cons (p := p0) rfl rfl (Le.cons (p := p1) rfl (congrArg (X.int .u8) (shr1 b)) (Le.cons (p := p5) rfl rfl Le.nil))) (Le.refl _) ?_
             exact ih _ _ _ _ (tw_lt a) (by rw [Nat.pow_succ] at hb; omega) (by omega) h0 fun t' n' hle => hQ t' n' (by rw [prF, if_neg (by omega), if_neg ho]; exact hle))
      · skip
        have ho : ¬ b % 2 = 1 := fun h => of_decide_eq_false h2 ((land1 hb8).trans (congrArg Int.ofNat h))
        refine XK.skip S9 ?_
        refine seqQ_n ?_
        refine XK.reg1 S9 (twice_c a ha) fun call hcl => ?_
        refine OG_p rfl ?_
        refine OG_c rfl hcl ?_
        refine OG_p rfl ?_
        refine OG_nil ?_
        refine blockQ_n ?_
        refine seqQ_n ?_
        refine XK.op S9 rfl ?_
        refine loopQ_n ?_
        first
          | (refine XL.less (t1 := ofPL [(p0, B8 (tw a)), (p1, B8 (b / 2)), (p5, B8 (out ^^^ a))]) (Le.cons (p := p0) rfl rfl (Le.cons (p := p1) rfl (congrArg (X.int .u8) (shr1 b)) (Le.cons (p := p5) rfl (congrArg (X.int .u8) (xor8 h0 ha)) Le.nil))) (Le.refl _) ?_
             exact ih _ _ _ _ (tw_lt a) (by rw [Nat.pow_succ] at hb; omega) (by omega) (Nat.xor_lt_two_pow (n := 8) h0 ha) fun t' n' hle => hQ t' n' (by rw [prF, if_neg (by omega), if_pos ho]; exact hle))
          | (refine XL.less (t1 := ofPL [(p0, B8 (tw a)), (p1, B8 (b / 2)), (p5, B8 out)]) (Le.cons (p := p0) rfl rfl (Le.cons (p := p1) rfl (congrArg (X.int .u8) (shr1 b)) (Le.cons (p := p5) rfl rfl Le.nil))) (Le.refl _) ?_
             exact ih _ _ _ _ (tw_lt a) (by rw [Nat.pow_succ] at hb; omega) (by omega) h0 fun t' n' hle => hQ t' n' (by rw [prF, if_neg (by omega), if_neg ho]; exact hle))
    · skip
      have hb0 : b = 0 := by have := h1; simp at this; omega
      refine XK.exit S9 ?_
      refine seqQ_x ?_
      refine loopQ_x ?_
      refine hQ _ _ (Le.cons (p := p5) rfl (by first | (subst hb0; cases f <;> rfl) | rfl) Le.nil)
theorem product_x (a b : Nat) (ha : a < 256) (hb : b < 256) : XF Tryd.prog eqs9 61 [B8 a, B8 b] .e .z (fun xx _ _ => xx = B8 (pr a b)) := by
  refine XF.body S9 fk61 rfl ?_
  refine XK.seq ?_
  refine XK.op S9 rfl ?_
  refine seqQ_n ?_
  refine XK.seq ?_
  refine XK.op S9 rfl ?_
  refine seqQ_n ?_
  refine XK.seq ?_
  refine XK.block ?_
  refine XK.loop ?_
  refine XL.less (t1 := ofPL [(p0, B8 a), (p1, B8 b), (p5, B8 0)]) (Le.cons (p := p0) rfl rfl (Le.cons (p := p1) rfl rfl (Le.cons (p := p5) rfl rfl Le.nil))) (Le.refl _) ?_
  refine product_L _ 8 a b 0 _ ha hb hb (by omega) (fun t' n' hle => ?_)
  refine blockQ_h rfl ?_
  refine seqQ_n ?_
  refine XK.less hle (Le.refl _) ?_
  refine XK.seq ?_
  refine XK.op S9 rfl ?_
  refine seqQ_n ?_
  refine XK.ret S9 ?_
  exact ⟨_, rfl, rfl⟩

theorem product_c (a b : Nat) (ha : a < 256) (hb : b < 256) : Pure1 eqs9.gs Tryd.prog 61 [B8 a, B8 b] (B8 (pr a b)) := fun h n => (product_x a b ha hb).pure rfl rfl h n

end Go.Ex

