/- Inverses and what is closed. -/
import Derived.Test.YtnpcmealdfapjaaDoorR93
set_option linter.unusedVariables false
set_option linter.unusedSimpArgs false
set_option maxRecDepth 20000
namespace Go.Ex
open Go.Proofs
def invF : Nat → Nat → Nat → Nat
  | 0, _, out => out
  | k + 1, a, out => invF k a (pr out a)
def inv (a : Nat) : Nat := invF 253 a a
theorem invF_lt : ∀ (k a out : Nat), out < 256 → invF k a out < 256 := by
  intro k
  induction k with
  | zero => intro a out h; exact h
  | succ k ih => intro a out h; exact ih a _ (pr_lt out a h)
theorem inv_lt (a : Nat) (h : a < 256) : inv a < 256 := invF_lt 253 a a h
theorem add1 {i : Nat} (h : i < 1000000) : IntKind.wrap .i64 (Int.ofNat i + Int.ofNat 1) = Int.ofNat (i + 1) := wrap64 (n := (i : Int) + 1) (by omega) (by omega)

theorem inverse_L (Q : E → T X → H → Pt → Prop) (a : Nat) (ha : a < 256) : ∀ (k i out : Nat) (n : Pt), i + k = 253 → out < 256 → (∀ t' n', Le (ofPL [(p3, B8 (invF k a out))]) t' → Q (.exit 0) t' .e n') →
    XL Tryd.prog eqs9 12 k64L0 (ofPL [(p0, B8 a), (p3, B8 out), (p5, N6 i)]) .e n Q := by
  intro k
  induction k with
  | zero =>
    intro i out n hi ho hQ
    refine XL.body ?_
    refine XK.seq ?_
    refine XK.op S9 rfl ?_
    refine seqQ_n ?_
    refine XK.seq ?_
    refine XK.condF (congrArg some (by show X.bool (decide _) = _; rw [decide_eq_false (show ¬ Int.ofNat i < Int.ofNat 253 by show ¬ (i : Int) < 253; omega)])) ?_
    refine XK.exit S9 ?_
    refine seqQ_x ?_
    refine loopQ_x ?_
    exact hQ _ _ (Le.cons (p := p3) rfl rfl Le.nil)
  | succ k ih =>
    intro i out n hi ho hQ
    refine XL.body ?_
    refine XK.seq ?_
    refine XK.op S9 rfl ?_
    refine seqQ_n ?_
    refine XK.seq ?_
    refine XK.condT (congrArg some (by show X.bool (decide _) = _; rw [decide_eq_true (show Int.ofNat i < Int.ofNat 253 by show (i : Int) < 253; omega)])) ?_
    refine XK.skip S9 ?_
    refine seqQ_n ?_
    refine XK.seq ?_
    refine XK.block ?_
    refine XK.reg1 S9 (product_c out a ho ha) fun call hcl => ?_
    refine OG_p rfl ?_
    refine OG_p rfl ?_
    refine OG_c rfl hcl ?_
    refine OG_p rfl ?_
    refine OG_nil ?_
    refine blockQ_n ?_
    refine seqQ_n ?_
    refine XK.op S9 rfl ?_
    refine loopQ_n ?_
    refine XL.less (t1 := ofPL [(p0, B8 a), (p3, B8 (pr out a)), (p5, N6 (i + 1))]) (Le.cons (p := p0) rfl rfl (Le.cons (p := p3) rfl rfl (Le.cons (p := p5) rfl (congrArg (X.int .i64) (add1 (by omega))) Le.nil))) (Le.refl _) ?_
    exact ih (i + 1) _ _ (by omega) (pr_lt out a ho) hQ
theorem inverse_x (a : Nat) (ha : a < 256) : XF Tryd.prog eqs9 64 [B8 a] .e .z (fun xx _ _ => xx = B8 (inv a)) := by
  refine XF.body S9 fk64 rfl ?_
  refine XK.seq ?_
  refine XK.op S9 rfl ?_
  refine seqQ_n ?_
  refine XK.seq ?_
  refine XK.op S9 rfl ?_
  refine seqQ_n ?_
  refine XK.seq ?_
  refine XK.seq ?_
  refine XK.op S9 rfl ?_
  refine seqQ_n ?_
  refine XK.block ?_
  refine XK.loop ?_
  refine XL.less (t1 := ofPL [(p0, B8 a), (p3, B8 a), (p5, N6 0)]) (Le.cons (p := p0) rfl rfl (Le.cons (p := p3) rfl rfl (Le.cons (p := p5) rfl rfl Le.nil))) (Le.refl _) ?_
  refine inverse_L _ a ha 253 0 a _ rfl ha (fun t' n' hle => ?_)
  refine blockQ_h rfl ?_
  refine seqQ_n ?_
  refine XK.less hle (Le.refl _) ?_
  refine XK.seq ?_
  refine XK.op S9 rfl ?_
  refine seqQ_n ?_
  refine XK.ret S9 ?_
  exact ⟨_, rfl, rfl⟩

theorem inverse_c (a : Nat) (ha : a < 256) : Pure1 eqs9.gs Tryd.prog 64 [B8 a] (B8 (inv a)) := fun hh nn => (inverse_x a ha).pure rfl rfl hh nn

theorem InverseT_x (a : Nat) (ha : a < 256) (h0 : 0 < a) : XF Tryd.prog eqs9 13 [N6 a] .e .z (fun xx _ _ => xx = X.tup [N6 (inv a), N6 0]) := by
  refine XF.body S9 fk13 rfl ?_
  refine XK.seq ?_
  refine XK.op S9 rfl ?_
  refine seqQ_n ?_
  refine XK.seq ?_
  refine XK.seq ?_
  refine XK.reg1 S9 (isElT a ha) fun call hcl => ?_
  refine OG_p rfl ?_
  refine OG_c rfl hcl ?_
  refine OG_p rfl ?_
  refine OG_p rfl ?_
  refine OG_y (rfl) rfl ?_
  refine OG_y (rfl) (st_p (show opP _ _ = some (X.bool false) from fls (show ¬ Int.ofNat a = Int.ofNat 0 from fun h => by simp at h; omega))) ?_
  refine OG_p rfl ?_
  refine OG_nil ?_
  refine seqQ_n ?_
  refine XK.condF rfl ?_
  refine XK.skip S9 ?_
  refine seqQ_n ?_
  refine XK.seq ?_
  refine XK.reg1 S9 (inverse_c a ha) fun call hcl => ?_
  refine OG_p rfl ?_
  refine OG_p (show opP _ _ = some (B8 _) from conv8 (ha)) ?_
  refine OG_c rfl hcl ?_
  refine OG_p (show opP _ _ = some (N6 _) from conv64 (inv_lt a ha)) ?_
  refine OG_p rfl ?_
  refine OG_p rfl ?_
  refine OG_nil ?_
  refine seqQ_n ?_
  refine XK.ret S9 ?_
  exact ⟨_, rfl, rfl⟩

theorem InverseT_c (a : Nat) (ha : a < 256) (h0 : 0 < a) : Pure1 eqs9.gs Tryd.prog 13 [N6 a] (X.tup [N6 (inv a), N6 0]) := fun hh nn => (InverseT_x a ha h0).pure rfl rfl hh nn

theorem InverseZ_x  : XF Tryd.prog eqs9 13 [N6 0] .e .z (fun xx _ _ => xx = X.tup [N6 0, N6 1]) := by
  refine XF.body S9 fk13 rfl ?_
  refine XK.seq ?_
  refine XK.op S9 rfl ?_
  refine seqQ_n ?_
  refine XK.seq ?_
  refine XK.seq ?_
  refine XK.reg1 S9 (isElT 0 (by omega)) fun call hcl => ?_
  refine OG_p rfl ?_
  refine OG_c rfl hcl ?_
  refine OG_p rfl ?_
  refine OG_p rfl ?_
  refine OG_y (rfl) rfl ?_
  refine OG_y (rfl) rfl ?_
  refine OG_p rfl ?_
  refine OG_nil ?_
  refine seqQ_n ?_
  refine XK.condT rfl ?_
  refine XK.seq ?_
  refine XK.op S9 rfl ?_
  refine seqQ_n ?_
  refine XK.ret S9 ?_
  refine seqQ_r ?_
  exact ⟨_, rfl, rfl⟩

theorem InverseZ_c  : Pure1 eqs9.gs Tryd.prog 13 [N6 0] (X.tup [N6 0, N6 1]) := fun hh nn => (InverseZ_x ).pure rfl rfl hh nn

noncomputable def h43 : H := T.put T.e .z (.cells [.bool true])
theorem field1_x (a b : Nat) (ha : a < 256) (hb : b < 256) : XF Tryd.prog eqs9 43 [N6 a, N6 b, .ptr .z 0] h43 (.l .z) (fun xx hh nn => xx = N6 (pr a b) ∧ hh = h43 ∧ nn = .l .z) := by
  refine XF.body S9 fk43 rfl ?_
  refine XK.seq ?_
  refine XK.op S9 rfl ?_
  refine seqQ_n ?_
  refine XK.seq ?_
  refine XK.reg1 S9 (TimesT_c a b ha hb) fun call hcl => ?_
  refine OG_p rfl ?_
  refine OG_p rfl ?_
  refine OG_c rfl hcl ?_
  refine OG_p rfl ?_
  refine OG_p rfl ?_
  refine OG_p rfl ?_
  refine OG_p rfl ?_
  refine OG_p rfl ?_
  refine OG_nil ?_
  refine seqQ_n ?_
  refine XK.seq ?_
  refine XK.op0' S9 ?_
  refine OG_r rfl ?_
  refine OG_p rfl ?_
  refine OG_y (rfl) rfl ?_
  refine OG_y (rfl) rfl ?_
  refine OG_p rfl ?_
  refine OG_p rfl ?_
  refine OG_y (rfl) rfl ?_
  refine OG_y (rfl) (st_p (show opP _ _ = some (X.bool true) from tru (show Int.ofNat 0 ≤ Int.ofNat (pr a b) from Int.natCast_nonneg _))) ?_
  refine OG_p rfl ?_
  refine OG_p rfl ?_
  refine OG_y (rfl) rfl ?_
  refine OG_y (rfl) (st_p (show opP _ _ = some (X.bool true) from tru (show Int.ofNat (pr a b) ≤ Int.ofNat 255 from by have := pr_lt a b ha; show ((pr a b : Nat) : Int) ≤ 255; omega))) ?_
  refine OG_p rfl ?_
  refine OG_cons rfl ?_
  refine OG_nil ?_
  refine seqQ_n ?_
  refine XK.seq ?_
  refine XK.op S9 rfl ?_
  refine seqQ_n ?_
  refine XK.ret S9 ?_
  exact ⟨_, rfl, rfl, rfl, rfl⟩

theorem field1_c (a b : Nat) (ha : a < 256) (hb : b < 256) : CallOne eqs9.gs Tryd.prog 43 [N6 a, N6 b, .ptr .z 0] h43 (.l .z) (N6 (pr a b)) h43 (.l .z) := by
  obtain ⟨x, h', n', h1, rfl, rfl, rfl⟩ := field1_x a b ha hb
  exact h1

end Go.Ex

