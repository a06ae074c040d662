/- Part of the proof: R97. -/
import Derived.Test.YtnpcmealdfapjaaDoorFR
set_option linter.unusedVariables false
set_option linter.unusedSimpArgs false
set_option maxRecDepth 20000
namespace Go.Ex
open Go.Proofs
theorem rinv_L (Q : E → T X → H → Pt → Prop) (a : Nat) (ha : a < 256) (h0 : 0 < a) : ∀ (k i : Nat) (n : Pt), i + k = inv a → 1 ≤ i → (∀ t' n', Le (ofPL [(p2, N6 (inv a))]) t' → Q .ret t' .e n') →
    XL Tryd.prog eqs9 13 k65L0 (ofPL [(p0, N6 a), (p3, N6 (i))]) .e n Q := by
  have hlt := inv_lt a ha
  intro k
  induction k with
  | zero =>
    intro i n hi h1 hQ
    have hi0 : i = inv a := by omega
    refine XL.body ?_
    refine XK.seq ?_
    refine XK.seq ?_
    refine XK.op0' S9 ?_
    refine OG_p rfl ?_
    refine OG_p (op_lt rfl rfl (by omega)) ?_
    refine OG_nil ?_
    refine seqQ_n ?_
    refine XK.condT rfl ?_
    refine XK.skip S9 ?_
    refine seqQ_n ?_
    refine XK.seq ?_
    refine XK.block ?_
    refine XK.seq ?_
    refine XK.reg1 S9 (rtimes_p a i ha (by omega)) fun call hcl => ?_
    refine OG_p rfl ?_
    refine OG_p rfl ?_
    refine OG_c rfl hcl ?_
    refine OG_p (show opP _ _ = some (X.bool true) from tru (show ((pr a i : Nat) : Int) = ((1 : Nat) : Int) from by rw [hi0, pr_inv ha h0])) ?_
    refine OG_nil ?_
    refine seqQ_n ?_
    refine XK.condT rfl ?_
    refine XK.seq ?_
    refine XK.op S9 rfl ?_
    refine seqQ_n ?_
    refine XK.ret S9 ?_
    refine blockQ_r ?_
    refine seqQ_r ?_
    refine loopQ_r ?_
    exact hQ _ _ (Le.cons (p := p2) rfl (congrArg (fun z => X.int .i64 (Int.ofNat z)) hi0) Le.nil)
  | succ k ih =>
    intro i n hi h1 hQ
    refine XL.body ?_
    refine XK.seq ?_
    refine XK.seq ?_
    refine XK.op0' S9 ?_
    refine OG_p rfl ?_
    refine OG_p (op_lt rfl rfl (by omega)) ?_
    refine OG_nil ?_
    refine seqQ_n ?_
    refine XK.condT rfl ?_
    refine XK.skip S9 ?_
    refine seqQ_n ?_
    refine XK.seq ?_
    refine XK.block ?_
    refine XK.seq ?_
    refine XK.reg1 S9 (rtimes_p a i ha (by omega)) fun call hcl => ?_
    refine OG_p rfl ?_
    refine OG_p rfl ?_
    refine OG_c rfl hcl ?_
    refine OG_p (show opP _ _ = some (X.bool false) from fls (show ¬ ((pr a i : Nat) : Int) = ((1 : Nat) : Int) from fun hh => by have := inv_uniq ha h0 (show i < 256 by omega) (by omega); omega)) ?_
    refine OG_nil ?_
    refine seqQ_n ?_
    refine XK.condF rfl ?_
    refine XK.skip S9 ?_
    refine blockQ_n ?_
    refine seqQ_n ?_
    refine XK.op0' S9 ?_
    refine OG_p rfl ?_
    refine OG_p (op_add rfl rfl (by omega)) ?_
    refine OG_p rfl ?_
    refine OG_nil ?_
    refine loopQ_n ?_
    refine XL.less (t1 := ofPL [(p0, N6 a), (p3, N6 (i + 1))]) (Le.cons (p := p0) rfl rfl (Le.cons (p := p3) rfl rfl Le.nil)) (Le.refl _) ?_
    exact ih (i + 1) _ (by omega) (by omega) hQ

theorem rinv_x (a : Nat) (ha : a < 256) (h0 : 0 < a) : XF Tryd.prog eqs9 65 [N6 a] .e .z (fun xx _ _ => xx = N6 (inv a)) := by
  refine XF.body S9 fk65 rfl ?_
  refine XK.seq ?_
  refine XK.op S9 rfl ?_
  refine seqQ_n ?_
  refine XK.seq ?_
  refine XK.seq ?_
  refine XK.op S9 rfl ?_
  refine seqQ_n ?_
  refine XK.block ?_
  refine XK.loop ?_
  refine XL.less (t1 := ofPL [(p0, N6 a), (p3, N6 1)]) (Le.cons (p := p0) rfl rfl (Le.cons (p := p3) rfl rfl Le.nil)) (Le.refl _) ?_
  refine rinv_L _ a ha h0 (inv a - 1) 1 _ (by have := inv_pos ha h0; omega) (by omega) (fun t' n' hle => ?_)
  refine blockQ_r ?_
  refine seqQ_r ?_
  first
    | exact ⟨[N6 (inv a)], by simp only [k65, resX]; rw [hle.at (p := p2) rfl], rfl⟩
    | (refine seqQ_r ?_; exact ⟨[N6 (inv a)], by simp only [k65, resX]; rw [hle.at (p := p2) rfl], rfl⟩)
    | (refine seqQ_r ?_; refine seqQ_r ?_; exact ⟨[N6 (inv a)], by simp only [k65, resX]; rw [hle.at (p := p2) rfl], rfl⟩)
theorem rinv_c (a : Nat) (ha : a < 256) (h0 : 0 < a) : Pure1 eqs9.gs Tryd.prog 65 [N6 a] (N6 (inv a)) := fun hh nn => (rinv_x a ha h0).pure rfl rfl hh nn

theorem RInverseT_x (a : Nat) (ha : a < 256) (h0 : 0 < a) : XF Tryd.prog eqs9 14 [N6 a] .e .z (fun xx _ _ => xx = X.tup [N6 (inv a), N6 0]) := by
  refine XF.body S9 fk14 rfl ?_
  refine XK.seq ?_
  refine XK.op S9 rfl ?_
  refine seqQ_n ?_
  refine XK.seq ?_
  refine XK.seq ?_
  refine XK.reg1 S9 (elemTT a ha) fun call hcl => ?_
  refine OG_p rfl ?_
  refine OG_c rfl hcl ?_
  refine OG_p rfl ?_
  refine OG_p rfl ?_
  refine OG_y (rfl) rfl ?_
  refine OG_y (rfl) (st_p (show opP _ _ = some (X.bool false) from fls (show ¬ Int.ofNat a = Int.ofNat 0 from fun h => by simp at h; omega))) ?_
  refine OG_p rfl ?_
  refine OG_nil ?_
  refine seqQ_n ?_
  refine XK.condF rfl ?_
  refine XK.skip S9 ?_
  refine seqQ_n ?_
  refine XK.seq ?_
  refine XK.reg1 S9 (rinv_c a ha h0) fun call hcl => ?_
  refine OG_p rfl ?_
  refine OG_c rfl hcl ?_
  refine OG_p rfl ?_
  refine OG_p rfl ?_
  refine OG_nil ?_
  refine seqQ_n ?_
  refine XK.ret S9 ?_
  exact ⟨_, rfl, rfl⟩

theorem RInverseT_c (a : Nat) (ha : a < 256) (h0 : 0 < a) : Pure1 eqs9.gs Tryd.prog 14 [N6 a] (X.tup [N6 (inv a), N6 0]) := fun hh nn => (RInverseT_x a ha h0).pure rfl rfl hh nn

end Go.Ex

