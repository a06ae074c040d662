/- Part of the proof: R9D. -/
import Derived.Test.YtnpcmealdfapjaaDoorR9C
import Derived.Test.YtnpcmealdfapjaaDoorExE
set_option linter.unusedVariables false
set_option linter.unusedSimpArgs false
set_option maxRecDepth 20000
namespace Go.Ex
open Go.Proofs
def growF (l : List Nat) (pt : Nat) : Nat → Nat → Bool
  | 0, _ => true
  | k + 1, i => if l.getD i 0 = pr (l.getD (i - 1) 0) pt then growF l pt k (i + 1) else false
theorem ne8 {a b : Nat} (h : ¬ a = b) : some (X.bool (!decide (Int.ofNat a = Int.ofNat b))) = some (X.bool true) := nfls (fun e => h (Int.ofNat_inj.1 e))
theorem eq8 {a b : Nat} (h : a = b) : some (X.bool (!decide (Int.ofNat a = Int.ofNat b))) = some (X.bool false) := ntru (congrArg Int.ofNat h)

theorem grow_L (Q : E → T X → H → Pt → Prop) (h : H) (id : Pt) (L : Nat) (l : List Nat) (pt : Nat) (n0 : Pt) (hpt : pt < 256) (h8 : all8 l) (hL : l.length = L) (hL6 : L ≤ 6) (hg : h.get id = some (.cells (l.map B8))) : ∀ (k i : Nat) (n : Pt), i + k = L → 1 ≤ i → n0.num ≤ n.num → (∀ t' n', growF l pt k i = false → Le (ofPL [(p4, BX false)]) t' → n0.num ≤ n'.num → Q .ret t' h n') → (∀ t' n', growF l pt k i = true → n0.num ≤ n'.num → Q (.exit 0) t' h n') →
    XL Tryd.prog eqs9 24 k122L0 (ofPL [(p0, .sl id 0 L L 0), (p1, B8 pt), (p5, N6 (i))]) h n Q := by
  intro k
  induction k with
  | zero =>
    intro i n hi h1 hn hR hX
    refine XL.body ?_
    refine XK.seq ?_
    refine XK.seq ?_
    refine XK.op0' S9 ?_
    refine OG_p rfl ?_
    refine OG_p rfl ?_
    refine OG_p rfl ?_
    refine OG_p (op_nlt rfl rfl (by omega)) ?_
    refine OG_nil ?_
    refine seqQ_n ?_
    refine XK.condF rfl ?_
    refine XK.exit S9 ?_
    refine seqQ_x ?_
    refine loopQ_x ?_
    exact hX _ _ rfl hn
  | succ k ih =>
    intro i n hi h1 hn hR hX
    by_cases he : l.getD i 0 = pr (l.getD (i - 1) 0) pt
    · skip
      refine XL.body ?_
      refine XK.seq ?_
      refine XK.seq ?_
      refine XK.op0' S9 ?_
      refine OG_p rfl ?_
      refine OG_p rfl ?_
      refine OG_p rfl ?_
      refine OG_p (op_lt rfl rfl (by omega)) ?_
      refine OG_nil ?_
      refine seqQ_n ?_
      refine XK.condT rfl ?_
      refine XK.skip S9 ?_
      refine seqQ_n ?_
      refine XK.seq ?_
      refine XK.block ?_
      refine XK.seq ?_
      refine XK.dr1 S9 (product_c (l.getD (i - 1) 0) pt (h8 _) hpt) fun call hcl => ?_
      refine SG_p rfl ?_
      refine SG_p rfl ?_
      refine SG_p (op_ia rfl rfl (by omega)) ?_
      refine SG_r (op_ld rfl hg (map_at0 (by omega))) (op_ld rfl hg (map_at0 (by omega))) ?_
      refine SG_p rfl ?_
      refine SG_p rfl ?_
      refine SG_p (op_sub rfl rfl (by omega) (by omega)) ?_
      refine SG_p (op_ia rfl rfl (by omega)) ?_
      refine SG_r (op_ld rfl hg (map_at0 (by omega))) (op_ld rfl hg (map_at0 (by omega))) ?_
      refine SG_p rfl ?_
      refine SG_c rfl hcl ?_
      refine SG_p (show opP _ _ = some (X.bool false) from eq8 (he)) ?_
      refine SG_nil ?_
      refine seqQ_n ?_
      refine XK.condF rfl ?_
      refine XK.skip S9 ?_
      refine blockQ_n ?_
      refine seqQ_n ?_
      refine XK.op0' S9 ?_
      refine OG_p rfl ?_
      refine OG_p (op_add rfl rfl (by omega)) ?_
      refine OG_p rfl ?_
      refine OG_nil ?_
      refine loopQ_n ?_
      refine XL.less (t1 := ofPL [(p0, .sl id 0 L L 0), (p1, B8 pt), (p5, N6 (i + 1))]) (Le.cons (p := p0) rfl rfl (Le.cons (p := p1) rfl rfl (Le.cons (p := p5) rfl rfl Le.nil))) (Le.refl _) ?_
      exact ih (i + 1) _ (by omega) (by omega) (by rw [skip_num]; omega) (by rw [growF, if_pos he] at hR; exact hR) (by rw [growF, if_pos he] at hX; exact hX)
    · skip
      refine XL.body ?_
      refine XK.seq ?_
      refine XK.seq ?_
      refine XK.op0' S9 ?_
      refine OG_p rfl ?_
      refine OG_p rfl ?_
      refine OG_p rfl ?_
      refine OG_p (op_lt rfl rfl (by omega)) ?_
      refine OG_nil ?_
      refine seqQ_n ?_
      refine XK.condT rfl ?_
      refine XK.skip S9 ?_
      refine seqQ_n ?_
      refine XK.seq ?_
      refine XK.block ?_
      refine XK.seq ?_
      refine XK.dr1 S9 (product_c (l.getD (i - 1) 0) pt (h8 _) hpt) fun call hcl => ?_
      refine SG_p rfl ?_
      refine SG_p rfl ?_
      refine SG_p (op_ia rfl rfl (by omega)) ?_
      refine SG_r (op_ld rfl hg (map_at0 (by omega))) (op_ld rfl hg (map_at0 (by omega))) ?_
      refine SG_p rfl ?_
      refine SG_p rfl ?_
      refine SG_p (op_sub rfl rfl (by omega) (by omega)) ?_
      refine SG_p (op_ia rfl rfl (by omega)) ?_
      refine SG_r (op_ld rfl hg (map_at0 (by omega))) (op_ld rfl hg (map_at0 (by omega))) ?_
      refine SG_p rfl ?_
      refine SG_c rfl hcl ?_
      refine SG_p (show opP _ _ = some (X.bool true) from ne8 (he)) ?_
      refine SG_nil ?_
      refine seqQ_n ?_
      refine XK.condT rfl ?_
      refine XK.seq ?_
      refine XK.op S9 rfl ?_
      refine seqQ_n ?_
      refine XK.ret S9 ?_
      refine blockQ_r ?_
      refine seqQ_r ?_
      refine loopQ_r ?_
      exact hR _ _ (by rw [growF, if_neg he]) (Le.cons (p := p4) rfl rfl Le.nil) (by rw [skip_num]; omega)

theorem growsBy_c (h : H) (n id : Pt) (L : Nat) (l : List Nat) (pt : Nat) (hpt : pt < 256) (h8 : all8 l) (hL : l.length = L) (hL6 : L ≤ 6) (hL1 : 1 ≤ L) (hg : h.get id = some (.cells (l.map B8))) : Reads eqs9.gs Tryd.prog 122 [.sl id 0 L L 0, B8 pt] h n (BX (growF l pt (L - 1) 1)) := by
  refine XF.reads ?_
  refine XF.body S9 fk122 rfl ?_
  refine XK.seq ?_
  refine XK.op S9 rfl ?_
  refine seqQ_n ?_
  refine XK.seq ?_
  refine XK.seq ?_
  refine XK.op S9 rfl ?_
  refine seqQ_n ?_
  refine XK.block ?_
  refine XK.loop ?_
  refine XL.less (t1 := ofPL [(p0, .sl id 0 L L 0), (p1, B8 pt), (p5, N6 (1))]) (Le.cons (p := p0) rfl rfl (Le.cons (p := p1) rfl rfl (Le.cons (p := p5) rfl rfl Le.nil))) (Le.refl _) ?_
  refine grow_L _ h id L l pt n hpt h8 hL hL6 hg (L - 1) 1 _ (by omega) (by omega) (Nat.le_refl _) (fun t' n' hgr hle hn2 => ?_) (fun t' n' hgr hn2 => ?_)
  · refine blockQ_r ?_
    refine seqQ_r ?_
    first
      | exact ⟨[BX false], by simp only [k122, resX]; rw [hle.at (p := p4) rfl], by rw [hgr]; rfl, hn2, fun _ _ => rfl⟩
      | (refine seqQ_r ?_; exact ⟨[BX false], by simp only [k122, resX]; rw [hle.at (p := p4) rfl], by rw [hgr]; rfl, hn2, fun _ _ => rfl⟩)
  · skip
    refine blockQ_h rfl ?_
    refine seqQ_n ?_
    refine XK.less (t1 := T.e) Le.nil (Le.refl _) ?_
    refine XK.seq ?_
    refine XK.op S9 rfl ?_
    refine seqQ_n ?_
    refine XK.ret S9 ?_
    exact ⟨_, rfl, by rw [hgr]; rfl, hn2, fun _ _ => rfl⟩

end Go.Ex

