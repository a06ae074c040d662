/- Part of the proof: R96. -/
import Derived.Test.YtnpcmealdfapjaaDoorR94
import Derived.Test.YtnpcmealdfapjaaDoorFk2
import Derived.Test.YtnpcmealdfapjaaDoorExE
set_option linter.unusedVariables false
set_option linter.unusedSimpArgs false
set_option maxRecDepth 20000
namespace Go.Ex
open Go.Proofs
def mulF : Nat → Nat → Nat → Nat → Nat → Nat
  | 0, _, _, _, m => m
  | k + 1, a, b, i, m => mulF k a b (i + 1) (if b / 2 ^ i % 2 = 1 then m ^^^ (a * 2 ^ i) else m)
def redF : Nat → Nat → Nat → Nat
  | 0, _, m => m
  | k + 1, i, m => redF k (i - 1) (if m / 2 ^ i % 2 = 1 then m ^^^ (285 * 2 ^ (i - 8)) else m)
def rt (a b : Nat) : Nat := redF 7 14 (mulF 8 a b 0 0)
theorem shl_lt {a i : Nat} (ha : a < 256) (hi : i < 8) : a * 2 ^ i < 2 ^ 16 := by
  have : 2 ^ i ≤ 2 ^ 7 := Nat.pow_le_pow_right (by omega) (by omega)
  have := Nat.mul_le_mul (Nat.le_of_lt_succ ha) this
  omega
theorem s285_lt {i : Nat} (hi : i < 7) : 285 * 2 ^ i < 2 ^ 16 := by
  have : 2 ^ i ≤ 2 ^ 6 := Nat.pow_le_pow_right (by omega) (by omega)
  omega
theorem div_lt62 {b i : Nat} (hb : b < 2 ^ 16) : b / 2 ^ i < 2 ^ 62 := Nat.lt_of_le_of_lt (Nat.div_le_self _ _) (by omega)

theorem mul_L (Q : E → T X → H → Pt → Prop) (a b : Nat) (ha : a < 256) (hb : b < 256) : ∀ (k i m : Nat) (n : Pt), i + k = 8 → m < 2 ^ 16 → (∀ t' n', Le (ofPL [(p5, N6 (mulF k a b i m))]) t' → Q (.exit 0) t' .e n') →
    XL Tryd.prog eqs9 37 k63L0 (ofPL [(p0, N6 a), (p1, N6 b), (p5, N6 (m)), (p6, N6 (i))]) .e n Q := by
  intro k
  induction k with
  | zero =>
    intro i m n hi hm hQ
    refine XL.body ?_
    refine XK.seq ?_
    refine XK.seq ?_
    refine XK.op0' S9 ?_
    refine OG_p rfl ?_
    refine OG_p (op_nlt rfl rfl (by omega)) ?_
    refine OG_nil ?_
    refine seqQ_n ?_
    refine XK.condF rfl ?_
    refine XK.exit S9 ?_
    refine seqQ_x ?_
    refine loopQ_x ?_
    exact hQ _ _ (Le.cons (p := p5) rfl rfl Le.nil)
  | succ k ih =>
    intro i m n hi hm hQ
    refine XL.body ?_
    refine XK.seq ?_
    refine XK.seq ?_
    refine XK.op0' S9 ?_
    refine OG_p rfl ?_
    refine OG_p (op_lt rfl rfl (by omega)) ?_
    refine OG_nil ?_
    refine seqQ_n ?_
    refine XK.condT rfl ?_
    refine XK.skip S9 ?_
    refine seqQ_n ?_
    refine XK.seq ?_
    refine XK.block ?_
    refine XK.seq ?_
    refine XK.op0' S9 ?_
    refine OG_p rfl ?_
    refine OG_p rfl ?_
    refine OG_p (op_shr rfl rfl (by omega)) ?_
    refine OG_p (op_and1 rfl rfl (div_lt62 (Nat.lt_trans hb (by omega)))) ?_
    refine OG_p rfl ?_
    refine OG_nil ?_
    refine seqQ_n ?_
    refine XK.cond rfl (fun h1 => ?_) (fun h1 => ?_)
    · skip
      have ho : b / 2 ^ i % 2 = 1 := Int.ofNat_inj.1 (of_decide_eq_true h1)
      refine XK.op0' S9 ?_
      refine OG_p rfl ?_
      refine OG_p rfl ?_
      refine OG_p rfl ?_
      refine OG_p (op_shl rfl rfl (by omega) (Nat.lt_trans (shl_lt ha (by omega)) (by omega))) ?_
      refine OG_p (op_xor rfl rfl (Nat.lt_trans hm (by omega)) (Nat.lt_trans (shl_lt ha (by omega)) (by omega))) ?_
      refine OG_p rfl ?_
      refine OG_nil ?_
      refine blockQ_n ?_
      refine seqQ_n ?_
      refine XK.op0' S9 ?_
      refine OG_p rfl ?_
      refine OG_p (op_add rfl rfl (by omega)) ?_
      refine OG_p rfl ?_
      refine OG_nil ?_
      refine loopQ_n ?_
      first
        | (refine XL.less (t1 := ofPL [(p0, N6 a), (p1, N6 b), (p5, N6 ((m ^^^ (a * 2 ^ i)))), (p6, N6 (i + 1))]) (Le.cons (p := p0) rfl rfl (Le.cons (p := p1) rfl rfl (Le.cons (p := p5) rfl rfl (Le.cons (p := p6) rfl rfl Le.nil)))) (Le.refl _) ?_
           exact ih (i + 1) _ _ (by omega) (Nat.xor_lt_two_pow (n := 16) hm (shl_lt ha (by omega))) fun t' n' hle => hQ t' n' (by rw [mulF, if_pos ho]; exact hle))
        | (refine XL.less (t1 := ofPL [(p0, N6 a), (p1, N6 b), (p5, N6 (m)), (p6, N6 (i + 1))]) (Le.cons (p := p0) rfl rfl (Le.cons (p := p1) rfl rfl (Le.cons (p := p5) rfl rfl (Le.cons (p := p6) rfl rfl Le.nil)))) (Le.refl _) ?_
           exact ih (i + 1) _ _ (by omega) (hm) fun t' n' hle => hQ t' n' (by rw [mulF, if_neg ho]; exact hle))
    · skip
      have ho : ¬ b / 2 ^ i % 2 = 1 := fun h => of_decide_eq_false h1 (congrArg Int.ofNat h)
      refine XK.skip S9 ?_
      refine blockQ_n ?_
      refine seqQ_n ?_
      refine XK.op0' S9 ?_
      refine OG_p rfl ?_
      refine OG_p (op_add rfl rfl (by omega)) ?_
      refine OG_p rfl ?_
      refine OG_nil ?_
      refine loopQ_n ?_
      first
        | (refine XL.less (t1 := ofPL [(p0, N6 a), (p1, N6 b), (p5, N6 ((m ^^^ (a * 2 ^ i)))), (p6, N6 (i + 1))]) (Le.cons (p := p0) rfl rfl (Le.cons (p := p1) rfl rfl (Le.cons (p := p5) rfl rfl (Le.cons (p := p6) rfl rfl Le.nil)))) (Le.refl _) ?_
           exact ih (i + 1) _ _ (by omega) (Nat.xor_lt_two_pow (n := 16) hm (shl_lt ha (by omega))) fun t' n' hle => hQ t' n' (by rw [mulF, if_pos ho]; exact hle))
        | (refine XL.less (t1 := ofPL [(p0, N6 a), (p1, N6 b), (p5, N6 (m)), (p6, N6 (i + 1))]) (Le.cons (p := p0) rfl rfl (Le.cons (p := p1) rfl rfl (Le.cons (p := p5) rfl rfl (Le.cons (p := p6) rfl rfl Le.nil)))) (Le.refl _) ?_
           exact ih (i + 1) _ _ (by omega) (hm) fun t' n' hle => hQ t' n' (by rw [mulF, if_neg ho]; exact hle))

theorem red_L (Q : E → T X → H → Pt → Prop) : ∀ (k i m : Nat) (n : Pt), i = k + 7 → k < 8 → m < 2 ^ 16 → (∀ t' n', Le (ofPL [(p5, N6 (redF k i m))]) t' → Q (.exit 2) t' .e n') →
    XL Tryd.prog eqs9 37 k63L1 (ofPL [(p5, N6 (m)), (p7, N6 (i))]) .e n Q := by
  intro k
  induction k with
  | zero =>
    intro i m n hi hk hm hQ
    refine XL.body ?_
    refine XK.seq ?_
    refine XK.seq ?_
    refine XK.op0' S9 ?_
    refine OG_p rfl ?_
    refine OG_p (show opP _ _ = some (X.bool false) from fls (show ¬ ((8 : Nat) : Int) ≤ (i : Int) by omega)) ?_
    refine OG_nil ?_
    refine seqQ_n ?_
    refine XK.condF rfl ?_
    refine XK.exit S9 ?_
    refine seqQ_x ?_
    refine loopQ_x ?_
    exact hQ _ _ (Le.cons (p := p5) rfl rfl Le.nil)
  | succ k ih =>
    intro i m n hi hk hm hQ
    refine XL.body ?_
    refine XK.seq ?_
    refine XK.seq ?_
    refine XK.op0' S9 ?_
    refine OG_p rfl ?_
    refine OG_p (show opP _ _ = some (X.bool true) from tru (show ((8 : Nat) : Int) ≤ (i : Int) by omega)) ?_
    refine OG_nil ?_
    refine seqQ_n ?_
    refine XK.condT rfl ?_
    refine XK.skip S9 ?_
    refine seqQ_n ?_
    refine XK.seq ?_
    refine XK.block ?_
    refine XK.seq ?_
    refine XK.op0' S9 ?_
    refine OG_p rfl ?_
    refine OG_p rfl ?_
    refine OG_p (op_shr rfl rfl (by omega)) ?_
    refine OG_p (op_and1 rfl rfl (div_lt62 hm)) ?_
    refine OG_p rfl ?_
    refine OG_nil ?_
    refine seqQ_n ?_
    refine XK.cond rfl (fun h1 => ?_) (fun h1 => ?_)
    · skip
      have ho : m / 2 ^ i % 2 = 1 := Int.ofNat_inj.1 (of_decide_eq_true h1)
      refine XK.op0' S9 ?_
      refine OG_p rfl ?_
      refine OG_p rfl ?_
      refine OG_p (op_sub rfl rfl (by omega) (by omega)) ?_
      refine OG_p (op_shl rfl rfl (by omega) (Nat.lt_trans (s285_lt (by omega)) (by omega))) ?_
      refine OG_p (op_xor rfl rfl (Nat.lt_trans hm (by omega)) (Nat.lt_trans (s285_lt (by omega)) (by omega))) ?_
      refine OG_p rfl ?_
      refine OG_nil ?_
      refine blockQ_n ?_
      refine seqQ_n ?_
      refine XK.op0' S9 ?_
      refine OG_p rfl ?_
      refine OG_p (op_sub rfl rfl (by omega) (by omega)) ?_
      refine OG_p rfl ?_
      refine OG_nil ?_
      refine loopQ_n ?_
      first
        | (refine XL.less (t1 := ofPL [(p5, N6 ((m ^^^ (285 * 2 ^ (i - 8))))), (p7, N6 (i - 1))]) (Le.cons (p := p5) rfl rfl (Le.cons (p := p7) rfl rfl Le.nil)) (Le.refl _) ?_
           exact ih (i - 1) _ _ (by omega) (by omega) (Nat.xor_lt_two_pow (n := 16) hm (s285_lt (by omega))) fun t' n' hle => hQ t' n' (by rw [redF, if_pos ho]; exact hle))
        | (refine XL.less (t1 := ofPL [(p5, N6 (m)), (p7, N6 (i - 1))]) (Le.cons (p := p5) rfl rfl (Le.cons (p := p7) rfl rfl Le.nil)) (Le.refl _) ?_
           exact ih (i - 1) _ _ (by omega) (by omega) (hm) fun t' n' hle => hQ t' n' (by rw [redF, if_neg ho]; exact hle))
    · skip
      have ho : ¬ m / 2 ^ i % 2 = 1 := fun h => of_decide_eq_false h1 (congrArg Int.ofNat h)
      refine XK.skip S9 ?_
      refine blockQ_n ?_
      refine seqQ_n ?_
      refine XK.op0' S9 ?_
      refine OG_p rfl ?_
      refine OG_p (op_sub rfl rfl (by omega) (by omega)) ?_
      refine OG_p rfl ?_
      refine OG_nil ?_
      refine loopQ_n ?_
      first
        | (refine XL.less (t1 := ofPL [(p5, N6 ((m ^^^ (285 * 2 ^ (i - 8))))), (p7, N6 (i - 1))]) (Le.cons (p := p5) rfl rfl (Le.cons (p := p7) rfl rfl Le.nil)) (Le.refl _) ?_
           exact ih (i - 1) _ _ (by omega) (by omega) (Nat.xor_lt_two_pow (n := 16) hm (s285_lt (by omega))) fun t' n' hle => hQ t' n' (by rw [redF, if_pos ho]; exact hle))
        | (refine XL.less (t1 := ofPL [(p5, N6 (m)), (p7, N6 (i - 1))]) (Le.cons (p := p5) rfl rfl (Le.cons (p := p7) rfl rfl Le.nil)) (Le.refl _) ?_
           exact ih (i - 1) _ _ (by omega) (by omega) (hm) fun t' n' hle => hQ t' n' (by rw [redF, if_neg ho]; exact hle))

theorem mulF_lt : ∀ (k a b i m : Nat), a < 256 → i + k = 8 → m < 2 ^ 16 → mulF k a b i m < 2 ^ 16 := by
  intro k
  induction k with
  | zero => intro a b i m _ _ hm; exact hm
  | succ k ih =>
    intro a b i m ha hi hm
    refine ih _ _ _ _ ha (by omega) ?_
    split
    · exact Nat.xor_lt_two_pow (n := 16) hm (shl_lt ha (by omega))
    · exact hm

theorem rtimes_x (a b : Nat) (ha : a < 256) (hb : b < 256) : XF Tryd.prog eqs9 63 [N6 a, N6 b] .e .z (fun xx _ _ => xx = N6 (rt a b)) := by
  refine XF.body S9 fk63 rfl ?_
  refine XK.seq ?_
  refine XK.op S9 rfl ?_
  refine seqQ_n ?_
  refine XK.seq ?_
  refine XK.op S9 rfl ?_
  refine seqQ_n ?_
  refine XK.seq ?_
  refine XK.seq ?_
  refine XK.op S9 rfl ?_
  refine seqQ_n ?_
  refine XK.block ?_
  refine XK.loop ?_
  refine XL.less (t1 := ofPL [(p0, N6 a), (p1, N6 b), (p5, N6 0), (p6, N6 0)]) (Le.cons (p := p0) rfl rfl (Le.cons (p := p1) rfl rfl (Le.cons (p := p5) rfl rfl (Le.cons (p := p6) rfl rfl Le.nil)))) (Le.refl _) ?_
  refine mul_L _ a b ha hb 8 0 0 _ rfl (by omega) (fun t' n' hle => ?_)
  refine blockQ_h rfl ?_
  refine seqQ_n ?_
  refine XK.less hle (Le.refl _) ?_
  refine XK.seq ?_
  refine XK.seq ?_
  refine XK.op S9 rfl ?_
  refine seqQ_n ?_
  refine XK.block ?_
  refine XK.loop ?_
  refine XL.less (t1 := ofPL [(p5, N6 (mulF 8 a b 0 0)), (p7, N6 14)]) (Le.cons (p := p5) rfl rfl (Le.cons (p := p7) rfl rfl Le.nil)) (Le.refl _) ?_
  refine red_L _ 7 14 _ _ rfl (by omega) (mulF_lt 8 a b 0 0 ha rfl (by omega)) (fun t' n' hle => ?_)
  refine blockQ_h rfl ?_
  refine seqQ_n ?_
  refine XK.less hle (Le.refl _) ?_
  refine XK.seq ?_
  refine XK.op S9 rfl ?_
  refine seqQ_n ?_
  refine XK.ret S9 ?_
  exact ⟨_, rfl, rfl⟩

theorem rtimes_c (a b : Nat) (ha : a < 256) (hb : b < 256) : Pure1 eqs9.gs Tryd.prog 63 [N6 a, N6 b] (N6 (rt a b)) := fun hh nn => (rtimes_x a b ha hb).pure rfl rfl hh nn

theorem elemT_x (x : Int) (h : (0 : Int) ≤ x) : XF Tryd.prog eqs9 62 [I6 x] .e .z (fun xx _ _ => xx = BX (decide (x ≤ 255))) := by
  refine XF.body S9 fk62 rfl ?_
  refine XK.seq ?_
  refine XK.op S9 rfl ?_
  refine seqQ_n ?_
  refine XK.seq ?_
  refine XK.op0' S9 ?_
  refine OG_p rfl ?_
  refine OG_p (show opP _ _ = some (X.bool true) from tru (h)) ?_
  refine OG_p rfl ?_
  refine OG_y (rfl) rfl ?_
  refine OG_y (rfl) rfl ?_
  refine OG_p rfl ?_
  refine OG_p rfl ?_
  refine OG_nil ?_
  refine seqQ_n ?_
  refine XK.ret S9 ?_
  exact ⟨_, rfl, rfl⟩

theorem elemT_c (x : Int) (h : (0 : Int) ≤ x) : Pure1 eqs9.gs Tryd.prog 62 [I6 x] (BX (decide (x ≤ 255))) := fun hh nn => (elemT_x x h).pure rfl rfl hh nn

theorem elemF_x (x : Int) (h : ¬ (0 : Int) ≤ x) : XF Tryd.prog eqs9 62 [I6 x] .e .z (fun xx _ _ => xx = BX false) := by
  refine XF.body S9 fk62 rfl ?_
  refine XK.seq ?_
  refine XK.op S9 rfl ?_
  refine seqQ_n ?_
  refine XK.seq ?_
  refine XK.op0' S9 ?_
  refine OG_p rfl ?_
  refine OG_p (show opP _ _ = some (X.bool false) from fls (h)) ?_
  refine OG_p rfl ?_
  refine OG_o (rfl) rfl ?_
  refine OG_o (rfl) rfl ?_
  refine OG_p rfl ?_
  refine OG_p rfl ?_
  refine OG_nil ?_
  refine seqQ_n ?_
  refine XK.ret S9 ?_
  exact ⟨_, rfl, rfl⟩

theorem elemF_c (x : Int) (h : ¬ (0 : Int) ≤ x) : Pure1 eqs9.gs Tryd.prog 62 [I6 x] (BX false) := fun hh nn => (elemF_x x h).pure rfl rfl hh nn

theorem elem_c (x : Int) : Pure1 eqs9.gs Tryd.prog 62 [I6 x] (BX (el x)) := by
  unfold el inI
  by_cases h : (0 : Int) ≤ x
  · rw [decide_eq_true h]; exact elemT_c x h
  · rw [decide_eq_false h]; exact elemF_c x h
theorem elemTT (n : Nat) (h : n < 256) : Pure1 eqs9.gs Tryd.prog 62 [N6 n] (BX true) := by
  have := elem_c (Int.ofNat n)
  rw [el_of h] at this; exact this
theorem elemFF (x : Int) (h : el x = false) : Pure1 eqs9.gs Tryd.prog 62 [I6 x] (BX false) := by
  have := elem_c x
  rw [h] at this; exact this

theorem elne {a : Nat} {y : Int} (ha : a < 256) (h1 : el y = false) : [N6 a] ≠ [I6 y] := fun h => by
  have h2 : Int.ofNat a = y := by injection h with h3 h4; injection h3
  rw [← h2, el_of ha] at h1; cases h1

theorem Times1_x (x y : Int) (h1 : el x = false) : XF Tryd.prog eqs9 11 [I6 x, I6 y] .e .z (fun xx _ _ => xx = X.tup [N6 0, N6 1]) := by
  refine XF.body S9 fk11 rfl ?_
  refine XK.seq ?_
  refine XK.op S9 rfl ?_
  refine seqQ_n ?_
  refine XK.seq ?_
  refine XK.seq ?_
  refine XK.reg1 S9 (isElF x h1) fun call hcl => ?_
  refine OG_p rfl ?_
  refine OG_c rfl hcl ?_
  refine OG_p rfl ?_
  refine OG_p rfl ?_
  refine OG_o (rfl) rfl ?_
  refine OG_o (rfl) rfl ?_
  refine OG_o (rfl) rfl ?_
  refine OG_p rfl ?_
  refine OG_nil ?_
  refine seqQ_n ?_
  refine XK.condT rfl ?_
  refine XK.seq ?_
  refine XK.op S9 rfl ?_
  refine seqQ_n ?_
  refine XK.ret S9 ?_
  refine seqQ_r ?_
  exact ⟨_, rfl, rfl⟩

theorem Times1_c (x y : Int) (h1 : el x = false) : Pure1 eqs9.gs Tryd.prog 11 [I6 x, I6 y] (X.tup [N6 0, N6 1]) := fun hh nn => (Times1_x x y h1).pure rfl rfl hh nn

theorem Times2_x (a : Nat) (y : Int) (ha : a < 256) (h1 : el y = false) : XF Tryd.prog eqs9 11 [N6 a, I6 y] .e .z (fun xx _ _ => xx = X.tup [N6 0, N6 1]) := by
  refine XF.body S9 fk11 rfl ?_
  refine XK.seq ?_
  refine XK.op S9 rfl ?_
  refine seqQ_n ?_
  refine XK.seq ?_
  refine XK.seq ?_
  refine XK.reg2 S9 (isElT a ha) (isElF y h1) (.inr (.inl (elne ha h1))) fun call hcl hcm => ?_
  refine OG_p rfl ?_
  refine OG_c rfl hcl ?_
  refine OG_p rfl ?_
  refine OG_p rfl ?_
  refine OG_y (rfl) rfl ?_
  refine OG_y (rfl) (st_call rfl hcm) ?_
  refine OG_y (rfl) rfl ?_
  refine OG_p rfl ?_
  refine OG_nil ?_
  refine seqQ_n ?_
  refine XK.condT rfl ?_
  refine XK.seq ?_
  refine XK.op S9 rfl ?_
  refine seqQ_n ?_
  refine XK.ret S9 ?_
  refine seqQ_r ?_
  exact ⟨_, rfl, rfl⟩

theorem Times2_c (a : Nat) (y : Int) (ha : a < 256) (h1 : el y = false) : Pure1 eqs9.gs Tryd.prog 11 [N6 a, I6 y] (X.tup [N6 0, N6 1]) := fun hh nn => (Times2_x a y ha h1).pure rfl rfl hh nn

theorem RTimesT_x (a b : Nat) (ha : a < 256) (hb : b < 256) : XF Tryd.prog eqs9 12 [N6 a, N6 b] .e .z (fun xx _ _ => xx = X.tup [N6 (rt a b), N6 0]) := by
  refine XF.body S9 fk12 rfl ?_
  refine XK.seq ?_
  refine XK.op S9 rfl ?_
  refine seqQ_n ?_
  refine XK.seq ?_
  refine XK.seq ?_
  refine XK.reg2 S9 (elemTT a ha) (elemTT b hb) (.inr (if hab : a = b then .inr rfl else .inl fun h => hab (by simp at h; omega))) fun call hcl hcm => ?_
  refine OG_p rfl ?_
  refine OG_c rfl hcl ?_
  refine OG_p rfl ?_
  refine OG_p rfl ?_
  refine OG_y (rfl) rfl ?_
  refine OG_y (rfl) (st_call rfl hcm) ?_
  refine OG_y (rfl) rfl ?_
  refine OG_p rfl ?_
  refine OG_nil ?_
  refine seqQ_n ?_
  refine XK.condF rfl ?_
  refine XK.skip S9 ?_
  refine seqQ_n ?_
  refine XK.seq ?_
  refine XK.reg1 S9 (rtimes_c a b ha hb) fun call hcl => ?_
  refine OG_p rfl ?_
  refine OG_p rfl ?_
  refine OG_c rfl hcl ?_
  refine OG_p rfl ?_
  refine OG_p rfl ?_
  refine OG_nil ?_
  refine seqQ_n ?_
  refine XK.ret S9 ?_
  exact ⟨_, rfl, rfl⟩

theorem RTimesT_c (a b : Nat) (ha : a < 256) (hb : b < 256) : Pure1 eqs9.gs Tryd.prog 12 [N6 a, N6 b] (X.tup [N6 (rt a b), N6 0]) := fun hh nn => (RTimesT_x a b ha hb).pure rfl rfl hh nn

theorem RTimes1_x (x y : Int) (h1 : el x = false) : XF Tryd.prog eqs9 12 [I6 x, I6 y] .e .z (fun xx _ _ => xx = X.tup [N6 0, N6 1]) := by
  refine XF.body S9 fk12 rfl ?_
  refine XK.seq ?_
  refine XK.op S9 rfl ?_
  refine seqQ_n ?_
  refine XK.seq ?_
  refine XK.seq ?_
  refine XK.reg1 S9 (elemFF x h1) fun call hcl => ?_
  refine OG_p rfl ?_
  refine OG_c rfl hcl ?_
  refine OG_p rfl ?_
  refine OG_p rfl ?_
  refine OG_o (rfl) rfl ?_
  refine OG_o (rfl) rfl ?_
  refine OG_o (rfl) rfl ?_
  refine OG_p rfl ?_
  refine OG_nil ?_
  refine seqQ_n ?_
  refine XK.condT rfl ?_
  refine XK.seq ?_
  refine XK.op S9 rfl ?_
  refine seqQ_n ?_
  refine XK.ret S9 ?_
  refine seqQ_r ?_
  exact ⟨_, rfl, rfl⟩

theorem RTimes1_c (x y : Int) (h1 : el x = false) : Pure1 eqs9.gs Tryd.prog 12 [I6 x, I6 y] (X.tup [N6 0, N6 1]) := fun hh nn => (RTimes1_x x y h1).pure rfl rfl hh nn

theorem RTimes2_x (a : Nat) (y : Int) (ha : a < 256) (h1 : el y = false) : XF Tryd.prog eqs9 12 [N6 a, I6 y] .e .z (fun xx _ _ => xx = X.tup [N6 0, N6 1]) := by
  refine XF.body S9 fk12 rfl ?_
  refine XK.seq ?_
  refine XK.op S9 rfl ?_
  refine seqQ_n ?_
  refine XK.seq ?_
  refine XK.seq ?_
  refine XK.reg2 S9 (elemTT a ha) (elemFF y h1) (.inr (.inl (elne ha h1))) fun call hcl hcm => ?_
  refine OG_p rfl ?_
  refine OG_c rfl hcl ?_
  refine OG_p rfl ?_
  refine OG_p rfl ?_
  refine OG_y (rfl) rfl ?_
  refine OG_y (rfl) (st_call rfl hcm) ?_
  refine OG_y (rfl) rfl ?_
  refine OG_p rfl ?_
  refine OG_nil ?_
  refine seqQ_n ?_
  refine XK.condT rfl ?_
  refine XK.seq ?_
  refine XK.op S9 rfl ?_
  refine seqQ_n ?_
  refine XK.ret S9 ?_
  refine seqQ_r ?_
  exact ⟨_, rfl, rfl⟩

theorem RTimes2_c (a : Nat) (y : Int) (ha : a < 256) (h1 : el y = false) : Pure1 eqs9.gs Tryd.prog 12 [N6 a, I6 y] (X.tup [N6 0, N6 1]) := fun hh nn => (RTimes2_x a y ha h1).pure rfl rfl hh nn

theorem Inverse1_x (x : Int) (h1 : el x = false) : XF Tryd.prog eqs9 13 [I6 x] .e .z (fun xx _ _ => xx = X.tup [N6 0, N6 1]) := by
  refine XF.body S9 fk13 rfl ?_
  refine XK.seq ?_
  refine XK.op S9 rfl ?_
  refine seqQ_n ?_
  refine XK.seq ?_
  refine XK.seq ?_
  refine XK.reg1 S9 (isElF x h1) fun call hcl => ?_
  refine OG_p rfl ?_
  refine OG_c rfl hcl ?_
  refine OG_p rfl ?_
  refine OG_p rfl ?_
  refine OG_o (rfl) rfl ?_
  refine OG_o (rfl) rfl ?_
  refine OG_p rfl ?_
  refine OG_nil ?_
  refine seqQ_n ?_
  refine XK.condT rfl ?_
  refine XK.seq ?_
  refine XK.op S9 rfl ?_
  refine seqQ_n ?_
  refine XK.ret S9 ?_
  refine seqQ_r ?_
  exact ⟨_, rfl, rfl⟩

theorem Inverse1_c (x : Int) (h1 : el x = false) : Pure1 eqs9.gs Tryd.prog 13 [I6 x] (X.tup [N6 0, N6 1]) := fun hh nn => (Inverse1_x x h1).pure rfl rfl hh nn

theorem RInverse1_x (x : Int) (h1 : el x = false) : XF Tryd.prog eqs9 14 [I6 x] .e .z (fun xx _ _ => xx = X.tup [N6 0, N6 1]) := by
  refine XF.body S9 fk14 rfl ?_
  refine XK.seq ?_
  refine XK.op S9 rfl ?_
  refine seqQ_n ?_
  refine XK.seq ?_
  refine XK.seq ?_
  refine XK.reg1 S9 (elemFF x h1) fun call hcl => ?_
  refine OG_p rfl ?_
  refine OG_c rfl hcl ?_
  refine OG_p rfl ?_
  refine OG_p rfl ?_
  refine OG_o (rfl) rfl ?_
  refine OG_o (rfl) rfl ?_
  refine OG_p rfl ?_
  refine OG_nil ?_
  refine seqQ_n ?_
  refine XK.condT rfl ?_
  refine XK.seq ?_
  refine XK.op S9 rfl ?_
  refine seqQ_n ?_
  refine XK.ret S9 ?_
  refine seqQ_r ?_
  exact ⟨_, rfl, rfl⟩

theorem RInverse1_c (x : Int) (h1 : el x = false) : Pure1 eqs9.gs Tryd.prog 14 [I6 x] (X.tup [N6 0, N6 1]) := fun hh nn => (RInverse1_x x h1).pure rfl rfl hh nn

theorem RInverseZ_x  : XF Tryd.prog eqs9 14 [N6 0] .e .z (fun xx _ _ => xx = X.tup [N6 0, N6 1]) := by
  refine XF.body S9 fk14 rfl ?_
  refine XK.seq ?_
  refine XK.op S9 rfl ?_
  refine seqQ_n ?_
  refine XK.seq ?_
  refine XK.seq ?_
  refine XK.reg1 S9 (elemTT 0 (by omega)) fun call hcl => ?_
  refine OG_p rfl ?_
  refine OG_c rfl hcl ?_
  refine OG_p rfl ?_
  refine OG_p rfl ?_
  refine OG_y (rfl) rfl ?_
  refine OG_y (rfl) rfl ?_
  refine OG_p rfl ?_
  refine OG_nil ?_
  refine seqQ_n ?_
  refine XK.condT rfl ?_
  refine XK.seq ?_
  refine XK.op S9 rfl ?_
  refine seqQ_n ?_
  refine XK.ret S9 ?_
  refine seqQ_r ?_
  exact ⟨_, rfl, rfl⟩

theorem RInverseZ_c  : Pure1 eqs9.gs Tryd.prog 14 [N6 0] (X.tup [N6 0, N6 1]) := fun hh nn => (RInverseZ_x ).pure rfl rfl hh nn

def apF (s u : List UInt8) : Nat → Nat → Nat → Nat
  | 0, _, c => c
  | k + 1, i, c => apF s u k (i + 1) (if s[i]? = u[i]? then c else c + 1)
theorem at_some {s : List UInt8} {i : Nat} (h : i < s.length) : ∃ b, s[i]? = some b := ⟨s[i], List.getElem?_eq_getElem h⟩
theorem u8_eq {b c : UInt8} (h : Int.ofNat b.toNat = Int.ofNat c.toNat) : b = c := UInt8.toNat_inj.1 (Int.ofNat_inj.1 h)

theorem apart_L (Q : E → T X → H → Pt → Prop) (s u : List UInt8) (hs : s.length ≤ 300) (hu : s.length = u.length) : ∀ (k i c : Nat) (n : Pt), i + k = s.length → c ≤ i → (∀ t' n', Le (ofPL [(p6, N6 (apF s u k i c))]) t' → Q (.exit 0) t' .e n') →
    XL Tryd.prog eqs9 29 k17L0 (ofPL [(p0, .str s), (p1, .str u), (p14, N6 s.length), (p6, N6 (c)), (p15, N6 (i))]) .e n Q := by
  intro k
  induction k with
  | zero =>
    intro i c n hi hc hQ
    refine XL.body ?_
    refine XK.seq ?_
    refine XK.op0' S9 ?_
    refine OG_p (op_nlt rfl rfl (by omega)) ?_
    refine OG_nil ?_
    refine seqQ_n ?_
    refine XK.seq ?_
    refine XK.condF rfl ?_
    refine XK.exit S9 ?_
    refine seqQ_x ?_
    refine loopQ_x ?_
    exact hQ _ _ (Le.cons (p := p6) rfl rfl Le.nil)
  | succ k ih =>
    intro i c n hi hc hQ
    obtain ⟨b1, hb1⟩ := at_some (s := s) (i := i) (by omega)
    obtain ⟨b2, hb2⟩ := at_some (s := u) (i := i) (by omega)
    refine XL.body ?_
    refine XK.seq ?_
    refine XK.op0' S9 ?_
    refine OG_p (op_lt rfl rfl (by omega)) ?_
    refine OG_nil ?_
    refine seqQ_n ?_
    refine XK.seq ?_
    refine XK.condT rfl ?_
    refine XK.skip S9 ?_
    refine seqQ_n ?_
    refine XK.seq ?_
    refine XK.block ?_
    refine XK.seq ?_
    refine XK.op S9 rfl ?_
    refine seqQ_n ?_
    refine XK.seq ?_
    refine XK.dr0 S9 ?_
    refine SG_p rfl ?_
    refine SG_p rfl ?_
    refine SG_p (op_sidx rfl rfl hb1) ?_
    refine SG_p rfl ?_
    refine SG_p rfl ?_
    refine SG_p (op_sidx rfl rfl hb2) ?_
    refine SG_p rfl ?_
    refine SG_nil ?_
    refine seqQ_n ?_
    refine XK.cond rfl (fun h1 => ?_) (fun h1 => ?_)
    · skip
      have ho : ¬ s[i]? = u[i]? := fun hh => by
        rw [hb1, hb2] at hh
        cases hh
        simp at h1
      refine XK.op0' S9 ?_
      refine OG_p rfl ?_
      refine OG_p (op_add rfl rfl (by omega)) ?_
      refine OG_p rfl ?_
      refine OG_nil ?_
      refine blockQ_n ?_
      refine seqQ_n ?_
      refine XK.op0' S9 ?_
      refine OG_p (op_add rfl rfl (by omega)) ?_
      refine OG_p rfl ?_
      refine OG_nil ?_
      refine loopQ_n ?_
      first
        | (refine XL.less (t1 := ofPL [(p0, .str s), (p1, .str u), (p14, N6 s.length), (p6, N6 (c)), (p15, N6 (i + 1))]) (Le.cons (p := p0) rfl rfl (Le.cons (p := p1) rfl rfl (Le.cons (p := p14) rfl rfl (Le.cons (p := p6) rfl rfl (Le.cons (p := p15) rfl rfl Le.nil))))) (Le.refl _) ?_
           exact ih (i + 1) _ _ (by omega) (by omega) fun t' n' hle => hQ t' n' (by rw [apF, if_pos ho]; exact hle))
        | (refine XL.less (t1 := ofPL [(p0, .str s), (p1, .str u), (p14, N6 s.length), (p6, N6 (c + 1)), (p15, N6 (i + 1))]) (Le.cons (p := p0) rfl rfl (Le.cons (p := p1) rfl rfl (Le.cons (p := p14) rfl rfl (Le.cons (p := p6) rfl rfl (Le.cons (p := p15) rfl rfl Le.nil))))) (Le.refl _) ?_
           exact ih (i + 1) _ _ (by omega) (by omega) fun t' n' hle => hQ t' n' (by rw [apF, if_neg ho]; exact hle))
    · skip
      have ho : s[i]? = u[i]? := by
        rw [hb1, hb2]
        refine congrArg some (u8_eq ?_)
        have := h1
        simp only [Bool.not_eq_false', decide_eq_true_eq] at this
        exact this
      refine XK.skip S9 ?_
      refine blockQ_n ?_
      refine seqQ_n ?_
      refine XK.op0' S9 ?_
      refine OG_p (op_add rfl rfl (by omega)) ?_
      refine OG_p rfl ?_
      refine OG_nil ?_
      refine loopQ_n ?_
      first
        | (refine XL.less (t1 := ofPL [(p0, .str s), (p1, .str u), (p14, N6 s.length), (p6, N6 (c)), (p15, N6 (i + 1))]) (Le.cons (p := p0) rfl rfl (Le.cons (p := p1) rfl rfl (Le.cons (p := p14) rfl rfl (Le.cons (p := p6) rfl rfl (Le.cons (p := p15) rfl rfl Le.nil))))) (Le.refl _) ?_
           exact ih (i + 1) _ _ (by omega) (by omega) fun t' n' hle => hQ t' n' (by rw [apF, if_pos ho]; exact hle))
        | (refine XL.less (t1 := ofPL [(p0, .str s), (p1, .str u), (p14, N6 s.length), (p6, N6 (c + 1)), (p15, N6 (i + 1))]) (Le.cons (p := p0) rfl rfl (Le.cons (p := p1) rfl rfl (Le.cons (p := p14) rfl rfl (Le.cons (p := p6) rfl rfl (Le.cons (p := p15) rfl rfl Le.nil))))) (Le.refl _) ?_
           exact ih (i + 1) _ _ (by omega) (by omega) fun t' n' hle => hQ t' n' (by rw [apF, if_neg ho]; exact hle))

theorem apartT_x (s u : List UInt8) (hs : s.length ≤ 300) (hu : s.length = u.length) : XF Tryd.prog eqs9 17 [.str s, .str u] .e .z (fun xx _ _ => xx = X.tup [N6 (apF s u s.length 0 0), BX true]) := by
  refine XF.body S9 fk17 rfl ?_
  refine XK.seq ?_
  refine XK.op S9 rfl ?_
  refine seqQ_n ?_
  refine XK.seq ?_
  refine XK.seq ?_
  refine XK.op0' S9 ?_
  refine OG_p rfl ?_
  refine OG_p rfl ?_
  refine OG_p rfl ?_
  refine OG_p rfl ?_
  refine OG_p (show opP _ _ = some (X.bool false) from ntru (show (s.length : Int) = (u.length : Int) by omega)) ?_
  refine OG_nil ?_
  refine seqQ_n ?_
  refine XK.condF rfl ?_
  refine XK.skip S9 ?_
  refine seqQ_n ?_
  refine XK.seq ?_
  refine XK.op S9 rfl ?_
  refine seqQ_n ?_
  refine XK.seq ?_
  refine XK.seq ?_
  refine XK.op S9 rfl ?_
  refine seqQ_n ?_
  refine XK.block ?_
  refine XK.loop ?_
  refine XL.less (t1 := ofPL [(p0, .str s), (p1, .str u), (p14, N6 s.length), (p6, N6 0), (p15, N6 0)]) (Le.cons (p := p0) rfl rfl (Le.cons (p := p1) rfl rfl (Le.cons (p := p14) rfl rfl (Le.cons (p := p6) rfl rfl (Le.cons (p := p15) rfl rfl Le.nil))))) (Le.refl _) ?_
  refine apart_L _ s u hs hu s.length 0 0 _ (by omega) (by omega) (fun t' n' hle => ?_)
  refine blockQ_h rfl ?_
  refine seqQ_n ?_
  refine XK.less hle (Le.refl _) ?_
  refine XK.seq ?_
  refine XK.op S9 rfl ?_
  refine seqQ_n ?_
  refine XK.ret S9 ?_
  exact ⟨_, rfl, rfl⟩

theorem apartT_c (s u : List UInt8) (hs : s.length ≤ 300) (hu : s.length = u.length) : Pure1 eqs9.gs Tryd.prog 17 [.str s, .str u] (X.tup [N6 (apF s u s.length 0 0), BX true]) := fun hh nn => (apartT_x s u hs hu).pure rfl rfl hh nn

theorem apartF_x (s u : List UInt8) (hu : ¬ s.length = u.length) : XF Tryd.prog eqs9 17 [.str s, .str u] .e .z (fun xx _ _ => xx = X.tup [N6 0, BX false]) := by
  refine XF.body S9 fk17 rfl ?_
  refine XK.seq ?_
  refine XK.op S9 rfl ?_
  refine seqQ_n ?_
  refine XK.seq ?_
  refine XK.seq ?_
  refine XK.op0' S9 ?_
  refine OG_p rfl ?_
  refine OG_p rfl ?_
  refine OG_p rfl ?_
  refine OG_p rfl ?_
  refine OG_p (show opP _ _ = some (X.bool true) from nfls (show ¬ (s.length : Int) = (u.length : Int) by omega)) ?_
  refine OG_nil ?_
  refine seqQ_n ?_
  refine XK.condT rfl ?_
  refine XK.seq ?_
  refine XK.op S9 rfl ?_
  refine seqQ_n ?_
  refine XK.ret S9 ?_
  refine seqQ_r ?_
  exact ⟨_, rfl, rfl⟩

theorem apartF_c (s u : List UInt8) (hu : ¬ s.length = u.length) : Pure1 eqs9.gs Tryd.prog 17 [.str s, .str u] (X.tup [N6 0, BX false]) := fun hh nn => (apartF_x s u hu).pure rfl rfl hh nn

theorem rapart_L (Q : E → T X → H → Pt → Prop) (s u : List UInt8) (hs : s.length ≤ 300) (hu : s.length = u.length) : ∀ (k i c : Nat) (n : Pt), i + k = s.length → c ≤ i → (∀ t' n', Le (ofPL [(p6, N6 (apF s u k i c))]) t' → Q (.exit 0) t' .e n') →
    XL Tryd.prog eqs9 29 k18L0 (ofPL [(p0, .str s), (p1, .str u), (p6, N6 (c)), (p7, N6 (i))]) .e n Q := by
  intro k
  induction k with
  | zero =>
    intro i c n hi hc hQ
    refine XL.body ?_
    refine XK.seq ?_
    refine XK.seq ?_
    refine XK.op0' S9 ?_
    refine OG_p rfl ?_
    refine OG_p rfl ?_
    refine OG_p rfl ?_
    refine OG_p (op_nlt rfl rfl (by omega)) ?_
    refine OG_nil ?_
    refine seqQ_n ?_
    refine XK.condF rfl ?_
    refine XK.exit S9 ?_
    refine seqQ_x ?_
    refine loopQ_x ?_
    exact hQ _ _ (Le.cons (p := p6) rfl rfl Le.nil)
  | succ k ih =>
    intro i c n hi hc hQ
    obtain ⟨b1, hb1⟩ := at_some (s := s) (i := i) (by omega)
    obtain ⟨b2, hb2⟩ := at_some (s := u) (i := i) (by omega)
    refine XL.body ?_
    refine XK.seq ?_
    refine XK.seq ?_
    refine XK.op0' S9 ?_
    refine OG_p rfl ?_
    refine OG_p rfl ?_
    refine OG_p rfl ?_
    refine OG_p (op_lt rfl rfl (by omega)) ?_
    refine OG_nil ?_
    refine seqQ_n ?_
    refine XK.condT rfl ?_
    refine XK.skip S9 ?_
    refine seqQ_n ?_
    refine XK.seq ?_
    refine XK.block ?_
    refine XK.seq ?_
    refine XK.dr0 S9 ?_
    refine SG_p rfl ?_
    refine SG_p rfl ?_
    refine SG_p (op_sidx rfl rfl hb1) ?_
    refine SG_p rfl ?_
    refine SG_p rfl ?_
    refine SG_p (op_sidx rfl rfl hb2) ?_
    refine SG_p rfl ?_
    refine SG_nil ?_
    refine seqQ_n ?_
    refine XK.cond rfl (fun h1 => ?_) (fun h1 => ?_)
    · skip
      have ho : ¬ s[i]? = u[i]? := fun hh => by
        rw [hb1, hb2] at hh
        cases hh
        simp at h1
      refine XK.op0' S9 ?_
      refine OG_p rfl ?_
      refine OG_p (op_add rfl rfl (by omega)) ?_
      refine OG_p rfl ?_
      refine OG_nil ?_
      refine blockQ_n ?_
      refine seqQ_n ?_
      refine XK.op0' S9 ?_
      refine OG_p rfl ?_
      refine OG_p (op_add rfl rfl (by omega)) ?_
      refine OG_p rfl ?_
      refine OG_nil ?_
      refine loopQ_n ?_
      first
        | (refine XL.less (t1 := ofPL [(p0, .str s), (p1, .str u), (p6, N6 (c)), (p7, N6 (i + 1))]) (Le.cons (p := p0) rfl rfl (Le.cons (p := p1) rfl rfl (Le.cons (p := p6) rfl rfl (Le.cons (p := p7) rfl rfl Le.nil)))) (Le.refl _) ?_
           exact ih (i + 1) _ _ (by omega) (by omega) fun t' n' hle => hQ t' n' (by rw [apF, if_pos ho]; exact hle))
        | (refine XL.less (t1 := ofPL [(p0, .str s), (p1, .str u), (p6, N6 (c + 1)), (p7, N6 (i + 1))]) (Le.cons (p := p0) rfl rfl (Le.cons (p := p1) rfl rfl (Le.cons (p := p6) rfl rfl (Le.cons (p := p7) rfl rfl Le.nil)))) (Le.refl _) ?_
           exact ih (i + 1) _ _ (by omega) (by omega) fun t' n' hle => hQ t' n' (by rw [apF, if_neg ho]; exact hle))
    · skip
      have ho : s[i]? = u[i]? := by
        rw [hb1, hb2]
        refine congrArg some (u8_eq ?_)
        have := h1
        simp only [Bool.not_eq_false', decide_eq_true_eq] at this
        exact this
      refine XK.skip S9 ?_
      refine blockQ_n ?_
      refine seqQ_n ?_
      refine XK.op0' S9 ?_
      refine OG_p rfl ?_
      refine OG_p (op_add rfl rfl (by omega)) ?_
      refine OG_p rfl ?_
      refine OG_nil ?_
      refine loopQ_n ?_
      first
        | (refine XL.less (t1 := ofPL [(p0, .str s), (p1, .str u), (p6, N6 (c)), (p7, N6 (i + 1))]) (Le.cons (p := p0) rfl rfl (Le.cons (p := p1) rfl rfl (Le.cons (p := p6) rfl rfl (Le.cons (p := p7) rfl rfl Le.nil)))) (Le.refl _) ?_
           exact ih (i + 1) _ _ (by omega) (by omega) fun t' n' hle => hQ t' n' (by rw [apF, if_pos ho]; exact hle))
        | (refine XL.less (t1 := ofPL [(p0, .str s), (p1, .str u), (p6, N6 (c + 1)), (p7, N6 (i + 1))]) (Le.cons (p := p0) rfl rfl (Le.cons (p := p1) rfl rfl (Le.cons (p := p6) rfl rfl (Le.cons (p := p7) rfl rfl Le.nil)))) (Le.refl _) ?_
           exact ih (i + 1) _ _ (by omega) (by omega) fun t' n' hle => hQ t' n' (by rw [apF, if_neg ho]; exact hle))

theorem rapartT_x (s u : List UInt8) (hs : s.length ≤ 300) (hu : s.length = u.length) : XF Tryd.prog eqs9 18 [.str s, .str u] .e .z (fun xx _ _ => xx = X.tup [N6 (apF s u s.length 0 0), BX true]) := by
  refine XF.body S9 fk18 rfl ?_
  refine XK.seq ?_
  refine XK.op S9 rfl ?_
  refine seqQ_n ?_
  refine XK.seq ?_
  refine XK.seq ?_
  refine XK.op0' S9 ?_
  refine OG_p rfl ?_
  refine OG_p rfl ?_
  refine OG_p rfl ?_
  refine OG_p rfl ?_
  refine OG_p (show opP _ _ = some (X.bool false) from ntru (show (s.length : Int) = (u.length : Int) by omega)) ?_
  refine OG_nil ?_
  refine seqQ_n ?_
  refine XK.condF rfl ?_
  refine XK.skip S9 ?_
  refine seqQ_n ?_
  refine XK.seq ?_
  refine XK.op S9 rfl ?_
  refine seqQ_n ?_
  refine XK.seq ?_
  refine XK.seq ?_
  refine XK.op S9 rfl ?_
  refine seqQ_n ?_
  refine XK.block ?_
  refine XK.loop ?_
  refine XL.less (t1 := ofPL [(p0, .str s), (p1, .str u), (p6, N6 0), (p7, N6 0)]) (Le.cons (p := p0) rfl rfl (Le.cons (p := p1) rfl rfl (Le.cons (p := p6) rfl rfl (Le.cons (p := p7) rfl rfl Le.nil)))) (Le.refl _) ?_
  refine rapart_L _ s u hs hu s.length 0 0 _ (by omega) (by omega) (fun t' n' hle => ?_)
  refine blockQ_h rfl ?_
  refine seqQ_n ?_
  refine XK.less hle (Le.refl _) ?_
  refine XK.seq ?_
  refine XK.op S9 rfl ?_
  refine seqQ_n ?_
  refine XK.ret S9 ?_
  exact ⟨_, rfl, rfl⟩

theorem rapartT_c (s u : List UInt8) (hs : s.length ≤ 300) (hu : s.length = u.length) : Pure1 eqs9.gs Tryd.prog 18 [.str s, .str u] (X.tup [N6 (apF s u s.length 0 0), BX true]) := fun hh nn => (rapartT_x s u hs hu).pure rfl rfl hh nn

theorem rapartF_x (s u : List UInt8) (hu : ¬ s.length = u.length) : XF Tryd.prog eqs9 18 [.str s, .str u] .e .z (fun xx _ _ => xx = X.tup [N6 0, BX false]) := by
  refine XF.body S9 fk18 rfl ?_
  refine XK.seq ?_
  refine XK.op S9 rfl ?_
  refine seqQ_n ?_
  refine XK.seq ?_
  refine XK.seq ?_
  refine XK.op0' S9 ?_
  refine OG_p rfl ?_
  refine OG_p rfl ?_
  refine OG_p rfl ?_
  refine OG_p rfl ?_
  refine OG_p (show opP _ _ = some (X.bool true) from nfls (show ¬ (s.length : Int) = (u.length : Int) by omega)) ?_
  refine OG_nil ?_
  refine seqQ_n ?_
  refine XK.condT rfl ?_
  refine XK.seq ?_
  refine XK.op S9 rfl ?_
  refine seqQ_n ?_
  refine XK.ret S9 ?_
  refine seqQ_r ?_
  exact ⟨_, rfl, rfl⟩

theorem rapartF_c (s u : List UInt8) (hu : ¬ s.length = u.length) : Pure1 eqs9.gs Tryd.prog 18 [.str s, .str u] (X.tup [N6 0, BX false]) := fun hh nn => (rapartF_x s u hu).pure rfl rfl hh nn

end Go.Ex

