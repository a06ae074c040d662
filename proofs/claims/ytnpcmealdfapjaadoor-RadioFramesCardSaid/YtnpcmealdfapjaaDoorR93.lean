/- Is a byte one of the field; times. -/
import Derived.Test.YtnpcmealdfapjaaDoorR92
set_option linter.unusedVariables false
set_option linter.unusedSimpArgs false
set_option maxRecDepth 20000
namespace Go.Ex
open Go.Proofs
theorem isInT_x (x l g : Int) (h : l ≤ x) : XF Tryd.prog eqs9 69 [I6 x, I6 l, I6 g] .e .z (fun xx _ _ => xx = BX (decide (x ≤ g))) := by
  refine XF.body S9 fk69 rfl ?_
  refine XK.seq ?_
  refine XK.op S9 rfl ?_
  refine seqQ_n ?_
  refine XK.seq ?_
  refine XK.op0' S9 ?_
  refine OG_p rfl ?_
  refine OG_p rfl ?_
  refine OG_p (show opP _ _ = some (X.bool true) from tru (h)) ?_
  refine OG_p rfl ?_
  refine OG_cons rfl ?_
  refine OG_cons rfl ?_
  refine OG_cons rfl ?_
  refine OG_p rfl ?_
  refine OG_p rfl ?_
  refine OG_nil ?_
  refine seqQ_n ?_
  refine XK.ret S9 ?_
  exact ⟨_, rfl, rfl⟩

theorem isInT_c (x l g : Int) (h : l ≤ x) : Pure1 eqs9.gs Tryd.prog 69 [I6 x, I6 l, I6 g] (BX (decide (x ≤ g))) := fun hh nn => (isInT_x x l g h).pure rfl rfl hh nn

theorem isInF_x (x l g : Int) (h : ¬ l ≤ x) : XF Tryd.prog eqs9 69 [I6 x, I6 l, I6 g] .e .z (fun xx _ _ => xx = BX false) := by
  refine XF.body S9 fk69 rfl ?_
  refine XK.seq ?_
  refine XK.op S9 rfl ?_
  refine seqQ_n ?_
  refine XK.seq ?_
  refine XK.op0' S9 ?_
  refine OG_p rfl ?_
  refine OG_p rfl ?_
  refine OG_p (show opP _ _ = some (X.bool false) from fls (h)) ?_
  refine OG_p rfl ?_
  refine OG_cons rfl ?_
  refine OG_cons rfl ?_
  refine OG_cons rfl ?_
  refine OG_p rfl ?_
  refine OG_p rfl ?_
  refine OG_nil ?_
  refine seqQ_n ?_
  refine XK.ret S9 ?_
  exact ⟨_, rfl, rfl⟩

theorem isInF_c (x l g : Int) (h : ¬ l ≤ x) : Pure1 eqs9.gs Tryd.prog 69 [I6 x, I6 l, I6 g] (BX false) := fun hh nn => (isInF_x x l g h).pure rfl rfl hh nn

def inI (x l g : Int) : Bool := decide (l ≤ x) && decide (x ≤ g)
theorem isIn_c (x l g : Int) : Pure1 eqs9.gs Tryd.prog 69 [I6 x, I6 l, I6 g] (BX (inI x l g)) := by
  unfold inI
  by_cases h : l ≤ x
  · rw [decide_eq_true h]; exact isInT_c x l g h
  · rw [decide_eq_false h]; exact isInF_c x l g h
def el (x : Int) : Bool := inI x 0 255
theorem el_nat {x : Int} (h : el x = true) : ∃ n : Nat, x = Int.ofNat n ∧ n < 256 := by
  unfold el inI at h
  simp only [Bool.and_eq_true, decide_eq_true_eq] at h
  exact ⟨x.toNat, by show x = (x.toNat : Int); omega, by omega⟩
theorem el_of {n : Nat} (h : n < 256) : el (Int.ofNat n) = true := by
  unfold el inI
  simp only [Bool.and_eq_true, decide_eq_true_eq]
  constructor
  · exact Int.natCast_nonneg n
  · show (n : Int) ≤ 255; omega

theorem isElement_x (x : Int) : XF Tryd.prog eqs9 60 [I6 x] .e .z (fun xx _ _ => xx = BX (el x)) := by
  refine XF.body S9 fk60 rfl ?_
  refine XK.seq ?_
  refine XK.op S9 rfl ?_
  refine seqQ_n ?_
  refine XK.seq ?_
  refine XK.reg1 S9 (isIn_c x 0 255) fun call hcl => ?_
  refine OG_p rfl ?_
  refine OG_c rfl hcl ?_
  refine OG_p rfl ?_
  refine OG_nil ?_
  refine seqQ_n ?_
  refine XK.ret S9 ?_
  exact ⟨_, rfl, rfl⟩

theorem isElement_c (x : Int) : Pure1 eqs9.gs Tryd.prog 60 [I6 x] (BX (el x)) := fun hh nn => (isElement_x x).pure rfl rfl hh nn

theorem isElT (n : Nat) (h : n < 256) : Pure1 eqs9.gs Tryd.prog 60 [N6 n] (BX true) := by
  have := isElement_c (Int.ofNat n)
  rw [el_of h] at this; exact this
theorem isElF (x : Int) (h : el x = false) : Pure1 eqs9.gs Tryd.prog 60 [I6 x] (BX false) := by
  have := isElement_c x
  rw [h] at this; exact this
theorem conv8 {n : Nat} (h : n < 256) : some (X.int .u8 (IntKind.wrap .u8 (Int.ofNat n))) = some (B8 n) := congrArg (fun z => some (X.int .u8 z)) (wrap8 h)
theorem conv64 {n : Nat} (h : n < 256) : some (X.int .i64 (IntKind.wrap .i64 (Int.ofNat n))) = some (N6 n) := congrArg (fun z => some (X.int .i64 z)) (wrap64 (n := (n : Int)) (by omega) (by omega))

theorem TimesT_x (a b : Nat) (ha : a < 256) (hb : b < 256) : XF Tryd.prog eqs9 11 [N6 a, N6 b] .e .z (fun xx _ _ => xx = X.tup [N6 (pr a b), N6 0]) := by
  refine XF.body S9 fk11 rfl ?_
  refine XK.seq ?_
  refine XK.op S9 rfl ?_
  refine seqQ_n ?_
  refine XK.seq ?_
  refine XK.seq ?_
  refine XK.reg2 S9 (isElT a ha) (isElT b hb) (.inr (if hab : a = b then .inr rfl else .inl fun h => hab (by simp at h; omega))) fun call hcl hcm => ?_
  refine OG_p rfl ?_
  refine OG_c rfl hcl ?_
  refine OG_p rfl ?_
  refine OG_p rfl ?_
  refine OG_y (rfl) rfl ?_
  refine OG_y (rfl) (st_call rfl hcm) ?_
  refine OG_y (rfl) rfl ?_
  refine OG_p rfl ?_
  refine OG_nil ?_
  refine seqQ_n ?_
  refine XK.condF rfl ?_
  refine XK.skip S9 ?_
  refine seqQ_n ?_
  refine XK.seq ?_
  refine XK.reg1 S9 (product_c a b ha hb) fun call hcl => ?_
  refine OG_p rfl ?_
  refine OG_p (show opP _ _ = some (B8 _) from conv8 (ha)) ?_
  refine OG_p rfl ?_
  refine OG_p (show opP _ _ = some (B8 _) from conv8 (hb)) ?_
  refine OG_c rfl hcl ?_
  refine OG_p (show opP _ _ = some (N6 _) from conv64 (pr_lt a b ha)) ?_
  refine OG_p rfl ?_
  refine OG_p rfl ?_
  refine OG_nil ?_
  refine seqQ_n ?_
  refine XK.ret S9 ?_
  exact ⟨_, rfl, rfl⟩

theorem TimesT_c (a b : Nat) (ha : a < 256) (hb : b < 256) : Pure1 eqs9.gs Tryd.prog 11 [N6 a, N6 b] (X.tup [N6 (pr a b), N6 0]) := fun hh nn => (TimesT_x a b ha hb).pure rfl rfl hh nn

end Go.Ex

