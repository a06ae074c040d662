/- The reference's product is the program's. -/
import Derived.Test.YtnpcmealdfapjaaDoorFI9
import Derived.Test.YtnpcmealdfapjaaDoorR96
set_option linter.unusedVariables false
set_option linter.unusedSimpArgs false
namespace Go.Ex
theorem mul_pow_xor (a b i : Nat) : (a ^^^ b) * 2 ^ i = (a * 2 ^ i) ^^^ (b * 2 ^ i) := by
  have h := Nat.shiftLeft_xor_distrib (a := a) (b := b) (i := i)
  simpa [Nat.shiftLeft_eq] using h
theorem div_pow_xor (a b i : Nat) : (a ^^^ b) / 2 ^ i = (a / 2 ^ i) ^^^ (b / 2 ^ i) := by
  have h := Nat.shiftRight_xor_distrib (a := a) (b := b) (i := i)
  simpa [Nat.shiftRight_eq_div_pow] using h
theorem mulF_out : ∀ (k a b i m : Nat), mulF k a b i m = m ^^^ mulF k a b i 0 := by
  intro k
  induction k with
  | zero => intro a b i m; simp [mulF]
  | succ k ih =>
    intro a b i m
    rw [mulF, mulF, ih, ih _ _ _ (if b / 2 ^ i % 2 = 1 then 0 ^^^ a * 2 ^ i else 0)]
    split <;> simp [Nat.xor_assoc]
theorem mulF_s (k a b i : Nat) : mulF (k + 1) a b i 0 = (if b / 2 ^ i % 2 = 1 then a * 2 ^ i else 0) ^^^ mulF k a b (i + 1) 0 := by
  rw [mulF, mulF_out]
  split <;> simp
theorem mulF_xorL : ∀ (k a a' b i : Nat), mulF k (a ^^^ a') b i 0 = mulF k a b i 0 ^^^ mulF k a' b i 0 := by
  intro k
  induction k with
  | zero => intro a a' b i; simp [mulF]
  | succ k ih =>
    intro a a' b i
    rw [mulF_s, mulF_s, mulF_s, ih, mul_pow_xor]
    split
    · simp [Nat.xor_assoc, Nat.xor_comm, xlc]
    · simp
/-- A number for the odd ones is additive. -/
theorem odd_xor (x y c : Nat) : (if (x ^^^ y) % 2 = 1 then c else 0) = (if x % 2 = 1 then c else 0) ^^^ (if y % 2 = 1 then c else 0) := by
  have hm := par_xor x y
  rcases Nat.mod_two_eq_zero_or_one x with h1 | h1 <;> rcases Nat.mod_two_eq_zero_or_one y with h2 | h2 <;> rw [h1, h2] at hm <;> simp [hm, h1, h2]
theorem x4 (a b c d : Nat) : (a ^^^ b) ^^^ (c ^^^ d) = (a ^^^ c) ^^^ (b ^^^ d) := by
  rw [Nat.xor_assoc, xlc b, ← Nat.xor_assoc]
theorem mulF_xorR : ∀ (k a b b' i : Nat), mulF k a (b ^^^ b') i 0 = mulF k a b i 0 ^^^ mulF k a b' i 0 := by
  intro k
  induction k with
  | zero => intro a b b' i; simp [mulF]
  | succ k ih =>
    intro a b b' i
    rw [mulF_s, mulF_s, mulF_s, ih, div_pow_xor, odd_xor, x4]
theorem redF_xor : ∀ (k i m m' : Nat), redF k i (m ^^^ m') = redF k i m ^^^ redF k i m' := by
  intro k
  induction k with
  | zero => intro i m m'; rfl
  | succ k ih =>
    intro i m m'
    have key : ∀ m : Nat, (if m / 2 ^ i % 2 = 1 then m ^^^ (285 * 2 ^ (i - 8)) else m) = m ^^^ (if m / 2 ^ i % 2 = 1 then 285 * 2 ^ (i - 8) else 0) := fun m => by split <;> simp
    rw [redF, redF, redF, key, key m, key m', div_pow_xor, odd_xor, ← ih, x4]
theorem rt_xorL (a a' b : Nat) : rt (a ^^^ a') b = rt a b ^^^ rt a' b := by unfold rt; rw [mulF_xorL, redF_xor]
theorem rt_xorR (a b b' : Nat) : rt a (b ^^^ b') = rt a b ^^^ rt a b' := by unfold rt; rw [mulF_xorR, redF_xor]
theorem rt_pr2 : ∀ i j : Fin 8, rt (2 ^ i.val) (2 ^ j.val) = pr (2 ^ i.val) (2 ^ j.val) := by decide +kernel
theorem rt_pr {a b : Nat} (ha : a < 256) (hb : b < 256) : rt a b = pr a b := by
  refine lin_ext (f := fun a => rt a b) (g := fun a => pr a b) (fun x y _ _ => rt_xorL x y b) (fun x y hx hy => pr_xorL hx hy) (fun i hi => ?_) a ha
  refine lin_ext (f := fun b => rt (2 ^ i) b) (g := fun b => pr (2 ^ i) b) (fun x y _ _ => rt_xorR _ x y) (fun x y _ _ => pr_xorR _ x y) (fun j hj => ?_) b hb
  exact rt_pr2 ⟨i, hi⟩ ⟨j, hj⟩
theorem inv_pos {a : Nat} (h : a < 256) (h0 : 0 < a) : 0 < inv a := by
  rcases Nat.eq_zero_or_pos (inv a) with h1 | h1
  · have := pr_inv h h0
    rw [h1, pr_zero] at this; cases this
  · exact h1
theorem inv_uniq {a b : Nat} (h : a < 256) (h0 : 0 < a) (hb : b < 256) (e : pr a b = 1) : b = inv a := by
  have hi := inv_lt a h
  have h1 : pr (inv a) (pr a b) = inv a := by rw [e, pr_one hi]
  rw [← pr_assoc hi h hb, pr_comm hi h, pr_inv h h0, pr_comm (by omega) hb, pr_one hb] at h1
  exact h1
theorem rtimes_p (a b : Nat) (ha : a < 256) (hb : b < 256) : Pure1 eqs9.gs Go.Proofs.Tryd.prog 63 [N6 a, N6 b] (N6 (pr a b)) := by
  have := rtimes_c a b ha hb
  rw [rt_pr ha hb] at this; exact this
end Go.Ex

