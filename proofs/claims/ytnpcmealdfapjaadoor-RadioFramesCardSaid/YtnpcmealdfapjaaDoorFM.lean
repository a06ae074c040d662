/- The field: sums are exclusive or, products as the program makes them. -/
import Derived.Test.YtnpcmealdfapjaaDoorR94
set_option linter.unusedVariables false
set_option linter.unusedSimpArgs false
namespace Go.Ex
theorem tw_eq {a : Nat} (h : a < 256) : tw a = (2 * a) ^^^ (if a.testBit 7 then 285 else 0) := by
  have : ∀ k : Fin 256, tw k.val = (2 * k.val) ^^^ (if k.val.testBit 7 then 285 else 0) := by decide +kernel
  exact this ⟨a, h⟩
theorem xor_lt {a b : Nat} (ha : a < 256) (hb : b < 256) : a ^^^ b < 256 := Nat.xor_lt_two_pow (n := 8) ha hb
theorem xlc (a b c : Nat) : a ^^^ (b ^^^ c) = b ^^^ (a ^^^ c) := by rw [← Nat.xor_assoc, Nat.xor_comm a b, Nat.xor_assoc]
theorem two_xor (a b : Nat) : 2 * (a ^^^ b) = (2 * a) ^^^ (2 * b) := by
  have h := Nat.shiftLeft_xor_distrib (a := a) (b := b) (i := 1)
  have h' : (a ^^^ b) * 2 = a * 2 ^^^ b * 2 := by simpa [Nat.shiftLeft_eq] using h
  rw [Nat.mul_comm, h', Nat.mul_comm a, Nat.mul_comm b]
theorem tw_xor {a b : Nat} (ha : a < 256) (hb : b < 256) : tw (a ^^^ b) = tw a ^^^ tw b := by
  rw [tw_eq (xor_lt ha hb), tw_eq ha, tw_eq hb, two_xor, Nat.testBit_xor]
  cases a.testBit 7 <;> cases b.testBit 7 <;> simp [Nat.xor_assoc, Nat.xor_comm, xlc]
theorem tw_0 : tw 0 = 0 := rfl
theorem prF_out : ∀ (f a b out : Nat), prF f a b out = out ^^^ prF f a b 0 := by
  intro f
  induction f with
  | zero => intro a b out; simp [prF]
  | succ f ih =>
    intro a b out
    unfold prF
    by_cases hb : b = 0
    · simp [hb]
    · rw [if_neg hb, if_neg hb, ih, ih _ _ (if b % 2 = 1 then 0 ^^^ a else 0)]
      split <;> simp [Nat.xor_assoc]
theorem prF_z : ∀ (f a : Nat), prF f a 0 0 = 0 := by
  intro f a
  cases f <;> simp [prF]
theorem prF_s (f a b : Nat) : prF (f + 1) a b 0 = (if b % 2 = 1 then a else 0) ^^^ prF f (tw a) (b / 2) 0 := by
  rw [prF]
  by_cases hb : b = 0
  · subst hb; simp [prF_z]
  · rw [if_neg hb, prF_out]
    split <;> simp
theorem prF_xorL : ∀ (f a a' b : Nat), a < 256 → a' < 256 → prF f (a ^^^ a') b 0 = prF f a b 0 ^^^ prF f a' b 0 := by
  intro f
  induction f with
  | zero => intro a a' b _ _; simp [prF]
  | succ f ih =>
    intro a a' b ha ha'
    rw [prF_s, prF_s, prF_s, tw_xor ha ha', ih _ _ _ (tw_lt a) (tw_lt a')]
    split
    · simp [Nat.xor_assoc, Nat.xor_comm, xlc]
    · simp
theorem par_xor (b b' : Nat) : (b ^^^ b') % 2 = (b % 2 + b' % 2) % 2 := by
  have h1 : ∀ x : Nat, x % 2 = (x.testBit 0).toNat := fun x => by
    rw [Nat.testBit_zero]
    rcases Nat.mod_two_eq_zero_or_one x with h | h <;> simp [h]
  rw [h1 (b ^^^ b'), Nat.testBit_xor, h1 b, h1 b']
  cases b.testBit 0 <;> cases b'.testBit 0 <;> rfl
theorem prF_xorR : ∀ (f a b b' : Nat), prF f a (b ^^^ b') 0 = prF f a b 0 ^^^ prF f a b' 0 := by
  intro f
  induction f with
  | zero => intro a b b'; simp [prF]
  | succ f ih =>
    intro a b b'
    rw [prF_s, prF_s, prF_s]
    have hd : (b ^^^ b') / 2 = (b / 2) ^^^ (b' / 2) := Nat.xor_div_two
    have hm := par_xor b b'
    rw [hd, ih]
    rcases Nat.mod_two_eq_zero_or_one b with h1 | h1 <;> rcases Nat.mod_two_eq_zero_or_one b' with h2 | h2 <;> rw [h1, h2] at hm
    · simp [hm, h1, h2]
    · simp [hm, h1, h2, xlc]
    · simp [hm, h1, h2, Nat.xor_assoc]
    · simp only [hm, h1, h2]
      simp [Nat.xor_assoc]
      rw [xlc, ← Nat.xor_assoc a a, Nat.xor_self, Nat.zero_xor]
/-- What two additive functions do alike with powers of two they do alike. -/
theorem lin_ext {f g : Nat → Nat} (hf : ∀ x y, x < 256 → y < 256 → f (x ^^^ y) = f x ^^^ f y) (hg : ∀ x y, x < 256 → y < 256 → g (x ^^^ y) = g x ^^^ g y) (hb : ∀ i, i < 8 → f (2 ^ i) = g (2 ^ i)) : ∀ x, x < 256 → f x = g x := by
  have h0 : ∀ {f : Nat → Nat}, (∀ x y, x < 256 → y < 256 → f (x ^^^ y) = f x ^^^ f y) → f 0 = 0 := fun {f} hf => by
    have := hf 0 0 (by omega) (by omega)
    rw [Nat.xor_self, Nat.xor_self] at this; exact this
  have key : ∀ k, k ≤ 8 → ∀ x, x < 2 ^ k → f x = g x := by
    intro k
    induction k with
    | zero => intro _ x hx; have : x = 0 := by rw [Nat.pow_zero] at hx; omega
              subst this; rw [h0 hf, h0 hg]
    | succ k ih =>
      intro hk x hx
      by_cases hlt : x < 2 ^ k
      · exact ih (by omega) x hlt
      · have hp : 2 ^ (k + 1) ≤ 2 ^ 8 := Nat.pow_le_pow_right (by omega) hk
        have hp1 : 2 ^ k < 256 := by have : 2 ^ (k + 1) = 2 * 2 ^ k := by rw [Nat.pow_succ]; omega
                                     have : 0 < 2 ^ k := Nat.two_pow_pos k
                                     omega
        have e2 : 2 ^ (k + 1) = 2 * 2 ^ k := by rw [Nat.pow_succ]; omega
        have hr : x - 2 ^ k < 2 ^ k := by omega
        have e : x = 2 ^ k ^^^ (x - 2 ^ k) := by
          have h1 := Nat.two_pow_add_eq_or_of_lt hr 1
          have h2 : 2 ^ k ^^^ (x - 2 ^ k) = 2 ^ k ||| (x - 2 ^ k) := by
            apply Nat.eq_of_testBit_eq
            intro i
            rw [Nat.testBit_xor, Nat.testBit_or, Nat.testBit_two_pow]
            by_cases hi : k = i
            · subst hi; rw [Nat.testBit_lt_two_pow hr]; simp
            · simp [hi]
          rw [h2]; simp only [Nat.mul_one] at h1; rw [← h1]; omega
        rw [e, hf _ _ hp1 (by omega), hg _ _ hp1 (by omega), hb k (by omega), ih (by omega) _ hr]
  exact fun x hx => key 8 (Nat.le_refl _) x hx
theorem pr_xorL {a a' b : Nat} (ha : a < 256) (ha' : a' < 256) : pr (a ^^^ a') b = pr a b ^^^ pr a' b := prF_xorL 8 a a' b ha ha'
theorem pr_xorR (a b b' : Nat) : pr a (b ^^^ b') = pr a b ^^^ pr a b' := prF_xorR 8 a b b'
theorem pr_comm2 : ∀ i j : Fin 8, pr (2 ^ i.val) (2 ^ j.val) = pr (2 ^ j.val) (2 ^ i.val) := by decide +kernel
theorem pr_comm {a b : Nat} (ha : a < 256) (hb : b < 256) : pr a b = pr b a := by
  refine lin_ext (f := fun a => pr a b) (g := fun a => pr b a) (fun x y hx hy => pr_xorL hx hy) (fun x y _ _ => pr_xorR b x y) (fun i hi => ?_) a ha
  refine lin_ext (f := fun b => pr (2 ^ i) b) (g := fun b => pr b (2 ^ i)) (fun x y _ _ => pr_xorR _ x y) (fun x y hx hy => pr_xorL hx hy) (fun j hj => ?_) b hb
  exact pr_comm2 ⟨i, hi⟩ ⟨j, hj⟩
theorem pow_lt8 {i : Nat} (h : i < 8) : 2 ^ i < 256 := Nat.pow_lt_pow_right (a := 2) (n := 8) (by omega) h
theorem pr_assoc2 : ∀ i j k : Fin 8, pr (pr (2 ^ i.val) (2 ^ j.val)) (2 ^ k.val) = pr (2 ^ i.val) (pr (2 ^ j.val) (2 ^ k.val)) := by decide +kernel
theorem pr_assoc {a b c : Nat} (ha : a < 256) (hb : b < 256) (hc : c < 256) : pr (pr a b) c = pr a (pr b c) := by
  refine lin_ext (f := fun a => pr (pr a b) c) (g := fun a => pr a (pr b c)) (fun x y hx hy => ?_) (fun x y hx hy => pr_xorL hx hy) (fun i hi => ?_) a ha
  · show pr (pr (x ^^^ y) b) c = _; rw [pr_xorL hx hy, pr_xorL (pr_lt _ _ hx) (pr_lt _ _ hy)]
  have hi' := pow_lt8 hi
  refine lin_ext (f := fun b => pr (pr (2 ^ i) b) c) (g := fun b => pr (2 ^ i) (pr b c)) (fun x y hx hy => ?_) (fun x y hx hy => ?_) (fun j hj => ?_) b hb
  · show pr (pr _ (x ^^^ y)) c = _; rw [pr_xorR, pr_xorL (pr_lt _ _ hi') (pr_lt _ _ hi')]
  · show pr _ (pr (x ^^^ y) c) = _; rw [pr_xorL hx hy, pr_xorR]
  have hj' := pow_lt8 hj
  refine lin_ext (f := fun c => pr (pr (2 ^ i) (2 ^ j)) c) (g := fun c => pr (2 ^ i) (pr (2 ^ j) c)) (fun x y _ _ => pr_xorR _ x y) (fun x y _ _ => ?_) (fun k hk => ?_) c hc
  · show pr _ (pr _ (x ^^^ y)) = _; rw [pr_xorR, pr_xorR]
  · exact pr_assoc2 ⟨i, hi⟩ ⟨j, hj⟩ ⟨k, hk⟩
theorem pr_one {a : Nat} (h : a < 256) : pr a 1 = a := by
  have : ∀ k : Fin 256, pr k.val 1 = k.val := by decide +kernel
  exact this ⟨a, h⟩
theorem pr_zero (a : Nat) : pr a 0 = 0 := prF_z 8 a
end Go.Ex

