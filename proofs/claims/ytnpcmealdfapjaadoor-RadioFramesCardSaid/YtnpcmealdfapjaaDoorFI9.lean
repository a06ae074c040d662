/- Inverses. -/
import Derived.Test.YtnpcmealdfapjaaDoorFM
set_option linter.unusedVariables false
namespace Go.Ex
def pw : Nat → Nat
  | 0 => 1
  | k + 1 => tw (pw k)
theorem pw_lt : ∀ k, pw k < 256 := by
  intro k
  cases k with
  | zero => show 1 < 256; omega
  | succ k => exact tw_lt _
theorem tw_pr {a : Nat} (h : a < 256) : tw a = pr a 2 := by
  have : ∀ k : Fin 256, tw k.val = pr k.val 2 := by decide +kernel
  exact this ⟨a, h⟩
theorem pw_add : ∀ i j, pw (i + j) = pr (pw i) (pw j) := by
  intro i j
  induction j with
  | zero => show pw i = pr (pw i) 1; rw [pr_one (pw_lt i)]
  | succ j ih =>
    show tw (pw (i + j)) = pr (pw i) (tw (pw j))
    rw [ih, tw_pr (pr_lt _ _ (pw_lt i)), tw_pr (pw_lt j), pr_assoc (pw_lt i) (pw_lt j) (by omega)]
def lgT : List Nat := [0, 0, 1, 25, 2, 50, 26, 198, 3, 223, 51, 238, 27, 104, 199, 75, 4, 100, 224, 14, 52, 141, 239, 129, 28, 193, 105, 248, 200, 8, 76, 113, 5, 138, 101, 47, 225, 36, 15, 33, 53, 147, 142, 218, 240, 18, 130, 69, 29, 181, 194, 125, 106, 39, 249, 185, 201, 154, 9, 120, 77, 228, 114, 166, 6, 191, 139, 98, 102, 221, 48, 253, 226, 152, 37, 179, 16, 145, 34, 136, 54, 208, 148, 206, 143, 150, 219, 189, 241, 210, 19, 92, 131, 56, 70, 64, 30, 66, 182, 163, 195, 72, 126, 110, 107, 58, 40, 84, 250, 133, 186, 61, 202, 94, 155, 159, 10, 21, 121, 43, 78, 212, 229, 172, 115, 243, 167, 87, 7, 112, 192, 247, 140, 128, 99, 13, 103, 74, 222, 237, 49, 197, 254, 24, 227, 165, 153, 119, 38, 184, 180, 124, 17, 68, 146, 217, 35, 32, 137, 46, 55, 63, 209, 91, 149, 188, 207, 205, 144, 135, 151, 178, 220, 252, 190, 97, 242, 86, 211, 171, 20, 42, 93, 158, 132, 60, 57, 83, 71, 109, 65, 162, 31, 45, 67, 216, 183, 123, 164, 118, 196, 23, 73, 236, 127, 12, 111, 246, 108, 161, 59, 82, 41, 157, 85, 170, 251, 96, 134, 177, 187, 204, 62, 90, 203, 89, 95, 176, 156, 169, 160, 81, 11, 245, 22, 235, 122, 117, 44, 215, 79, 174, 213, 233, 230, 231, 173, 232, 116, 214, 244, 234, 168, 80, 88, 175]
set_option maxRecDepth 100000 in
theorem pw_lg {a : Nat} (h : a < 256) (h0 : 0 < a) : pw (lgT.getD a 0) = a := by
  have : ∀ k : Fin 256, k.val = 0 ∨ pw (lgT.getD k.val 0) = k.val := by decide +kernel
  rcases this ⟨a, h⟩ with h1 | h1
  · simp at h1; omega
  · exact h1
def pe (a : Nat) : Nat → Nat
  | 0 => 1
  | k + 1 => pr (pe a k) a
theorem invF_pe (a : Nat) : ∀ k m, invF k a (pe a m) = pe a (m + k) := by
  intro k
  induction k with
  | zero => intro m; rfl
  | succ k ih =>
    intro m
    show invF k a (pr (pe a m) a) = _
    rw [show pr (pe a m) a = pe a (m + 1) from rfl, ih]
    congr 1; omega
theorem pe_pw (j : Nat) : ∀ k, pe (pw j) k = pw (j * k) := by
  intro k
  induction k with
  | zero => rfl
  | succ k ih => show pr (pe (pw j) k) (pw j) = _; rw [ih, ← pw_add]; rfl
theorem pw_255 : pw 255 = 1 := by decide +kernel
theorem pw_mul (j : Nat) : pw (255 * j) = 1 := by
  induction j with
  | zero => rfl
  | succ j ih => rw [Nat.mul_succ, pw_add, ih, pw_255]; decide +kernel
theorem inv_pe {a : Nat} (h : a < 256) : inv a = pe a 254 := by
  have h1 : pe a 1 = a := by show pr 1 a = a; rw [pr_comm (by omega) h, pr_one h]
  have := invF_pe a 253 1
  rw [h1] at this; exact this
theorem pr_inv {a : Nat} (h : a < 256) (h0 : 0 < a) : pr a (inv a) = 1 := by
  rw [inv_pe h]
  have e := pw_lg h h0
  generalize lgT.getD a 0 = j at e
  subst e
  rw [pe_pw, ← pw_add, show j + j * 254 = 255 * j by omega, pw_mul]
end Go.Ex

