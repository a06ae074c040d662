/- What the reference's steps need, plain. -/
import Derived.Test.YtgagfmjpmdgfdaaDoorQ22
set_option linter.unusedSimpArgs false
set_option linter.unusedVariables false
namespace Go.Ab
theorem Weak.trans {a b c : AS} (h1 : Weak a b) (h2 : Weak b c) : Weak a c := fun w0 M0 x w h => h2 _ _ _ _ (h1 _ _ _ _ h)
end Go.Ab
namespace Go.Proofs.YtgagfmjpmdgfdaaDoor
open Go.Ab
section
variable {P R : List Lay} {l : Lay}
theorem rm_ice {o : Nat} (ho : o = P.length * 3 + 0) : partA false 1 ((rowC (P ++ l :: R)).drop o) = some (I l.ice) := by
  rw [row_ice (i := P.length) (by simp) ho]; simp
theorem rm_wet {o : Nat} (ho : o = P.length * 3 + 1) : partA false 1 ((rowC (P ++ l :: R)).drop o) = some (I l.wet) := by
  rw [row_wet (i := P.length) (by simp) ho]; simp
theorem rm_cold {o : Nat} (ho : o = P.length * 3 + 2) : partA false 1 ((rowC (P ++ l :: R)).drop o) = some (I l.cold) := by
  rw [row_cold (i := P.length) (by simp) ho]; simp
theorem rm_set {o j : Nat} {m : Lay} {x : Int} (hj : j < 3) (hl : (eL l).set j (I x) = eL m) (ho : o = P.length * 3 + j) : splice (rowC (P ++ l :: R)) [I x] o = rowC (P ++ m :: R) := by
  rw [row_set1 (i := P.length) (l := m) (by simp) hj (by simpa using hl) ho]; simp
end
def stF (s : Stp) : List Lay → List Lay × Int := if s.kind = 3 then melt1 else take1
theorem stF_nil (s : Stp) : stF s [] = ([], 0) := by unfold stF; split <;> rfl
theorem stF_E {p : List Lay} (s : Stp) (h : packE p = 0) (n : Nat) : packE (itM (stF s) n p).1 = 0 ∧ 0 ≤ (itM (stF s) n p).2 ∧ (itM (stF s) n p).2 ≤ 65536 := by
  have hb := packE_bd h
  unfold stF
  split
  · have h1 := melt_itM (p := []) (colOk_of h) (show (0 : Int) ≤ (n : Nat) by omega)
    have h2 := melt_E (pre := []) h (show (0 : Int) ≤ (n : Nat) by omega)
    rw [Int.toNat_natCast] at h1
    rw [h1.1, h1.2] at h2
    have h3 := packE_bd h2.1
    exact ⟨h2.1, h2.2.1, by omega⟩
  · have h1 := take_itM (p := []) (colOk_of h) (show (0 : Int) ≤ (n : Nat) by omega)
    have h2 := take_E (pre := []) h (show (0 : Int) ≤ (n : Nat) by omega)
    rw [Int.toNat_natCast] at h1
    rw [h1.1, h1.2] at h2
    have h3 := packE_bd h2.1
    exact ⟨h2.1, h2.2.1, by omega⟩
theorem do_loop {p : List Lay} {s : Stp} (h1 : ¬ (s.kind = 1 ∧ 0 < s.much)) (h2 : ¬ s.kind = 2) (h4 : ¬ s.kind = 4) (h0 : 0 ≤ s.much) : doM p s = itM (stF s) s.much.toNat p := by
  unfold doM stF
  rw [if_neg h1, if_neg h2, if_neg h4]
  by_cases k1 : s.kind = 1
  · rw [if_pos k1, if_neg (by omega)]
    have : s.much.toNat = 0 := by
      have : ¬ 0 < s.much := fun h => h1 ⟨k1, h⟩
      omega
    rw [this]; rfl
  · rw [if_neg k1]
    by_cases k3 : s.kind = 3
    · rw [if_pos k3, if_pos k3]
    · rw [if_neg k3, if_neg k3]
theorem it_stop {f : List Lay → List Lay × Int} (hf : f [] = ([], 0)) {p : List Lay} {i n : Nat} {r : Int} (h : itM f i p = ([], r)) (hi : i ≤ n) : itM f n p = ([], r) := by
  have h1 := itM_add f i (n - i) p
  rw [show i + (n - i) = n by omega, h, itM_nil hf] at h1
  rw [h1]; simp
def tkI (s : Stp) (i : Nat) : Int := if s.kind = 3 then 0 else (i : Int)
theorem tkI_bd (s : Stp) (i : Nat) : 0 ≤ tkI s i ∧ tkI s i ≤ i := by unfold tkI; split <;> omega
/-- What is left to be taken. -/
def tkInv (p out : List Lay) (s : Stp) (i : Nat) : Prop := 4 < s.kind → (take [] p s.much 0 0).2.2.1 = (i : Int) + (take [] out (s.much - i) 0 0).2.2.1
theorem tk_0 (p : List Lay) (s : Stp) : tkInv p p s 0 := fun _ => by simp
theorem tk_step {p : List Lay} {l : Lay} {r : List Lay} {s : Stp} {i : Nat} (hc : colOk (l :: r)) (hlt : (i : Int) < s.much) (h : tkInv p (l :: r) s i) : tkInv p (losK [] l r 1 0).2.1 s (i + 1) := fun hk => by
  have h1 := h hk
  have h2 := (take_step (much := s.much - i) hc (by omega)).2.2
  rw [if_neg (by simp)] at h2
  simp only [take1] at h2
  rw [h1, h2, show s.much - ((i + 1 : Nat) : Int) = s.much - i - 1 by omega]
  omega
theorem tk_end {p out : List Lay} {s : Stp} {i : Nat} (h : tkInv p out s i) (hs : s.kind = 1 → i = 0) (hk2 : ¬ s.kind = 2) (hk4 : ¬ s.kind = 4) (hs1 : 1 ≤ s.kind) (he : s.much ≤ i ∨ out = []) : tknM p s = tkI s i := by
  unfold tknM tkI
  by_cases k3 : s.kind = 3
  · rw [if_pos (by omega), if_pos k3]
  · rw [if_neg k3]
    by_cases k1 : s.kind = 1
    · rw [if_pos (by omega), hs k1]; rfl
    · rw [if_neg (by omega), h (by omega)]
      have : (take [] out (s.much - i) 0 0) = ([], out, 0, 0) := take_end (by rcases he with h | h; exact .inl (by omega); exact .inr h)
      rw [this]; simp
theorem frz_app {much left : Int} {p done rest : List Lay} (h : frzL much p = ((frzL left rest).1, done ++ (frzL left rest).2)) {l : Lay} {r : List Lay} (hr : rest = l :: r) :
    frzL much p = ((frzL (frzF left l).1 r).1, (done ++ [(frzF left l).2]) ++ (frzL (frzF left l).1 r).2) := by
  subst hr; rw [h, frz_cons]; simp
end Go.Proofs.YtgagfmjpmdgfdaaDoor
