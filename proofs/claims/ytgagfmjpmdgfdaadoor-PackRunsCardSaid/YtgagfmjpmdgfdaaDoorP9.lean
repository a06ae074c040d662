/- The chapter's examples. -/
import Derived.Test.YtgagfmjpmdgfdaaDoorQ14
set_option linter.unusedSimpArgs false
set_option maxRecDepth 100000
namespace Go.Proofs.YtgagfmjpmdgfdaaDoor
open Go.Ab
def EX : List Lay := [⟨40, 2, 0⟩, ⟨100, 0, 5⟩]
theorem ex_pack : packE EX = 0 := by decide
theorem ex_wat : watL EX = 142 := by decide
theorem ex_rdy : rdyL EX = 10 := by decide
theorem ex_wk : wkM EX = (1, 42, 0) := by decide
theorem ex_wk0 : wkM [] = (0, 0, 4) := by decide
theorem ex_stp : stpM [⟨300, 0, 0⟩, ⟨20, 0, 0⟩] = (27, 0) := by decide
theorem ex_join : joiM EX 1 = ([⟨142, 0, 3⟩], 0) := by decide
theorem ex_melt : appM EX ⟨3, 21, 0⟩ = ([⟨19, 0, 0⟩, ⟨105, 5, 0⟩], 13, 0) := by
  have h : (stpK (preZ EX) EX ⟨3, 21, 0⟩).2 = ([⟨19, 0, 0⟩, ⟨105, 5, 0⟩], 13, 0) := by
    simp [stpK, EX, melt, losF, losO, pourL, entF, Int.min_def, Int.max_def]
  unfold appM
  rw [h]; decide
theorem ex_loss : appM EX ⟨5, 50, 0⟩ = ([⟨92, 0, 3⟩], 0, 0) := by
  have h : (stpK (preZ EX) EX ⟨5, 50, 0⟩).2 = ([⟨92, 0, 3⟩], 0, 0) := by
    simp [stpK, EX, take, losF, losO, pourL, entF, Int.min_def, Int.max_def]
  unfold appM
  rw [h]; decide
theorem dd (u : Nat) (h : ¬ u < 10) : Lib.decDigits u = Lib.decDigits (u / 10) ++ [UInt8.ofNat (48 + u % 10)] := by rw [Lib.decDigits, dif_neg h]
theorem d1 (u : Nat) (h : u < 10) : Lib.decDigits u = [UInt8.ofNat (48 + u)] := by rw [Lib.decDigits, dif_pos h]
theorem itn (n : Nat) : Lib.itoa (n : Int) = Lib.decDigits n := by unfold Lib.itoa; rw [if_neg (by omega)]; rfl
theorem it0 : itoaS 0 = ⟨#[48]⟩ := by unfold itoaS; rw [show (0 : Int) = ((0 : Nat) : Int) from rfl, itn, d1 _ (by decide)]; rfl
theorem it2 : itoaS 2 = ⟨#[50]⟩ := by unfold itoaS; rw [show (2 : Int) = ((2 : Nat) : Int) from rfl, itn, d1 _ (by decide)]; rfl
theorem it5 : itoaS 5 = ⟨#[53]⟩ := by unfold itoaS; rw [show (5 : Int) = ((5 : Nat) : Int) from rfl, itn, d1 _ (by decide)]; rfl
theorem it40 : itoaS 40 = ⟨#[52, 48]⟩ := by unfold itoaS; rw [show (40 : Int) = ((40 : Nat) : Int) from rfl, itn, dd _ (by decide), d1 _ (by decide)]; rfl
theorem it100 : itoaS 100 = ⟨#[49, 48, 48]⟩ := by unfold itoaS; rw [show (100 : Int) = ((100 : Nat) : Int) from rfl, itn, dd _ (by decide), dd _ (by decide), d1 _ (by decide)]; rfl
theorem ex_prn : prnM EX = (⟨#[112, 97, 99, 107, 32, 52, 48, 47, 50, 47, 48, 32, 49, 48, 48, 47, 48, 47, 53]⟩, 0) := by
  unfold prnM
  rw [if_pos ex_pack]
  unfold prnS wordsP wordS EX
  simp only [List.map_cons, List.map_nil]
  rw [it0, it2, it5, it40, it100]
  rfl
end Go.Proofs.YtgagfmjpmdgfdaaDoor
