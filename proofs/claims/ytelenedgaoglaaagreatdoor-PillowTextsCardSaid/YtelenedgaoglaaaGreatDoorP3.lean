/- The example of the law, plain. -/
import Derived.Test.YtelenedgaoglaaaGreatDoorR26
set_option linter.unusedSimpArgs false
set_option linter.unusedVariables false
namespace Go.Proofs.YtelenedgaoglaaaGreatDoor
open Go.Ab Go.Pil
def exP : Plw := ⟨0, 0, 5, 30, 20, 1, [⟨10, 100⟩, ⟨11, 180⟩, ⟨12, 110⟩]⟩
def exP0 : Plw := ⟨0, 0, 5, 30, 20, 0, [⟨10, 100⟩, ⟨11, 180⟩, ⟨12, 110⟩]⟩
def exW : List Sp := [⟨0, 30⟩, ⟨-10, 30⟩]
theorem ex_ok : okP exP = true := by decide
theorem ex_ok0 : okP exP0 = true := by decide
theorem ex_w : okW exP exW = true := by decide
theorem ex_w0 : okW exP0 exW = true := by decide
theorem ex_rc1 : rcE exP exW [0, 2, 0] = 0 := by decide
theorem ex_rc2 : rcE exP exW [0, 0, 0] = 0 := by decide
theorem ex_al1 : aliveP exP exW [0, 2, 0] := by decide
theorem ex_al2 : ¬ aliveP exP exW [0, 0, 0] := by decide
theorem ex_ends : endsP exP exW [0, 2, 0] = [⟨95, 105⟩, ⟨95, 125⟩, ⟨105, 115⟩] := by decide
theorem ex_ref : refuteP exP exW [0, 0, 0] = some (0, 1) := by decide
theorem ex_cas : casesA exP exW = [[0, 2, 0], [0, 2, 1], [1, 2, 0], [1, 2, 1]] := by decide
theorem ex_cas0 : casesA exP0 exW = [] := by decide
def exS : ByteArray := ⟨#[112, 105, 108, 108, 111, 119, 32, 48, 32, 48, 32, 53, 32, 51, 48, 32, 50, 48, 32, 48, 32, 49, 48, 61, 49, 48, 48, 32, 49, 49, 61, 49, 56, 48, 32, 49, 50, 61, 49, 49, 48]⟩
theorem dd (u : Nat) (h : ¬ u < 10) : Lib.decDigits u = Lib.decDigits (u / 10) ++ [UInt8.ofNat (48 + u % 10)] := by rw [Lib.decDigits, dif_neg h]
theorem d1 (u : Nat) (h : u < 10) : Lib.decDigits u = [UInt8.ofNat (48 + u)] := by rw [Lib.decDigits, dif_pos h]
theorem itn (n : Nat) : Lib.itoa (n : Int) = Lib.decDigits n := by unfold Lib.itoa; rw [if_neg (by omega)]; rfl
theorem it0 : itoaS 0 = ⟨#[48]⟩ := by unfold itoaS; rw [show (0 : Int) = ((0 : Nat) : Int) from rfl, itn, d1 _ (by decide)]; rfl
theorem it5 : itoaS 5 = ⟨#[53]⟩ := by unfold itoaS; rw [show (5 : Int) = ((5 : Nat) : Int) from rfl, itn, d1 _ (by decide)]; rfl
theorem it30 : itoaS 30 = ⟨#[51, 48]⟩ := by unfold itoaS; rw [show (30 : Int) = ((30 : Nat) : Int) from rfl, itn, dd _ (by decide), d1 _ (by decide)]; rfl
theorem it20 : itoaS 20 = ⟨#[50, 48]⟩ := by unfold itoaS; rw [show (20 : Int) = ((20 : Nat) : Int) from rfl, itn, dd _ (by decide), d1 _ (by decide)]; rfl
theorem it10 : itoaS 10 = ⟨#[49, 48]⟩ := by unfold itoaS; rw [show (10 : Int) = ((10 : Nat) : Int) from rfl, itn, dd _ (by decide), d1 _ (by decide)]; rfl
theorem it100 : itoaS 100 = ⟨#[49, 48, 48]⟩ := by unfold itoaS; rw [show (100 : Int) = ((100 : Nat) : Int) from rfl, itn, dd _ (by decide), dd _ (by decide), d1 _ (by decide)]; rfl
theorem it11 : itoaS 11 = ⟨#[49, 49]⟩ := by unfold itoaS; rw [show (11 : Int) = ((11 : Nat) : Int) from rfl, itn, dd _ (by decide), d1 _ (by decide)]; rfl
theorem it180 : itoaS 180 = ⟨#[49, 56, 48]⟩ := by unfold itoaS; rw [show (180 : Int) = ((180 : Nat) : Int) from rfl, itn, dd _ (by decide), dd _ (by decide), d1 _ (by decide)]; rfl
theorem it12 : itoaS 12 = ⟨#[49, 50]⟩ := by unfold itoaS; rw [show (12 : Int) = ((12 : Nat) : Int) from rfl, itn, dd _ (by decide), d1 _ (by decide)]; rfl
theorem it110 : itoaS 110 = ⟨#[49, 49, 48]⟩ := by unfold itoaS; rw [show (110 : Int) = ((110 : Nat) : Int) from rfl, itn, dd _ (by decide), dd _ (by decide), d1 _ (by decide)]; rfl
theorem ex_prn : prnS exP0 = exS := by
  unfold prnS wordsW headW sixL exP0
  simp only [List.length_cons, List.length_nil, List.take_succ_cons, List.take_zero, List.map_cons, List.map_nil, logS]
  rw [it0, it5, it30, it20, it10, it100, it11, it180, it12, it110]
  rfl
theorem ex_prnM : prnM exP0 = (exS, 0) := by unfold prnM; rw [if_pos ex_ok0, ex_prn]
theorem ex_ldE : ldE exP exW [0, 2, 0] (rcE exP exW [0, 2, 0]) = 0 := by rw [ex_rc1]; unfold ldE; rw [if_neg (fun h => h.2 ex_al1)]
theorem ex_ldL : ldL exP exW [0, 2, 0] (rcE exP exW [0, 2, 0]) = [⟨95, 105⟩, ⟨95, 125⟩, ⟨105, 115⟩] := by rw [ex_rc1]; unfold ldL; rw [if_pos ⟨rfl, ex_al1⟩, ex_ends]
theorem ex_casL : casL exP exW = [[0, 2, 0], [0, 2, 1], [1, 2, 0], [1, 2, 1]] := by unfold casL; rw [ex_cas]; rfl
theorem ex_casE : casE exP exW = 0 := by unfold casE; rw [ex_cas]; rfl
theorem ex_rdE : rdE exP exW = 0 := rdE_ok ex_ok ex_w
theorem ex_CasL : CasL exP exW = [[0, 2, 0], [0, 2, 1], [1, 2, 0], [1, 2, 1]] := by unfold CasL; rw [if_pos ex_rdE, ex_casL]
theorem ex_CasE : CasE exP exW = 0 := by unfold CasE; rw [if_pos ex_rdE, ex_casE]
theorem ex_has : hasB exP 1 = true := by decide
theorem ex_sureE : sureE exP exW 1 = 0 := by unfold sureE; rw [ex_casE, ex_casL]; rfl
theorem ex_sureS : sureS exP exW 1 = (2, true) := by unfold sureS sameN stN; rw [ex_casL]; rfl
theorem ex_casE0 : casE exP0 exW = 0 := by unfold casE; rw [ex_cas0]; rfl
theorem ex_atE0 : atE exP0 exW 1 = 0 := by unfold atE; rw [if_pos (rdE_ok ex_ok0 ex_w0)]; rfl
theorem ex_PosL0 : PosL exP0 exW 1 = [] := by
  unfold PosL posL casL; rw [if_pos ex_atE0, ex_cas0]; simp [uni]; rfl
theorem ex_PosE0 : PosE exP0 exW 1 = 0 := by unfold PosE; rw [if_pos ex_atE0, ex_casE0]
theorem ex_hullE : hullE exP0 exW 1 = 33 := by unfold hullE; rw [ex_PosE0, ex_PosL0]; rfl
theorem ex_hullS : hullS exP0 exW 1 = ⟨0, 0⟩ := by unfold hullS; rw [ex_PosL0]; rfl
end Go.Proofs.YtelenedgaoglaaaGreatDoor
