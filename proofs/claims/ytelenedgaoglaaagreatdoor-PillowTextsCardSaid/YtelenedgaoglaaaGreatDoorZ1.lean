/- Z1. -/
import Derived.Test.YtelenedgaoglaaaGreatDoorRB
set_option linter.unusedSimpArgs false
set_option linter.unusedVariables false
namespace Go.Proofs.YtelenedgaoglaaaGreatDoor
open Go.Ab
open Go.Pil
def hasS (s : Sp) (x : Int) : Bool := decide (s.lo ≤ x) && decide (x ≤ s.hi)
theorem hasS_iff {s : Sp} {x : Int} : hasS s x = true ↔ s.Has x := by simp [hasS, Sp.Has]
def hereX (x : List Int) (k : Nat) : Sp := if k = 0 then ⟨0, 0⟩ else ⟨x.getD (k - 1) 0, x.getD (k - 1) 0⟩
def fitB (p : Plw) (w : List Sp) (l x : List Int) (k : Nat) : Bool := hasS (reachP p w k (l.getD k 0) (hereX x k)) (x.getD k 0)
theorem ints_gD {l : List Int} {k : Int} {j : Nat} (h : k.toNat = j) (hj : j < l.length) : (ints l)[k.toNat]? = some [I (l.getD j 0)] := by
  subst h
  simp [ints, hj]
end Go.Proofs.YtelenedgaoglaaaGreatDoor
