/-
  DERIVED. GIVEN WITH THE SEED: THE CARDS: each row of YtelenedgaoglaaaGreatDoorRows.lean that lists a variable, with what it lists TIED to the program's text (the seventh form; the later family's looks); each row that meets fmt, with fmt's text TOLD by the authors' own Lean function (tested against real Go, not proved from fmt's source: count such statements apart). THE CARD IS WHAT COUNTS. Prove the row's statement (the work); the ties are given (YtelenedgaoglaaaGreatDoorTie.lean); close each card by the builder's one call (the guide's Derived/Test/ToyasCard.lean, 'card_holds'). Laid BY PROGRAM, IN A SANDBOX (cutbox-door.mjs). By AI agents, Wed Nov 11 2026. No macro, syntax, notation, axiom, sorry.
-/
import Derived.Test.YtelenedgaoglaaaGreatDoorRows
import GoSem.ClaimSeven
namespace Go.Proofs.YtelenedgaoglaaaGreatDoor
namespace Rows

/-- THE TIED CARD OF 'snowlinelaw03.PillowChecks'. -/
def pillowChecksCard : Claim7 := { stood := { row := pillowChecksRow, standIns := [], harness := (true, "add7e36cd1866488e0eb37e28b1ea6b76278d8f931b611dc49f437e42680162e"), looks := true }, kinds := [], alts := [], laidByText := true, laidKinds := [.data, .data, .data], laidTests := true, laidLooks := .later }
def PillowChecksCardSaid : Prop := Claim7.holds Tryz.pinned (.plain (OpenSpec.ofChange pillowChecksSpec)) pillowChecksCard

/-- THE TIED CARD OF 'snowlinelaw03.PillowCases'. -/
def pillowCasesCard : Claim7 := { stood := { row := pillowCasesRow, standIns := [], harness := (true, "add7e36cd1866488e0eb37e28b1ea6b76278d8f931b611dc49f437e42680162e"), looks := true }, kinds := [], alts := [], laidByText := true, laidKinds := [.data, .data, .data], laidTests := true, laidLooks := .later }
def PillowCasesCardSaid : Prop := Claim7.holds Tryz.pinned (.plain (OpenSpec.ofChange pillowCasesSpec)) pillowCasesCard

/-- THE TIED CARD OF 'snowlinelaw03.PillowWitnesses'. -/
def pillowWitnessesCard : Claim7 := { stood := { row := pillowWitnessesRow, standIns := [], harness := (true, "add7e36cd1866488e0eb37e28b1ea6b76278d8f931b611dc49f437e42680162e"), looks := true }, kinds := [], alts := [], laidByText := true, laidKinds := [.data, .data, .data], laidTests := true, laidLooks := .later }
def PillowWitnessesCardSaid : Prop := Claim7.holds Tryz.pinned (.plain (OpenSpec.ofChange pillowWitnessesSpec)) pillowWitnessesCard

/-- THE TIED CARD OF 'snowlinelaw03.PillowRefutes'. -/
def pillowRefutesCard : Claim7 := { stood := { row := pillowRefutesRow, standIns := [], harness := (true, "add7e36cd1866488e0eb37e28b1ea6b76278d8f931b611dc49f437e42680162e"), looks := true }, kinds := [], alts := [], laidByText := true, laidKinds := [.data, .data, .data], laidTests := true, laidLooks := .later }
def PillowRefutesCardSaid : Prop := Claim7.holds Tryz.pinned (.plain (OpenSpec.ofChange pillowRefutesSpec)) pillowRefutesCard

/-- THE TIED CARD OF 'snowlinelaw03.PillowPossible'. -/
def pillowPossibleCard : Claim7 := { stood := { row := pillowPossibleRow, standIns := [], harness := (true, "add7e36cd1866488e0eb37e28b1ea6b76278d8f931b611dc49f437e42680162e"), looks := true }, kinds := [], alts := [], laidByText := true, laidKinds := [.data, .data, .data], laidTests := true, laidLooks := .later }
def PillowPossibleCardSaid : Prop := Claim7.holds Tryz.pinned (.plain (OpenSpec.ofChange pillowPossibleSpec)) pillowPossibleCard

/-- THE TIED CARD OF 'snowlinelaw03.PillowTrees'. -/
def pillowTreesCard : Claim7 := { stood := { row := pillowTreesRow, standIns := [], harness := (true, "add7e36cd1866488e0eb37e28b1ea6b76278d8f931b611dc49f437e42680162e"), looks := true }, kinds := [], alts := [], laidByText := true, laidKinds := [.data, .data, .data], laidTests := true, laidLooks := .later }
def PillowTreesCardSaid : Prop := Claim7.holds Tryz.pinned (.plain (OpenSpec.ofChange pillowTreesSpec)) pillowTreesCard

/-- THE TIED CARD OF 'snowlinelaw03.PillowTexts'. -/
def pillowTextsCard : Claim7 := { stood := { row := pillowTextsRow, standIns := [], harness := (true, "add7e36cd1866488e0eb37e28b1ea6b76278d8f931b611dc49f437e42680162e"), looks := true }, kinds := [], alts := [], laidByText := true, laidKinds := [.data, .data, .data, .data, .sentinel, .sentinel, .pinned], laidTests := true, laidLooks := .later }
def PillowTextsCardSaid : Prop := Claim7.holds Tryz.pinned (.plain (OpenSpec.ofChange pillowTextsSpec)) pillowTextsCard

/-- THE TIED CARD OF 'snowlinelaw03.PillowEnds'. -/
def pillowEndsCard : Claim7 := { stood := { row := pillowEndsRow, standIns := [], harness := (true, "add7e36cd1866488e0eb37e28b1ea6b76278d8f931b611dc49f437e42680162e"), looks := true }, kinds := [], alts := [], laidByText := true, laidKinds := [.data, .data, .data], laidTests := true, laidLooks := .later }
def PillowEndsCardSaid : Prop := Claim7.holds Tryz.pinned (.plain (OpenSpec.ofChange pillowEndsSpec)) pillowEndsCard

/-- THE TIED CARD OF 'snowlinelaw03.PillowTruth'. -/
def pillowTruthCard : Claim7 := { stood := { row := pillowTruthRow, standIns := [], harness := (true, "add7e36cd1866488e0eb37e28b1ea6b76278d8f931b611dc49f437e42680162e"), looks := true }, kinds := [], alts := [], laidByText := true, laidKinds := [.data, .data, .data], laidTests := true, laidLooks := .later }
def PillowTruthCardSaid : Prop := Claim7.holds Tryz.pinned (.plain (OpenSpec.ofChange pillowTruthSpec)) pillowTruthCard

/-- THE SECOND FORM's CARD OF 'snowlinelaw03.PillowChecks'. -/
def pillowChecksUptoCard : Claim7 := { stood := { row := pillowChecksUptoRow, standIns := [], harness := (true, "add7e36cd1866488e0eb37e28b1ea6b76278d8f931b611dc49f437e42680162e"), looks := true }, kinds := [], alts := [], laidByText := true, laidKinds := [.data, .data, .data], laidTests := true, laidLooks := .later }
def PillowChecksUptoCardSaid : Prop := Claim7.holds Tryz.pinned (.plain (OpenSpec.upto pillowChecksSpec)) pillowChecksUptoCard

/-- THE SECOND FORM's CARD OF 'snowlinelaw03.PillowCases'. -/
def pillowCasesUptoCard : Claim7 := { stood := { row := pillowCasesUptoRow, standIns := [], harness := (true, "add7e36cd1866488e0eb37e28b1ea6b76278d8f931b611dc49f437e42680162e"), looks := true }, kinds := [], alts := [], laidByText := true, laidKinds := [.data, .data, .data], laidTests := true, laidLooks := .later }
def PillowCasesUptoCardSaid : Prop := Claim7.holds Tryz.pinned (.plain (OpenSpec.upto pillowCasesSpec)) pillowCasesUptoCard

/-- THE SECOND FORM's CARD OF 'snowlinelaw03.PillowWitnesses'. -/
def pillowWitnessesUptoCard : Claim7 := { stood := { row := pillowWitnessesUptoRow, standIns := [], harness := (true, "add7e36cd1866488e0eb37e28b1ea6b76278d8f931b611dc49f437e42680162e"), looks := true }, kinds := [], alts := [], laidByText := true, laidKinds := [.data, .data, .data], laidTests := true, laidLooks := .later }
def PillowWitnessesUptoCardSaid : Prop := Claim7.holds Tryz.pinned (.plain (OpenSpec.upto pillowWitnessesSpec)) pillowWitnessesUptoCard

/-- THE SECOND FORM's CARD OF 'snowlinelaw03.PillowRefutes'. -/
def pillowRefutesUptoCard : Claim7 := { stood := { row := pillowRefutesUptoRow, standIns := [], harness := (true, "add7e36cd1866488e0eb37e28b1ea6b76278d8f931b611dc49f437e42680162e"), looks := true }, kinds := [], alts := [], laidByText := true, laidKinds := [.data, .data, .data], laidTests := true, laidLooks := .later }
def PillowRefutesUptoCardSaid : Prop := Claim7.holds Tryz.pinned (.plain (OpenSpec.upto pillowRefutesSpec)) pillowRefutesUptoCard

/-- THE SECOND FORM's CARD OF 'snowlinelaw03.PillowPossible'. -/
def pillowPossibleUptoCard : Claim7 := { stood := { row := pillowPossibleUptoRow, standIns := [], harness := (true, "add7e36cd1866488e0eb37e28b1ea6b76278d8f931b611dc49f437e42680162e"), looks := true }, kinds := [], alts := [], laidByText := true, laidKinds := [.data, .data, .data], laidTests := true, laidLooks := .later }
def PillowPossibleUptoCardSaid : Prop := Claim7.holds Tryz.pinned (.plain (OpenSpec.upto pillowPossibleSpec)) pillowPossibleUptoCard

/-- THE SECOND FORM's CARD OF 'snowlinelaw03.PillowTrees'. -/
def pillowTreesUptoCard : Claim7 := { stood := { row := pillowTreesUptoRow, standIns := [], harness := (true, "add7e36cd1866488e0eb37e28b1ea6b76278d8f931b611dc49f437e42680162e"), looks := true }, kinds := [], alts := [], laidByText := true, laidKinds := [.data, .data, .data], laidTests := true, laidLooks := .later }
def PillowTreesUptoCardSaid : Prop := Claim7.holds Tryz.pinned (.plain (OpenSpec.upto pillowTreesSpec)) pillowTreesUptoCard

/-- THE SECOND FORM's CARD OF 'snowlinelaw03.PillowTexts'. -/
def pillowTextsUptoCard : Claim7 := { stood := { row := pillowTextsUptoRow, standIns := [], harness := (true, "add7e36cd1866488e0eb37e28b1ea6b76278d8f931b611dc49f437e42680162e"), looks := true }, kinds := [], alts := [], laidByText := true, laidKinds := [.data, .data, .data, .data, .sentinel, .sentinel, .pinned], laidTests := true, laidLooks := .later }
def PillowTextsUptoCardSaid : Prop := Claim7.holds Tryz.pinned (.plain (OpenSpec.upto pillowTextsSpec)) pillowTextsUptoCard

/-- THE SECOND FORM's CARD OF 'snowlinelaw03.PillowEnds'. -/
def pillowEndsUptoCard : Claim7 := { stood := { row := pillowEndsUptoRow, standIns := [], harness := (true, "add7e36cd1866488e0eb37e28b1ea6b76278d8f931b611dc49f437e42680162e"), looks := true }, kinds := [], alts := [], laidByText := true, laidKinds := [.data, .data, .data], laidTests := true, laidLooks := .later }
def PillowEndsUptoCardSaid : Prop := Claim7.holds Tryz.pinned (.plain (OpenSpec.upto pillowEndsSpec)) pillowEndsUptoCard

/-- THE SECOND FORM's CARD OF 'snowlinelaw03.PillowTruth'. -/
def pillowTruthUptoCard : Claim7 := { stood := { row := pillowTruthUptoRow, standIns := [], harness := (true, "add7e36cd1866488e0eb37e28b1ea6b76278d8f931b611dc49f437e42680162e"), looks := true }, kinds := [], alts := [], laidByText := true, laidKinds := [.data, .data, .data], laidTests := true, laidLooks := .later }
def PillowTruthUptoCardSaid : Prop := Claim7.holds Tryz.pinned (.plain (OpenSpec.upto pillowTruthSpec)) pillowTruthUptoCard
end Rows
end Go.Proofs.YtelenedgaoglaaaGreatDoor
