/-
  DERIVED. GIVEN WITH THE SEED: THE CARDS: each row of YtelenedgaoglaaaDoorRows.lean that lists a variable, with what it lists TIED to the program's text (the seventh form; the later family's looks); each row that meets fmt, with fmt's text TOLD by the authors' own Lean function (tested against real Go, not proved from fmt's source: count such statements apart). THE CARD IS WHAT COUNTS. Prove the row's statement (the work); the ties are given (YtelenedgaoglaaaDoorTie.lean); close each card by the builder's one call (the guide's Derived/Test/ToyasCard.lean, 'card_holds'). Laid BY PROGRAM, IN A SANDBOX (cutbox-door.mjs). By AI agents, Wed Nov 11 2026. No macro, syntax, notation, axiom, sorry.
-/
import Derived.Test.YtelenedgaoglaaaDoorRows
import GoSem.ClaimSeven
namespace Go.Proofs.YtelenedgaoglaaaDoor
namespace Rows

/-- THE TIED CARD OF 'snowlinelaw03.PillowPairs'. -/
def pillowPairsCard : Claim7 := { stood := { row := pillowPairsRow, standIns := [], harness := (true, "ad9bba5210bce51f15c0a7893481b93ba200d5477b3fb4444e783d049ae7fc48"), looks := false }, kinds := [], alts := [], laidByText := true, laidKinds := [.data, .data, .data], laidTests := true, laidLooks := .later }
def PillowPairsCardSaid : Prop := Claim7.holds Tryd.pinned (.plain (OpenSpec.ofChange pillowPairsSpec)) pillowPairsCard

/-- THE TIED CARD OF 'snowlinelaw03.PillowAll'. -/
def pillowAllCard : Claim7 := { stood := { row := pillowAllRow, standIns := [], harness := (true, "ad9bba5210bce51f15c0a7893481b93ba200d5477b3fb4444e783d049ae7fc48"), looks := false }, kinds := [], alts := [], laidByText := true, laidKinds := [.data, .data, .data], laidTests := true, laidLooks := .later }
def PillowAllCardSaid : Prop := Claim7.holds Tryd.pinned (.plain (OpenSpec.ofChange pillowAllSpec)) pillowAllCard

/-- THE TIED CARD OF 'snowlinelaw03.PillowFurther'. -/
def pillowFurtherCard : Claim7 := { stood := { row := pillowFurtherRow, standIns := [], harness := (true, "ad9bba5210bce51f15c0a7893481b93ba200d5477b3fb4444e783d049ae7fc48"), looks := false }, kinds := [], alts := [], laidByText := true, laidKinds := [.data, .data, .data], laidTests := true, laidLooks := .later }
def PillowFurtherCardSaid : Prop := Claim7.holds Tryd.pinned (.plain (OpenSpec.ofChange pillowFurtherSpec)) pillowFurtherCard

/-- THE TIED CARD OF 'snowlinelaw03.PillowWider'. -/
def pillowWiderCard : Claim7 := { stood := { row := pillowWiderRow, standIns := [], harness := (true, "ad9bba5210bce51f15c0a7893481b93ba200d5477b3fb4444e783d049ae7fc48"), looks := false }, kinds := [], alts := [], laidByText := true, laidKinds := [.data, .data, .data], laidTests := true, laidLooks := .later }
def PillowWiderCardSaid : Prop := Claim7.holds Tryd.pinned (.plain (OpenSpec.ofChange pillowWiderSpec)) pillowWiderCard

/-- THE TIED CARD OF 'snowlinelaw03.PillowTree'. -/
def pillowTreeCard : Claim7 := { stood := { row := pillowTreeRow, standIns := [], harness := (true, "ad9bba5210bce51f15c0a7893481b93ba200d5477b3fb4444e783d049ae7fc48"), looks := false }, kinds := [], alts := [], laidByText := true, laidKinds := [.data, .data, .data], laidTests := true, laidLooks := .later }
def PillowTreeCardSaid : Prop := Claim7.holds Tryd.pinned (.plain (OpenSpec.ofChange pillowTreeSpec)) pillowTreeCard

/-- THE SECOND FORM's CARD OF 'snowlinelaw03.PillowPairs'. -/
def pillowPairsUptoCard : Claim7 := { stood := { row := pillowPairsUptoRow, standIns := [], harness := (true, "ad9bba5210bce51f15c0a7893481b93ba200d5477b3fb4444e783d049ae7fc48"), looks := false }, kinds := [], alts := [], laidByText := true, laidKinds := [.data, .data, .data], laidTests := true, laidLooks := .later }
def PillowPairsUptoCardSaid : Prop := Claim7.holds Tryd.pinned (.plain (OpenSpec.upto pillowPairsSpec)) pillowPairsUptoCard

/-- THE SECOND FORM's CARD OF 'snowlinelaw03.PillowAll'. -/
def pillowAllUptoCard : Claim7 := { stood := { row := pillowAllUptoRow, standIns := [], harness := (true, "ad9bba5210bce51f15c0a7893481b93ba200d5477b3fb4444e783d049ae7fc48"), looks := false }, kinds := [], alts := [], laidByText := true, laidKinds := [.data, .data, .data], laidTests := true, laidLooks := .later }
def PillowAllUptoCardSaid : Prop := Claim7.holds Tryd.pinned (.plain (OpenSpec.upto pillowAllSpec)) pillowAllUptoCard

/-- THE SECOND FORM's CARD OF 'snowlinelaw03.PillowFurther'. -/
def pillowFurtherUptoCard : Claim7 := { stood := { row := pillowFurtherUptoRow, standIns := [], harness := (true, "ad9bba5210bce51f15c0a7893481b93ba200d5477b3fb4444e783d049ae7fc48"), looks := false }, kinds := [], alts := [], laidByText := true, laidKinds := [.data, .data, .data], laidTests := true, laidLooks := .later }
def PillowFurtherUptoCardSaid : Prop := Claim7.holds Tryd.pinned (.plain (OpenSpec.upto pillowFurtherSpec)) pillowFurtherUptoCard

/-- THE SECOND FORM's CARD OF 'snowlinelaw03.PillowWider'. -/
def pillowWiderUptoCard : Claim7 := { stood := { row := pillowWiderUptoRow, standIns := [], harness := (true, "ad9bba5210bce51f15c0a7893481b93ba200d5477b3fb4444e783d049ae7fc48"), looks := false }, kinds := [], alts := [], laidByText := true, laidKinds := [.data, .data, .data], laidTests := true, laidLooks := .later }
def PillowWiderUptoCardSaid : Prop := Claim7.holds Tryd.pinned (.plain (OpenSpec.upto pillowWiderSpec)) pillowWiderUptoCard

/-- THE SECOND FORM's CARD OF 'snowlinelaw03.PillowTree'. -/
def pillowTreeUptoCard : Claim7 := { stood := { row := pillowTreeUptoRow, standIns := [], harness := (true, "ad9bba5210bce51f15c0a7893481b93ba200d5477b3fb4444e783d049ae7fc48"), looks := false }, kinds := [], alts := [], laidByText := true, laidKinds := [.data, .data, .data], laidTests := true, laidLooks := .later }
def PillowTreeUptoCardSaid : Prop := Claim7.holds Tryd.pinned (.plain (OpenSpec.upto pillowTreeSpec)) pillowTreeUptoCard
end Rows
end Go.Proofs.YtelenedgaoglaaaDoor
