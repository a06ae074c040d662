/-
  DERIVED. GIVEN WITH THE SEED: THE CARDS: each row of YtnpcmealdfapjaaDoorRows.lean that lists a variable, with what it lists TIED to the program's text (the seventh form; the later family's looks); each row that meets fmt, with fmt's text TOLD by the authors' own Lean function (tested against real Go, not proved from fmt's source: count such statements apart). THE CARD IS WHAT COUNTS. Prove the row's statement (the work); the ties are given (YtnpcmealdfapjaaDoorTie.lean); close each card by the builder's one call (the guide's Derived/Test/ToyasCard.lean, 'card_holds'). Laid BY PROGRAM, IN A SANDBOX (cutbox-door.mjs). By AI agents, Wed Nov 11 2026. No macro, syntax, notation, axiom, sorry.
-/
import Derived.Test.YtnpcmealdfapjaaDoorRows
import GoSem.ClaimSeven
namespace Go.Proofs.YtnpcmealdfapjaaDoor
namespace Rows

/-- THE TIED CARD OF 'snowlinelaw09.RadioCodes'. -/
def radioCodesCard : Claim7 := { stood := { row := radioCodesRow, standIns := [], harness := (true, "6b47a3f656c3e4d0ef8287b8fd3a80b559824ff81f2f7cd92b58f496d0879b5a"), looks := false }, kinds := [], alts := [], laidByText := true, laidKinds := [.data], laidTests := true, laidLooks := .later }
def RadioCodesCardSaid : Prop := Claim7.holds Tryd.pinned (.plain (OpenSpec.ofChange radioCodesSpec)) radioCodesCard

/-- THE TIED CARD OF 'snowlinelaw09.RadioFrames'. -/
def radioFramesCard : Claim7 := { stood := { row := radioFramesRow, standIns := [], harness := (true, "6b47a3f656c3e4d0ef8287b8fd3a80b559824ff81f2f7cd92b58f496d0879b5a"), looks := false }, kinds := [], alts := [], laidByText := true, laidKinds := [.data], laidTests := true, laidLooks := .later }
def RadioFramesCardSaid : Prop := Claim7.holds Tryd.pinned (.plain (OpenSpec.ofChange radioFramesSpec)) radioFramesCard

/-- THE TIED CARD OF 'snowlinelaw09.RadioDisks'. -/
def radioDisksCard : Claim7 := { stood := { row := radioDisksRow, standIns := [], harness := (true, "6b47a3f656c3e4d0ef8287b8fd3a80b559824ff81f2f7cd92b58f496d0879b5a"), looks := false }, kinds := [], alts := [], laidByText := true, laidKinds := [.data], laidTests := true, laidLooks := .later }
def RadioDisksCardSaid : Prop := Claim7.holds Tryd.pinned (.plain (OpenSpec.ofChange radioDisksSpec)) radioDisksCard

/-- THE TIED CARD OF 'snowlinelaw09.RadioField'. -/
def radioFieldCard : Claim7 := { stood := { row := radioFieldRow, standIns := [], harness := (true, "6b47a3f656c3e4d0ef8287b8fd3a80b559824ff81f2f7cd92b58f496d0879b5a"), looks := false }, kinds := [], alts := [], laidByText := true, laidKinds := [.data], laidTests := true, laidLooks := .later }
def RadioFieldCardSaid : Prop := Claim7.holds Tryd.pinned (.plain (OpenSpec.ofChange radioFieldSpec)) radioFieldCard

/-- THE TIED CARD OF 'snowlinelaw09.RadioCorrects'. -/
def radioCorrectsCard : Claim7 := { stood := { row := radioCorrectsRow, standIns := [], harness := (true, "6b47a3f656c3e4d0ef8287b8fd3a80b559824ff81f2f7cd92b58f496d0879b5a"), looks := false }, kinds := [], alts := [], laidByText := true, laidKinds := [.data], laidTests := true, laidLooks := .later }
def RadioCorrectsCardSaid : Prop := Claim7.holds Tryd.pinned (.plain (OpenSpec.ofChange radioCorrectsSpec)) radioCorrectsCard

/-- THE TIED CARD OF 'snowlinelaw09.RadioAgree'. -/
def radioAgreeCard : Claim7 := { stood := { row := radioAgreeRow, standIns := [], harness := (true, "6b47a3f656c3e4d0ef8287b8fd3a80b559824ff81f2f7cd92b58f496d0879b5a"), looks := false }, kinds := [], alts := [], laidByText := true, laidKinds := [.data], laidTests := true, laidLooks := .later }
def RadioAgreeCardSaid : Prop := Claim7.holds Tryd.pinned (.plain (OpenSpec.ofChange radioAgreeSpec)) radioAgreeCard

/-- THE TIED CARD OF 'snowlinelaw09.RadioOnce'. -/
def radioOnceCard : Claim7 := { stood := { row := radioOnceRow, standIns := [], harness := (true, "6b47a3f656c3e4d0ef8287b8fd3a80b559824ff81f2f7cd92b58f496d0879b5a"), looks := false }, kinds := [], alts := [], laidByText := true, laidKinds := [.data], laidTests := true, laidLooks := .later }
def RadioOnceCardSaid : Prop := Claim7.holds Tryd.pinned (.plain (OpenSpec.ofChange radioOnceSpec)) radioOnceCard

/-- THE SECOND FORM's CARD OF 'snowlinelaw09.RadioCodes'. -/
def radioCodesUptoCard : Claim7 := { stood := { row := radioCodesUptoRow, standIns := [], harness := (true, "6b47a3f656c3e4d0ef8287b8fd3a80b559824ff81f2f7cd92b58f496d0879b5a"), looks := false }, kinds := [], alts := [], laidByText := true, laidKinds := [.data], laidTests := true, laidLooks := .later }
def RadioCodesUptoCardSaid : Prop := Claim7.holds Tryd.pinned (.plain (OpenSpec.upto radioCodesSpec)) radioCodesUptoCard

/-- THE SECOND FORM's CARD OF 'snowlinelaw09.RadioFrames'. -/
def radioFramesUptoCard : Claim7 := { stood := { row := radioFramesUptoRow, standIns := [], harness := (true, "6b47a3f656c3e4d0ef8287b8fd3a80b559824ff81f2f7cd92b58f496d0879b5a"), looks := false }, kinds := [], alts := [], laidByText := true, laidKinds := [.data], laidTests := true, laidLooks := .later }
def RadioFramesUptoCardSaid : Prop := Claim7.holds Tryd.pinned (.plain (OpenSpec.upto radioFramesSpec)) radioFramesUptoCard

/-- THE SECOND FORM's CARD OF 'snowlinelaw09.RadioDisks'. -/
def radioDisksUptoCard : Claim7 := { stood := { row := radioDisksUptoRow, standIns := [], harness := (true, "6b47a3f656c3e4d0ef8287b8fd3a80b559824ff81f2f7cd92b58f496d0879b5a"), looks := false }, kinds := [], alts := [], laidByText := true, laidKinds := [.data], laidTests := true, laidLooks := .later }
def RadioDisksUptoCardSaid : Prop := Claim7.holds Tryd.pinned (.plain (OpenSpec.upto radioDisksSpec)) radioDisksUptoCard

/-- THE SECOND FORM's CARD OF 'snowlinelaw09.RadioField'. -/
def radioFieldUptoCard : Claim7 := { stood := { row := radioFieldUptoRow, standIns := [], harness := (true, "6b47a3f656c3e4d0ef8287b8fd3a80b559824ff81f2f7cd92b58f496d0879b5a"), looks := false }, kinds := [], alts := [], laidByText := true, laidKinds := [.data], laidTests := true, laidLooks := .later }
def RadioFieldUptoCardSaid : Prop := Claim7.holds Tryd.pinned (.plain (OpenSpec.upto radioFieldSpec)) radioFieldUptoCard

/-- THE SECOND FORM's CARD OF 'snowlinelaw09.RadioCorrects'. -/
def radioCorrectsUptoCard : Claim7 := { stood := { row := radioCorrectsUptoRow, standIns := [], harness := (true, "6b47a3f656c3e4d0ef8287b8fd3a80b559824ff81f2f7cd92b58f496d0879b5a"), looks := false }, kinds := [], alts := [], laidByText := true, laidKinds := [.data], laidTests := true, laidLooks := .later }
def RadioCorrectsUptoCardSaid : Prop := Claim7.holds Tryd.pinned (.plain (OpenSpec.upto radioCorrectsSpec)) radioCorrectsUptoCard

/-- THE SECOND FORM's CARD OF 'snowlinelaw09.RadioAgree'. -/
def radioAgreeUptoCard : Claim7 := { stood := { row := radioAgreeUptoRow, standIns := [], harness := (true, "6b47a3f656c3e4d0ef8287b8fd3a80b559824ff81f2f7cd92b58f496d0879b5a"), looks := false }, kinds := [], alts := [], laidByText := true, laidKinds := [.data], laidTests := true, laidLooks := .later }
def RadioAgreeUptoCardSaid : Prop := Claim7.holds Tryd.pinned (.plain (OpenSpec.upto radioAgreeSpec)) radioAgreeUptoCard

/-- THE SECOND FORM's CARD OF 'snowlinelaw09.RadioOnce'. -/
def radioOnceUptoCard : Claim7 := { stood := { row := radioOnceUptoRow, standIns := [], harness := (true, "6b47a3f656c3e4d0ef8287b8fd3a80b559824ff81f2f7cd92b58f496d0879b5a"), looks := false }, kinds := [], alts := [], laidByText := true, laidKinds := [.data], laidTests := true, laidLooks := .later }
def RadioOnceUptoCardSaid : Prop := Claim7.holds Tryd.pinned (.plain (OpenSpec.upto radioOnceSpec)) radioOnceUptoCard
end Rows
end Go.Proofs.YtnpcmealdfapjaaDoor
