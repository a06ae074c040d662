/-
  NARROWER THAN 'FOR EVERY INPUT', by the rows' own cells (each row's printed sentence says how): RadioCodes: laid · RadioFrames: laid · RadioDisks: laid · RadioField: laid · RadioCorrects: laid · RadioAgree: laid · RadioOnce: laid.
  DERIVED. THE GIVEN ROWS OF THIS SEAT. 7 by the template 'for every input the law returns true; each argument reads behind the call as it read before'; 0 by the template 'total and deterministic' (their statements: YtnpcmealdfapjaaDoorTotals.lean).
  GIVEN WITH THE SEED: the statements are not yours to turn. If you find one false, say at which input.
  Laid BY PROGRAM, IN A SANDBOX (cutbox-rows.mjs): the forced cells as the released guide's own fill.sh prints them over the translation 0ef803e2945844d2… (all of the seat's roots in one cut). By AI agents, Wed Nov 11 2026. No macro, syntax, notation, axiom, sorry.
-/
import Derived.Test.YtnpcmealdfapjaaDoorChecked
import GoSem.Claim
import GoSem.ClaimJoined
import GoSem.ClaimMapViews
import Derived.JoinedTies
import Derived.KernelRfl
namespace Go.Proofs.YtnpcmealdfapjaaDoor
/- THE CELL 'sum', in the pinned program and in every row, IS THE sha256 OF THE DUMP (.gsa) THAT YtnpcmealdfapjaaDoorProg.lean LOADS. Nothing in Lean hashes anything: it is a label: what it is worth is what the hold of that sum in a sandbox is worth. -/
noncomputable def Tryd.pinned : Pinned := { name := "ytnpcmealdfapjaadoor", sum := "0ef803e2945844d2785f99d5d57ff85bb611d82cc28987373cb1bd44b019c778", checked := Tryd.checked }
namespace Rows
def none {H : Type} : Left H := { results := [], args := [] }

/- WHAT THE LISTED PACKAGE-LEVEL VARIABLES READ AS WHEN THE CALL BEGINS. Each datum BY PROGRAM (the guide's laid-datum.mjs) off the statement by which the dump's own 'gosem.cut.vars' lays the variable. In a bare row this is a premise. The card (YtnpcmealdfapjaaDoorCards.lean) ties it to the program's text. -/
def laid_snowline_radio_generator {H : Type} : DataW H := .agg [.lit (.int .u8 63), .lit (.int .u8 1), .lit (.int .u8 218), .lit (.int .u8 32), .lit (.int .u8 227), .lit (.int .u8 38)]

/-- 'snowlinelaw09.RadioCodes': WHATEVER THE INPUT: true; the input reads as it did. -/
def radioCodesSpec : ChangeSpec := { name := "radioCodes", fn := fun _ => fun
  | [d1, d2, d3, d4] => { results := [.lit (.bool true)], args := [d1, d2, d3, d4] }
  | _ => none }
def radioCodesRow : OpenClaim := { program := "ytnpcmealdfapjaadoor", sum := "0ef803e2945844d2785f99d5d57ff85bb611d82cc28987373cb1bd44b019c778", func := "snowline/snowlinelaw09.RadioCodes", spec := "radioCodes", unfollowed := true, recurses := true, named := ["snowline/radio.generator"], apart := false, laid := [("snowline/radio.generator", laid_snowline_radio_generator)] }
def RadioCodesSaid : Prop := radioCodesRow.holds Tryd.pinned (OpenSpec.ofChange radioCodesSpec)

/-- ITS FALSE NEIGHBOUR: 'it returns false'. Refute it at one input. -/
def radioCodesWrong : ChangeSpec := { name := "radioCodes", fn := fun _ => fun
  | [d1, d2, d3, d4] => { results := [.lit (.bool false)], args := [d1, d2, d3, d4] }
  | _ => none }
def RadioCodesWrongFalsely : Prop := radioCodesRow.holds Tryd.pinned (OpenSpec.ofChange radioCodesWrong)

/-- 'snowlinelaw09.RadioFrames': WHATEVER THE INPUT: true; the input reads as it did. -/
def radioFramesSpec : ChangeSpec := { name := "radioFrames", fn := fun _ => fun
  | [d1, d2] => { results := [.lit (.bool true)], args := [d1, d2] }
  | _ => none }
def radioFramesRow : OpenClaim := { program := "ytnpcmealdfapjaadoor", sum := "0ef803e2945844d2785f99d5d57ff85bb611d82cc28987373cb1bd44b019c778", func := "snowline/snowlinelaw09.RadioFrames", spec := "radioFrames", unfollowed := true, recurses := true, named := ["snowline/radio.generator"], apart := false, laid := [("snowline/radio.generator", laid_snowline_radio_generator)] }
def RadioFramesSaid : Prop := radioFramesRow.holds Tryd.pinned (OpenSpec.ofChange radioFramesSpec)

/-- ITS FALSE NEIGHBOUR: 'it returns false'. Refute it at one input. -/
def radioFramesWrong : ChangeSpec := { name := "radioFrames", fn := fun _ => fun
  | [d1, d2] => { results := [.lit (.bool false)], args := [d1, d2] }
  | _ => none }
def RadioFramesWrongFalsely : Prop := radioFramesRow.holds Tryd.pinned (OpenSpec.ofChange radioFramesWrong)

/-- 'snowlinelaw09.RadioDisks': WHATEVER THE INPUT: true; the input reads as it did. -/
def radioDisksSpec : ChangeSpec := { name := "radioDisks", fn := fun _ => fun
  | [d1, d2] => { results := [.lit (.bool true)], args := [d1, d2] }
  | _ => none }
def radioDisksRow : OpenClaim := { program := "ytnpcmealdfapjaadoor", sum := "0ef803e2945844d2785f99d5d57ff85bb611d82cc28987373cb1bd44b019c778", func := "snowline/snowlinelaw09.RadioDisks", spec := "radioDisks", unfollowed := true, recurses := true, named := ["snowline/radio.generator"], apart := false, laid := [("snowline/radio.generator", laid_snowline_radio_generator)] }
def RadioDisksSaid : Prop := radioDisksRow.holds Tryd.pinned (OpenSpec.ofChange radioDisksSpec)

/-- ITS FALSE NEIGHBOUR: 'it returns false'. Refute it at one input. -/
def radioDisksWrong : ChangeSpec := { name := "radioDisks", fn := fun _ => fun
  | [d1, d2] => { results := [.lit (.bool false)], args := [d1, d2] }
  | _ => none }
def RadioDisksWrongFalsely : Prop := radioDisksRow.holds Tryd.pinned (OpenSpec.ofChange radioDisksWrong)

/-- 'snowlinelaw09.RadioField': WHATEVER THE INPUT: true; the input reads as it did. -/
def radioFieldSpec : ChangeSpec := { name := "radioField", fn := fun _ => fun
  | [d1, d2, d3] => { results := [.lit (.bool true)], args := [d1, d2, d3] }
  | _ => none }
def radioFieldRow : OpenClaim := { program := "ytnpcmealdfapjaadoor", sum := "0ef803e2945844d2785f99d5d57ff85bb611d82cc28987373cb1bd44b019c778", func := "snowline/snowlinelaw09.RadioField", spec := "radioField", unfollowed := true, recurses := true, named := ["snowline/radio.generator"], apart := false, laid := [("snowline/radio.generator", laid_snowline_radio_generator)] }
def RadioFieldSaid : Prop := radioFieldRow.holds Tryd.pinned (OpenSpec.ofChange radioFieldSpec)

/-- ITS FALSE NEIGHBOUR: 'it returns false'. Refute it at one input. -/
def radioFieldWrong : ChangeSpec := { name := "radioField", fn := fun _ => fun
  | [d1, d2, d3] => { results := [.lit (.bool false)], args := [d1, d2, d3] }
  | _ => none }
def RadioFieldWrongFalsely : Prop := radioFieldRow.holds Tryd.pinned (OpenSpec.ofChange radioFieldWrong)

/-- 'snowlinelaw09.RadioCorrects': WHATEVER THE INPUT: true; the input reads as it did. -/
def radioCorrectsSpec : ChangeSpec := { name := "radioCorrects", fn := fun _ => fun
  | [d1, d2, d3, d4] => { results := [.lit (.bool true)], args := [d1, d2, d3, d4] }
  | _ => none }
def radioCorrectsRow : OpenClaim := { program := "ytnpcmealdfapjaadoor", sum := "0ef803e2945844d2785f99d5d57ff85bb611d82cc28987373cb1bd44b019c778", func := "snowline/snowlinelaw09.RadioCorrects", spec := "radioCorrects", unfollowed := true, recurses := true, named := ["snowline/radio.generator"], apart := false, laid := [("snowline/radio.generator", laid_snowline_radio_generator)] }
def RadioCorrectsSaid : Prop := radioCorrectsRow.holds Tryd.pinned (OpenSpec.ofChange radioCorrectsSpec)

/-- ITS FALSE NEIGHBOUR: 'it returns false'. Refute it at one input. -/
def radioCorrectsWrong : ChangeSpec := { name := "radioCorrects", fn := fun _ => fun
  | [d1, d2, d3, d4] => { results := [.lit (.bool false)], args := [d1, d2, d3, d4] }
  | _ => none }
def RadioCorrectsWrongFalsely : Prop := radioCorrectsRow.holds Tryd.pinned (OpenSpec.ofChange radioCorrectsWrong)

/-- 'snowlinelaw09.RadioAgree': WHATEVER THE INPUT: true; the input reads as it did. -/
def radioAgreeSpec : ChangeSpec := { name := "radioAgree", fn := fun _ => fun
  | [d1, d2, d3] => { results := [.lit (.bool true)], args := [d1, d2, d3] }
  | _ => none }
def radioAgreeRow : OpenClaim := { program := "ytnpcmealdfapjaadoor", sum := "0ef803e2945844d2785f99d5d57ff85bb611d82cc28987373cb1bd44b019c778", func := "snowline/snowlinelaw09.RadioAgree", spec := "radioAgree", unfollowed := true, recurses := true, named := ["snowline/radio.generator"], apart := false, laid := [("snowline/radio.generator", laid_snowline_radio_generator)] }
def RadioAgreeSaid : Prop := radioAgreeRow.holds Tryd.pinned (OpenSpec.ofChange radioAgreeSpec)

/-- ITS FALSE NEIGHBOUR: 'it returns false'. Refute it at one input. -/
def radioAgreeWrong : ChangeSpec := { name := "radioAgree", fn := fun _ => fun
  | [d1, d2, d3] => { results := [.lit (.bool false)], args := [d1, d2, d3] }
  | _ => none }
def RadioAgreeWrongFalsely : Prop := radioAgreeRow.holds Tryd.pinned (OpenSpec.ofChange radioAgreeWrong)

/-- 'snowlinelaw09.RadioOnce': WHATEVER THE INPUT: true; the input reads as it did. -/
def radioOnceSpec : ChangeSpec := { name := "radioOnce", fn := fun _ => fun
  | [d1, d2, d3] => { results := [.lit (.bool true)], args := [d1, d2, d3] }
  | _ => none }
def radioOnceRow : OpenClaim := { program := "ytnpcmealdfapjaadoor", sum := "0ef803e2945844d2785f99d5d57ff85bb611d82cc28987373cb1bd44b019c778", func := "snowline/snowlinelaw09.RadioOnce", spec := "radioOnce", unfollowed := true, recurses := true, named := ["snowline/radio.generator"], apart := false, laid := [("snowline/radio.generator", laid_snowline_radio_generator)] }
def RadioOnceSaid : Prop := radioOnceRow.holds Tryd.pinned (OpenSpec.ofChange radioOnceSpec)

/-- ITS FALSE NEIGHBOUR: 'it returns false'. Refute it at one input. -/
def radioOnceWrong : ChangeSpec := { name := "radioOnce", fn := fun _ => fun
  | [d1, d2, d3] => { results := [.lit (.bool false)], args := [d1, d2, d3] }
  | _ => none }
def RadioOnceWrongFalsely : Prop := radioOnceRow.holds Tryd.pinned (OpenSpec.ofChange radioOnceWrong)

/- THE SECOND FORM. 'bulk': how many values and letters a reading holds, each counted each time it is reached (what is shared counts as often as it is met; a slice's spare places count too). A statement '..UptoSaid' is the law's where the arguments, and the package variables that the reading takes, are together of bulk at most 1048576: NARROWER than '..Said'. Prove '..Said' where nothing that the law and all that it calls make is longer than what came in: it says more and counts as full. Else prove '..UptoSaid'. A law counts once. -/
mutual
def uptoBulk {H : Type} : DataW H → Nat
  | .lit (.string bytes) => bytes.length + 1
  | .lit _ => 1
  | .nil => 1
  | .ptr d => uptoBulk d + 1
  | .slice elems spare => uptoBulkAll elems + uptoBulkAll spare + 1
  | .agg parts => uptoBulkAll parts + 1
  | .iface _ d => uptoBulk d + 1
  | .map entries => uptoBulkEntries entries + 1
  | .held _ => 1
def uptoBulkAll {H : Type} : List (DataW H) → Nat
  | [] => 0
  | d :: r => uptoBulk d + uptoBulkAll r
def uptoBulkEntries {H : Type} : List (Lit × DataW H) → Nat
  | [] => 0
  | x :: r => uptoBulkEntry x + uptoBulkEntries r
def uptoBulkEntry {H : Type} : Lit × DataW H → Nat
  | (.string bytes, d) => bytes.length + uptoBulk d + 1
  | (_, d) => uptoBulk d + 1
 end
def uptoSmall : (H : Type) → List (DataW H) → Bool := fun _ ds => decide (uptoBulkAll ds ≤ 1048576)
def OpenSpec.upto (s : _root_.Go.ChangeSpec) : _root_.Go.OpenSpec := { _root_.Go.OpenSpec.ofChange s with cond := some uptoSmall }

/-- 'snowlinelaw09.RadioCodes', WHERE WHAT IT READS IS OF BULK AT MOST 1048576: true; the input reads as it did. -/
def radioCodesUptoRow : OpenClaim := { program := "ytnpcmealdfapjaadoor", sum := "0ef803e2945844d2785f99d5d57ff85bb611d82cc28987373cb1bd44b019c778", func := "snowline/snowlinelaw09.RadioCodes", spec := "radioCodes", unfollowed := true, recurses := true, named := ["snowline/radio.generator"], apart := false, laid := [("snowline/radio.generator", laid_snowline_radio_generator)], narrowed := true }
def RadioCodesUptoSaid : Prop := radioCodesUptoRow.holds Tryd.pinned (OpenSpec.upto radioCodesSpec)

/-- 'snowlinelaw09.RadioFrames', WHERE WHAT IT READS IS OF BULK AT MOST 1048576: true; the input reads as it did. -/
def radioFramesUptoRow : OpenClaim := { program := "ytnpcmealdfapjaadoor", sum := "0ef803e2945844d2785f99d5d57ff85bb611d82cc28987373cb1bd44b019c778", func := "snowline/snowlinelaw09.RadioFrames", spec := "radioFrames", unfollowed := true, recurses := true, named := ["snowline/radio.generator"], apart := false, laid := [("snowline/radio.generator", laid_snowline_radio_generator)], narrowed := true }
def RadioFramesUptoSaid : Prop := radioFramesUptoRow.holds Tryd.pinned (OpenSpec.upto radioFramesSpec)

/-- 'snowlinelaw09.RadioDisks', WHERE WHAT IT READS IS OF BULK AT MOST 1048576: true; the input reads as it did. -/
def radioDisksUptoRow : OpenClaim := { program := "ytnpcmealdfapjaadoor", sum := "0ef803e2945844d2785f99d5d57ff85bb611d82cc28987373cb1bd44b019c778", func := "snowline/snowlinelaw09.RadioDisks", spec := "radioDisks", unfollowed := true, recurses := true, named := ["snowline/radio.generator"], apart := false, laid := [("snowline/radio.generator", laid_snowline_radio_generator)], narrowed := true }
def RadioDisksUptoSaid : Prop := radioDisksUptoRow.holds Tryd.pinned (OpenSpec.upto radioDisksSpec)

/-- 'snowlinelaw09.RadioField', WHERE WHAT IT READS IS OF BULK AT MOST 1048576: true; the input reads as it did. -/
def radioFieldUptoRow : OpenClaim := { program := "ytnpcmealdfapjaadoor", sum := "0ef803e2945844d2785f99d5d57ff85bb611d82cc28987373cb1bd44b019c778", func := "snowline/snowlinelaw09.RadioField", spec := "radioField", unfollowed := true, recurses := true, named := ["snowline/radio.generator"], apart := false, laid := [("snowline/radio.generator", laid_snowline_radio_generator)], narrowed := true }
def RadioFieldUptoSaid : Prop := radioFieldUptoRow.holds Tryd.pinned (OpenSpec.upto radioFieldSpec)

/-- 'snowlinelaw09.RadioCorrects', WHERE WHAT IT READS IS OF BULK AT MOST 1048576: true; the input reads as it did. -/
def radioCorrectsUptoRow : OpenClaim := { program := "ytnpcmealdfapjaadoor", sum := "0ef803e2945844d2785f99d5d57ff85bb611d82cc28987373cb1bd44b019c778", func := "snowline/snowlinelaw09.RadioCorrects", spec := "radioCorrects", unfollowed := true, recurses := true, named := ["snowline/radio.generator"], apart := false, laid := [("snowline/radio.generator", laid_snowline_radio_generator)], narrowed := true }
def RadioCorrectsUptoSaid : Prop := radioCorrectsUptoRow.holds Tryd.pinned (OpenSpec.upto radioCorrectsSpec)

/-- 'snowlinelaw09.RadioAgree', WHERE WHAT IT READS IS OF BULK AT MOST 1048576: true; the input reads as it did. -/
def radioAgreeUptoRow : OpenClaim := { program := "ytnpcmealdfapjaadoor", sum := "0ef803e2945844d2785f99d5d57ff85bb611d82cc28987373cb1bd44b019c778", func := "snowline/snowlinelaw09.RadioAgree", spec := "radioAgree", unfollowed := true, recurses := true, named := ["snowline/radio.generator"], apart := false, laid := [("snowline/radio.generator", laid_snowline_radio_generator)], narrowed := true }
def RadioAgreeUptoSaid : Prop := radioAgreeUptoRow.holds Tryd.pinned (OpenSpec.upto radioAgreeSpec)

/-- 'snowlinelaw09.RadioOnce', WHERE WHAT IT READS IS OF BULK AT MOST 1048576: true; the input reads as it did. -/
def radioOnceUptoRow : OpenClaim := { program := "ytnpcmealdfapjaadoor", sum := "0ef803e2945844d2785f99d5d57ff85bb611d82cc28987373cb1bd44b019c778", func := "snowline/snowlinelaw09.RadioOnce", spec := "radioOnce", unfollowed := true, recurses := true, named := ["snowline/radio.generator"], apart := false, laid := [("snowline/radio.generator", laid_snowline_radio_generator)], narrowed := true }
def RadioOnceUptoSaid : Prop := radioOnceUptoRow.holds Tryd.pinned (OpenSpec.upto radioOnceSpec)

end Rows
end Go.Proofs.YtnpcmealdfapjaaDoor
