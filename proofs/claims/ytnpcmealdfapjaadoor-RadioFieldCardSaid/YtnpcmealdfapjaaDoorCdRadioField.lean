/- The radio's field: Times is commutative and associative, distributes over exclusive or, has the neutral element 1, and Inverse inverts, for all three bytes. Its conditions: none but the row's own (the table of the package that it reads holds what the program's text lays). -/
import Derived.Test.YtnpcmealdfapjaaDoorClRadioField
import Derived.Test.YtnpcmealdfapjaaDoorTie
import Derived.Test.YtnpcmealdfapjaaDoorCards
import Derived.SevenTiedAt
namespace Go.Proofs.YtnpcmealdfapjaaDoor
open Go
set_option maxRecDepth 100000 in
theorem radioField_card_holds : Rows.RadioFieldCardSaid :=
  Claim7.holds_tied_plain_at .later [] [.data] true (true, "6b47a3f656c3e4d0ef8287b8fd3a80b559824ff81f2f7cd92b58f496d0879b5a") false
    radioField_holds (fun _ h => by cases h) (by kernel_rfl) (fun _ h => by cases h) radioField_row_tie rfl ⟨rfl, rfl⟩ (by kernel_rfl) rfl
    (fun f fn hf hfn => by
      obtain rfl : f = 6 := Option.some.inj ((show Tryd.prog.funcNamed "snowline/snowlinelaw09.RadioField" = some 6 by kernel_rfl).symm.trans hf) |>.symm
      obtain rfl : fn = Tryd.f6 := (Option.some.inj (Tryd.func6.symm.trans hfn)).symm
      exact ⟨by kernel_rfl, fun j t ht => by
        rw [Tryd.params6] at ht
        match j, ht with
        | 0, ht => obtain rfl : t = 5 := by simpa using ht.symm
                   exact (show Tryd.prog.wantsStandIn 5 = false by kernel_rfl)
        | 1, ht => obtain rfl : t = 5 := by simpa using ht.symm
                   exact (show Tryd.prog.wantsStandIn 5 = false by kernel_rfl)
        | 2, ht => obtain rfl : t = 5 := by simpa using ht.symm
                   exact (show Tryd.prog.wantsStandIn 5 = false by kernel_rfl)
        | j + 3, ht => simp at ht⟩)
    (by kernel_rfl)
end Go.Proofs.YtnpcmealdfapjaaDoor

