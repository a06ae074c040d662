/- CheckFrame, Encode and Decode are what the reference of the same text says, for all frames with bodies of at most 300 bytes and all strings of at most 300 bytes. Its conditions: none but the row's own (the table of the package that it reads holds what the program's text lays). -/
import Derived.Test.YtnpcmealdfapjaaDoorClRadioFrames
import Derived.Test.YtnpcmealdfapjaaDoorTie
import Derived.Test.YtnpcmealdfapjaaDoorCards
import Derived.SevenTiedAt
namespace Go.Proofs.YtnpcmealdfapjaaDoor
open Go
set_option maxRecDepth 100000 in
theorem radioFrames_card_holds : Rows.RadioFramesCardSaid :=
  Claim7.holds_tied_plain_at .later [] [.data] true (true, "6b47a3f656c3e4d0ef8287b8fd3a80b559824ff81f2f7cd92b58f496d0879b5a") false
    radioFrames_holds (fun _ h => by cases h) (by kernel_rfl) (fun _ h => by cases h) radioFrames_row_tie rfl ⟨rfl, rfl⟩ (by kernel_rfl) rfl
    (fun f fn hf hfn => by
      obtain rfl : f = 4 := Option.some.inj ((show Tryd.prog.funcNamed "snowline/snowlinelaw09.RadioFrames" = some 4 by kernel_rfl).symm.trans hf) |>.symm
      obtain rfl : fn = Tryd.f4 := (Option.some.inj (Tryd.func4.symm.trans hfn)).symm
      exact ⟨by kernel_rfl, fun j t ht => by
        rw [Tryd.params4] at ht
        match j, ht with
        | 0, ht => obtain rfl : t = 33 := by simpa using ht.symm
                   exact (show Tryd.prog.wantsStandIn 33 = false by kernel_rfl)
        | 1, ht => obtain rfl : t = 9 := by simpa using ht.symm
                   exact (show Tryd.prog.wantsStandIn 9 = false by kernel_rfl)
        | j + 2, ht => simp at ht⟩)
    (by kernel_rfl)
end Go.Proofs.YtnpcmealdfapjaaDoor

