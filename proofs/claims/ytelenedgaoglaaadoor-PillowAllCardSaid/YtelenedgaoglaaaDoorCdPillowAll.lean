/- PillowAll returns true for every pillow, list of spans and list of states, valid or not, and leaves its arguments as they were. Its conditions: none but the row's own (the three tables of the library that it reads hold what the program's text lays). -/
import Derived.Test.YtelenedgaoglaaaDoorClPillowAll
import Derived.Test.YtelenedgaoglaaaDoorTie
import Derived.Test.YtelenedgaoglaaaDoorCards
import Derived.SevenTiedAt
namespace Go.Proofs.YtelenedgaoglaaaDoor
open Go
set_option maxRecDepth 100000 in
theorem pillowAll_card_holds : Rows.PillowAllCardSaid :=
  Claim7.holds_tied_plain_at .later [] [.data, .data, .data] true (true, "ad9bba5210bce51f15c0a7893481b93ba200d5477b3fb4444e783d049ae7fc48") false
    pillowAll_holds (fun _ h => by cases h) (by kernel_rfl) (fun _ h => by cases h) pillowAll_row_tie rfl ⟨rfl, rfl⟩ (by kernel_rfl) rfl
    (fun f fn hf hfn => by
      obtain rfl : f = 4 := Option.some.inj ((show Tryd.prog.funcNamed "snowline/snowlinelaw03.PillowAll" = some 4 by kernel_rfl).symm.trans hf) |>.symm
      obtain rfl : fn = Tryd.f4 := (Option.some.inj (Tryd.func4.symm.trans hfn)).symm
      exact ⟨by kernel_rfl, fun j t ht => by
        rw [Tryd.params4] at ht
        match j, ht with
        | 0, ht => obtain rfl : t = 24 := by simpa using ht.symm
                   exact (show Tryd.prog.wantsStandIn 24 = false by kernel_rfl)
        | 1, ht => obtain rfl : t = 25 := by simpa using ht.symm
                   exact (show Tryd.prog.wantsStandIn 25 = false by kernel_rfl)
        | 2, ht => obtain rfl : t = 26 := by simpa using ht.symm
                   exact (show Tryd.prog.wantsStandIn 26 = false by kernel_rfl)
        | j + 3, ht => simp at ht⟩)
    (by kernel_rfl)
end Go.Proofs.YtelenedgaoglaaaDoor
