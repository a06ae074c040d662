/- PillowFurther returns true for every pillow, list of spans, entry and span, valid or not, and leaves its arguments as they were. Its conditions: none but the row's own (the three tables of the library that it reads hold what the program's text lays). -/
import Derived.Test.YtelenedgaoglaaaDoorClPillowFurther
import Derived.Test.YtelenedgaoglaaaDoorTie
import Derived.Test.YtelenedgaoglaaaDoorCards
import Derived.SevenTiedAt
namespace Go.Proofs.YtelenedgaoglaaaDoor
open Go
set_option maxRecDepth 100000 in
theorem pillowFurther_card_holds : Rows.PillowFurtherCardSaid :=
  Claim7.holds_tied_plain_at .later [] [.data, .data, .data] true (true, "ad9bba5210bce51f15c0a7893481b93ba200d5477b3fb4444e783d049ae7fc48") false
    pillowFurther_holds (fun _ h => by cases h) (by kernel_rfl) (fun _ h => by cases h) pillowFurther_row_tie rfl ⟨rfl, rfl⟩ (by kernel_rfl) rfl
    (fun f fn hf hfn => by
      obtain rfl : f = 5 := Option.some.inj ((show Tryd.prog.funcNamed "snowline/snowlinelaw03.PillowFurther" = some 5 by kernel_rfl).symm.trans hf) |>.symm
      obtain rfl : fn = Tryd.f5 := (Option.some.inj (Tryd.func5.symm.trans hfn)).symm
      exact ⟨by kernel_rfl, fun j t ht => by
        rw [Tryd.params5] at ht
        match j, ht with
        | 0, ht => obtain rfl : t = 24 := by simpa using ht.symm
                   exact (show Tryd.prog.wantsStandIn 24 = false by kernel_rfl)
        | 1, ht => obtain rfl : t = 25 := by simpa using ht.symm
                   exact (show Tryd.prog.wantsStandIn 25 = false by kernel_rfl)
        | 2, ht => obtain rfl : t = 43 := by simpa using ht.symm
                   exact (show Tryd.prog.wantsStandIn 43 = false by kernel_rfl)
        | 3, ht => obtain rfl : t = 45 := by simpa using ht.symm
                   exact (show Tryd.prog.wantsStandIn 45 = false by kernel_rfl)
        | j + 4, ht => simp at ht⟩)
    (by kernel_rfl)
end Go.Proofs.YtelenedgaoglaaaDoor
