/- CourseLists returns true for every scale, all sheets, lists and days, valid or not, and leaves its arguments as they were. Its conditions: none but the row's own (the three tables of the library that it reads hold what the program's text lays). -/
import Derived.Test.YtphoomnonenalaaGreatDoorClCourseLists
import Derived.Test.YtphoomnonenalaaGreatDoorTie
import Derived.Test.YtphoomnonenalaaGreatDoorCards
import Derived.SevenTiedAt
namespace Go.Proofs.YtphoomnonenalaaGreatDoor
open Go
set_option maxRecDepth 100000 in
theorem courseLists_card_holds : Rows.CourseListsCardSaid :=
  Claim7.holds_tied_plain_at .later [] [.data, .data, .data] true (true, "577a493be3fc740deb063882a15d9b3ed2d4fc8e3e4841c470aaf5a6dc792384") true
    courseLists_holds (fun _ h => by cases h) (by kernel_rfl) (fun _ h => by cases h) courseLists_row_tie rfl ⟨rfl, rfl⟩ (by kernel_rfl) rfl
    (fun f fn hf hfn => by
      obtain rfl : f = 3 := Option.some.inj ((show Tryz.prog.funcNamed "snowline/snowlinelaw01.CourseLists" = some 3 by kernel_rfl).symm.trans hf) |>.symm
      obtain rfl : fn = Tryz.f3 := (Option.some.inj (Tryz.func3.symm.trans hfn)).symm
      exact ⟨by kernel_rfl, fun j t ht => by
        rw [Tryz.params3] at ht
        match j, ht with
        | 0, ht => obtain rfl : t = 24 := by simpa using ht.symm
                   exact (show Tryz.prog.wantsStandIn 24 = false by kernel_rfl)
        | 1, ht => obtain rfl : t = 25 := by simpa using ht.symm
                   exact (show Tryz.prog.wantsStandIn 25 = false by kernel_rfl)
        | 2, ht => obtain rfl : t = 26 := by simpa using ht.symm
                   exact (show Tryz.prog.wantsStandIn 26 = false by kernel_rfl)
        | 3, ht => obtain rfl : t = 27 := by simpa using ht.symm
                   exact (show Tryz.prog.wantsStandIn 27 = false by kernel_rfl)
        | j + 4, ht => simp at ht⟩)
    (by kernel_rfl)
end Go.Proofs.YtphoomnonenalaaGreatDoor
