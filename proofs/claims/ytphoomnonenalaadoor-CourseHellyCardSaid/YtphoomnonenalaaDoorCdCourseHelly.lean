/- CourseHelly returns true for every scale, all days, lists of days and of grams and every first day, valid or not, and leaves its arguments as they were. Its conditions: none but the row's own (the three tables of the library that it reads hold what the program's text lays). -/
import Derived.Test.YtphoomnonenalaaDoorClCourseHelly
import Derived.Test.YtphoomnonenalaaDoorTie
import Derived.Test.YtphoomnonenalaaDoorCards
import Derived.SevenTiedAt
namespace Go.Proofs.YtphoomnonenalaaDoor
open Go
set_option maxRecDepth 100000 in
theorem courseHelly_card_holds : Rows.CourseHellyCardSaid :=
  Claim7.holds_tied_plain_at .later [] [.data, .data, .data] true (true, "b3bbd85d2b507c8eb537433e5c0231041408110d447452fc55629c5b0fa79d5b") false
    courseHelly_holds (fun _ h => by cases h) (by kernel_rfl) (fun _ h => by cases h) courseHelly_row_tie rfl ⟨rfl, rfl⟩ (by kernel_rfl) rfl
    (fun f fn hf hfn => by
      obtain rfl : f = 7 := Option.some.inj ((show Tryd.prog.funcNamed "snowline/snowlinelaw01.CourseHelly" = some 7 by kernel_rfl).symm.trans hf) |>.symm
      obtain rfl : fn = Tryd.f7 := (Option.some.inj (Tryd.func7.symm.trans hfn)).symm
      exact ⟨by kernel_rfl, fun j t ht => by
        rw [Tryd.params7] at ht
        match j, ht with
        | 0, ht => obtain rfl : t = 24 := by simpa using ht.symm
                   exact (show Tryd.prog.wantsStandIn 24 = false by kernel_rfl)
        | 1, ht => obtain rfl : t = 3 := by simpa using ht.symm
                   exact (show Tryd.prog.wantsStandIn 3 = false by kernel_rfl)
        | 2, ht => obtain rfl : t = 45 := by simpa using ht.symm
                   exact (show Tryd.prog.wantsStandIn 45 = false by kernel_rfl)
        | 3, ht => obtain rfl : t = 45 := by simpa using ht.symm
                   exact (show Tryd.prog.wantsStandIn 45 = false by kernel_rfl)
        | 4, ht => obtain rfl : t = 3 := by simpa using ht.symm
                   exact (show Tryd.prog.wantsStandIn 3 = false by kernel_rfl)
        | j + 5, ht => simp at ht⟩)
    (by kernel_rfl)
end Go.Proofs.YtphoomnonenalaaDoor
