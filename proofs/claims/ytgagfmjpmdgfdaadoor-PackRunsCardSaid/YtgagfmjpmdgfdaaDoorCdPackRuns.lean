/- PackRuns returns true for every pack and list of steps, valid or not, and leaves its arguments as they were. Its conditions: none but the row's own (the three tables of the library that it reads hold what the program's text lays). -/
import Derived.Test.YtgagfmjpmdgfdaaDoorClPackRuns
import Derived.Test.YtgagfmjpmdgfdaaDoorTie
import Derived.Test.YtgagfmjpmdgfdaaDoorCards
import Derived.SevenTiedAt
namespace Go.Proofs.YtgagfmjpmdgfdaaDoor
open Go
set_option maxRecDepth 100000 in
theorem packRuns_card_holds : Rows.PackRunsCardSaid :=
  Claim7.holds_tied_plain_at .later [] [.data, .data, .data] true (true, "f52317d1d31027d2e271c8d939b96790a8dcbd2b74ec36ea72bd9f5fd735d30d") false
    packRuns_holds (fun _ h => by cases h) (by kernel_rfl) (fun _ h => by cases h) packRuns_row_tie rfl ⟨rfl, rfl⟩ (by kernel_rfl) rfl
    (fun f fn hf hfn => by
      obtain rfl : f = 5 := Option.some.inj ((show Tryd.prog.funcNamed "snowline/snowlinelaw02.PackRuns" = some 5 by kernel_rfl).symm.trans hf) |>.symm
      obtain rfl : fn = Tryd.f5 := (Option.some.inj (Tryd.func5.symm.trans hfn)).symm
      exact ⟨by kernel_rfl, fun j t ht => by
        rw [Tryd.params5] at ht
        match j, ht with
        | 0, ht => obtain rfl : t = 24 := by simpa using ht.symm
                   exact (show Tryd.prog.wantsStandIn 24 = false by kernel_rfl)
        | 1, ht => obtain rfl : t = 43 := by simpa using ht.symm
                   exact (show Tryd.prog.wantsStandIn 43 = false by kernel_rfl)
        | j + 2, ht => simp at ht⟩)
    (by kernel_rfl)
end Go.Proofs.YtgagfmjpmdgfdaaDoor
