/- PackApplies returns true for every pack and step, valid or not, and leaves its arguments as they were. Its conditions: none but the row's own (the three tables of the library that it reads hold what the program's text lays). -/
import Derived.Test.YtgagfmjpmdgfdaaDoorClPackApplies
import Derived.Test.YtgagfmjpmdgfdaaDoorTie
import Derived.Test.YtgagfmjpmdgfdaaDoorCards
import Derived.SevenTiedAt
namespace Go.Proofs.YtgagfmjpmdgfdaaDoor
open Go
set_option maxRecDepth 100000 in
theorem packApplies_card_holds : Rows.PackAppliesCardSaid :=
  Claim7.holds_tied_plain_at .later [] [.data, .data, .data] true (true, "f52317d1d31027d2e271c8d939b96790a8dcbd2b74ec36ea72bd9f5fd735d30d") false
    packApplies_holds (fun _ h => by cases h) (by kernel_rfl) (fun _ h => by cases h) packApplies_row_tie rfl ⟨rfl, rfl⟩ (by kernel_rfl) rfl
    (fun f fn hf hfn => by
      obtain rfl : f = 4 := Option.some.inj ((show Tryd.prog.funcNamed "snowline/snowlinelaw02.PackApplies" = some 4 by kernel_rfl).symm.trans hf) |>.symm
      obtain rfl : fn = Tryd.f4 := (Option.some.inj (Tryd.func4.symm.trans hfn)).symm
      exact ⟨by kernel_rfl, fun j t ht => by
        rw [Tryd.params4] at ht
        match j, ht with
        | 0, ht => obtain rfl : t = 24 := by simpa using ht.symm
                   exact (show Tryd.prog.wantsStandIn 24 = false by kernel_rfl)
        | 1, ht => obtain rfl : t = 26 := by simpa using ht.symm
                   exact (show Tryd.prog.wantsStandIn 26 = false by kernel_rfl)
        | j + 2, ht => simp at ht⟩)
    (by kernel_rfl)
end Go.Proofs.YtgagfmjpmdgfdaaDoor
