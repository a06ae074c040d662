/- PillowPossible returns true for every pillow, list of spans and entry, valid or not, and leaves its arguments as they were. Its conditions: none but the row's own (the three tables of the library that it reads hold what the program's text lays). -/
import Derived.Test.YtelenedgaoglaaaGreatDoorClPillowPossible
import Derived.Test.YtelenedgaoglaaaGreatDoorTie
import Derived.Test.YtelenedgaoglaaaGreatDoorCards
import Derived.SevenTiedAt
namespace Go.Proofs.YtelenedgaoglaaaGreatDoor
open Go
set_option maxRecDepth 100000 in
theorem pillowPossible_card_holds : Rows.PillowPossibleCardSaid :=
  Claim7.holds_tied_plain_at .later [] [.data, .data, .data] true (true, "add7e36cd1866488e0eb37e28b1ea6b76278d8f931b611dc49f437e42680162e") true
    pillowPossible_holds (fun _ h => by cases h) (by kernel_rfl) (fun _ h => by cases h) pillowPossible_row_tie rfl ⟨rfl, rfl⟩ (by kernel_rfl) rfl
    (fun f fn hf hfn => by
      obtain rfl : f = 7 := Option.some.inj ((show Tryz.prog.funcNamed "snowline/snowlinelaw03.PillowPossible" = some 7 by kernel_rfl).symm.trans hf) |>.symm
      obtain rfl : fn = Tryz.f7 := (Option.some.inj (Tryz.func7.symm.trans hfn)).symm
      exact ⟨by kernel_rfl, fun j t ht => by
        rw [Tryz.params7] at ht
        match j, ht with
        | 0, ht => obtain rfl : t = 24 := by simpa using ht.symm
                   exact (show Tryz.prog.wantsStandIn 24 = false by kernel_rfl)
        | 1, ht => obtain rfl : t = 38 := by simpa using ht.symm
                   exact (show Tryz.prog.wantsStandIn 38 = false by kernel_rfl)
        | 2, ht => obtain rfl : t = 3 := by simpa using ht.symm
                   exact (show Tryz.prog.wantsStandIn 3 = false by kernel_rfl)
        | j + 3, ht => simp at ht⟩)
    (by kernel_rfl)
end Go.Proofs.YtelenedgaoglaaaGreatDoor
