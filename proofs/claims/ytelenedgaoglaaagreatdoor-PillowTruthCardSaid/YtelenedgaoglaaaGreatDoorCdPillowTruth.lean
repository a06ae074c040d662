/- PillowTruth returns true for every hidden load and what a pillow showed of it, whatever its numbers, and leaves its argument as it was. Its conditions: none but the row's own (the three tables of the library that it reads hold what the program's text lays). -/
import Derived.Test.YtelenedgaoglaaaGreatDoorClPillowTruth
import Derived.Test.YtelenedgaoglaaaGreatDoorTie
import Derived.Test.YtelenedgaoglaaaGreatDoorCards
import Derived.SevenTiedAt
namespace Go.Proofs.YtelenedgaoglaaaGreatDoor
open Go
set_option maxRecDepth 100000 in
theorem pillowTruth_card_holds : Rows.PillowTruthCardSaid :=
  Claim7.holds_tied_plain_at .later [] [.data, .data, .data] true (true, "add7e36cd1866488e0eb37e28b1ea6b76278d8f931b611dc49f437e42680162e") true
    pillowTruth_holds (fun _ h => by cases h) (by kernel_rfl) (fun _ h => by cases h) pillowTruth_row_tie rfl ⟨rfl, rfl⟩ (by kernel_rfl) rfl
    (fun f fn hf hfn => by
      obtain rfl : f = 11 := Option.some.inj ((show Tryz.prog.funcNamed "snowline/snowlinelaw03.PillowTruth" = some 11 by kernel_rfl).symm.trans hf) |>.symm
      obtain rfl : fn = Tryz.f11 := (Option.some.inj (Tryz.func11.symm.trans hfn)).symm
      exact ⟨by kernel_rfl, fun j t ht => by
        rw [Tryz.params11] at ht
        match j, ht with
        | 0, ht => obtain rfl : t = 78 := by simpa using ht.symm
                   exact (show Tryz.prog.wantsStandIn 78 = false by kernel_rfl)
        | j + 1, ht => simp at ht⟩)
    (by kernel_rfl)
end Go.Proofs.YtelenedgaoglaaaGreatDoor
