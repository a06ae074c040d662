/- PillowTrees returns true for every pillow, list of spans and two lists of states, valid or not, and leaves its arguments as they were. Its conditions: none but the row's own (the three tables of the library that it reads hold what the program's text lays). -/
import Derived.Test.YtelenedgaoglaaaGreatDoorClPillowTrees
import Derived.Test.YtelenedgaoglaaaGreatDoorTie
import Derived.Test.YtelenedgaoglaaaGreatDoorCards
import Derived.SevenTiedAt
namespace Go.Proofs.YtelenedgaoglaaaGreatDoor
open Go
set_option maxRecDepth 100000 in
theorem pillowTrees_card_holds : Rows.PillowTreesCardSaid :=
  Claim7.holds_tied_plain_at .later [] [.data, .data, .data] true (true, "add7e36cd1866488e0eb37e28b1ea6b76278d8f931b611dc49f437e42680162e") true
    pillowTrees_holds (fun _ h => by cases h) (by kernel_rfl) (fun _ h => by cases h) pillowTrees_row_tie rfl ⟨rfl, rfl⟩ (by kernel_rfl) rfl
    (fun f fn hf hfn => by
      obtain rfl : f = 8 := Option.some.inj ((show Tryz.prog.funcNamed "snowline/snowlinelaw03.PillowTrees" = some 8 by kernel_rfl).symm.trans hf) |>.symm
      obtain rfl : fn = Tryz.f8 := (Option.some.inj (Tryz.func8.symm.trans hfn)).symm
      exact ⟨by kernel_rfl, fun j t ht => by
        rw [Tryz.params8] at ht
        match j, ht with
        | 0, ht => obtain rfl : t = 24 := by simpa using ht.symm
                   exact (show Tryz.prog.wantsStandIn 24 = false by kernel_rfl)
        | 1, ht => obtain rfl : t = 38 := by simpa using ht.symm
                   exact (show Tryz.prog.wantsStandIn 38 = false by kernel_rfl)
        | 2, ht => obtain rfl : t = 25 := by simpa using ht.symm
                   exact (show Tryz.prog.wantsStandIn 25 = false by kernel_rfl)
        | 3, ht => obtain rfl : t = 25 := by simpa using ht.symm
                   exact (show Tryz.prog.wantsStandIn 25 = false by kernel_rfl)
        | j + 4, ht => simp at ht⟩)
    (by kernel_rfl)
end Go.Proofs.YtelenedgaoglaaaGreatDoor
