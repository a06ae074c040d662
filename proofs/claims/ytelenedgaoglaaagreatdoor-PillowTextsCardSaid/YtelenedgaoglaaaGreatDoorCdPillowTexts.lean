/- PillowTexts returns true for every pillow and every string, valid or not, and leaves its arguments as they were. Its conditions: none but the row's own (the library's variables that it reads hold what the program's text lays; no string of more than 2^47 - 4096 bytes). -/
import Derived.Test.YtelenedgaoglaaaGreatDoorClPillowTexts
import Derived.Test.YtelenedgaoglaaaGreatDoorTie
import Derived.Test.YtelenedgaoglaaaGreatDoorCards
import Derived.SevenTiedAt
namespace Go.Proofs.YtelenedgaoglaaaGreatDoor
open Go
set_option maxRecDepth 100000 in
theorem pillowTexts_card_holds : Rows.PillowTextsCardSaid :=
  Claim7.holds_tied_plain_at .later [] [.data, .data, .data, .data, .sentinel, .sentinel, .pinned] true (true, "add7e36cd1866488e0eb37e28b1ea6b76278d8f931b611dc49f437e42680162e") true
    pillowTexts_holds (fun _ h => by cases h) (by kernel_rfl) (fun _ h => by cases h) pillowTexts_row_tie rfl ⟨rfl, rfl⟩ (by kernel_rfl) rfl
    (fun f fn hf hfn => by
      obtain rfl : f = 9 := Option.some.inj ((show Tryz.prog.funcNamed "snowline/snowlinelaw03.PillowTexts" = some 9 by kernel_rfl).symm.trans hf) |>.symm
      obtain rfl : fn = Tryz.f9 := (Option.some.inj (Tryz.func9.symm.trans hfn)).symm
      exact ⟨by kernel_rfl, fun j t ht => by
        rw [Tryz.params9] at ht
        match j, ht with
        | 0, ht => obtain rfl : t = 24 := by simpa using ht.symm
                   exact (show Tryz.prog.wantsStandIn 24 = false by kernel_rfl)
        | 1, ht => obtain rfl : t = 9 := by simpa using ht.symm
                   exact (show Tryz.prog.wantsStandIn 9 = false by kernel_rfl)
        | j + 2, ht => simp at ht⟩)
    (by kernel_rfl)
end Go.Proofs.YtelenedgaoglaaaGreatDoor
