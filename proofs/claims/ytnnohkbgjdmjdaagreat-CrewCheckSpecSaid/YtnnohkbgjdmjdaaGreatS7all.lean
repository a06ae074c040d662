/- The chapter's examples worked out: all of it. -/
import Derived.Test.YtnnohkbgjdmjdaaGreatProg
import Derived.Test.YtnnohkbgjdmjdaaGreatEq7
import Derived.Test.YtnnohkbgjdmjdaaGreatExC
import Derived.Test.YtnnohkbgjdmjdaaGreatS7r0
import Derived.Test.YtnnohkbgjdmjdaaGreatS7r1
import Derived.Test.YtnnohkbgjdmjdaaGreatS7r2
import Derived.Test.YtnnohkbgjdmjdaaGreatS7r3
import Derived.Test.YtnnohkbgjdmjdaaGreatS7r4
import Derived.Test.YtnnohkbgjdmjdaaGreatS7r5
import Derived.Test.YtnnohkbgjdmjdaaGreatS7r6
set_option maxRecDepth 100000
namespace Go.Ex
open Go.Proofs
theorem sane_tri : ∃ n, Tri Tryz.prog Tryz.f6.ntmps c6 .e .e .z .ret t7 h7 n := by
  obtain ⟨n, h⟩ := Tri.last names7 mixed7 eqs7_ok (d := 60) (c := k6) (t := t6) (h := h6) (n := n6) r6
  refine ⟨n, ?_⟩
  refine Tri.part names7 mixed7 eqs7_ok (d := 60) (c := k0) 6 r0 ?_
  refine Tri.part names7 mixed7 eqs7_ok (d := 60) (c := k1) 3 r1 ?_
  refine Tri.part names7 mixed7 eqs7_ok (d := 60) (c := k2) 1 r2 ?_
  refine Tri.part names7 mixed7 eqs7_ok (d := 60) (c := k3) 2 r3 ?_
  refine Tri.part names7 mixed7 eqs7_ok (d := 60) (c := k4) 4 r4 ?_
  refine Tri.part names7 mixed7 eqs7_ok (d := 60) (c := k5) 1 r5 ?_
  exact h
theorem sane_calls (w : World) : Body Tryz.prog 6 ∧ Calls Tryz.prog 6 #[] w fun e w' => e = .returned (.bool true) ∧ Kept w (fun _ => False) w' := by
  obtain ⟨n, h⟩ := sane_tri
  exact Tri.call names7 (fn := Tryz.f6) (c := c6) rfl rfl (e := .ret) rfl (rs := [.tmp .z]) rfl rfl h w
end Go.Ex

