/- The chapter's examples worked out: part 0. -/
import Derived.Test.YtnnohkbgjdmjdaaGreatProg
import Derived.Test.YtnnohkbgjdmjdaaGreatEq7
import Derived.Test.YtnnohkbgjdmjdaaGreatExC
import Derived.Test.YtnnohkbgjdmjdaaGreatS7
set_option maxRecDepth 100000
namespace Go.Ex
open Go.Proofs
theorem r0 : endB (run6 k0 6 t0 h0 n0) .normal t1 h1 n1 = true := by kernel_rfl
end Go.Ex

