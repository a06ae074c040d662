/- The chapter's examples worked out: part 1. -/
import Derived.Test.YtnnohkbgjdmjdaaGreatProg
import Derived.Test.YtnnohkbgjdmjdaaGreatEq7
import Derived.Test.YtnnohkbgjdmjdaaGreatExC
import Derived.Test.YtnnohkbgjdmjdaaGreatS7
set_option maxRecDepth 100000
namespace Go.Ex
open Go.Proofs
theorem r1 : endB (run6 k1 3 t1 h1 n1) .normal t2 h2 n2 = true := by kernel_rfl
end Go.Ex

