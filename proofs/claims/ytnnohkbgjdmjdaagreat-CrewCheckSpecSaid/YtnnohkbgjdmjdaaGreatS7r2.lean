/- The chapter's examples worked out: part 2. -/
import Derived.Test.YtnnohkbgjdmjdaaGreatProg
import Derived.Test.YtnnohkbgjdmjdaaGreatEq7
import Derived.Test.YtnnohkbgjdmjdaaGreatExC
import Derived.Test.YtnnohkbgjdmjdaaGreatS7
set_option maxRecDepth 100000
namespace Go.Ex
open Go.Proofs
theorem r2 : endB (run6 k2 1 t2 h2 n2) .normal t3 h3 n3 = true := by kernel_rfl
end Go.Ex

