/- The chapter's examples worked out: part 4. -/
import Derived.Test.YtnnohkbgjdmjdaaGreatProg
import Derived.Test.YtnnohkbgjdmjdaaGreatEq7
import Derived.Test.YtnnohkbgjdmjdaaGreatExC
import Derived.Test.YtnnohkbgjdmjdaaGreatS7
set_option maxRecDepth 100000
namespace Go.Ex
open Go.Proofs
theorem r4 : endB (run6 k4 4 t4 h4 n4) .normal t5 h5 n5 = true := by kernel_rfl
end Go.Ex

