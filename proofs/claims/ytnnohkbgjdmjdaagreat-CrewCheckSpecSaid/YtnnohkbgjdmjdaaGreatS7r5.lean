/- The chapter's examples worked out: part 5. -/
import Derived.Test.YtnnohkbgjdmjdaaGreatProg
import Derived.Test.YtnnohkbgjdmjdaaGreatEq7
import Derived.Test.YtnnohkbgjdmjdaaGreatExC
import Derived.Test.YtnnohkbgjdmjdaaGreatS7
set_option maxRecDepth 100000
namespace Go.Ex
open Go.Proofs
theorem r5 : endB (run6 k5 1 t5 h5 n5) .normal t6 h6 n6 = true := by kernel_rfl
end Go.Ex

