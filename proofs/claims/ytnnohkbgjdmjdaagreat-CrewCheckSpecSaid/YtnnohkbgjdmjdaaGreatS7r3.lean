/- The chapter's examples worked out: part 3. -/
import Derived.Test.YtnnohkbgjdmjdaaGreatProg
import Derived.Test.YtnnohkbgjdmjdaaGreatEq7
import Derived.Test.YtnnohkbgjdmjdaaGreatExC
import Derived.Test.YtnnohkbgjdmjdaaGreatS7
set_option maxRecDepth 100000
namespace Go.Ex
open Go.Proofs
theorem r3 : endB (run6 k3 2 t3 h3 n3) .normal t4 h4 n4 = true := by kernel_rfl
end Go.Ex

