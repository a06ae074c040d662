import Derived.Test.YtphoomnonenalaaGreatDoorAbB
import Derived.Test.YtphoomnonenalaaGreatDoorC14
set_option linter.unusedSimpArgs false
set_option linter.unusedVariables false
namespace Go.Proofs.YtphoomnonenalaaGreatDoor
open Go.Ab

end Go.Proofs.YtphoomnonenalaaGreatDoor
