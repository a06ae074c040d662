import Derived.Test.YtphoomnonenalaaDoorL1
namespace Go.Proofs.YtphoomnonenalaaDoor
open Go.Ab
theorem CourseScales_s (s : Scl) (t : Tst) : FSpecG Tryd.prog TAB 3 [.agg (eS s), .agg (eT t)] (B true) none := by
  by_cases hz : addE s t = 0
  · exact CourseScales_a s t hz
  · exact CourseScales_b s t hz
end Go.Proofs.YtphoomnonenalaaDoor
