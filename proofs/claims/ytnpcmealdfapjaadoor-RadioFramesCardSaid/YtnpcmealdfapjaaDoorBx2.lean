/- Further kinds of arguments: an integer, a string. -/
import Derived.Test.YtnpcmealdfapjaaDoorBx
set_option linter.unusedSimpArgs false
set_option maxRecDepth 20000
set_option linter.unusedVariables false
namespace Go.Proofs.YtnpcmealdfapjaaDoor
open Go.Ex Go.RowKit Go.ChangeShapes Go.WideShapes Go.ChangeAt
def aInt : ArgX := ⟨3, Int, fun n => I6 n, fun {H enc W} hg {base v d p} h hok => by
  obtain ⟨n, rfl, _, _, hw⟩ := open_int Tryd.underlying3 hok h
  exact ⟨n, .int .i64 _⟩⟩
def aStr : ArgX := ⟨9, List UInt8, fun s => .str s, fun {H enc W} hg {base v d p} h hok => by
  obtain ⟨s, rfl, _, _⟩ := Go.ChangeMaps.open_string Tryd.underlying9 hok h
  exact ⟨s.data.toList, .str s⟩⟩
end Go.Proofs.YtnpcmealdfapjaaDoor

