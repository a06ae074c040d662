/- What the law asks of the package, found true by the kernel. -/
import Derived.Test.YtnpcmealdfapjaaDoorR91
namespace Go.Ex
open Go.Proofs
set_option maxRecDepth 100000
noncomputable def isT (o : Out) : Bool := match o with
  | some (.bool true, _, _) => true
  | _ => false
theorem sane_run : isT (callF (mkFns Tryd.prog eqs9) 60 10 [] .e .z) = true := by kernel_rfl
theorem of_run {P : Program} {eqs : Env} (S : Ok P eqs) {fu d : Nat} {f : FuncId} {args : List X} {h : H} {n : Pt} {x : X} {h' : H} {n' : Pt} (hx : callG (mkFns P eqs) fu d f args h n = some (x, h', n')) : CallOne eqs.gs P f args h n x h' n' :=
  callG_ok S.names (mkTab_ok P) S.eqs S.mixed (mkFns_ok P eqs) fu d f args h n x h' n' hx
theorem sane_c : Pure1 eqs9.gs Tryd.prog 10 [] (BX true) := by
  have h := sane_run
  unfold isT at h
  split at h
  · rename_i h' n' hr
    exact fun hh nn => (of_run S9 hr).pure rfl rfl hh nn
  · cases h
end Go.Ex

