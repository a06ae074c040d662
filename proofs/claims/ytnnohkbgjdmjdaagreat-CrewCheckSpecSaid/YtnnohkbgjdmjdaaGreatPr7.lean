/- The examples hold: what every law of the layer begins with; and what Light answers. -/
import Derived.Test.YtnnohkbgjdmjdaaGreatAbB
import Derived.Test.YtnnohkbgjdmjdaaGreatF1
import Derived.Test.YtnnohkbgjdmjdaaGreatS7all
set_option linter.unusedSimpArgs false
set_option linter.unusedVariables false
namespace Go.Proofs.YtnnohkbgjdmjdaaGreat
open Go.Ab
def I (n : Int) : AV := .sc (.int .i64 n)
def B (b : Bool) : AV := .sc (.bool b)
theorem mixed : Tryz.prog.follows .mixedOrders = true := by kernel_rfl
theorem sane_s : FSpec Tryz.prog 6 [] (B true) none := by
  intro w M vals _ hlen _ _
  have hv : vals = [] := by cases vals with
    | nil => rfl
    | cons a l => simp at hlen
  subst hv
  refine (Go.Ex.sane_calls w).2.mono fun e w' ⟨he, hk⟩ => ⟨_, he, ⟨hk.os, hk.tape, hk.output, hk.size, fun k h => hk.block k h (fun h => h)⟩, VR.sc _⟩
theorem o_rem {P : Program} {w0 : World} {M0 : MT} {σ : AS} {ty : TypeId} {pos : String} {after : Array Edge} {guard : Option (Nat × Bool)} {d : Option Tmp} {t yt : TypeId} {a b : Int} (x y : Operand) (hx : exact (σ.ev x) = some (.int .i64 a)) (hy : exact (σ.ev y) = some (.int .i64 b)) (ha : 0 ≤ a ∧ a ≤ 9223372036854775807) (hb : 1 ≤ b) (hd : okDB σ d = true) :
    OpAny P w0 M0 σ ⟨d, .binOp .rem t x y yt, ty, pos, after, guard⟩ (.val (.sc (.int .i64 (a % b)))) := by
  have h1 : a.tmod b = a % b := Int.tmod_eq_emod_of_nonneg ha.1
  have h2 : 0 ≤ a % b := Int.emod_nonneg _ (by omega)
  have h3 : a % b ≤ a := by
    have e := Int.mul_ediv_add_emod a b
    have := Int.mul_nonneg (show 0 ≤ b by omega) (Int.ediv_nonneg ha.1 (show 0 ≤ b by omega))
    omega
  have h4 : inI64 (a % b) := ⟨by omega, by omega⟩
  have := wrap_in h4
  refine ok_bin x y hx hy (fun w => ?_) (okD hd)
  have hb0 : ¬ b = 0 := by omega
  simp [eqGuard, binOp, Op.intDiv, hb0, h1, this]
def lightN (d : Int) : Int := if d % 365 ≤ 182 then 480 + 480 * (d % 365) / 182 else 480 + 480 * (365 - d % 365) / 183
def okDay (d : Int) : Bool := decide (0 ≤ d) && decide (d ≤ 1048576)
end Go.Proofs.YtnnohkbgjdmjdaaGreat

