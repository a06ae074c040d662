/- The doubling of a byte. -/
import Derived.Test.YtnpcmealdfapjaaDoorFk
import Derived.Test.YtnpcmealdfapjaaDoorExE
set_option linter.unusedVariables false
set_option linter.unusedSimpArgs false
set_option maxRecDepth 20000
namespace Go.Ex
open Go.Proofs
theorem S9 : Ok Tryd.prog eqs9 := ⟨names9, mixed9, eqs9_ok⟩
def tw (a : Nat) : Nat := if a < 128 then (2 * a) % 256 else ((2 * a) % 256) ^^^ 29
theorem shl1 (a : Nat) : IntKind.wrap .u8 ((Int.ofNat a) * 2 ^ (Nat.min (Int.ofNat 1).toNat IntKind.u8.bits)) = Int.ofNat (2 * a % 256) := by
  rw [show ((Int.ofNat a) * 2 ^ (Nat.min (Int.ofNat 1).toNat IntKind.u8.bits)) = ((2 * a : Nat) : Int) by
    show (a : Int) * 2 ^ 1 = _
    omega, wrap8m]; rfl
theorem tw_lt (a : Nat) : tw a < 256 := by
  unfold tw; split
  · omega
  · exact Nat.xor_lt_two_pow (n := 8) (by omega) (by omega)
theorem twice_x (a : Nat) (ha : a < 256) : XF Tryd.prog eqs9 98 [B8 a] .e .z (fun xx _ _ => xx = B8 (tw a)) := by
  refine XF.body S9 fk98 rfl ?_
  refine XK.seq ?_
  refine XK.op S9 rfl ?_
  refine seqQ_n ?_
  refine XK.seq ?_
  refine XK.seq ?_
  refine XK.op S9 rfl ?_
  refine seqQ_n ?_
  refine XK.cond rfl (fun h1 => ?_) (fun h1 => ?_)
  · skip
    refine XK.seq ?_
    refine XK.op S9 rfl ?_
    refine seqQ_n ?_
    refine XK.ret S9 ?_
    refine seqQ_r ?_
    refine ⟨_, rfl, ?_⟩
    show X.int .u8 _ = _
    unfold tw
    have h1' := h1
    simp at h1'
    first
      | (rw [shl1, if_pos (by omega)])
      | (rw [shl1, if_neg (by omega)]; exact congrArg (X.int .u8) (xor8 (by omega) (by omega)))
  · skip
    refine XK.skip S9 ?_
    refine seqQ_n ?_
    refine XK.seq ?_
    refine XK.op S9 rfl ?_
    refine seqQ_n ?_
    refine XK.ret S9 ?_
    refine ⟨_, rfl, ?_⟩
    show X.int .u8 _ = _
    unfold tw
    have h1' := h1
    simp at h1'
    first
      | (rw [shl1, if_pos (by omega)])
      | (rw [shl1, if_neg (by omega)]; exact congrArg (X.int .u8) (xor8 (by omega) (by omega)))

theorem twice_c (a : Nat) (ha : a < 256) : Pure1 eqs9.gs Tryd.prog 98 [B8 a] (B8 (tw a)) := fun h n => (twice_x a ha).pure rfl rfl h n

end Go.Ex

