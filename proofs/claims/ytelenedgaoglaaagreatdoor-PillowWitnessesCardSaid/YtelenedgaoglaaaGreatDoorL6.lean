/- L6. -/
import Derived.Test.YtelenedgaoglaaaGreatDoorR27
import Derived.Test.YtelenedgaoglaaaGreatDoorZ4
set_option linter.unusedSimpArgs false
set_option linter.unusedVariables false
namespace Go.Proofs.YtelenedgaoglaaaGreatDoor
open Go.Ab
open Go.Pil Go.RowKit
theorem outW_gD {most : Bool} {p w} {l : List Int} {k : Nat} (h : k < l.length) : (outW most (endsP p w l)).getD k 0 = endV most (endP p w l k) := by
  unfold outW endsP
  rw [List.getD_eq_getElem?_getD, List.getElem?_map, List.getElem?_map, List.getElem?_range h]; rfl
theorem outW_len {most : Bool} {p w} {l : List Int} : (outW most (endsP p w l)).length = l.length := by simp [outW, endsP]
theorem ints_gW {most : Bool} {p w} {l : List Int} {k : Int} {j : Nat} (h : k.toNat = j) (hj : j < l.length) : (ints (outW most (endsP p w l)))[k.toNat]? = some [I (endV most (endP p w l j))] := by
  rw [← outW_gD hj]; exact ints_gD h (by rw [outW_len]; exact hj)
theorem cwE_outW {p : Plw} {w : List Sp} {l : List Int} (most : Bool) (h0 : rcE p w l = 0) (ha : aliveP p w l) : cwE p w l (outW most (endsP p w l)) (rcE p w l) = 0 := by
  refine cwE_world h0 outW_len ?_
  have hb := okW_WB (rcE_0.1 h0).2.1
  have h := En_world (a := (p.pb w).a l) (w := (p.pb w).w) (n := l.length) (fun k _ => (hb k).2.2) ha
  have cg : ∀ {x y : Nat → Int}, (∀ k, k < l.length → x k = y k) → Go.Pil.World ((p.pb w).a l) (p.pb w).w l.length x → Go.Pil.World ((p.pb w).a l) (p.pb w).w l.length y := fun e hx =>
    ⟨fun k hk => by rw [← e k hk]; exact hx.1 k hk, fun k hk => by rw [← e k (by omega), ← e (k + 1) hk]; exact hx.2 k hk⟩
  cases most with
  | true => exact cg (fun k hk => (outW_gD (most := true) hk).symm) h.2
  | false => exact cg (fun k hk => (outW_gD (most := false) hk).symm) h.1
theorem ints_gY {l : List Int} {k : Nat} (hj : k < l.length) : (ints l)[((k : Nat) : Int).toNat]? = some [I (l.getD k 0)] := ints_gD (by omega) hj
end Go.Proofs.YtelenedgaoglaaaGreatDoor
