/- Pillows, spans and weather as values. -/
import Derived.Test.YtelenedgaoglaaaGreatDoorF1
import Derived.Test.YtelenedgaoglaaaGreatDoorProg
import Derived.Test.YtelenedgaoglaaaGreatDoorMA
namespace Go.Proofs.YtelenedgaoglaaaGreatDoor
open Go.Ab Go.Pil
def I (n : Int) : AV := .sc (.int .i64 n)
def B (b : Bool) : AV := .sc (.bool b)
theorem mixed : Tryz.prog.follows .mixedOrders = true := by kernel_rfl
def eN (s : Sp) : List AV := [I s.lo, I s.hi]
def eW (s : Shw) : List AV := [I s.day, I s.weight]
def sps (l : List Sp) : List (List AV) := l.map eN
def shws (l : List Shw) : List (List AV) := l.map eW
def ints (l : List Int) : List (List AV) := l.map fun x => [I x]
def eP (p : Plw) : List AV := [I p.no, I p.cell, I p.noise, I p.slab, I p.jump, I p.faults, .sl (shws p.log)]
def eR (p : Plw) (w : List Sp) : List AV := [I p.no, I p.cell, I p.noise, I p.slab, I p.jump, I p.faults, .sl (shws p.log), .sl (sps w)]
theorem sps_len (l : List Sp) : (sps l).length = l.length := by simp [sps]
theorem shws_len (l : List Shw) : (shws l).length = l.length := by simp [shws]
theorem ints_len (l : List Int) : (ints l).length = l.length := by simp [ints]
theorem sps_at {l : List Sp} {k : Nat} (h : k < l.length) : (sps l)[((k : Nat) : Int).toNat]? = some (eN l[k]) := by simp [sps, h]
theorem shws_at {l : List Shw} {k : Nat} (h : k < l.length) : (shws l)[((k : Nat) : Int).toNat]? = some (eW l[k]) := by simp [shws, h]
theorem ints_at {l : List Int} {k : Nat} (h : k < l.length) : (ints l)[((k : Nat) : Int).toNat]? = some [I l[k]] := by simp [ints, h]
theorem sps_z {l : List Sp} : ∀ e ∈ sps l, e.length = 2 := by
  intro e he; obtain ⟨_, _, rfl⟩ := List.mem_map.1 he; rfl
theorem shws_z {l : List Shw} : ∀ e ∈ shws l, e.length = 2 := by
  intro e he; obtain ⟨_, _, rfl⟩ := List.mem_map.1 he; rfl
theorem ints_z {l : List Int} : ∀ e ∈ ints l, e.length = 1 := by
  intro e he; obtain ⟨_, _, rfl⟩ := List.mem_map.1 he; rfl
theorem okRange {n : Int} : inI64 n ↔ -9223372036854775808 ≤ n ∧ n ≤ 9223372036854775807 := Iff.rfl
section
variable {P : Program} {w0 : World} {M0 : MT} {σ : AS} {ty : TypeId} {pos : String} {after : Array Edge} {guard : Option (Nat × Bool)} {d : Option Tmp}
theorem o_minZ {t u : Nat} {a b : Int} (x y : Operand) (hx : exact (σ.ev x) = some (.int .i64 a)) (hy : exact (σ.ev y) = some (.int .i64 b)) (hd : okDB σ d = true) :
    OpAny P w0 M0 σ ⟨d, .call ⟨.builtin .min, #[x, y], #[t, u]⟩, ty, pos, after, guard⟩ (.val (I (min a b))) := by
  have h : (if b < a then b else a) = min a b := by omega
  have := o_minI (P := P) (w0 := w0) (M0 := M0) (ty := ty) (pos := pos) (after := after) (guard := guard) (t := t) (u := u) x y hx hy hd
  rw [h] at this; exact this
theorem o_maxZ {t u : Nat} {a b : Int} (x y : Operand) (hx : exact (σ.ev x) = some (.int .i64 a)) (hy : exact (σ.ev y) = some (.int .i64 b)) (hd : okDB σ d = true) :
    OpAny P w0 M0 σ ⟨d, .call ⟨.builtin .max, #[x, y], #[t, u]⟩, ty, pos, after, guard⟩ (.val (I (max a b))) := by
  have h : (if b > a then b else a) = max a b := by omega
  have := o_maxI (P := P) (w0 := w0) (M0 := M0) (ty := ty) (pos := pos) (after := after) (guard := guard) (t := t) (u := u) x y hx hy hd
  rw [h] at this; exact this
end
end Go.Proofs.YtelenedgaoglaaaGreatDoor
