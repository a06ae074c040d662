/- A further kind of argument: a frame. -/
import Derived.Test.YtnpcmealdfapjaaDoorBx2
import Derived.Test.YtnpcmealdfapjaaDoorR9C
set_option linter.unusedSimpArgs false
set_option maxRecDepth 20000
set_option linter.unusedVariables false
namespace Go.Proofs.YtnpcmealdfapjaaDoor
open Go.Ex Go.RowKit Go.ChangeShapes Go.WideShapes Go.ChangeAt
theorem cells3 : Tryd.prog.cellsOf 3 = 1 := by kernel_rfl
theorem cells9 : Tryd.prog.cellsOf 9 = 1 := by kernel_rfl
theorem cells33 : Tryd.prog.cellsOf 33 = 5 := by kernel_rfl
section
variable {H : Type} {enc : TypeId × Value → H} {W : World} (hg : GOk eqs9.gs W)
def ElemX (enc : TypeId × Value → H) (t : TypeId) {α : Type} (f : α → List X) : Prop :=
  ∀ fuel cs x, DataW.trod enc Tryd.prog W 0 (fun _ => true) true fuel t cs = some x → ∃ a : α, cs.length = (f a).length ∧ ∀ (j : Nat) c v, (f a)[j]? = some c → cs[j]? = some v → VR (P0 W hg) c v ∧ v.oneCell' = true
theorem ex_int : ElemX hg enc 3 (fun n : Int => [I6 n]) := by
  intro fuel cs x h
  obtain ⟨n, rfl, _⟩ := DataW.trod_int Tryd.underlying3 h
  refine ⟨n, rfl, fun j c v hj hv => ?_⟩
  match j, hj, hv with
  | 0, hj, hv => cases hj; cases hv; exact ⟨.int .i64 _, rfl⟩
  | j + 1, hj, hv => cases hj
theorem ex_str : ElemX hg enc 9 (fun s : List UInt8 => [X.str s]) := by
  intro fuel cs x h
  obtain ⟨s, rfl, _⟩ := DataW.trod_string Tryd.underlying9 h
  refine ⟨s.data.toList, rfl, fun j c v hj hv => ?_⟩
  match j, hj, hv with
  | 0, hj, hv => cases hj; cases hv; exact ⟨.str s, rfl⟩
  | j + 1, hj, hv => cases hj
theorem ex_frm : ElemX hg enc 33 (fun q : Int × Int × Int × Int × List UInt8 => [I6 q.1, I6 q.2.1, I6 q.2.2.1, I6 q.2.2.2.1, .str q.2.2.2.2]) := by
  intro fuel cs x h
  obtain ⟨xs, n, _, _, hl, hx, hf⟩ := DataW.trod_struct Tryd.underlying33 h
  rw [cells33] at hl
  have hx5 : xs.length = 5 := hx
  match cs, hl with
  | [c0, c1, c2, c3, c4], _ =>
    obtain ⟨a0, l0, q0⟩ := ex_int hg _ _ _ ((hf 0 _ rfl).trans (List.getElem?_eq_getElem (by omega : 0 < xs.length)))
    change ∀ j c v, _ → (List.take (Tryd.prog.cellsOf 3) (List.drop 0 [c0, c1, c2, c3, c4]))[j]? = some v → _ at q0
    rw [cells3] at q0
    have r0 := q0 0 _ c0 rfl rfl
    obtain ⟨a1, l1, q1⟩ := ex_int hg _ _ _ ((hf 1 _ rfl).trans (List.getElem?_eq_getElem (by omega : 1 < xs.length)))
    change ∀ j c v, _ → (List.take (Tryd.prog.cellsOf 3) (List.drop 1 [c0, c1, c2, c3, c4]))[j]? = some v → _ at q1
    rw [cells3] at q1
    have r1 := q1 0 _ c1 rfl rfl
    obtain ⟨a2, l2, q2⟩ := ex_int hg _ _ _ ((hf 2 _ rfl).trans (List.getElem?_eq_getElem (by omega : 2 < xs.length)))
    change ∀ j c v, _ → (List.take (Tryd.prog.cellsOf 3) (List.drop 2 [c0, c1, c2, c3, c4]))[j]? = some v → _ at q2
    rw [cells3] at q2
    have r2 := q2 0 _ c2 rfl rfl
    obtain ⟨a3, l3, q3⟩ := ex_int hg _ _ _ ((hf 3 _ rfl).trans (List.getElem?_eq_getElem (by omega : 3 < xs.length)))
    change ∀ j c v, _ → (List.take (Tryd.prog.cellsOf 3) (List.drop 3 [c0, c1, c2, c3, c4]))[j]? = some v → _ at q3
    rw [cells3] at q3
    have r3 := q3 0 _ c3 rfl rfl
    obtain ⟨a4, l4, q4⟩ := ex_str hg _ _ _ ((hf 4 _ rfl).trans (List.getElem?_eq_getElem (by omega : 4 < xs.length)))
    change ∀ j c v, _ → (List.take (Tryd.prog.cellsOf 9) (List.drop 4 [c0, c1, c2, c3, c4]))[j]? = some v → _ at q4
    rw [cells9] at q4
    have r4 := q4 0 _ c4 rfl rfl
    exact ⟨⟨a0, a1, a2, a3, a4⟩, rfl, fun j c v hj hv => by
      match j, hj, hv with
      | 0, hj, hv => cases hj; cases hv; exact r0
      | 1, hj, hv => cases hj; cases hv; exact r1
      | 2, hj, hv => cases hj; cases hv; exact r2
      | 3, hj, hv => cases hj; cases hv; exact r3
      | 4, hj, hv => cases hj; cases hv; exact r4
      | j + 5, hj, hv => cases hj⟩
end
def aFrm : ArgX := ⟨33, Int × Int × Int × Int × List UInt8, fun q => FrX q.1 q.2.1 q.2.2.1 q.2.2.2.1 q.2.2.2.2, fun {H enc W} hg {base v d p} h hok => by
  have hv : ∃ cs, v = .agg cs := by
    unfold Value.okWide at hok
    rw [Tryd.underlying33] at hok
    obtain ⟨cs, h1, _⟩ := hok
    exact ⟨cs, h1⟩
  obtain ⟨cs, rfl⟩ := hv
  obtain ⟨fuel, h⟩ := h
  change DataW.trod enc Tryd.prog W 0 (fun _ => true) true fuel 33 cs.toList = _ at h
  obtain ⟨a, hl, hh⟩ := ex_frm hg _ _ _ h
  refine ⟨a, ?_⟩
  have := VR.agg (φ := P0 W hg) [I6 a.1, I6 a.2.1, I6 a.2.2.1, I6 a.2.2.2.1, .str a.2.2.2.2] cs.toList hl.symm (fun x hx => by
    obtain ⟨i, hi, rfl⟩ := List.mem_iff_getElem.1 hx
    exact (hh i _ _ (List.getElem?_eq_getElem (by rw [← hl]; exact hi)) (List.getElem?_eq_getElem hi)).2) (fun i c v hc hv => (hh i c v hc hv).1)
  simpa using this⟩
end Go.Proofs.YtnpcmealdfapjaaDoor

