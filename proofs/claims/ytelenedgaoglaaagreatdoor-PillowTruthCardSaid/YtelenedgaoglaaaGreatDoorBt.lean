/- Opener of the parameter of PillowTruth. -/
import Derived.Test.YtelenedgaoglaaaGreatDoorBq
import Derived.Test.YtelenedgaoglaaaGreatDoorY13
set_option linter.unusedVariables false
set_option maxRecDepth 20000
namespace Go.Proofs.YtelenedgaoglaaaGreatDoor
open Go.Ab Go.Pil Go.ChangeShapes Go.WideShapes Go.ChangeAt Go.RowKit
theorem cT78 : Tryz.prog.cellsOf 78 = 11 := by kernel_rfl
theorem cT3 : Tryz.prog.cellsOf 3 = 1 := by kernel_rfl
theorem cT25 : Tryz.prog.cellsOf 25 = 1 := by kernel_rfl
section
variable {H : Type} {enc : TypeId × Value → H} {W : World}
theorem el_tru : ElemOpen (H := H) enc W 78 eT := by
  intro fuel cs x h
  obtain ⟨xs, n, _, _, hl, hx, hf⟩ := DataW.trod_struct Tryz.underlying78 h
  rw [cT78] at hl
  have hx4 : xs.length = 11 := hx
  match cs, hl with
  | [c0, c1, c2, c3, c4, c5, c6, c7, c8, c9, c10], _ =>
    obtain ⟨a0, l0, p0⟩ := el_int _ _ _ ((hf 0 _ rfl).trans (List.getElem?_eq_getElem (by omega : 0 < xs.length)))
    change ∀ j c v, _ → (List.take (Tryz.prog.cellsOf 3) (List.drop 0 [c0, c1, c2, c3, c4, c5, c6, c7, c8, c9, c10]))[j]? = some v → _ at p0
    rw [cT3] at p0
    have q0 := p0 0 _ c0 rfl rfl
    obtain ⟨a1, l1, p1⟩ := el_int _ _ _ ((hf 1 _ rfl).trans (List.getElem?_eq_getElem (by omega : 1 < xs.length)))
    change ∀ j c v, _ → (List.take (Tryz.prog.cellsOf 3) (List.drop 1 [c0, c1, c2, c3, c4, c5, c6, c7, c8, c9, c10]))[j]? = some v → _ at p1
    rw [cT3] at p1
    have q1 := p1 0 _ c1 rfl rfl
    obtain ⟨a2, l2, p2⟩ := el_int _ _ _ ((hf 2 _ rfl).trans (List.getElem?_eq_getElem (by omega : 2 < xs.length)))
    change ∀ j c v, _ → (List.take (Tryz.prog.cellsOf 3) (List.drop 2 [c0, c1, c2, c3, c4, c5, c6, c7, c8, c9, c10]))[j]? = some v → _ at p2
    rw [cT3] at p2
    have q2 := p2 0 _ c2 rfl rfl
    obtain ⟨a3, l3, p3⟩ := el_int _ _ _ ((hf 3 _ rfl).trans (List.getElem?_eq_getElem (by omega : 3 < xs.length)))
    change ∀ j c v, _ → (List.take (Tryz.prog.cellsOf 3) (List.drop 3 [c0, c1, c2, c3, c4, c5, c6, c7, c8, c9, c10]))[j]? = some v → _ at p3
    rw [cT3] at p3
    have q3 := p3 0 _ c3 rfl rfl
    obtain ⟨a4, l4, p4⟩ := el_int _ _ _ ((hf 4 _ rfl).trans (List.getElem?_eq_getElem (by omega : 4 < xs.length)))
    change ∀ j c v, _ → (List.take (Tryz.prog.cellsOf 3) (List.drop 4 [c0, c1, c2, c3, c4, c5, c6, c7, c8, c9, c10]))[j]? = some v → _ at p4
    rw [cT3] at p4
    have q4 := p4 0 _ c4 rfl rfl
    obtain ⟨a5, l5, p5⟩ := el_ints _ _ _ ((hf 5 _ rfl).trans (List.getElem?_eq_getElem (by omega : 5 < xs.length)))
    change ∀ j c v, _ → (List.take (Tryz.prog.cellsOf 25) (List.drop 5 [c0, c1, c2, c3, c4, c5, c6, c7, c8, c9, c10]))[j]? = some v → _ at p5
    rw [cT25] at p5
    have q5 := p5 0 _ c5 rfl rfl
    obtain ⟨a6, l6, p6⟩ := el_ints _ _ _ ((hf 6 _ rfl).trans (List.getElem?_eq_getElem (by omega : 6 < xs.length)))
    change ∀ j c v, _ → (List.take (Tryz.prog.cellsOf 25) (List.drop 6 [c0, c1, c2, c3, c4, c5, c6, c7, c8, c9, c10]))[j]? = some v → _ at p6
    rw [cT25] at p6
    have q6 := p6 0 _ c6 rfl rfl
    obtain ⟨a7, l7, p7⟩ := el_ints _ _ _ ((hf 7 _ rfl).trans (List.getElem?_eq_getElem (by omega : 7 < xs.length)))
    change ∀ j c v, _ → (List.take (Tryz.prog.cellsOf 25) (List.drop 7 [c0, c1, c2, c3, c4, c5, c6, c7, c8, c9, c10]))[j]? = some v → _ at p7
    rw [cT25] at p7
    have q7 := p7 0 _ c7 rfl rfl
    obtain ⟨a8, l8, p8⟩ := el_ints _ _ _ ((hf 8 _ rfl).trans (List.getElem?_eq_getElem (by omega : 8 < xs.length)))
    change ∀ j c v, _ → (List.take (Tryz.prog.cellsOf 25) (List.drop 8 [c0, c1, c2, c3, c4, c5, c6, c7, c8, c9, c10]))[j]? = some v → _ at p8
    rw [cT25] at p8
    have q8 := p8 0 _ c8 rfl rfl
    obtain ⟨a9, l9, p9⟩ := el_ints _ _ _ ((hf 9 _ rfl).trans (List.getElem?_eq_getElem (by omega : 9 < xs.length)))
    change ∀ j c v, _ → (List.take (Tryz.prog.cellsOf 25) (List.drop 9 [c0, c1, c2, c3, c4, c5, c6, c7, c8, c9, c10]))[j]? = some v → _ at p9
    rw [cT25] at p9
    have q9 := p9 0 _ c9 rfl rfl
    obtain ⟨a10, l10, p10⟩ := el_int _ _ _ ((hf 10 _ rfl).trans (List.getElem?_eq_getElem (by omega : 10 < xs.length)))
    change ∀ j c v, _ → (List.take (Tryz.prog.cellsOf 3) (List.drop 10 [c0, c1, c2, c3, c4, c5, c6, c7, c8, c9, c10]))[j]? = some v → _ at p10
    rw [cT3] at p10
    have q10 := p10 0 _ c10 rfl rfl
    exact ⟨⟨a0, a1, a2, a3, a4, a5, a6, a7, a8, a9, a10⟩, rfl, fun j c v hj hv => by
      match j, hj, hv with
      | 0, hj, hv => cases hj; cases hv; exact q0
      | 1, hj, hv => cases hj; cases hv; exact q1
      | 2, hj, hv => cases hj; cases hv; exact q2
      | 3, hj, hv => cases hj; cases hv; exact q3
      | 4, hj, hv => cases hj; cases hv; exact q4
      | 5, hj, hv => cases hj; cases hv; exact q5
      | 6, hj, hv => cases hj; cases hv; exact q6
      | 7, hj, hv => cases hj; cases hv; exact q7
      | 8, hj, hv => cases hj; cases hv; exact q8
      | 9, hj, hv => cases hj; cases hv; exact q9
      | 10, hj, hv => cases hj; cases hv; exact q10
      | j + 11, hj, hv => cases hj⟩
end
theorem ctT : Tryz.prog.cellTypes Tryz.prog.depth 78 = some [3, 3, 3, 3, 3, 25, 25, 25, 25, 25, 3] := by kernel_rfl
theorem okT {W : World} {base : Nat} {v : Value} (hok : Value.okWide Tryz.prog W .any base 78 v) {t : Tru} (h : VR W (fun _ => none) noV noG (.agg (eT t)) v) : t.changes.length ≤ 9223372036854775807 := by
  unfold Value.okWide at hok
  rw [Tryz.underlying78] at hok
  obtain ⟨cs, rfl, hsz, ts, hts, _, hall⟩ := hok
  rw [ctT] at hts
  obtain rfl := Option.some.inj hts
  rw [cT78] at hsz
  have h5 : 5 < cs.size := by omega
  obtain ⟨u, hu, hc⟩ := hall 5 cs[5] (Array.getElem?_eq_getElem h5)
  have hu2 : u = 25 := (Option.some.inj hu).symm
  subst hu2
  generalize hq : Value.agg cs = q at h
  cases h with
  | agg _ vs hl h1 hh =>
    have hcs : cs = vs.toArray := by injection hq
    have h5v : 5 < vs.length := by rw [hcs] at h5; simpa using h5
    have hv := hh 5 _ (vs[5]'h5v) rfl (List.getElem?_eq_getElem h5v)
    have e : cs[5] = vs[5] := by subst hcs; simp
    rw [e] at hc
    have hl2 : (ints t.changes).length = t.changes.length := by simp [ints]
    rcases vr_len hv with h2 | ⟨a, cap, h3⟩
    · have h4 : t.changes.length = 0 := by rw [← hl2]; exact List.length_eq_zero_iff.2 h2
      omega
    · have h6 : Value.okWide Tryz.prog W .any base 25 (.slice (some a) (ints t.changes).length cap) := by
        unfold Value.okWide
        rw [Tryz.underlying25, ← h3]; exact hc
      rw [← hl2]; exact ok26 h6
def aTru : Arg := ⟨78, {t : Tru // t.changes.length ≤ 9223372036854775807}, fun t => .agg (eT t.1), fun h hok => by
  obtain ⟨a, ha⟩ := op_agg (f := eT) (.inl ⟨_, Tryz.underlying78⟩) el_tru h hok
  exact ⟨⟨a, okT hok ha⟩, ha⟩⟩
end Go.Proofs.YtelenedgaoglaaaGreatDoor
