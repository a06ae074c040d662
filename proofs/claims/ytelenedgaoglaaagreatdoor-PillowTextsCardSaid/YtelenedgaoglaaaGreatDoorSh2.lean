/- SplitN and Atoi, told of values alone: out of the shelf's contracts. -/
import Derived.Test.YtelenedgaoglaaaGreatDoorShelfT
import Derived.Test.YtelenedgaoglaaaGreatDoorSh
import Derived.Lib.AtoiErrMem
set_option linter.unusedSimpArgs false
set_option linter.unusedVariables false
namespace Go.Proofs.YtelenedgaoglaaaGreatDoor
open Go.Ab Go.RowKit
def VarIs (g : Nat) (φ : Value → Prop) (w : World) : Prop := ∃ v, w.cell? ⟨g, 0, none⟩ = some v ∧ φ v
theorem var_stable (g : Nat) (φ : Value → Prop) : Stable (VarIs g φ) := fun w w' hb ⟨v, h, hv⟩ => by
  refine ⟨v, ?_, hv⟩
  have hlt : g < w.heap.size := Lib.lt_of_cell h
  have e := hb.block g hlt
  unfold World.cell? at h ⊢
  simp only [e]
  exact h
def isErr (v : Value) : Prop := v = .nilIface ∨ ∃ te pe, v = .iface te pe
def TAB2 (w : World) : Prop := TAB w ∧ VarIs 2 isErr w ∧ VarIs 3 isErr w
theorem tab2_stable : Stable TAB2 := fun w w' hb h => ⟨tab_stable w w' hb h.1, var_stable _ _ w w' hb h.2.1, var_stable _ _ w w' hb h.2.2⟩
theorem FSpecG.up {f : FuncId} {args : List AV} {r : AV} {fr : Option (Nat × Nat × TypeId)} (h : FSpecG Tryz.prog TAB f args r fr) : FSpecG Tryz.prog TAB2 f args r fr := fun w M vals hΓ => h w M vals hΓ.1
theorem Atoi_yes (s : ByteArray) (hs : s.size ≤ 140737488355328) (v : Int) (h : Lib.atoiAll s.data.toList = .ok v) :
    FSpecG Tryz.prog TAB2 114 [.sc (.string s)] (.tup [.sc (.int .i64 v), .sc .nilIface]) none := by
  intro w M vals hΓ hl hv hM
  obtain ⟨x, rfl⟩ : ∃ x, vals = [x] := by
    match vals, hl with
    | [x], _ => exact ⟨x, rfl⟩
  have e1 := hv 0 _ _ rfl rfl
  cases e1
  refine (Tryz.strconv_Atoi_ok s (by omega) v h w).mono ?_
  rintro e w' ⟨rfl, hw⟩
  refine ⟨_, rfl, ?_, .tup _ [_, _] rfl fun i c u hc hu => ?_⟩
  · rcases hw with rfl | ⟨t, rfl⟩
    · exact Below.refl _ _
    · exact Lib.bytesWorld_below w 5 t
  · match i, hc, hu with
    | 0, hc, hu => cases hc; cases hu; exact .sc _
    | 1, hc, hu => cases hc; cases hu; exact .sc _
theorem Atoi_no (s : ByteArray) (hs : s.size ≤ 140737488355328) (h : ∀ v, Lib.atoiAll s.data.toList ≠ .ok v) :
    ∃ x : Int, FSpecG Tryz.prog TAB2 114 [.sc (.string s)] (.tup [.sc (.int .i64 x), .ifc 194 .any]) none := by
  have fin : ∀ (x : Int) (N : Nat) (w' : World) (M : Nat → Option Nat), VR w' M noV noG (.tup [.sc (.int .i64 x), .ifc 194 .any]) (.tuple #[.int .i64 x, .iface 194 (.pointer (some ⟨N, 0, none⟩))]) := fun x N w' M =>
    .tup _ [_, _] rfl fun i c u hc hu => by
      match i, hc, hu with
      | 0, hc, hu => cases hc; cases hu; exact .sc _
      | 1, hc, hu => cases hc; cases hu; exact .ifc _ _ _ (.any _)
  by_cases hk : Lib.atoiAll s.data.toList ≠ .range
  · refine ⟨0, ?_⟩
    intro w M vals hΓ hl hv hM
    obtain ⟨x, rfl⟩ : ∃ x, vals = [x] := by
      match vals, hl with
      | [x], _ => exact ⟨x, rfl⟩
    have e1 := hv 0 _ _ rfl rfl
    cases e1
    obtain ⟨ev, hev, hq⟩ := hΓ.2.1
    refine (Tryz.strconv_Atoi_none s (by omega) h hk ev w hev hq).mono ?_
    rintro e w' ⟨N, rfl, _, _, hb⟩
    exact ⟨_, rfl, hb, fin 0 N w' M⟩
  · have hk : Lib.atoiAll s.data.toList = .range := Classical.byContradiction hk
    refine ⟨Lib.atoiSat s.data.toList, ?_⟩
    intro w M vals hΓ hl hv hM
    obtain ⟨x, rfl⟩ : ∃ x, vals = [x] := by
      match vals, hl with
      | [x], _ => exact ⟨x, rfl⟩
    have e1 := hv 0 _ _ rfl rfl
    cases e1
    obtain ⟨ev, hev, hq⟩ := hΓ.2.2
    refine (Tryz.strconv_Atoi_range s (by omega) hk ev w hev hq).mono ?_
    rintro e w' ⟨N, rfl, _, _, hb⟩
    exact ⟨_, rfl, hb, fin _ N w' M⟩
end Go.Proofs.YtelenedgaoglaaaGreatDoor
