/- From what a row reads to what the walks speak of. -/
import Derived.Test.YtgagfmjpmdgfdaaDoorQ15
import Derived.Test.YtgagfmjpmdgfdaaDoorRows
import Derived.Deep.DeepHandedRow
import Derived.ProofKit
import Derived.Lib.LaidTab
import Derived.Laws.IdiomArrays
import Derived.Carry
import Derived.OpenShut
set_option linter.unusedSimpArgs false
set_option maxRecDepth 20000
set_option linter.unusedVariables false
namespace Go.Proofs.YtgagfmjpmdgfdaaDoor
open Go.Ab Go.RowKit Go.ChangeShapes
/-- What reads as a value of the type t is told by f a, for some a. -/
def ElemOpen {H : Type} (enc : TypeId × Value → H) (W : World) (t : TypeId) {α : Type} (f : α → List AV) : Prop :=
  ∀ fuel cs x, DataW.trod enc Tryd.prog W 0 (fun _ => true) true fuel t cs = some x → ∃ a : α, cs.length = (f a).length ∧ ∀ (j : Nat) c v, (f a)[j]? = some c → cs[j]? = some v → VR W (fun _ => none) noV noG c v ∧ v.oneCell' = true
theorem cells3 : Tryd.prog.cellsOf 3 = 1 := by kernel_rfl
theorem cells22 : Tryd.prog.cellsOf 22 = 1 := by kernel_rfl
theorem cells24 : Tryd.prog.cellsOf 24 = 1 := by kernel_rfl
theorem cells26 : Tryd.prog.cellsOf 26 = 3 := by kernel_rfl
theorem cells28 : Tryd.prog.cellsOf 28 = 3 := by kernel_rfl
theorem cells43 : Tryd.prog.cellsOf 43 = 1 := by kernel_rfl
theorem list_of {α : Type} : ∀ (len : Nat) (Q : Nat → α → Prop), (∀ i, i < len → ∃ a, Q i a) → ∃ l : List α, l.length = len ∧ ∀ (i : Nat) a, l[i]? = some a → Q i a := by
  intro len
  induction len with
  | zero => intro Q _; exact ⟨[], rfl, fun i a h => by cases h⟩
  | succ m ih =>
    intro Q key
    obtain ⟨l, hl, hh⟩ := ih Q fun i hi => key i (by omega)
    obtain ⟨a, h1⟩ := key m (by omega)
    refine ⟨l ++ [a], by simp [hl], fun i a' hi => ?_⟩
    by_cases hil : i < l.length
    · rw [List.getElem?_append_left hil] at hi; exact hh i a' hi
    · rw [List.getElem?_append_right (by omega)] at hi
      have h0 : i - l.length = 0 := by have := (List.getElem?_eq_some_iff.1 hi).1; simp at this; omega
      rw [h0] at hi
      obtain rfl : a = a' := by simpa using hi
      obtain rfl : i = m := by omega
      exact h1
section
variable {H : Type} {enc : TypeId × Value → H} {W : World}
theorem cells_at {a : Addr} {n : Nat} {cs : List Value} (h : W.cells? 0 a n = some cs) : cs.length = n ∧ ∀ (j : Nat) v, cs[j]? = some v → W.cell? (a.add j) = some v := by
  unfold World.cells? at h
  rw [if_pos (Nat.zero_le _)] at h
  have hl := mapM_some_length h
  rw [List.length_range] at hl
  refine ⟨hl, fun j v hj => ?_⟩
  have hlt : j < cs.length := (List.getElem?_eq_some_iff.1 hj).1
  have := mapM_some_get h j j (by rw [List.getElem?_range (by omega)])
  rw [hj] at this
  exact this
theorem el_int : ElemOpen (H := H) enc W 3 (fun n : Int => [I n]) := by
  intro fuel cs x h
  obtain ⟨n, rfl, _⟩ := DataW.trod_int Tryd.underlying3 h
  refine ⟨n, rfl, fun j c v hj hv => ?_⟩
  match j, hj, hv with
  | 0, hj, hv => cases hj; cases hv; exact ⟨.sc _, rfl⟩
  | j + 1, hj, hv => cases hj
theorem el_slice {t e z : Nat} {α : Type} {f : α → List AV} (hu : Tryd.prog.underlying t = some (.slice e)) (hc : Tryd.prog.cellsOf e = z) (hz : 0 < z) (hf : ∀ a, (f a).length = z) (he : ElemOpen (H := H) enc W e f) :
    ElemOpen (H := H) enc W t (fun l : List α => [AV.sl (l.map f)]) := by
  intro fuel cs x h
  rcases DataW.trod_slice hu h with ⟨rfl, _⟩ | ⟨a, len, cap, elems, rest, n, _, rfl, _, _, hlc, _, hel, hget, _, _⟩
  · refine ⟨[], rfl, fun j c v hj hv => ?_⟩
    match j, hj, hv with
    | 0, hj, hv => cases hj; cases hv; exact ⟨.sl0 _ _, rfl⟩
    | j + 1, hj, hv => cases hj
  · rw [hc] at hget
    obtain ⟨b, off, sp⟩ := a
    have key : ∀ i, i < len → ∃ (a : α) (cs : List Value), W.cells? 0 (Addr.add ⟨b, off, sp⟩ (i * z)) z = some cs ∧ ∀ (j : Nat) c v, (f a)[j]? = some c → cs[j]? = some v → VR W (fun _ => none) noV noG c v ∧ v.oneCell' = true := fun i hi => by
      have h1 := (hget i hi).trans (List.getElem?_eq_getElem (by omega : i < elems.length))
      obtain ⟨cs, hcs, ht⟩ := Option.bind_eq_some_iff.1 h1
      obtain ⟨a, _, h3⟩ := he _ _ _ ht
      exact ⟨a, cs, hcs, h3⟩
    obtain ⟨l, hl, hh⟩ := list_of len (fun i a => ∃ (cs : List Value), W.cells? 0 (Addr.add ⟨b, off, sp⟩ (i * z)) z = some cs ∧ ∀ (j : Nat) c v, (f a)[j]? = some c → cs[j]? = some v → VR W (fun _ => none) noV noG c v ∧ v.oneCell' = true) key
    have hlen : (l.map f).length = len := by rw [List.length_map, hl]
    have hzz : ∀ e ∈ l.map f, e.length = z := fun e he => by obtain ⟨a, _, rfl⟩ := List.mem_map.1 he; exact hf a
    have cellv : ∀ (i : Nat) e (j : Nat) c, (l.map f)[i]? = some e → e[j]? = some c → ∃ v, W.cell? (Addr.add (Addr.add ⟨b, off, sp⟩ (i * z)) j) = some v ∧ v.oneCell' = true ∧ VR W (fun _ => none) noV noG c v := fun i e j c he' hcj => by
      rw [List.getElem?_map, Option.map_eq_some_iff] at he'
      obtain ⟨a, ha, rfl⟩ := he'
      obtain ⟨cs, h1, h2⟩ := hh i a ha
      obtain ⟨g1, g2⟩ := cells_at h1
      have hj : j < cs.length := by have := (List.getElem?_eq_some_iff.1 hcj).1; rw [hf] at this; omega
      obtain ⟨g3, g4⟩ := h2 j c _ hcj (List.getElem?_eq_getElem hj)
      exact ⟨_, g2 j _ (List.getElem?_eq_getElem hj), g4, g3⟩
    refine ⟨l, rfl, fun j c v hj hv => ?_⟩
    match j, hj, hv with
    | j + 1, hj, hv => cases hj
    | 0, hj, hv =>
      cases hj; cases hv
      refine ⟨?_, rfl⟩
      rcases Nat.eq_zero_or_pos len with h0 | hp
      · subst h0
        obtain rfl : l = [] := List.length_eq_zero_iff.1 hl
        exact .sl0 _ _
      · have hsp : sp = none := by
          obtain ⟨v, h2, _⟩ := cellv 0 (f l[0]) 0 ((f l[0])[0]'(by rw [hf]; exact hz)) (by rw [List.getElem?_map, List.getElem?_eq_getElem (by omega : 0 < l.length)]; rfl) (List.getElem?_eq_getElem _)
          simpa [Addr.add] using World.cell?_spot h2
        subst hsp
        have := VR.sl (w := W) (M := fun _ => none) (V := noV) (G := noG) (l.map f) z b off cap (fun i j => (W.cell? ⟨b, off + (i * z + j), none⟩).getD undef) hzz (by omega) (fun i e j c he hc => by
          obtain ⟨v, h2, h3, _⟩ := cellv i e j c he hc
          rw [WideShapes.add_plain, WideShapes.add_plain, Nat.add_assoc] at h2
          exact ⟨by rw [h2]; rfl, by rw [h2]; exact h3, fun m hm => by cases hm⟩) (fun i e j c he hc => by
          obtain ⟨v, h2, _, h4⟩ := cellv i e j c he hc
          rw [WideShapes.add_plain, WideShapes.add_plain, Nat.add_assoc] at h2
          rw [h2]; exact h4)
        rw [hlen] at this
        exact this

theorem el_lay : ElemOpen (H := H) enc W 28 eL := by
  intro fuel cs x h
  obtain ⟨xs, n, _, _, hl, hx, hf⟩ := DataW.trod_struct Tryd.underlying28 h
  rw [cells28] at hl
  have hx4 : xs.length = 3 := hx
  match cs, hl with
  | [c0, c1, c2], _ =>
    obtain ⟨a0, l0, p0⟩ := el_int _ _ _ ((hf 0 _ rfl).trans (List.getElem?_eq_getElem (by omega : 0 < xs.length)))
    change ∀ j c v, _ → (List.take (Tryd.prog.cellsOf 3) (List.drop 0 [c0, c1, c2]))[j]? = some v → _ at p0
    rw [cells3] at p0
    have q0 := p0 0 _ c0 rfl rfl
    obtain ⟨a1, l1, p1⟩ := el_int _ _ _ ((hf 1 _ rfl).trans (List.getElem?_eq_getElem (by omega : 1 < xs.length)))
    change ∀ j c v, _ → (List.take (Tryd.prog.cellsOf 3) (List.drop 1 [c0, c1, c2]))[j]? = some v → _ at p1
    rw [cells3] at p1
    have q1 := p1 0 _ c1 rfl rfl
    obtain ⟨a2, l2, p2⟩ := el_int _ _ _ ((hf 2 _ rfl).trans (List.getElem?_eq_getElem (by omega : 2 < xs.length)))
    change ∀ j c v, _ → (List.take (Tryd.prog.cellsOf 3) (List.drop 2 [c0, c1, c2]))[j]? = some v → _ at p2
    rw [cells3] at p2
    have q2 := p2 0 _ c2 rfl rfl
    exact ⟨⟨a0, a1, a2⟩, rfl, fun j c v hj hv => by
      match j, hj, hv with
      | 0, hj, hv => cases hj; cases hv; exact q0
      | 1, hj, hv => cases hj; cases hv; exact q1
      | 2, hj, hv => cases hj; cases hv; exact q2
      | j + 3, hj, hv => cases hj⟩
theorem el_lays : ElemOpen (H := H) enc W 22 (fun l : List Lay => [AV.sl (l.map eL)]) :=
  el_slice Tryd.underlying22 cells28 (by decide) (fun _ => rfl) el_lay

theorem el_pck : ElemOpen (H := H) enc W 24 (fun p : List Lay => [AV.sl (lays p)]) := by
  intro fuel cs x h
  obtain ⟨xs, n, _, _, hl, hx, hf⟩ := DataW.trod_struct Tryd.underlying24 h
  rw [cells24] at hl
  have hx4 : xs.length = 1 := hx
  match cs, hl with
  | [c0], _ =>
    obtain ⟨a0, l0, p0⟩ := el_lays _ _ _ ((hf 0 _ rfl).trans (List.getElem?_eq_getElem (by omega : 0 < xs.length)))
    change ∀ j c v, _ → (List.take (Tryd.prog.cellsOf 22) (List.drop 0 [c0]))[j]? = some v → _ at p0
    rw [cells22] at p0
    have q0 := p0 0 _ c0 rfl rfl
    exact ⟨a0, rfl, fun j c v hj hv => by
      match j, hj, hv with
      | 0, hj, hv => cases hj; cases hv; exact q0
      | j + 1, hj, hv => cases hj⟩

theorem el_stp : ElemOpen (H := H) enc W 26 eT := by
  intro fuel cs x h
  obtain ⟨xs, n, _, _, hl, hx, hf⟩ := DataW.trod_struct Tryd.underlying26 h
  rw [cells26] at hl
  have hx4 : xs.length = 3 := hx
  match cs, hl with
  | [c0, c1, c2], _ =>
    obtain ⟨a0, l0, p0⟩ := el_int _ _ _ ((hf 0 _ rfl).trans (List.getElem?_eq_getElem (by omega : 0 < xs.length)))
    change ∀ j c v, _ → (List.take (Tryd.prog.cellsOf 3) (List.drop 0 [c0, c1, c2]))[j]? = some v → _ at p0
    rw [cells3] at p0
    have q0 := p0 0 _ c0 rfl rfl
    obtain ⟨a1, l1, p1⟩ := el_int _ _ _ ((hf 1 _ rfl).trans (List.getElem?_eq_getElem (by omega : 1 < xs.length)))
    change ∀ j c v, _ → (List.take (Tryd.prog.cellsOf 3) (List.drop 1 [c0, c1, c2]))[j]? = some v → _ at p1
    rw [cells3] at p1
    have q1 := p1 0 _ c1 rfl rfl
    obtain ⟨a2, l2, p2⟩ := el_int _ _ _ ((hf 2 _ rfl).trans (List.getElem?_eq_getElem (by omega : 2 < xs.length)))
    change ∀ j c v, _ → (List.take (Tryd.prog.cellsOf 3) (List.drop 2 [c0, c1, c2]))[j]? = some v → _ at p2
    rw [cells3] at p2
    have q2 := p2 0 _ c2 rfl rfl
    exact ⟨⟨a0, a1, a2⟩, rfl, fun j c v hj hv => by
      match j, hj, hv with
      | 0, hj, hv => cases hj; cases hv; exact q0
      | 1, hj, hv => cases hj; cases hv; exact q1
      | 2, hj, hv => cases hj; cases hv; exact q2
      | j + 3, hj, hv => cases hj⟩
theorem el_stps : ElemOpen (H := H) enc W 43 (fun l : List Stp => [AV.sl (l.map eT)]) :=
  el_slice Tryd.underlying43 cells26 (by decide) (fun _ => rfl) el_stp
end
/-- A parameter: its type, and what tells its values. -/
structure Arg where
  t : TypeId
  α : Type
  e : α → AV
  op : ∀ {H : Type} {enc : TypeId × Value → H} {W : World} {base : Nat} {v : Value} {d : DataW H} {p : List MemPlace}, DataW.Trod enc Tryd.prog W 0 (fun _ => true) true t v d p → Value.okWide Tryd.prog W .any base t v → ∃ a : α, VR W (fun _ => none) noV noG (e a) v
theorem op_agg {H : Type} {enc : TypeId × Value → H} {W : World} {base t : Nat} {α : Type} {f : α → List AV} (hu : (∃ fs, Tryd.prog.underlying t = some (.struct fs)) ∨ ∃ n e, Tryd.prog.underlying t = some (.array n e)) (he : ElemOpen (H := H) enc W t f) {v : Value} {d : DataW H} {p : List MemPlace}
    (h : DataW.Trod enc Tryd.prog W 0 (fun _ => true) true t v d p) (hok : Value.okWide Tryd.prog W .any base t v) : ∃ a : α, VR W (fun _ => none) noV noG (.agg (f a)) v := by
  have hv : ∃ cs, v = .agg cs := by
    unfold Value.okWide at hok
    rcases hu with ⟨fs, hu⟩ | ⟨n, e, hu⟩ <;> rw [hu] at hok <;> obtain ⟨cs, h1, _⟩ := hok <;> exact ⟨cs, h1⟩
  obtain ⟨cs, rfl⟩ := hv
  obtain ⟨fuel, h⟩ := h
  change DataW.trod enc Tryd.prog W 0 (fun _ => true) true fuel t cs.toList = _ at h
  obtain ⟨a, hl, hh⟩ := he _ _ _ h
  refine ⟨a, ?_⟩
  have := VR.agg (w := W) (M := fun _ => none) (V := noV) (G := noG) (f a) cs.toList hl.symm (List.all_eq_true.2 fun x hx => by
    obtain ⟨i, hi, rfl⟩ := List.mem_iff_getElem.1 hx
    exact (hh i _ _ (List.getElem?_eq_getElem (by omega)) (List.getElem?_eq_getElem hi)).2) (fun i c v hc hv => (hh i c v hc hv).1)
  simpa using this
theorem op_one {H : Type} {enc : TypeId × Value → H} {W : World} {base t : Nat} {α : Type} {f : α → AV} (he : ElemOpen (H := H) enc W t (fun a => [f a])) (hn : ∀ cs, ¬ Value.okWide Tryd.prog W .any base t (.agg cs)) {v : Value} {d : DataW H} {p : List MemPlace}
    (h : DataW.Trod enc Tryd.prog W 0 (fun _ => true) true t v d p) (hok : Value.okWide Tryd.prog W .any base t v) : ∃ a : α, VR W (fun _ => none) noV noG (f a) v := by
  obtain ⟨fuel, h⟩ := h
  obtain ⟨a, hl, hh⟩ := he _ _ _ h
  refine ⟨a, ?_⟩
  have hc : v.cells = #[v] := by
    cases v <;> first | rfl | exact absurd hok (hn _)
  rw [hc] at hh
  exact (hh 0 _ _ rfl rfl).1
theorem no_agg3 {W : World} {base : Nat} (cs : Array Value) : ¬ Value.okWide Tryd.prog W .any base 3 (.agg cs) := by
  intro h; unfold Value.okWide at h; rw [Tryd.underlying3] at h; simp [Cell.okWide, Tryd.underlying3, Cell.ok] at h
theorem no_agg43 {W : World} {base : Nat} (cs : Array Value) : ¬ Value.okWide Tryd.prog W .any base 43 (.agg cs) := by
  intro h; unfold Value.okWide at h; rw [Tryd.underlying43] at h; simp [Cell.okWide, Tryd.underlying43, Cell.ok] at h
def stps (l : List Stp) : List (List AV) := l.map eT
def aInt : Arg := ⟨3, Int, I, fun h hok => op_one (f := I) el_int no_agg3 h hok⟩
def aStps : Arg := ⟨43, List Stp, fun l => AV.sl (stps l), fun h hok => op_one (f := fun l : List Stp => AV.sl (stps l)) el_stps no_agg43 h hok⟩
def aLay : Arg := ⟨28, Lay, fun s => .agg (eL s), fun h hok => op_agg (.inl ⟨_, Tryd.underlying28⟩) el_lay h hok⟩
def aPck : Arg := ⟨24, List Lay, fun s => .agg (eK s), fun h hok => op_agg (.inl ⟨_, Tryd.underlying24⟩) el_pck h hok⟩
def aStp : Arg := ⟨26, Stp, fun s => .agg (eT s), fun h hok => op_agg (.inl ⟨_, Tryd.underlying26⟩) el_stp h hok⟩
/-- Abstract values of all parameters. -/
def ArgsFit : List Arg → List AV → Prop
  | [], [] => True
  | A :: As, x :: xs => (∃ a, x = A.e a) ∧ ArgsFit As xs
  | _, _ => False

end Go.Proofs.YtgagfmjpmdgfdaaDoor
