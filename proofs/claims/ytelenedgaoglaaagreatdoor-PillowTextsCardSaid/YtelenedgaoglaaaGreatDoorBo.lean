/- From what a row reads to what the walks speak of. -/
import Derived.Test.YtelenedgaoglaaaGreatDoorR27
import Derived.Test.YtelenedgaoglaaaGreatDoorRows
import Derived.Deep.DeepHandedRow
import Derived.ProofKit
import Derived.Lib.LaidTab
import Derived.Laws.IdiomArrays
import Derived.Carry
import Derived.OpenShut
set_option linter.unusedSimpArgs false
set_option maxRecDepth 20000
set_option linter.unusedVariables false
namespace Go.Proofs.YtelenedgaoglaaaGreatDoor
open Go.Ab Go.Pil Go.RowKit Go.ChangeShapes
def ElemOpen {H : Type} (enc : TypeId × Value → H) (W : World) (t : TypeId) {α : Type} (f : α → List AV) : Prop :=
  ∀ fuel cs x, DataW.trod enc Tryz.prog W 0 (fun _ => true) true fuel t cs = some x → ∃ a : α, cs.length = (f a).length ∧ ∀ (j : Nat) c v, (f a)[j]? = some c → cs[j]? = some v → VR W (fun _ => none) noV noG c v ∧ v.oneCell' = true
theorem cells3 : Tryz.prog.cellsOf 3 = 1 := by kernel_rfl
theorem cells22 : Tryz.prog.cellsOf 22 = 1 := by kernel_rfl
theorem cells24 : Tryz.prog.cellsOf 24 = 7 := by kernel_rfl
theorem cells43 : Tryz.prog.cellsOf 27 = 2 := by kernel_rfl
theorem list_of {α : Type} : ∀ (len : Nat) (Q : Nat → α → Prop), (∀ i, i < len → ∃ a, Q i a) → ∃ l : List α, l.length = len ∧ ∀ (i : Nat) a, l[i]? = some a → Q i a := by
  intro len
  induction len with
  | zero => intro Q _; exact ⟨[], rfl, fun i a h => by cases h⟩
  | succ m ih =>
    intro Q key
    obtain ⟨l, hl, hh⟩ := ih Q fun i hi => key i (by omega)
    obtain ⟨a, h1⟩ := key m (by omega)
    refine ⟨l ++ [a], by simp [hl], fun i a' hi => ?_⟩
    by_cases hil : i < l.length
    · rw [List.getElem?_append_left hil] at hi; exact hh i a' hi
    · rw [List.getElem?_append_right (by omega)] at hi
      have h0 : i - l.length = 0 := by have := (List.getElem?_eq_some_iff.1 hi).1; simp at this; omega
      rw [h0] at hi
      obtain rfl : a = a' := by simpa using hi
      obtain rfl : i = m := by omega
      exact h1
section
variable {H : Type} {enc : TypeId × Value → H} {W : World}
theorem cells_at {a : Addr} {n : Nat} {cs : List Value} (h : W.cells? 0 a n = some cs) : cs.length = n ∧ ∀ (j : Nat) v, cs[j]? = some v → W.cell? (a.add j) = some v := by
  unfold World.cells? at h
  rw [if_pos (Nat.zero_le _)] at h
  have hl := mapM_some_length h
  rw [List.length_range] at hl
  refine ⟨hl, fun j v hj => ?_⟩
  have hlt : j < cs.length := (List.getElem?_eq_some_iff.1 hj).1
  have := mapM_some_get h j j (by rw [List.getElem?_range (by omega)])
  rw [hj] at this
  exact this
theorem el_int : ElemOpen (H := H) enc W 3 (fun n : Int => [I n]) := by
  intro fuel cs x h
  obtain ⟨n, rfl, _⟩ := DataW.trod_int Tryz.underlying3 h
  refine ⟨n, rfl, fun j c v hj hv => ?_⟩
  match j, hj, hv with
  | 0, hj, hv => cases hj; cases hv; exact ⟨.sc _, rfl⟩
  | j + 1, hj, hv => cases hj
theorem el_slice {t e z : Nat} {α : Type} {f : α → List AV} (hu : Tryz.prog.underlying t = some (.slice e)) (hc : Tryz.prog.cellsOf e = z) (hz : 0 < z) (hf : ∀ a, (f a).length = z) (he : ElemOpen (H := H) enc W e f) :
    ElemOpen (H := H) enc W t (fun l : List α => [AV.sl (l.map f)]) := by
  intro fuel cs x h
  rcases DataW.trod_slice hu h with ⟨rfl, _⟩ | ⟨a, len, cap, elems, rest, n, _, rfl, _, _, hlc, _, hel, hget, _, _⟩
  · refine ⟨[], rfl, fun j c v hj hv => ?_⟩
    match j, hj, hv with
    | 0, hj, hv => cases hj; cases hv; exact ⟨.sl0 _ _, rfl⟩
    | j + 1, hj, hv => cases hj
  · rw [hc] at hget
    obtain ⟨b, off, sp⟩ := a
    have key : ∀ i, i < len → ∃ (a : α) (cs : List Value), W.cells? 0 (Addr.add ⟨b, off, sp⟩ (i * z)) z = some cs ∧ ∀ (j : Nat) c v, (f a)[j]? = some c → cs[j]? = some v → VR W (fun _ => none) noV noG c v ∧ v.oneCell' = true := fun i hi => by
      have h1 := (hget i hi).trans (List.getElem?_eq_getElem (by omega : i < elems.length))
      obtain ⟨cs, hcs, ht⟩ := Option.bind_eq_some_iff.1 h1
      obtain ⟨a, _, h3⟩ := he _ _ _ ht
      exact ⟨a, cs, hcs, h3⟩
    obtain ⟨l, hl, hh⟩ := list_of len (fun i a => ∃ (cs : List Value), W.cells? 0 (Addr.add ⟨b, off, sp⟩ (i * z)) z = some cs ∧ ∀ (j : Nat) c v, (f a)[j]? = some c → cs[j]? = some v → VR W (fun _ => none) noV noG c v ∧ v.oneCell' = true) key
    have hlen : (l.map f).length = len := by rw [List.length_map, hl]
    have hzz : ∀ e ∈ l.map f, e.length = z := fun e he => by obtain ⟨a, _, rfl⟩ := List.mem_map.1 he; exact hf a
    have cellv : ∀ (i : Nat) e (j : Nat) c, (l.map f)[i]? = some e → e[j]? = some c → ∃ v, W.cell? (Addr.add (Addr.add ⟨b, off, sp⟩ (i * z)) j) = some v ∧ v.oneCell' = true ∧ VR W (fun _ => none) noV noG c v := fun i e j c he' hcj => by
      rw [List.getElem?_map, Option.map_eq_some_iff] at he'
      obtain ⟨a, ha, rfl⟩ := he'
      obtain ⟨cs, h1, h2⟩ := hh i a ha
      obtain ⟨g1, g2⟩ := cells_at h1
      have hj : j < cs.length := by have := (List.getElem?_eq_some_iff.1 hcj).1; rw [hf] at this; omega
      obtain ⟨g3, g4⟩ := h2 j c _ hcj (List.getElem?_eq_getElem hj)
      exact ⟨_, g2 j _ (List.getElem?_eq_getElem hj), g4, g3⟩
    refine ⟨l, rfl, fun j c v hj hv => ?_⟩
    match j, hj, hv with
    | j + 1, hj, hv => cases hj
    | 0, hj, hv =>
      cases hj; cases hv
      refine ⟨?_, rfl⟩
      rcases Nat.eq_zero_or_pos len with h0 | hp
      · subst h0
        obtain rfl : l = [] := List.length_eq_zero_iff.1 hl
        exact .sl0 _ _
      · have hsp : sp = none := by
          obtain ⟨v, h2, _⟩ := cellv 0 (f l[0]) 0 ((f l[0])[0]'(by rw [hf]; exact hz)) (by rw [List.getElem?_map, List.getElem?_eq_getElem (by omega : 0 < l.length)]; rfl) (List.getElem?_eq_getElem _)
          simpa [Addr.add] using World.cell?_spot h2
        subst hsp
        have := VR.sl (w := W) (M := fun _ => none) (V := noV) (G := noG) (l.map f) z b off cap (fun i j => (W.cell? ⟨b, off + (i * z + j), none⟩).getD undef) hzz (by omega) (fun i e j c he hc => by
          obtain ⟨v, h2, h3, _⟩ := cellv i e j c he hc
          rw [WideShapes.add_plain, WideShapes.add_plain, Nat.add_assoc] at h2
          exact ⟨by rw [h2]; rfl, by rw [h2]; exact h3, fun m hm => by cases hm⟩) (fun i e j c he hc => by
          obtain ⟨v, h2, _, h4⟩ := cellv i e j c he hc
          rw [WideShapes.add_plain, WideShapes.add_plain, Nat.add_assoc] at h2
          rw [h2]; exact h4)
        rw [hlen] at this
        exact this
theorem el_shw : ElemOpen (H := H) enc W 27 eW := by
  intro fuel cs x h
  obtain ⟨xs, n, _, _, hl, hx, hf⟩ := DataW.trod_struct Tryz.underlying27 h
  rw [cells43] at hl
  have hx4 : xs.length = 2 := hx
  match cs, hl with
  | [c0, c1], _ =>
    obtain ⟨a0, l0, p0⟩ := el_int _ _ _ ((hf 0 _ rfl).trans (List.getElem?_eq_getElem (by omega : 0 < xs.length)))
    change ∀ j c v, _ → (List.take (Tryz.prog.cellsOf 3) (List.drop 0 [c0, c1]))[j]? = some v → _ at p0
    rw [cells3] at p0
    have q0 := p0 0 _ c0 rfl rfl
    obtain ⟨a1, l1, p1⟩ := el_int _ _ _ ((hf 1 _ rfl).trans (List.getElem?_eq_getElem (by omega : 1 < xs.length)))
    change ∀ j c v, _ → (List.take (Tryz.prog.cellsOf 3) (List.drop 1 [c0, c1]))[j]? = some v → _ at p1
    rw [cells3] at p1
    have q1 := p1 0 _ c1 rfl rfl
    exact ⟨⟨a0, a1⟩, rfl, fun j c v hj hv => by
      match j, hj, hv with
      | 0, hj, hv => cases hj; cases hv; exact q0
      | 1, hj, hv => cases hj; cases hv; exact q1
      | j + 2, hj, hv => cases hj⟩
theorem el_shws : ElemOpen (H := H) enc W 22 (fun l : List Shw => [AV.sl (l.map eW)]) :=
  el_slice Tryz.underlying22 cells43 (by decide) (fun _ => rfl) el_shw
theorem el_plw : ElemOpen (H := H) enc W 24 eP := by
  intro fuel cs x h
  obtain ⟨xs, n, _, _, hl, hx, hf⟩ := DataW.trod_struct Tryz.underlying24 h
  rw [cells24] at hl
  have hx4 : xs.length = 7 := hx
  match cs, hl with
  | [c0, c1, c2, c3, c4, c5, c6], _ =>
    obtain ⟨a0, l0, p0⟩ := el_int _ _ _ ((hf 0 _ rfl).trans (List.getElem?_eq_getElem (by omega : 0 < xs.length)))
    change ∀ j c v, _ → (List.take (Tryz.prog.cellsOf 3) (List.drop 0 [c0, c1, c2, c3, c4, c5, c6]))[j]? = some v → _ at p0
    rw [cells3] at p0
    have q0 := p0 0 _ c0 rfl rfl
    obtain ⟨a1, l1, p1⟩ := el_int _ _ _ ((hf 1 _ rfl).trans (List.getElem?_eq_getElem (by omega : 1 < xs.length)))
    change ∀ j c v, _ → (List.take (Tryz.prog.cellsOf 3) (List.drop 1 [c0, c1, c2, c3, c4, c5, c6]))[j]? = some v → _ at p1
    rw [cells3] at p1
    have q1 := p1 0 _ c1 rfl rfl
    obtain ⟨a2, l2, p2⟩ := el_int _ _ _ ((hf 2 _ rfl).trans (List.getElem?_eq_getElem (by omega : 2 < xs.length)))
    change ∀ j c v, _ → (List.take (Tryz.prog.cellsOf 3) (List.drop 2 [c0, c1, c2, c3, c4, c5, c6]))[j]? = some v → _ at p2
    rw [cells3] at p2
    have q2 := p2 0 _ c2 rfl rfl
    obtain ⟨a3, l3, p3⟩ := el_int _ _ _ ((hf 3 _ rfl).trans (List.getElem?_eq_getElem (by omega : 3 < xs.length)))
    change ∀ j c v, _ → (List.take (Tryz.prog.cellsOf 3) (List.drop 3 [c0, c1, c2, c3, c4, c5, c6]))[j]? = some v → _ at p3
    rw [cells3] at p3
    have q3 := p3 0 _ c3 rfl rfl
    obtain ⟨a4, l4, p4⟩ := el_int _ _ _ ((hf 4 _ rfl).trans (List.getElem?_eq_getElem (by omega : 4 < xs.length)))
    change ∀ j c v, _ → (List.take (Tryz.prog.cellsOf 3) (List.drop 4 [c0, c1, c2, c3, c4, c5, c6]))[j]? = some v → _ at p4
    rw [cells3] at p4
    have q4 := p4 0 _ c4 rfl rfl
    obtain ⟨a5, l5, p5⟩ := el_int _ _ _ ((hf 5 _ rfl).trans (List.getElem?_eq_getElem (by omega : 5 < xs.length)))
    change ∀ j c v, _ → (List.take (Tryz.prog.cellsOf 3) (List.drop 5 [c0, c1, c2, c3, c4, c5, c6]))[j]? = some v → _ at p5
    rw [cells3] at p5
    have q5 := p5 0 _ c5 rfl rfl
    obtain ⟨a6, l6, p6⟩ := el_shws _ _ _ ((hf 6 _ rfl).trans (List.getElem?_eq_getElem (by omega : 6 < xs.length)))
    change ∀ j c v, _ → (List.take (Tryz.prog.cellsOf 22) (List.drop 6 [c0, c1, c2, c3, c4, c5, c6]))[j]? = some v → _ at p6
    rw [cells22] at p6
    have q6 := p6 0 _ c6 rfl rfl
    exact ⟨⟨a0, a1, a2, a3, a4, a5, a6⟩, rfl, fun j c v hj hv => by
      match j, hj, hv with
      | 0, hj, hv => cases hj; cases hv; exact q0
      | 1, hj, hv => cases hj; cases hv; exact q1
      | 2, hj, hv => cases hj; cases hv; exact q2
      | 3, hj, hv => cases hj; cases hv; exact q3
      | 4, hj, hv => cases hj; cases hv; exact q4
      | 5, hj, hv => cases hj; cases hv; exact q5
      | 6, hj, hv => cases hj; cases hv; exact q6
      | j + 7, hj, hv => cases hj⟩
end
structure Arg where
  t : TypeId
  α : Type
  e : α → AV
  op : ∀ {H : Type} {enc : TypeId × Value → H} {W : World} {base : Nat} {v : Value} {d : DataW H} {p : List MemPlace}, DataW.Trod enc Tryz.prog W 0 (fun _ => true) true t v d p → Value.okWide Tryz.prog W .any base t v → ∃ a : α, VR W (fun _ => none) noV noG (e a) v
theorem op_agg {H : Type} {enc : TypeId × Value → H} {W : World} {base t : Nat} {α : Type} {f : α → List AV} (hu : (∃ fs, Tryz.prog.underlying t = some (.struct fs)) ∨ ∃ n e, Tryz.prog.underlying t = some (.array n e)) (he : ElemOpen (H := H) enc W t f) {v : Value} {d : DataW H} {p : List MemPlace}
    (h : DataW.Trod enc Tryz.prog W 0 (fun _ => true) true t v d p) (hok : Value.okWide Tryz.prog W .any base t v) : ∃ a : α, VR W (fun _ => none) noV noG (.agg (f a)) v := by
  have hv : ∃ cs, v = .agg cs := by
    unfold Value.okWide at hok
    rcases hu with ⟨fs, hu⟩ | ⟨n, e, hu⟩ <;> rw [hu] at hok <;> obtain ⟨cs, h1, _⟩ := hok <;> exact ⟨cs, h1⟩
  obtain ⟨cs, rfl⟩ := hv
  obtain ⟨fuel, h⟩ := h
  change DataW.trod enc Tryz.prog W 0 (fun _ => true) true fuel t cs.toList = _ at h
  obtain ⟨a, hl, hh⟩ := he _ _ _ h
  refine ⟨a, ?_⟩
  have := VR.agg (w := W) (M := fun _ => none) (V := noV) (G := noG) (f a) cs.toList hl.symm (List.all_eq_true.2 fun x hx => by
    obtain ⟨i, hi, rfl⟩ := List.mem_iff_getElem.1 hx
    exact (hh i _ _ (List.getElem?_eq_getElem (by omega)) (List.getElem?_eq_getElem hi)).2) (fun i c v hc hv => (hh i c v hc hv).1)
  simpa using this
def aPlw : Arg := ⟨24, Plw, fun s => .agg (eP s), fun h hok => op_agg (.inl ⟨_, Tryz.underlying24⟩) el_plw h hok⟩
def ArgsFit : List Arg → List AV → Prop
  | [], [] => True
  | A :: As, x :: xs => (∃ a, x = A.e a) ∧ ArgsFit As xs
  | _, _ => False
end Go.Proofs.YtelenedgaoglaaaGreatDoor
