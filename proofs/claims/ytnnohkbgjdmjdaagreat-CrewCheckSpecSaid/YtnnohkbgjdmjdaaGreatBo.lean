/- From what a row reads to what the walks speak of. -/
import Derived.Test.YtnnohkbgjdmjdaaGreatL7g
import Derived.Test.YtnnohkbgjdmjdaaGreatRows
import Derived.Deep.DeepHandedRow
import Derived.ProofKit
import Derived.Laws.IdiomArrays
import Derived.Carry
import Derived.OpenShut
set_option linter.unusedSimpArgs false
set_option maxRecDepth 20000
set_option linter.unusedVariables false
namespace Go.Proofs.YtnnohkbgjdmjdaaGreat
open Go.Ab Go.RowKit Go.ChangeShapes Go.WideShapes Go.ChangeAt
/-- What reads as a value of the type t is told by f a, for some a. -/
def ElemOpen {H : Type} (enc : TypeId × Value → H) (W : World) (t : TypeId) {α : Type} (f : α → List AV) : Prop :=
  ∀ fuel cs x, DataW.trod enc Tryz.prog W 0 (fun _ => true) true fuel t cs = some x → ∃ a : α, cs.length = (f a).length ∧ ∀ (j : Nat) c v, (f a)[j]? = some c → cs[j]? = some v → VR W (fun _ => none) noV noG c v ∧ v.oneCell' = true
theorem cells3 : Tryz.prog.cellsOf 3 = 1 := by kernel_rfl
theorem cells68 : Tryz.prog.cellsOf 68 = 3 := by kernel_rfl
theorem cells74 : Tryz.prog.cellsOf 74 = 6 := by kernel_rfl
theorem cells22 : Tryz.prog.cellsOf 22 = 1 := by kernel_rfl
theorem cells23 : Tryz.prog.cellsOf 23 = 1 := by kernel_rfl
theorem cells25 : Tryz.prog.cellsOf 25 = 2 := by kernel_rfl
theorem list_of {α : Type} : ∀ (len : Nat) (Q : Nat → α → Prop), (∀ i, i < len → ∃ a, Q i a) → ∃ l : List α, l.length = len ∧ ∀ (i : Nat) a, l[i]? = some a → Q i a := by
  intro len
  induction len with
  | zero => intro Q _; exact ⟨[], rfl, fun i a h => by cases h⟩
  | succ m ih =>
    intro Q key
    obtain ⟨l, hl, hh⟩ := ih Q fun i hi => key i (by omega)
    obtain ⟨a, h1⟩ := key m (by omega)
    refine ⟨l ++ [a], by simp [hl], fun i a' hi => ?_⟩
    by_cases hil : i < l.length
    · rw [List.getElem?_append_left hil] at hi; exact hh i a' hi
    · rw [List.getElem?_append_right (by omega)] at hi
      have h0 : i - l.length = 0 := by have := (List.getElem?_eq_some_iff.1 hi).1; simp at this; omega
      rw [h0] at hi
      obtain rfl : a = a' := by simpa using hi
      obtain rfl : i = m := by omega
      exact h1
section
variable {H : Type} {enc : TypeId × Value → H} {W : World}
theorem cells_at {a : Addr} {n : Nat} {cs : List Value} (h : W.cells? 0 a n = some cs) : cs.length = n ∧ ∀ (j : Nat) v, cs[j]? = some v → W.cell? (a.add j) = some v := by
  unfold World.cells? at h
  rw [if_pos (Nat.zero_le _)] at h
  have hl := mapM_some_length h
  rw [List.length_range] at hl
  refine ⟨hl, fun j v hj => ?_⟩
  have hlt : j < cs.length := (List.getElem?_eq_some_iff.1 hj).1
  have := mapM_some_get h j j (by rw [List.getElem?_range (by omega)])
  rw [hj] at this
  exact this
theorem el_int : ElemOpen (H := H) enc W 3 (fun n : Int => [I n]) := by
  intro fuel cs x h
  obtain ⟨n, rfl, _⟩ := DataW.trod_int Tryz.underlying3 h
  refine ⟨n, rfl, fun j c v hj hv => ?_⟩
  match j, hj, hv with
  | 0, hj, hv => cases hj; cases hv; exact ⟨.sc _, rfl⟩
  | j + 1, hj, hv => cases hj
theorem el_slice {t e z : Nat} {α : Type} {f : α → List AV} (hu : Tryz.prog.underlying t = some (.slice e)) (hc : Tryz.prog.cellsOf e = z) (hz : 0 < z) (hf : ∀ a, (f a).length = z) (he : ElemOpen (H := H) enc W e f) :
    ElemOpen (H := H) enc W t (fun l : List α => [AV.sl (l.map f)]) := by
  intro fuel cs x h
  rcases DataW.trod_slice hu h with ⟨rfl, _⟩ | ⟨a, len, cap, elems, rest, n, _, rfl, _, _, hlc, _, hel, hget, _, _⟩
  · refine ⟨[], rfl, fun j c v hj hv => ?_⟩
    match j, hj, hv with
    | 0, hj, hv => cases hj; cases hv; exact ⟨.sl0 _ _, rfl⟩
    | j + 1, hj, hv => cases hj
  · rw [hc] at hget
    obtain ⟨b, off, sp⟩ := a
    have key : ∀ i, i < len → ∃ (a : α) (cs : List Value), W.cells? 0 (Addr.add ⟨b, off, sp⟩ (i * z)) z = some cs ∧ ∀ (j : Nat) c v, (f a)[j]? = some c → cs[j]? = some v → VR W (fun _ => none) noV noG c v ∧ v.oneCell' = true := fun i hi => by
      have h1 := (hget i hi).trans (List.getElem?_eq_getElem (by omega : i < elems.length))
      obtain ⟨cs, hcs, ht⟩ := Option.bind_eq_some_iff.1 h1
      obtain ⟨a, _, h3⟩ := he _ _ _ ht
      exact ⟨a, cs, hcs, h3⟩
    obtain ⟨l, hl, hh⟩ := list_of len (fun i a => ∃ (cs : List Value), W.cells? 0 (Addr.add ⟨b, off, sp⟩ (i * z)) z = some cs ∧ ∀ (j : Nat) c v, (f a)[j]? = some c → cs[j]? = some v → VR W (fun _ => none) noV noG c v ∧ v.oneCell' = true) key
    have hlen : (l.map f).length = len := by rw [List.length_map, hl]
    have hzz : ∀ e ∈ l.map f, e.length = z := fun e he => by obtain ⟨a, _, rfl⟩ := List.mem_map.1 he; exact hf a
    have cellv : ∀ (i : Nat) e (j : Nat) c, (l.map f)[i]? = some e → e[j]? = some c → ∃ v, W.cell? (Addr.add (Addr.add ⟨b, off, sp⟩ (i * z)) j) = some v ∧ v.oneCell' = true ∧ VR W (fun _ => none) noV noG c v := fun i e j c he' hcj => by
      rw [List.getElem?_map, Option.map_eq_some_iff] at he'
      obtain ⟨a, ha, rfl⟩ := he'
      obtain ⟨cs, h1, h2⟩ := hh i a ha
      obtain ⟨g1, g2⟩ := cells_at h1
      have hj : j < cs.length := by have := (List.getElem?_eq_some_iff.1 hcj).1; rw [hf] at this; omega
      obtain ⟨g3, g4⟩ := h2 j c _ hcj (List.getElem?_eq_getElem hj)
      exact ⟨_, g2 j _ (List.getElem?_eq_getElem hj), g4, g3⟩
    refine ⟨l, rfl, fun j c v hj hv => ?_⟩
    match j, hj, hv with
    | j + 1, hj, hv => cases hj
    | 0, hj, hv =>
      cases hj; cases hv
      refine ⟨?_, rfl⟩
      rcases Nat.eq_zero_or_pos len with h0 | hp
      · subst h0
        obtain rfl : l = [] := List.length_eq_zero_iff.1 hl
        exact .sl0 _ _
      · have hsp : sp = none := by
          obtain ⟨v, h2, _⟩ := cellv 0 (f l[0]) 0 ((f l[0])[0]'(by rw [hf]; exact hz)) (by rw [List.getElem?_map, List.getElem?_eq_getElem (by omega : 0 < l.length)]; rfl) (List.getElem?_eq_getElem _)
          simpa [Addr.add] using World.cell?_spot h2
        subst hsp
        have := VR.sl (w := W) (M := fun _ => none) (V := noV) (G := noG) (l.map f) z b off cap (fun i j => (W.cell? ⟨b, off + (i * z + j), none⟩).getD undef) hzz (by omega) (fun i e j c he hc => by
          obtain ⟨v, h2, h3, _⟩ := cellv i e j c he hc
          rw [WideShapes.add_plain, WideShapes.add_plain, Nat.add_assoc] at h2
          exact ⟨by rw [h2]; rfl, by rw [h2]; exact h3, fun m hm => by cases hm⟩) (fun i e j c he hc => by
          obtain ⟨v, h2, _, h4⟩ := cellv i e j c he hc
          rw [WideShapes.add_plain, WideShapes.add_plain, Nat.add_assoc] at h2
          rw [h2]; exact h4)
        rw [hlen] at this
        exact this
theorem el_sit : ElemOpen (H := H) enc W 68 eSi := by
  intro fuel cs x h
  obtain ⟨xs, n, _, _, hl, hx, hf⟩ := DataW.trod_struct Tryz.underlying68 h
  rw [cells68] at hl
  have hx4 : xs.length = 3 := hx
  match cs, hl with
  | [c0, c1, c2], _ =>
    obtain ⟨a0, l0, p0⟩ := el_int _ _ _ ((hf 0 _ rfl).trans (List.getElem?_eq_getElem (by omega : 0 < xs.length)))
    change ∀ j c v, _ → (List.take (Tryz.prog.cellsOf 3) (List.drop 0 [c0, c1, c2]))[j]? = some v → _ at p0
    rw [cells3] at p0
    have q0 := p0 0 _ c0 rfl rfl
    obtain ⟨a1, l1, p1⟩ := el_int _ _ _ ((hf 1 _ rfl).trans (List.getElem?_eq_getElem (by omega : 1 < xs.length)))
    change ∀ j c v, _ → (List.take (Tryz.prog.cellsOf 3) (List.drop 1 [c0, c1, c2]))[j]? = some v → _ at p1
    rw [cells3] at p1
    have q1 := p1 0 _ c1 rfl rfl
    obtain ⟨a2, l2, p2⟩ := el_int _ _ _ ((hf 2 _ rfl).trans (List.getElem?_eq_getElem (by omega : 2 < xs.length)))
    change ∀ j c v, _ → (List.take (Tryz.prog.cellsOf 3) (List.drop 2 [c0, c1, c2]))[j]? = some v → _ at p2
    rw [cells3] at p2
    have q2 := p2 0 _ c2 rfl rfl
    exact ⟨⟨a0, a1, a2⟩, rfl, fun j c v hj hv => by
      match j, hj, hv with
      | 0, hj, hv => cases hj; cases hv; exact q0
      | 1, hj, hv => cases hj; cases hv; exact q1
      | 2, hj, hv => cases hj; cases hv; exact q2
      | j + 3, hj, hv => cases hj⟩
theorem el_sts : ElemOpen (H := H) enc W 22 (fun l : List Sit => [AV.sl (l.map eSi)]) :=
  el_slice Tryz.underlying22 cells68 (by decide) (fun _ => rfl) el_sit
theorem el_trk : ElemOpen (H := H) enc W 74 eTr := by
  intro fuel cs x h
  obtain ⟨xs, n, _, _, hl, hx, hf⟩ := DataW.trod_struct Tryz.underlying74 h
  rw [cells74] at hl
  have hx4 : xs.length = 6 := hx
  match cs, hl with
  | [c0, c1, c2, c3, c4, c5], _ =>
    obtain ⟨a0, l0, p0⟩ := el_int _ _ _ ((hf 0 _ rfl).trans (List.getElem?_eq_getElem (by omega : 0 < xs.length)))
    change ∀ j c v, _ → (List.take (Tryz.prog.cellsOf 3) (List.drop 0 [c0, c1, c2, c3, c4, c5]))[j]? = some v → _ at p0
    rw [cells3] at p0
    have q0 := p0 0 _ c0 rfl rfl
    obtain ⟨a1, l1, p1⟩ := el_int _ _ _ ((hf 1 _ rfl).trans (List.getElem?_eq_getElem (by omega : 1 < xs.length)))
    change ∀ j c v, _ → (List.take (Tryz.prog.cellsOf 3) (List.drop 1 [c0, c1, c2, c3, c4, c5]))[j]? = some v → _ at p1
    rw [cells3] at p1
    have q1 := p1 0 _ c1 rfl rfl
    obtain ⟨a2, l2, p2⟩ := el_int _ _ _ ((hf 2 _ rfl).trans (List.getElem?_eq_getElem (by omega : 2 < xs.length)))
    change ∀ j c v, _ → (List.take (Tryz.prog.cellsOf 3) (List.drop 2 [c0, c1, c2, c3, c4, c5]))[j]? = some v → _ at p2
    rw [cells3] at p2
    have q2 := p2 0 _ c2 rfl rfl
    obtain ⟨a3, l3, p3⟩ := el_int _ _ _ ((hf 3 _ rfl).trans (List.getElem?_eq_getElem (by omega : 3 < xs.length)))
    change ∀ j c v, _ → (List.take (Tryz.prog.cellsOf 3) (List.drop 3 [c0, c1, c2, c3, c4, c5]))[j]? = some v → _ at p3
    rw [cells3] at p3
    have q3 := p3 0 _ c3 rfl rfl
    obtain ⟨a4, l4, p4⟩ := el_int _ _ _ ((hf 4 _ rfl).trans (List.getElem?_eq_getElem (by omega : 4 < xs.length)))
    change ∀ j c v, _ → (List.take (Tryz.prog.cellsOf 3) (List.drop 4 [c0, c1, c2, c3, c4, c5]))[j]? = some v → _ at p4
    rw [cells3] at p4
    have q4 := p4 0 _ c4 rfl rfl
    obtain ⟨a5, l5, p5⟩ := el_int _ _ _ ((hf 5 _ rfl).trans (List.getElem?_eq_getElem (by omega : 5 < xs.length)))
    change ∀ j c v, _ → (List.take (Tryz.prog.cellsOf 3) (List.drop 5 [c0, c1, c2, c3, c4, c5]))[j]? = some v → _ at p5
    rw [cells3] at p5
    have q5 := p5 0 _ c5 rfl rfl
    exact ⟨⟨a0, a1, a2, a3, a4, a5⟩, rfl, fun j c v hj hv => by
      match j, hj, hv with
      | 0, hj, hv => cases hj; cases hv; exact q0
      | 1, hj, hv => cases hj; cases hv; exact q1
      | 2, hj, hv => cases hj; cases hv; exact q2
      | 3, hj, hv => cases hj; cases hv; exact q3
      | 4, hj, hv => cases hj; cases hv; exact q4
      | 5, hj, hv => cases hj; cases hv; exact q5
      | j + 6, hj, hv => cases hj⟩
theorem el_trs : ElemOpen (H := H) enc W 23 (fun l : List Trk => [AV.sl (l.map eTr)]) :=
  el_slice Tryz.underlying23 cells74 (by decide) (fun _ => rfl) el_trk
theorem el_rng : ElemOpen (H := H) enc W 25 eRg := by
  intro fuel cs x h
  obtain ⟨xs, n, _, _, hl, hx, hf⟩ := DataW.trod_struct Tryz.underlying25 h
  rw [cells25] at hl
  have hx4 : xs.length = 2 := hx
  match cs, hl with
  | [c0, c1], _ =>
    obtain ⟨a0, l0, p0⟩ := el_sts _ _ _ ((hf 0 _ rfl).trans (List.getElem?_eq_getElem (by omega : 0 < xs.length)))
    change ∀ j c v, _ → (List.take (Tryz.prog.cellsOf 22) (List.drop 0 [c0, c1]))[j]? = some v → _ at p0
    rw [cells22] at p0
    have q0 := p0 0 _ c0 rfl rfl
    obtain ⟨a1, l1, p1⟩ := el_trs _ _ _ ((hf 1 _ rfl).trans (List.getElem?_eq_getElem (by omega : 1 < xs.length)))
    change ∀ j c v, _ → (List.take (Tryz.prog.cellsOf 23) (List.drop 1 [c0, c1]))[j]? = some v → _ at p1
    rw [cells23] at p1
    have q1 := p1 0 _ c1 rfl rfl
    exact ⟨⟨a0, a1⟩, rfl, fun j c v hj hv => by
      match j, hj, hv with
      | 0, hj, hv => cases hj; cases hv; exact q0
      | 1, hj, hv => cases hj; cases hv; exact q1
      | j + 2, hj, hv => cases hj⟩
end
/-- A parameter: its type, and what tells its values. -/
structure Arg where
  t : TypeId
  α : Type
  e : α → AV
  op : ∀ {H : Type} {enc : TypeId × Value → H} {W : World} {base : Nat} {v : Value} {d : DataW H} {p : List MemPlace}, DataW.Trod enc Tryz.prog W 0 (fun _ => true) true t v d p → Value.okWide Tryz.prog W .any base t v → ∃ a : α, VR W (fun _ => none) noV noG (e a) v
theorem op_agg {H : Type} {enc : TypeId × Value → H} {W : World} {base t : Nat} {α : Type} {f : α → List AV} (hu : (∃ fs, Tryz.prog.underlying t = some (.struct fs)) ∨ ∃ n e, Tryz.prog.underlying t = some (.array n e)) (he : ElemOpen (H := H) enc W t f) {v : Value} {d : DataW H} {p : List MemPlace}
    (h : DataW.Trod enc Tryz.prog W 0 (fun _ => true) true t v d p) (hok : Value.okWide Tryz.prog W .any base t v) : ∃ a : α, VR W (fun _ => none) noV noG (.agg (f a)) v := by
  have hv : ∃ cs, v = .agg cs := by
    unfold Value.okWide at hok
    rcases hu with ⟨fs, hu⟩ | ⟨n, e, hu⟩ <;> rw [hu] at hok <;> obtain ⟨cs, h1, _⟩ := hok <;> exact ⟨cs, h1⟩
  obtain ⟨cs, rfl⟩ := hv
  obtain ⟨fuel, h⟩ := h
  change DataW.trod enc Tryz.prog W 0 (fun _ => true) true fuel t cs.toList = _ at h
  obtain ⟨a, hl, hh⟩ := he _ _ _ h
  refine ⟨a, ?_⟩
  have := VR.agg (w := W) (M := fun _ => none) (V := noV) (G := noG) (f a) cs.toList hl.symm (List.all_eq_true.2 fun x hx => by
    obtain ⟨i, hi, rfl⟩ := List.mem_iff_getElem.1 hx
    exact (hh i _ _ (List.getElem?_eq_getElem (by omega)) (List.getElem?_eq_getElem hi)).2) (fun i c v hc hv => (hh i c v hc hv).1)
  simpa using this
theorem op_one {H : Type} {enc : TypeId × Value → H} {W : World} {base t : Nat} {α : Type} {f : α → AV} (he : ElemOpen (H := H) enc W t (fun a => [f a])) (hn : ∀ cs, ¬ Value.okWide Tryz.prog W .any base t (.agg cs)) {v : Value} {d : DataW H} {p : List MemPlace}
    (h : DataW.Trod enc Tryz.prog W 0 (fun _ => true) true t v d p) (hok : Value.okWide Tryz.prog W .any base t v) : ∃ a : α, VR W (fun _ => none) noV noG (f a) v := by
  obtain ⟨fuel, h⟩ := h
  obtain ⟨a, hl, hh⟩ := he _ _ _ h
  refine ⟨a, ?_⟩
  have hc : v.cells = #[v] := by
    cases v <;> first | rfl | exact absurd hok (hn _)
  rw [hc] at hh
  exact (hh 0 _ _ rfl rfl).1
theorem no_agg3 {W : World} {base : Nat} (cs : Array Value) : ¬ Value.okWide Tryz.prog W .any base 3 (.agg cs) := by
  intro h; unfold Value.okWide at h; rw [Tryz.underlying3] at h; simp [Cell.okWide, Tryz.underlying3, Cell.ok] at h

theorem vr_len {w M V G} {es : List (List AV)} {v : Value} (h : VR w M V G (.sl es) v) : es = [] ∨ ∃ a cap, v = .slice (some a) es.length cap := by
  cases h with
  | sl0 a cap => exact .inl rfl
  | sl _ z b off cap X hz hcap hc hv => exact .inr ⟨_, _, rfl⟩
def aInt : Arg := ⟨3, Int, I, fun h hok => op_one (f := I) el_int no_agg3 h hok⟩
def aRng : Arg := ⟨25, Rng, fun s => .agg (eRg s), fun h hok => op_agg (.inl ⟨_, Tryz.underlying25⟩) el_rng h hok⟩
/-- Abstract values of all parameters. -/
def ArgsFit : List Arg → List AV → Prop
  | [], [] => True
  | A :: As, x :: xs => (∃ a, x = A.e a) ∧ ArgsFit As xs
  | _, _ => False
theorem ArgsFit.cons {A : Arg} {As : List Arg} {avs : List AV} (h : ArgsFit (A :: As) avs) : ∃ (a : A.α) (xs : List AV), avs = A.e a :: xs ∧ ArgsFit As xs := by
  cases avs with
  | nil => exact h.elim
  | cons x xs => obtain ⟨⟨a, rfl⟩, h2⟩ := h; exact ⟨a, xs, rfl, h2⟩
theorem ArgsFit.nil {avs : List AV} (h : ArgsFit [] avs) : avs = [] := by
  cases avs with
  | nil => rfl
  | cons x xs => exact h.elim

theorem own : ownKnob Tryz.prog.godebug = none := by kernel_rfl
theorem laidOut : laidOutB Tryz.prog = true := by kernel_rfl
theorem fits_all {H : Type} {enc : TypeId × Value → H} {W : World} {base : Nat} : ∀ (As : List Arg) (vs : List Value) (ds : List (DataW H)) (p : List MemPlace), DataW.TrodAll enc Tryz.prog W 0 (fun _ => true) true (As.map Arg.t) vs ds p →
    (∀ (j : Nat) t v, (As.map Arg.t)[j]? = some t → vs[j]? = some v → Value.okWide Tryz.prog W .any base t v) → ∃ avs, ArgsFit As avs ∧ avs.length = vs.length ∧ ds.length = As.length ∧ ∀ (i : Nat) y v, avs[i]? = some y → vs[i]? = some v → VR W (fun _ => none) noV noG y v := by
  intro As
  induction As with
  | nil =>
    intro vs ds p h _
    obtain ⟨rfl, rfl, _⟩ := trodAll_nil h
    exact ⟨[], trivial, rfl, rfl, fun i y v h => by cases h⟩
  | cons A As ih =>
    intro vs ds p h hok
    obtain ⟨v, vs', d, ds', p', q, rfl, rfl, rfl, hd, hr⟩ := trodAll_cons h
    obtain ⟨a, ha⟩ := A.op hd (hok 0 _ _ rfl rfl)
    obtain ⟨avs, h1, h2, h2', h3⟩ := ih vs' ds' q hr (fun j t v ht hv => hok (j + 1) t v ht hv)
    refine ⟨A.e a :: avs, ⟨⟨a, rfl⟩, h1⟩, by simp [h2], by simp [h2'], fun i y v hy hv => ?_⟩
    cases i with
    | zero => cases hy; cases hv; exact ha
    | succ i => exact h3 i y v hy hv
theorem after_all {H : Type} {enc : TypeId × Value → H} {W W' : World} (hb : Below W.heap.size W W') : ∀ (As : List Arg) (vs : List Value) (ds : List (DataW H)) (p : List MemPlace), DataW.TrodAll enc Tryz.prog W 0 (fun _ => true) true (As.map Arg.t) vs ds p →
    (∀ A ∈ As, Tryz.prog.readableRec A.t = true ∧ A.t < Tryz.prog.types.size) → (∀ x ∈ p, x.block < W.heap.size) → DataW.TrodAll enc Tryz.prog W' 0 (fun b => decide (b < W.heap.size)) true (As.map Arg.t) vs ds p := by
  intro As
  induction As with
  | nil =>
    intro vs ds p h _ _
    obtain ⟨rfl, rfl, rfl⟩ := trodAll_nil h
    exact trodAll_mk0
  | cons A As ih =>
    intro vs ds p h hr hp
    obtain ⟨v, vs', d, ds', p', q, rfl, rfl, rfl, hd, hs⟩ := trodAll_cons h
    have hA := hr A List.mem_cons_self
    exact ⟨p', q, Below.trod laidOut hA.1 hA.2 hd hb (fun x hx => hp x (List.mem_append.2 (.inl hx))), ih vs' ds' q hs (fun B hB => hr B (List.mem_cons_of_mem _ hB)) (fun x hx => hp x (List.mem_append.2 (.inr hx))), rfl⟩

theorem contract_all {H : Type} {enc : TypeId × Value → H} (As : List Arg) {N : FuncId} {fn : Func} {spec : ChangeSpec} (hpar : fn.params.toList = As.map Arg.t) (hres : fn.resultTypes = #[4]) (hvars : spec.vars = [])
    (hspec : ∀ ds : List (DataW H), ds.length = As.length → spec.fn H (ds ++ []) = { results := [.lit (.bool true)], args := ds }) (hrd : ∀ A ∈ As, Tryz.prog.readableRec A.t = true ∧ A.t < Tryz.prog.types.size)
    (law : ∀ avs, ArgsFit As avs → FSpec Tryz.prog N avs (B true) none) (W : World) (base : Nat) (args : Array Value) (ds gs : List (DataW H)) (before : List MemPlace)
    (hval : ∀ (j : Nat) t v, fn.params[j]? = some t → args[j]? = some v → Value.okWide Tryz.prog W .any base t v) (hW : DataW.Whole enc Tryz.prog fn.params.toList spec.vars false W args.toList ds gs before) :
    Calls Tryz.prog N args W fun e W' => ∃ v, e = .returned v ∧ spec.post enc Tryz.prog fn false true false false W args v W' := by
  have hW' := hW
  obtain ⟨p, q, hA, hV, rfl, _, _⟩ := hW
  rw [hpar] at hA
  rw [hvars] at hV
  obtain ⟨rfl, rfl⟩ := trodVars_none hV
  simp only [List.append_nil] at hW'
  have hlt : ∀ x ∈ p, x.block < W.heap.size := fun x hx => hW'.lt x hx
  obtain ⟨avs, h1, h2, h3, h4⟩ := fits_all (base := base) As args.toList ds p hA (fun j t v ht hv => hval j t v (by rw [← Array.getElem?_toList, hpar]; exact ht) (by rw [← Array.getElem?_toList]; exact hv))
  have hc := law avs h1 W (fun _ => none) args.toList trivial h2 h4 (fun _ _ => rfl)
  refine (show Calls Tryz.prog N args W _ from hc).mono fun e W' ⟨v, he, bel, hr⟩ => ?_
  subst he
  cases hr
  refine ⟨_, rfl, ds, [], p, [], p, [], hW', ?_, ?_, ?_, bel.frame _, fun h => by cases h⟩
  · rw [hspec ds h3, hres]; exact trodAll_mk1 (shut_bool Tryz.underlying4 _)
  · rw [hspec ds h3, hpar]; exact after_all bel As _ _ _ hA hrd hlt
  · rw [hspec ds h3, hvars]; rfl
end Go.Proofs.YtnnohkbgjdmjdaaGreat

