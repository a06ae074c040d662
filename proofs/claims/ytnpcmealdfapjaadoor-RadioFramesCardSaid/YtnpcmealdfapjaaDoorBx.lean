/- A row of any parameters: what its law function does, told on the executor's code, is what the row says. -/
import Derived.Test.YtnpcmealdfapjaaDoorEq9
import Derived.Test.YtnpcmealdfapjaaDoorExE
import Derived.Test.YtnpcmealdfapjaaDoorRows
import Derived.Deep.DeepHandedRow
import Derived.ProofKit
import Derived.Lib.LaidTab
import Derived.Laws.IdiomArrays
import Derived.Carry
import Derived.OpenShut
import Derived.ChangeMaps5
set_option linter.unusedSimpArgs false
set_option maxRecDepth 20000
set_option linter.unusedVariables false
namespace Go.Proofs.YtnpcmealdfapjaaDoor
open Go.Ex Go.RowKit Go.ChangeShapes Go.WideShapes Go.ChangeAt
/-- What is told of a world's values at a call's beginning. -/
noncomputable def P0 (W : World) (hg : GOk eqs9.gs W) : Pl eqs9.gs := ⟨fun _ => Option.none, W, hg⟩
/-- A kind of argument. -/
structure ArgX where
  t : TypeId
  α : Type
  e : α → X
  op : ∀ {H : Type} {enc : TypeId × Value → H} {W : World} (hg : GOk eqs9.gs W) {base : Nat} {v : Value} {d : DataW H} {p : List MemPlace}, DataW.Trod enc Tryd.prog W 0 (fun _ => true) true t v d p → Value.okWide Tryd.prog W .any base t v → ∃ a : α, VR (P0 W hg) (e a) v
def ArgsFit : List ArgX → List X → Prop
  | [], [] => True
  | A :: As, x :: xs => (∃ a, x = A.e a) ∧ ArgsFit As xs
  | _, _ => False
theorem ArgsFit.cons {A : ArgX} {As : List ArgX} {xs : List X} (h : ArgsFit (A :: As) xs) : ∃ (a : A.α) (ys : List X), xs = A.e a :: ys ∧ ArgsFit As ys := by
  cases xs with
  | nil => exact h.elim
  | cons x xs => obtain ⟨⟨a, rfl⟩, h2⟩ := h; exact ⟨a, xs, rfl, h2⟩
theorem ArgsFit.nil {xs : List X} (h : ArgsFit [] xs) : xs = [] := by
  cases xs with
  | nil => rfl
  | cons x xs => exact h.elim
theorem own : ownKnob Tryd.prog.godebug = none := by kernel_rfl
theorem laidOut : laidOutB Tryd.prog = true := by kernel_rfl
theorem gT : Tryd.prog.globalNamed "snowline/radio.generator" = some 0 := by kernel_rfl
theorem gTy : (Tryd.prog.globals[0]?).map (·.type) = some 138 := by kernel_rfl
theorem cells5 : Tryd.prog.cellsOf 5 = 1 := by kernel_rfl
theorem cells138 : Tryd.prog.cellsOf 138 = 6 := by kernel_rfl
def genZ : List Int := [63, 1, 218, 32, 227, 38]
theorem gok_of {W : World} (h : laidMet Tryd.prog Rows.radioFieldRow.laid W) : GOk eqs9.gs W := by
  have ht : Lib.TabIs Tryd.prog W "snowline/radio.generator" .u8 genZ := Lib.tabIs_of_head (rest := []) gT gTy Tryd.underlying138 Tryd.underlying5 cells5 cells138 h
  intro g vs hv j v hj
  have hv : (bif Nat.beq 0 g then some gen9 else none) = some vs := hv
  cases hg : Nat.beq 0 g with
  | false => rw [hg] at hv; cases hv
  | true =>
    rw [hg] at hv
    cases hv
    have := Nat.eq_of_beq_eq_true hg
    subst this
    have hl : gen9 = genZ.map (Value.int .u8) := rfl
    rw [hl, List.getElem?_map, Option.map_eq_some_iff] at hj
    obtain ⟨z, hz, rfl⟩ := hj
    have hlt := (List.getElem?_eq_some_iff.1 hz).1
    have := ht.cell gT j hlt
    rw [List.getD_eq_getElem?_getD, hz] at this
    exact this
def litV : DataW Unit → Value
  | .lit (.int k n) => .int k n
  | _ => undef
def laidCs : DataW Unit → Array Value
  | .agg l => (l.map litV).toArray
  | _ => #[]
def setCs (cs : Array Value) : Obj → Obj
  | .cells _ t fr => .cells cs t fr
  | o => o
noncomputable def laidWorld (os : Os) : World :=
  { World.holding Tryd.prog os ⟨#[], #[], []⟩ with heap := ((World.holding Tryd.prog os ⟨#[], #[], []⟩).heap.modify 0 (setCs (laidCs Rows.laid_snowline_radio_generator))) }
theorem laid_met (os : Os) (args : Array Value) : laidMet Tryd.prog Rows.radioFieldRow.laid ((laidWorld os).forCall (fun _ _ => 0) ⟨#[], args, []⟩).memory :=
  laidMet_of_run' 8 (by kernel_rfl) (by kernel_rfl)
theorem fits_all {H : Type} {enc : TypeId × Value → H} {W : World} (hg : GOk eqs9.gs W) {base : Nat} : ∀ (As : List ArgX) (vs : List Value) (ds : List (DataW H)) (p : List MemPlace), DataW.TrodAll enc Tryd.prog W 0 (fun _ => true) true (As.map ArgX.t) vs ds p →
    (∀ (j : Nat) t v, (As.map ArgX.t)[j]? = some t → vs[j]? = some v → Value.okWide Tryd.prog W .any base t v) → ∃ xs, ArgsFit As xs ∧ ds.length = As.length ∧ VRL (P0 W hg) xs vs := by
  intro As
  induction As with
  | nil =>
    intro vs ds p h _
    obtain ⟨rfl, rfl, _⟩ := trodAll_nil h
    exact ⟨[], trivial, rfl, VRL.nil⟩
  | cons A As ih =>
    intro vs ds p h hok
    obtain ⟨v, vs', d, ds', p', q, rfl, rfl, rfl, hd, hr⟩ := trodAll_cons h
    obtain ⟨a, ha⟩ := A.op hg hd (hok 0 _ _ rfl rfl)
    obtain ⟨xs, h1, h2, h3⟩ := ih vs' ds' q hr (fun j t v ht hv => hok (j + 1) t v ht hv)
    exact ⟨A.e a :: xs, ⟨⟨a, rfl⟩, h1⟩, by simp [h2], h3.cons ha⟩
theorem after_all {H : Type} {enc : TypeId × Value → H} {W W' : World} (hb : Below W.heap.size W W') : ∀ (As : List ArgX) (vs : List Value) (ds : List (DataW H)) (p : List MemPlace), DataW.TrodAll enc Tryd.prog W 0 (fun _ => true) true (As.map ArgX.t) vs ds p →
    (∀ A ∈ As, Tryd.prog.readableRec A.t = true ∧ A.t < Tryd.prog.types.size) → (∀ x ∈ p, x.block < W.heap.size) → DataW.TrodAll enc Tryd.prog W' 0 (fun b => decide (b < W.heap.size)) true (As.map ArgX.t) vs ds p := by
  intro As
  induction As with
  | nil =>
    intro vs ds p h _ _
    obtain ⟨rfl, rfl, rfl⟩ := trodAll_nil h
    exact trodAll_mk0
  | cons A As ih =>
    intro vs ds p h hr hp
    obtain ⟨v, vs', d, ds', p', q, rfl, rfl, rfl, hd, hs⟩ := trodAll_cons h
    have hA := hr A List.mem_cons_self
    exact ⟨p', q, Below.trod laidOut hA.1 hA.2 hd hb (fun x hx => hp x (List.mem_append.2 (.inl hx))), ih vs' ds' q hs (fun B hB => hr B (List.mem_cons_of_mem _ hB)) (fun x hx => hp x (List.mem_append.2 (.inr hx))), rfl⟩
theorem contract_x {H : Type} {enc : TypeId × Value → H} {F : Stop.Interp} (As : List ArgX) {N : FuncId} {fn : Func} {spec : ChangeSpec} (hpar : fn.params.toList = As.map ArgX.t) (hres : fn.resultTypes = #[4]) (hvars : spec.vars = [])
    (hspec : ∀ ds : List (DataW H), ds.length = As.length → ((OpenSpec.ofChange spec).at F).fn H (ds ++ []) = { results := [.lit (.bool true)], args := ds }) (hrd : ∀ A ∈ As, Tryd.prog.readableRec A.t = true ∧ A.t < Tryd.prog.types.size)
    (law : ∀ xs, ArgsFit As xs → ∃ h' n', CallOne eqs9.gs Tryd.prog N xs .e .z (.bool true) h' n') (W : World) (base : Nat) (args : Array Value) (ds gs : List (DataW H)) (before : List MemPlace)
    (hval : ∀ (j : Nat) t v, fn.params[j]? = some t → args[j]? = some v → Value.okWide Tryd.prog W .any base t v) (hW : DataW.Whole enc Tryd.prog fn.params.toList (OpenSpec.ofChange spec).vars false W args.toList ds gs before) (hL : laidMet Tryd.prog Rows.radioFieldRow.laid W) :
    Calls Tryd.prog N args W fun e W' => ∃ v, e = .returned v ∧ ((OpenSpec.ofChange spec).at F).post enc Tryd.prog fn false true false false W args v W' := by
  have hW' := hW
  obtain ⟨p, q, hA, hV, rfl, _, _⟩ := hW
  rw [hpar] at hA
  rw [show (OpenSpec.ofChange spec).vars = [] from hvars] at hV
  obtain ⟨rfl, rfl⟩ := trodVars_none hV
  simp only [List.append_nil] at hW'
  have hlt : ∀ x ∈ p, x.block < W.heap.size := fun x hx => hW'.lt x hx
  have hg := gok_of hL
  obtain ⟨xs, h1, h3, h4⟩ := fits_all hg (base := base) As args.toList ds p hA (fun j t v ht hv => hval j t v (by rw [← Array.getElem?_toList, hpar]; exact ht) (by rw [← Array.getElem?_toList]; exact hv))
  obtain ⟨h', n', hb, hc⟩ := law xs h1
  have hc := hc W (P0 W hg) args.toList (Hp.start W hg) h4
  refine (show Calls Tryd.prog N args W _ from hc).mono fun e W' ⟨v, φ', he, hs, hr⟩ => ?_
  subst he
  have hv := inv_bool hr
  subst hv
  have bel : Below W.heap.size W W' := ⟨hs.kept.os, hs.kept.tape, hs.kept.output, hs.kept.size, fun k hk => hs.kept.block k hk fun ⟨id, s, g1, _⟩ => by cases g1⟩
  refine ⟨_, rfl, ds, [], p, [], p, [], hW', ?_, ?_, ?_, bel.frame _, fun h => by cases h⟩
  · rw [hspec ds h3, hres]; exact trodAll_mk1 (shut_bool Tryd.underlying4 _)
  · rw [hspec ds h3, hpar]; exact after_all bel As _ _ _ hA hrd hlt
  · rw [hspec ds h3, show ((OpenSpec.ofChange spec).at F).vars = [] from hvars]; rfl
/-- A byte. -/
def aU8 : ArgX := ⟨5, { n : Nat // n < 256 }, fun n => B8 n.1, fun {H enc W} hg {base v d p} h hok => by
  obtain ⟨n, rfl, _, _, hw⟩ := open_int Tryd.underlying5 hok h
  have hb : 0 ≤ n ∧ n < 256 := by
    simp [Lit.wf, IntKind.has, IntKind.min, IntKind.max, IntKind.bits, IntKind.signed] at hw
    omega
  obtain ⟨k, rfl⟩ : ∃ k : Nat, n = Int.ofNat k := ⟨n.toNat, by show n = (n.toNat : Int); omega⟩
  exact ⟨⟨k, by have := hb.2; show k < 256; have : (k : Int) < 256 := this; omega⟩, .int .u8 _⟩⟩
end Go.Proofs.YtnpcmealdfapjaaDoor

