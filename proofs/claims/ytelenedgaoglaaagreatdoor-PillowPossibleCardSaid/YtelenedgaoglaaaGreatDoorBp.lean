/- A row of any parameters: what its law function does is what the row says. -/
import Derived.Test.YtelenedgaoglaaaGreatDoorBo
set_option linter.unusedVariables false
set_option maxRecDepth 20000
namespace Go.Proofs.YtelenedgaoglaaaGreatDoor
open Go.Ab Go.ChangeShapes Go.WideShapes Go.ChangeAt Go.RowKit
theorem ArgsFit.cons {A : Arg} {As : List Arg} {avs : List AV} (h : ArgsFit (A :: As) avs) : ∃ (a : A.α) (xs : List AV), avs = A.e a :: xs ∧ ArgsFit As xs := by
  cases avs with
  | nil => exact h.elim
  | cons x xs => obtain ⟨⟨a, rfl⟩, h2⟩ := h; exact ⟨a, xs, rfl, h2⟩
theorem ArgsFit.nil {avs : List AV} (h : ArgsFit [] avs) : avs = [] := by
  cases avs with
  | nil => rfl
  | cons x xs => exact h.elim
theorem own : ownKnob Tryz.prog.godebug = none := by kernel_rfl
theorem laidOut : laidOutB Tryz.prog = true := by kernel_rfl
theorem gT : Tryz.prog.globalNamed "internal/strconv.uint64pow10" = some 0 := by kernel_rfl
def litV : DataW Unit → Value
  | .lit (.int k n) => .int k n
  | _ => undef
def laidCs : DataW Unit → Array Value
  | .agg l => (l.map litV).toArray
  | _ => #[]
def setCs (cs : Array Value) : Obj → Obj
  | .cells _ t fr => .cells cs t fr
  | o => o
noncomputable def laidWorld (os : Os) : World :=
  { World.holding Tryz.prog os ⟨#[], #[], []⟩ with heap := (((World.holding Tryz.prog os ⟨#[], #[], []⟩).heap.modify 0 (setCs (laidCs Rows.laid_internal_strconv_uint64pow10))).modify 6 (setCs (laidCs Rows.laid_math_bits_deBruijn32tab))).modify 7 (setCs (laidCs Rows.laid_math_bits_deBruijn64tab)) }
theorem laid_met (os : Os) (args : Array Value) : laidMet Tryz.prog Rows.pillowEndsRow.laid ((laidWorld os).forCall (fun _ _ => 0) ⟨#[], args, []⟩).memory :=
  laidMet_of_run' 8 (by kernel_rfl) (by kernel_rfl)
theorem gTy : (Tryz.prog.globals[0]?).map (·.type) = some 205 := by kernel_rfl
theorem cells136 : Tryz.prog.cellsOf 179 = 1 := by kernel_rfl
theorem cells156 : Tryz.prog.cellsOf 205 = 20 := by kernel_rfl
theorem tab_of {W : World} (h : laidMet Tryz.prog Rows.pillowEndsRow.laid W) : TAB W := by
  obtain ⟨ps, ⟨_, _, _, _, _, _, _, _, _, _, ⟨_, _, _, _, _, _, _, _, _, _, ⟨g', t', cs, fuel, p, q, hg', ht', hvar, hd, _, _⟩, _⟩, _⟩, _⟩ := h
  obtain rfl := Option.some.inj (gT.symm.trans hg')
  obtain rfl := Option.some.inj (gTy.symm.trans ht')
  unfold TAB Lib.TabIs
  rw [hvar, ← Lib.cells_of_tab (zs := Lib.pow10Tab) (p := p) Tryz.underlying205 Tryz.underlying179 cells136 cells156 hd]
theorem fits_all {H : Type} {enc : TypeId × Value → H} {W : World} {base : Nat} : ∀ (As : List Arg) (vs : List Value) (ds : List (DataW H)) (p : List MemPlace), DataW.TrodAll enc Tryz.prog W 0 (fun _ => true) true (As.map Arg.t) vs ds p →
    (∀ (j : Nat) t v, (As.map Arg.t)[j]? = some t → vs[j]? = some v → Value.okWide Tryz.prog W .any base t v) → ∃ avs, ArgsFit As avs ∧ avs.length = vs.length ∧ ds.length = As.length ∧ ∀ (i : Nat) y v, avs[i]? = some y → vs[i]? = some v → VR W (fun _ => none) noV noG y v := by
  intro As
  induction As with
  | nil =>
    intro vs ds p h _
    obtain ⟨rfl, rfl, _⟩ := trodAll_nil h
    exact ⟨[], trivial, rfl, rfl, fun i y v h => by cases h⟩
  | cons A As ih =>
    intro vs ds p h hok
    obtain ⟨v, vs', d, ds', p', q, rfl, rfl, rfl, hd, hr⟩ := trodAll_cons h
    obtain ⟨a, ha⟩ := A.op hd (hok 0 _ _ rfl rfl)
    obtain ⟨avs, h1, h2, h2', h3⟩ := ih vs' ds' q hr (fun j t v ht hv => hok (j + 1) t v ht hv)
    refine ⟨A.e a :: avs, ⟨⟨a, rfl⟩, h1⟩, by simp [h2], by simp [h2'], fun i y v hy hv => ?_⟩
    cases i with
    | zero => cases hy; cases hv; exact ha
    | succ i => exact h3 i y v hy hv
theorem after_all {H : Type} {enc : TypeId × Value → H} {W W' : World} (hb : Below W.heap.size W W') : ∀ (As : List Arg) (vs : List Value) (ds : List (DataW H)) (p : List MemPlace), DataW.TrodAll enc Tryz.prog W 0 (fun _ => true) true (As.map Arg.t) vs ds p →
    (∀ A ∈ As, Tryz.prog.readableRec A.t = true ∧ A.t < Tryz.prog.types.size) → (∀ x ∈ p, x.block < W.heap.size) → DataW.TrodAll enc Tryz.prog W' 0 (fun b => decide (b < W.heap.size)) true (As.map Arg.t) vs ds p := by
  intro As
  induction As with
  | nil =>
    intro vs ds p h _ _
    obtain ⟨rfl, rfl, rfl⟩ := trodAll_nil h
    exact trodAll_mk0
  | cons A As ih =>
    intro vs ds p h hr hp
    obtain ⟨v, vs', d, ds', p', q, rfl, rfl, rfl, hd, hs⟩ := trodAll_cons h
    have hA := hr A List.mem_cons_self
    exact ⟨p', q, Below.trod laidOut hA.1 hA.2 hd hb (fun x hx => hp x (List.mem_append.2 (.inl hx))), ih vs' ds' q hs (fun B hB => hr B (List.mem_cons_of_mem _ hB)) (fun x hx => hp x (List.mem_append.2 (.inr hx))), rfl⟩
theorem contract_all {H : Type} {enc : TypeId × Value → H} {F : Stop.Interp} (As : List Arg) {N : FuncId} {fn : Func} {spec : ChangeSpec} (hpar : fn.params.toList = As.map Arg.t) (hres : fn.resultTypes = #[4]) (hvars : spec.vars = [])
    (hspec : ∀ ds : List (DataW H), ds.length = As.length → ((OpenSpec.ofChange spec).at F).fn H (ds ++ []) = { results := [.lit (.bool true)], args := ds }) (hrd : ∀ A ∈ As, Tryz.prog.readableRec A.t = true ∧ A.t < Tryz.prog.types.size)
    (law : ∀ avs, ArgsFit As avs → FSpecG Tryz.prog TAB N avs (B true) none) (W : World) (base : Nat) (args : Array Value) (ds gs : List (DataW H)) (before : List MemPlace)
    (hval : ∀ (j : Nat) t v, fn.params[j]? = some t → args[j]? = some v → Value.okWide Tryz.prog W .any base t v) (hW : DataW.Whole enc Tryz.prog fn.params.toList (OpenSpec.ofChange spec).vars false W args.toList ds gs before) (hL : laidMet Tryz.prog Rows.pillowEndsRow.laid W) :
    Calls Tryz.prog N args W fun e W' => ∃ v, e = .returned v ∧ ((OpenSpec.ofChange spec).at F).post enc Tryz.prog fn false true false false W args v W' := by
  have hW' := hW
  obtain ⟨p, q, hA, hV, rfl, _, _⟩ := hW
  rw [hpar] at hA
  rw [show (OpenSpec.ofChange spec).vars = [] from hvars] at hV
  obtain ⟨rfl, rfl⟩ := trodVars_none hV
  simp only [List.append_nil] at hW'
  have hlt : ∀ x ∈ p, x.block < W.heap.size := fun x hx => hW'.lt x hx
  obtain ⟨avs, h1, h2, h3, h4⟩ := fits_all (base := base) As args.toList ds p hA (fun j t v ht hv => hval j t v (by rw [← Array.getElem?_toList, hpar]; exact ht) (by rw [← Array.getElem?_toList]; exact hv))
  have hc := law avs h1 W (fun _ => none) args.toList (tab_of hL) h2 h4 (fun _ _ => rfl)
  refine (show Calls Tryz.prog N args W _ from hc).mono fun e W' ⟨v, he, bel, hr⟩ => ?_
  subst he
  cases hr
  refine ⟨_, rfl, ds, [], p, [], p, [], hW', ?_, ?_, ?_, bel.frame _, fun h => by cases h⟩
  · rw [hspec ds h3, hres]; exact trodAll_mk1 (shut_bool Tryz.underlying4 _)
  · rw [hspec ds h3, hpar]; exact after_all bel As _ _ _ hA hrd hlt
  · rw [hspec ds h3, show ((OpenSpec.ofChange spec).at F).vars = [] from hvars]; rfl
end Go.Proofs.YtelenedgaoglaaaGreatDoor
