/- From what PillowTexts' row reads to what its walk speaks of. -/
import Derived.Test.YtelenedgaoglaaaGreatDoorBp
import Derived.Test.YtelenedgaoglaaaGreatDoorSh2
import Derived.Stop.LaidErr
import Derived.ChangeMaps5
set_option linter.unusedVariables false
set_option linter.unusedSimpArgs false
set_option maxRecDepth 20000
namespace Go.Proofs.YtelenedgaoglaaaGreatDoor
open Go.Ab Go.ChangeShapes Go.WideShapes Go.ChangeAt Go.RowKit Go.ChangeMaps
theorem gES : Tryz.prog.globalNamed "strconv.ErrSyntax" = some 2 := by kernel_rfl
theorem gER : Tryz.prog.globalNamed "strconv.ErrRange" = some 3 := by kernel_rfl
theorem gESTy : (Tryz.prog.globals[2]?).map (·.type) = some 149 := by kernel_rfl
theorem gERTy : (Tryz.prog.globals[3]?).map (·.type) = some 149 := by kernel_rfl
theorem star : "*" ++ "errors.errorString" = "*errors.errorString" := by decide
theorem row224 (u : TypeId) (h : Tryz.prog.typeName? 3 u = some "*errors.errorString") : u = 224 :=
  typeName_ptr_named (nm := "errors.errorString") (by rw [star]; kernel_rfl) (by kernel_rfl) (by decide) u (by rw [star]; exact h)
theorem cells226 : Tryz.prog.cellsOf 226 = 1 := by kernel_rfl
theorem cells9 : Tryz.prog.cellsOf 9 = 1 := by kernel_rfl
theorem tab2_of {W : World} (h : laidMet Tryz.prog Rows.pillowTextsRow.laid W) : TAB2 W := by
  have h1 := h.tail.tail.tail.tail
  have h2 := h1.tail
  obtain ⟨a3, s3, hv3, _⟩ := laid_sentinel h1 gER gERTy Tryz.underlying149 row224 Tryz.underlying224 Tryz.underlying226 rfl rfl Tryz.underlying9 cells226 cells9
  obtain ⟨a2, s2, hv2, _⟩ := laid_sentinel h2 gES gESTy Tryz.underlying149 row224 Tryz.underlying224 Tryz.underlying226 rfl rfl Tryz.underlying9 cells226 cells9
  refine ⟨?_, ⟨_, by simpa using World.var?_cell gES hv2 0, .inr ⟨_, _, rfl⟩⟩, ⟨_, by simpa using World.var?_cell gER hv3 0, .inr ⟨_, _, rfl⟩⟩⟩
  obtain ⟨ps, ⟨_, _, _, _, _, _, _, _, _, _, ⟨_, _, _, _, _, _, _, _, _, _, ⟨g', t', cs, fuel, p, q, hg', ht', hvar, hd, _, _⟩, _⟩, _⟩, _⟩ := h
  obtain rfl := Option.some.inj (gT.symm.trans hg')
  obtain rfl := Option.some.inj (gTy.symm.trans ht')
  unfold TAB Lib.TabIs
  rw [hvar, ← Lib.cells_of_tab (zs := Lib.pow10Tab) (p := p) Tryz.underlying205 Tryz.underlying179 cells136 cells156 hd]
def litV2 : DataW Unit → List Value
  | .agg l => l.map litV
  | x => [litV x]
def laidCs2 : DataW Unit → Array Value
  | .agg l => (l.flatMap litV2).toArray
  | _ => #[]
abbrev textES : ByteArray := { data := #[105, 110, 118, 97, 108, 105, 100, 32, 115, 121, 110, 116, 97, 120] }
abbrev textER : ByteArray := { data := #[118, 97, 108, 117, 101, 32, 111, 117, 116, 32, 111, 102, 32, 114, 97, 110, 103, 101] }
noncomputable def low : Nat := (World.holding Tryz.prog default ⟨#[], #[], []⟩).heap.size
noncomputable def laidWorld2 (os : Os) : World :=
  let w0 := World.holding Tryz.prog os ⟨#[.cells #[.string textES] 226, .cells #[.string textER] 226], #[], []⟩
  { w0 with heap := ((((((w0.heap.modify 0 (setCs (laidCs2 Rows.laid_internal_strconv_uint64pow10))).modify 2 (setCs #[.iface 224 (.pointer (some ⟨low, 0, none⟩))])).modify 3 (setCs #[.iface 224 (.pointer (some ⟨low + 1, 0, none⟩))])).modify 4 (setCs (laidCs2 Rows.laid_unicode_utf8_first))).modify 5 (setCs (laidCs2 Rows.laid_unicode_utf8_acceptRanges))).modify 6 (setCs (laidCs2 Rows.laid_math_bits_deBruijn32tab))).modify 7 (setCs (laidCs2 Rows.laid_math_bits_deBruijn64tab)) }
theorem laid_met2 (os : Os) (args : Array Value) : laidMet Tryz.prog Rows.pillowTextsRow.laid ((laidWorld2 os).forCall (fun _ _ => 0) ⟨#[], args, []⟩).memory :=
  laidMet_of_run' 8 (by kernel_rfl) (by kernel_rfl)
theorem contract_texts {H : Type} {enc : TypeId × Value → H} {F : Stop.Interp} {N : FuncId} {fn : Func} {spec : ChangeSpec} (hpar : fn.params.toList = [24, 9]) (hres : fn.resultTypes = #[4]) (hvars : spec.vars = [])
    (hspec : ∀ ds : List (DataW H), ds.length = 2 → ((OpenSpec.ofChange spec).at F).fn H (ds ++ []) = { results := [.lit (.bool true)], args := ds }) (hrd : Tryz.prog.readableRec 24 = true ∧ 24 < Tryz.prog.types.size) (hrd9 : Tryz.prog.readableRec 9 = true ∧ 9 < Tryz.prog.types.size)
    (law : ∀ (p : Go.Pil.Plw) (s : ByteArray), s.size ≤ 140737488355328 → FSpecG Tryz.prog TAB2 N [aPlw.e p, .sc (.string s)] (B true) none) (W : World) (base : Nat) (args : Array Value) (ds gs : List (DataW H)) (before : List MemPlace)
    (hval : ∀ (j : Nat) t v, fn.params[j]? = some t → args[j]? = some v → Value.okWide Tryz.prog W .any base t v) (hW : DataW.Whole enc Tryz.prog fn.params.toList (OpenSpec.ofChange spec).vars false W args.toList ds gs before)
    (hwt : (DataW.weightsEach Tryz.prog (fn.params.toList ++ (OpenSpec.ofChange spec).bare.plain.varTypes Tryz.prog) (ds ++ gs)).all (· ≤ reachBytes) = true) (hL : laidMet Tryz.prog Rows.pillowTextsRow.laid W) :
    Calls Tryz.prog N args W fun e W' => ∃ v, e = .returned v ∧ ((OpenSpec.ofChange spec).at F).post enc Tryz.prog fn false true false false W args v W' := by
  have hW' := hW
  obtain ⟨p, q, hA, hV, rfl, _, _⟩ := hW
  rw [hpar] at hA
  rw [show (OpenSpec.ofChange spec).vars = [] from hvars] at hV
  obtain ⟨rfl, rfl⟩ := trodVars_none hV
  simp only [List.append_nil] at hW' hwt
  have hlt : ∀ x ∈ p, x.block < W.heap.size := fun x hx => hW'.lt x hx
  have hA0 := hA
  obtain ⟨v0, vs, d0, ds1, p0, q0, hvs, rfl, rfl, hd0, hA1⟩ := trodAll_cons hA
  obtain ⟨v1, vs2, d1, ds2, p1, q1, rfl, rfl, rfl, hd1, hA2⟩ := trodAll_cons hA1
  obtain ⟨rfl, rfl, rfl⟩ := trodAll_nil hA2
  have hok : ∀ (j : Nat) t v, ([24, 9] : List TypeId)[j]? = some t → ([v0, v1] : List Value)[j]? = some v → Value.okWide Tryz.prog W .any base t v := fun j t v ht hv => hval j t v (by rw [← Array.getElem?_toList, hpar]; exact ht) (by rw [← Array.getElem?_toList, hvs]; exact hv)
  obtain ⟨a, ha⟩ := aPlw.op hd0 (hok 0 24 v0 rfl rfl)
  obtain ⟨s, rfl, rfl, rfl, hs⟩ := open_string Tryz.underlying9 (hok 1 9 v1 rfl rfl) hd1
  have hsz : s.size ≤ 140737488355328 := by
    have h9 : s.data.toList.length ∈ DataW.weightsEach Tryz.prog (fn.params.toList ++ (OpenSpec.ofChange spec).bare.plain.varTypes Tryz.prog) [d0, .lit (.string s.data.toList)] := by
      rw [hpar]
      simp only [List.cons_append, List.nil_append, DataW.weightsEach, DataW.weights, List.mem_append]
      exact .inr List.mem_cons_self
    have := List.all_eq_true.1 hwt _ h9
    have e1 : s.data.toList.length = s.size := Array.length_toList
    rw [e1] at this
    have h8 := of_decide_eq_true this
    unfold reachBytes at h8
    omega
  have hc := law a s hsz W (fun _ => none) args.toList (tab2_of hL) (by rw [hvs]; rfl) (fun i x v hx hv => by
    rw [hvs] at hv
    match i, hx, hv with
    | 0, hx, hv => cases hx; cases hv; exact ha
    | 1, hx, hv => cases hx; cases hv; exact VR.sc _
    | i + 2, hx, hv => cases hx) (fun _ _ => rfl)
  refine (show Calls Tryz.prog N args W _ from hc).mono fun e W' ⟨v, he, bel, hr⟩ => ?_
  subst he
  cases hr
  refine ⟨_, rfl, [d0, .lit (.string s.data.toList)], [], p0 ++ ([] ++ []), [], p0 ++ ([] ++ []), [], hW', ?_, ?_, ?_, bel.frame _, fun h => by cases h⟩
  · rw [hspec _ rfl, hres]; exact trodAll_mk1 (shut_bool Tryz.underlying4 _)
  · rw [hspec _ rfl, hpar, hvs]
    exact ⟨p0, [] ++ [], Below.trod laidOut hrd.1 hrd.2 hd0 bel (fun x hx => hlt x (List.mem_append.2 (.inl hx))), ⟨[], [], Below.trod laidOut hrd9.1 hrd9.2 hd1 bel (fun x hx => by cases hx), trodAll_mk0, rfl⟩, rfl⟩
  · rw [hspec _ rfl, show ((OpenSpec.ofChange spec).at F).vars = [] from hvars]; rfl
end Go.Proofs.YtelenedgaoglaaaGreatDoor
