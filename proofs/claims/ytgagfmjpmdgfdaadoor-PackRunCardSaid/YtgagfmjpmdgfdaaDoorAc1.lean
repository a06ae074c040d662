/- The head of a slice that can only be read, its room cut off; results in two cells. Nothing here speaks of one program. -/
import Derived.Test.YtgagfmjpmdgfdaaDoorAbC
set_option linter.unusedVariables false
namespace Go.Ab
open Go.RowKit
section
variable {P : Program} {w0 : World} {M0 : MT} {σ : AS} {ty : TypeId} {pos : String} {after : Array Edge} {guard : Option (Nat × Bool)}
theorem o_slice3S {d : Option Tmp} {t e z h : Nat} {es : List (List AV)} (x hi mx : Operand) (hu : P.underlying t = some (.slice e)) (hs : ∀ w, (sizeOf e).run P w = .ok z w)
    (hx : slEs (σ.ev x) = some es) (hhi : boundA σ 0 (some hi) = some h) (hmx : boundA σ 0 (some mx) = some h) (hle : h ≤ es.length) (hd : okDB σ d = true) :
    OpAny P w0 M0 σ ⟨d, .slice t x none (some hi) (some mx), ty, pos, after, guard⟩ (.val (.sl (es.take h))) :=
  opAny_val (okD hd) fun σ' a w X hag hr => by
    have h1 := hr.ev x
    rw [hag.ev x (by simp [Op.operands])] at h1
    have h2 := slEs_spec h1 hx
    have hH := run_bound (P := P) hr (hag.ev hi (by simp [Op.operands])) hhi (Nat.le_refl h) .slice3B
    generalize hcv : a.eval x = cv at h2
    cases h2 with
    | sl0 ad cap =>
      have h0 : h = 0 := by simpa using hle
      subst h0
      have hM := run_bound (P := P) hr (hag.ev mx (by simp [Op.operands])) hmx (Nat.zero_le cap) .slice3Acap
      refine ⟨.slice ad 0 0, ?_, by rw [List.take_zero]; exact .sl0 _ _⟩
      simp only [execOp, hcv]
      refine run_value ?_
      simp [Instr.sliceAt, Instr.slice, Instr.sliceBounds, run_underlying' hu, hs, Result.andThen, hM, hH]
    | sl _ z' b off cap Xf hz hcap hc hv =>
      have hM := run_bound (P := P) hr (hag.ev mx (by simp [Op.operands])) hmx (show h ≤ cap by omega) .slice3Acap
      have ht : ∀ (i : Nat) (e : List AV), (es.take h)[i]? = some e → es[i]? = some e := fun i e he => by
        rw [List.getElem?_take] at he
        split at he
        · exact he
        · cases he
      refine ⟨.slice (some ⟨b, off, none⟩) h h, ?_, ?_⟩
      · simp only [execOp, hcv]
        refine run_value ?_
        simp [Instr.sliceAt, Instr.slice, Instr.sliceBounds, run_underlying' hu, hs, Result.andThen, hM, hH, addr_add]
      · have hl : (es.take h).length = h := by rw [List.length_take]; omega
        have := VR.sl (w := w) (M := X.M) (V := X.V) (G := X.G) (es.take h) z' b off h Xf (fun e he => hz e (List.mem_of_mem_take he)) (by omega) (fun i e j c h3 h4 => hc i e j c (ht i e h3) h4) (fun i e j c h3 h4 => hv i e j c (ht i e h3) h4)
        rwa [hl] at this
theorem postQ.retCC1 {fn : Func} {t ty t2 ty2 t' off sz off2 sz2 : Nat} {id id2 : OId} {ag ag2 : Bool} {cs cs2 : List AV} {v v2 v' r : AV} (hf : fn.results = #[.cell t ty, .cell t2 ty2, .tmp t']) (h1 : nf (σ.tm t) = some (.ref id off)) (h2 : σ.va id = some cs) (h3 : ∀ w, (sizeOf ty).run P w = .ok sz w)
    (h4 : ∀ w, (isAgg ty).run P w = .ok ag w) (h5 : partA ag sz (cs.drop off) = some v) (g1 : nf (σ.tm t2) = some (.ref id2 off2)) (g2 : σ.va id2 = some cs2) (g3 : ∀ w, (sizeOf ty2).run P w = .ok sz2 w)
    (g4 : ∀ w, (isAgg ty2).run P w = .ok ag2 w) (g5 : partA ag2 sz2 (cs2.drop off2) = some v2) (h6 : nf (σ.tm t') = some v') (hr : (AV.tup [v, v2, v']).close = some r) : postQ P fn r none .ret σ :=
  ⟨[v, v2, v'], by rw [hf]; exact ⟨ResV.cell h1 h2 h3 h4 h5, ResV.cell g1 g2 g3 g4 g5, nf_eq h6, trivial⟩, hr⟩
end
end Go.Ab
