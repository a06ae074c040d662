/- A function's specification out of what its body does. Nothing here speaks of one program. -/
import Derived.Test.YtnnohkbgjdmjdaaGreatAb9
namespace Go.Ab
open Go.RowKit

/-- What a result variable holds. -/
def ResV (P : Program) (σ : AS) : ResultVar → AV → Prop
  | .tmp t, v => σ.tm t = v
  | .cell t ty, v => ∃ id off cs sz ag, σ.tm t = .ref id off ∧ σ.va id = some cs ∧ (∀ w, (sizeOf ty).run P w = .ok sz w) ∧ (∀ w, (isAgg ty).run P w = .ok ag w) ∧ partA ag sz (cs.drop off) = some v

def ResAll (P : Program) (σ : AS) : List ResultVar → List AV → Prop
  | [], [] => True
  | r :: rs, v :: vs => ResV P σ r v ∧ ResAll P σ rs vs
  | _, _ => False

def packA : List AV → AV
  | [v] => v
  | vs => .tup vs

theorem run_results {P : Program} {w0 M0 σ a w x} (hr : RelW w0 M0 σ a w x) : ∀ (rs : List ResultVar) (vs : List AV), ResAll P σ rs vs →
    ∃ cvs : List Value, (rs.mapM fun
      | .tmp t => pure (a.tmps.getD t undef)
      | .cell c t => do loadVar t (← asAddr (a.tmps.getD c undef)) : Sem (List Value)).run P w = .ok cvs w ∧ vs.length = cvs.length ∧ rs.length = cvs.length ∧
      ∀ (i : Nat) v cv, vs[i]? = some v → cvs[i]? = some cv → VR w x.M x.V x.G v cv := by
  intro rs
  induction rs with
  | nil => intro vs h; cases vs with
    | nil => exact ⟨[], by simp, rfl, rfl, fun i v cv h => by simp at h⟩
    | cons v vs => exact h.elim
  | cons r rs ih =>
    intro vs h
    cases vs with
    | nil => exact h.elim
    | cons v vs =>
      obtain ⟨h1, h2⟩ := h
      obtain ⟨cvs, g1, g2, g2', g3⟩ := ih vs h2
      have : ∃ cv, ((fun r : ResultVar => match r with
          | .tmp t => pure (a.tmps.getD t undef)
          | .cell c t => do loadVar t (← asAddr (a.tmps.getD c undef)) : ResultVar → Sem Value) r).run P w = .ok cv w ∧ VR w x.M x.V x.G v cv := by
        cases r with
        | tmp t =>
          have h1 : σ.tm t = v := h1
          subst h1
          exact ⟨_, rfl, hr.tm t⟩
        | cell c t =>
          obtain ⟨id, off, cs, sz, ag, k1, k2, k3, k4, k5⟩ := h1
          have hv := hr.tm c
          rw [k1] at hv
          show ∃ cv, ((do loadVar t (← asAddr (a.tmps.getD c undef)) : Sem Value)).run P w = .ok cv w ∧ _
          generalize a.tmps.getD c undef = u at hv
          cases hv with
          | ref _ _ b hb =>
            obtain ⟨b', hb', hc⟩ := hr.cells k2
            have : b = b' := Option.some.inj (hb.symm.trans hb')
            subst this
            have hc' := hc.drop off
            rw [Nat.zero_add] at hc'
            obtain ⟨cv, m1, m2⟩ := run_loadAt_cells (P := P) k3 k4 hc' k5
            refine ⟨cv, ?_, m2⟩
            simpa [asAddr, Instr.loadAt, Instr.sureAddr, Result.andThen] using m1
      obtain ⟨cv, m1, m2⟩ := this
      refine ⟨cv :: cvs, ?_, by simp [g2], by simp [g2'], fun i v' cv' hv hcv => ?_⟩
      · rw [List.mapM_cons]
        simp only [Sem.run_bind, m1, g1, Result.andThen_ok, Sem.run_pure]
      · cases i with
        | zero => simp at hv hcv; subst hv; subst hcv; exact m2
        | succ i => simp at hv hcv; exact g3 i v' cv' hv hcv

theorem run_results' {P : Program} {w0 M0 σ a w x} (hr : RelW w0 M0 σ a w x) {fn : Func} {vs : List AV} (h : ResAll P σ fn.results.toList vs) :
    ∃ cv, (results fn a.tmps).run P w = .ok cv w ∧ VR w x.M x.V x.G (packA vs) cv := by
  obtain ⟨cvs, g1, g2, g2', g3⟩ := run_results hr _ _ h
  have hrun : (results fn a.tmps).run P w = .ok (if h : cvs.toArray.size = 1 then cvs.toArray[0] else .tuple cvs.toArray) w := by
    unfold results
    rw [Array.mapM_eq_mapM_toList]
    simp only [Sem.run_bind, Sem.run_map]
    exact congrArg (fun q : Result (List Value) => (q.andThen fun a w' => Result.ok a.toArray w').andThen fun a w' => Result.ok (if h : a.size = 1 then a[0] else .tuple a) w') g1
  refine ⟨_, hrun, ?_⟩
  match vs, cvs, g2, g3 with
  | [v], [cv], _, g3 => simpa [packA] using g3 0 v cv rfl rfl
  | [], [], _, g3 => simpa [packA] using VR.tup [] [] rfl (fun i c v h => by simp at h)
  | v1 :: v2 :: vs, c1 :: c2 :: cvs, g2, g3 => simpa [packA] using VR.tup (v1 :: v2 :: vs) (c1 :: c2 :: cvs) (by simpa using g2) g3

def AS.entry (n : Nat) (args : List AV) : AS := ⟨n, fun i => (args[i]?).getD .any, fun _ => none, fun _ => none, fun d => bif Nat.ble n d then 1 else 0⟩

/-- What leaves the frame. -/
def Out (σ : AS) (rr : AV) (r : AV) : Option (Nat × Nat × TypeId) → Prop
  | none => rr.close = some r
  | some t => ∃ id, σ.gr id = some t ∧ rr.exp id = some r

def postQ (P : Program) (fn : Func) (r : AV) (fr : Option (Nat × Nat × TypeId)) : Exit → AS → Prop
  | .normal, σ => ∃ rs, ResAll P σ fn.results.toList rs ∧ Out σ (packA rs) r fr
  | .ret, σ => ∃ rs, ResAll P σ fn.results.toList rs ∧ Out σ (packA rs) r fr
  | _, _ => False

theorem FSpecG.of_body {P : Program} {Γ : World → Prop} (hst : Stable Γ) {f : FuncId} {fn : Func} {c : Code} {args : List AV} {r : AV} {fr : Option (Nat × Nat × TypeId)} (hf : P.funcs[f]? = some fn) (hb : fn.body = some c)
    (hn : args.length ≤ fn.ntmps) (h : ∀ w0 M0, (∀ w, Kept w0 M0 w → Γ w) → AWP P w0 M0 c (postQ P fn r fr) (AS.entry fn.ntmps args)) : FSpecG P Γ f args r fr := by
  intro w M vals hΓ hlen hargs hM
  refine calls_of_wp hf hb (h w ⟨M, fun _ => false, noV⟩ (fun w' hb' => hst w w' (hb'.below fun _ => rfl) hΓ) _ w ⟨⟨M, noV, noG, fun _ => none⟩, ?_⟩ _ ?_)
  · have hsz : (vals.toArray ++ Array.replicate (fn.ntmps - vals.toArray.size) undef).size = fn.ntmps := by simp; omega
    constructor
    · exact Kept.refl _ _
    · rfl
    · exact hsz
    · intro i
      show VR w M noV noG ((args[i]?).getD .any) _
      cases ha : args[i]? with
      | none => exact .any _
      | some x =>
        have hi : i < vals.length := by rw [← hlen]; exact (List.getElem?_eq_some_iff.1 ha).1
        have hv := List.getElem?_eq_getElem hi
        have : (vals.toArray ++ Array.replicate (fn.ntmps - vals.toArray.size) undef).getD i undef = vals[i] := by
          simp [Array.getD, show i < vals.length + (fn.ntmps - vals.length) by omega, Array.getElem_append_left, hi]
        show VR w M noV noG x (Array.getD _ i undef)
        rw [this]
        exact hargs i x _ ha hv
    · exact fun _ _ _ => rfl
    · exact fun b hb => ⟨hM b hb, rfl⟩
    · exact fun _ _ _ => ⟨rfl, rfl⟩
    · exact fun _ _ h => by cases h
    · exact fun _ _ h => by cases h
    · exact fun _ _ _ h => by cases h
    · exact fun _ _ _ _ h => by cases h
    · exact fun _ _ _ h => by cases h
  · have main : ∀ σ' a' w', (∃ rs, ResAll P σ' fn.results.toList rs ∧ Out σ' (packA rs) r fr) → Rel w ⟨M, fun _ => false, noV⟩ σ' a' w' →
        a'.defers = [] ∧ ∃ v, (results fn a'.tmps).run P w' = .ok v w' ∧ ∃ v', Ending.returned v = .returned v' ∧ Below w.heap.size w w' ∧ Res w M w' r fr v' := fun σ' a' w' ⟨rs, h1, h2⟩ ⟨x, hx⟩ => by
      obtain ⟨cv, g1, g2⟩ := run_results' hx h1
      refine ⟨hx.defers, cv, g1, cv, rfl, hx.below.below fun _ => rfl, ?_⟩
      cases fr with
      | none =>
        refine (g2.closed r h2 noV noG).mono (hzz := fun _ _ hh => hh) fun b off y hi => ⟨hi.1, hi.2.1, fun m hm => ?_⟩
        rcases Nat.lt_or_ge b w.heap.size with hlt | hge
        · exact hi.2.2 m (by rw [hx.m0 b hlt rfl]; exact hm)
        · rw [hM b hge] at hm; cases hm
      | some t =>
        obtain ⟨n, z, e⟩ := t
        obtain ⟨id, k1, k2⟩ := h2
        obtain ⟨l, l1, l2, l3, l3', l4, l5⟩ := hx.gr id n z e k1
        refine ⟨l, l2, l3, l3', l4, fun b hb => ?_, (VR.expd l1 g2 r k2).mono (hzz := fun _ _ hh => hh) fun b off y hi => ⟨hi.1, hi.2.1, fun m hm => ?_⟩⟩
        · obtain ⟨p1, _, _, vs, p4, p5⟩ := l5 b hb
          exact ⟨p1.resolve_right (by simp), vs, p4, p5⟩
        · cases hbl : l.blk with
          | none =>
            simp only [hbl] at hm
            rcases Nat.lt_or_ge b w.heap.size with hlt | hge
            · exact hi.2.2 m (by rw [hx.m0 b hlt rfl]; exact hm)
            · rw [hM b hge] at hm; cases hm
          | some b0 =>
            simp only [hbl] at hm
            by_cases hbb : b = b0
            · subst hbb
              rw [upd_same] at hm
              exact hi.2.2 m (by rw [(l5 b hbl).2.2.1]; exact hm)
            · rw [upd_ne _ _ hbb] at hm
              rcases Nat.lt_or_ge b w.heap.size with hlt | hge
              · exact hi.2.2 m (by rw [hx.m0 b hlt rfl]; exact hm)
              · rw [hM b hge] at hm; cases hm
    intro e σ' a' w' he hr'
    cases e with
    | normal => exact main σ' a' w' he hr'
    | ret => exact main σ' a' w' he hr'
    | exit _ => exact he.elim
    | goto _ => exact he.elim
    | panic _ => exact he.elim
    | outgrown => exact he.elim

theorem FSpec.of_body {P : Program} {f : FuncId} {fn : Func} {c : Code} {args : List AV} {r : AV} {fr : Option (Nat × Nat × TypeId)} (hf : P.funcs[f]? = some fn) (hb : fn.body = some c)
    (hn : args.length ≤ fn.ntmps) (h : ∀ w0 M0, AWP P w0 M0 c (postQ P fn r fr) (AS.entry fn.ntmps args)) : FSpec P f args r fr :=
  FSpecG.of_body (fun _ _ _ _ => trivial) hf hb hn fun w0 M0 _ => h w0 M0

end Go.Ab
