/- Functions: what is run by hand for the kernel the model does, in whatever memory, on whatever tape. Nothing here speaks of one program. -/
import Derived.Test.YtnnohkbgjdmjdaaGreatEx23
set_option linter.unusedVariables false
set_option linter.unusedSimpArgs false
namespace Go.Ex

noncomputable def cRs (tab : Tab) : List ResultVar → Option (List R)
  | [] => some []
  | .tmp i :: rs => match cRs tab rs with | some l => some (.tmp (.ofNat i) :: l) | none => none
  | .cell a t :: rs => match ty tab t with
    | some ti => match cRs tab rs with
      | some l => some ((match ti.agg with | true => .cellA (.ofNat a) ti.size | false => .cell1 (.ofNat a)) :: l)
      | none => none
    | none => none
noncomputable def cF (tab : Tab) (eqs : List (TypeId × List IntKind)) (f : Func) : Option FI := match f.body with
  | some c => match cRs tab f.results.toList with
    | some rs => some ⟨cK tab eqs f.ntmps c, rs, f.ntmps⟩
    | none => none
  | none => none
noncomputable def mkFnsGo (tab : Tab) (eqs : List (TypeId × List IntKind)) : List Func → Nat → T FI → T FI
  | [], _, t => t
  | f :: fs, k, t => mkFnsGo tab eqs fs (k + 1) (T.set (cF tab eqs f) t (.ofNat k))
noncomputable def mkFns (P : Program) (eqs : List (TypeId × List IntKind)) : T FI := mkFnsGo (mkTab P) eqs P.funcs.toList 0 .e

section
variable {φ : Pl} {t : T X} {a : Act} {P : Program} {tab : Tab} {eqs : List (TypeId × List IntKind)} {h : H} {n : Pt} {w : World}

theorem run_loadVar {a : Act} (hp : Hp h n w φ) (ht : TabOk P tab) (hm : TmR φ t a) {i : Tmp} {e : TypeId} {ti : TI} {x : X} (he : ty tab e = some ti)
    (hr : (match ti.agg with | true => rLoadA ti.size (.t (.ofNat i)) t h | false => rLoad1 (.t (.ofNat i)) t h) = some x) :
    ∃ v, ((do loadVar e (← asAddr (a.tmps.getD i undef)) : Sem Value)).run P w = .ok v w ∧ VR φ x v := by
  obtain ⟨k, u, hti⟩ := ty_ok ht he
  have ha := hti.isAgg w
  have hc : cD (.tmp i) = some (.t (.ofNat i)) := rfl
  cases hag : ti.agg with
  | false =>
    rw [hag] at hr ha
    simp only [rLoad1] at hr
    split at hr
    · rename_i id off h1
      split at hr
      · rename_i cs h2
        obtain ⟨b, s, h3, h4⟩ := inv_ptr (ev_ok hm hc h1)
        have h4 : a.tmps.getD i undef = .pointer (some ⟨b, off, none⟩) := h4
        obtain ⟨v, g1, g2, g3⟩ := (hp.obj id b s _ h3 h2).cell hr
        rw [h4]
        exact ⟨v, by simp [asAddr, Instr.loadAt, Instr.sureAddr, loadVar, ha, Result.andThen, g1], g3⟩
      · cases hr
    · cases hr
  | true =>
    rw [hag] at hr ha
    simp only [rLoadA] at hr
    split at hr
    · rename_i id off h1
      split at hr
      · rename_i cs h2
        split at hr
        · rename_i l hl
          cases hr
          obtain ⟨b, s, h3, h4⟩ := inv_ptr (ev_ok hm hc h1)
          have h4 : a.tmps.getD i undef = .pointer (some ⟨b, off, none⟩) := h4
          obtain ⟨us, g1, g2, g3⟩ := (hp.obj id b s _ h3 h2).row hl
          have hrun := run_loadCells_list (P := P) w ⟨b, off, none⟩ us g3
          rw [g1] at hrun
          rw [h4]
          exact ⟨.agg us.toArray, by simp [asAddr, Instr.loadAt, Instr.sureAddr, loadVar, ha, hti.size, Result.andThen, hrun], VR.agg' g2⟩
        · cases hr
      · cases hr
    · cases hr

theorem res_ok {a : Act} (hp : Hp h n w φ) (ht : TabOk P tab) (hm : TmR φ t a) : ∀ {rs : List ResultVar} {rl : List R} {xs : List X}, cRs tab rs = some rl → resX t h rl = some xs →
    ∃ cvs : List Value, (rs.mapM fun
      | .tmp t => pure (a.tmps.getD t undef)
      | .cell c t => do loadVar t (← asAddr (a.tmps.getD c undef)) : Sem (List Value)).run P w = .ok cvs w ∧ VRL φ xs cvs := by
  intro rs
  induction rs with
  | nil =>
    intro rl xs h1 h2
    cases h1; cases h2
    exact ⟨[], by simp, VRL.nil⟩
  | cons r rs ih =>
    intro rl xs h1 h2
    have : ∃ x xs' rl' cv, xs = x :: xs' ∧ cRs tab rs = some rl' ∧ resX t h rl' = some xs' ∧ ((fun r : ResultVar => match r with
          | .tmp t => pure (a.tmps.getD t undef)
          | .cell c t => do loadVar t (← asAddr (a.tmps.getD c undef)) : ResultVar → Sem Value) r).run P w = .ok cv w ∧ VR φ x cv := by
      cases r with
      | tmp i =>
        simp only [cRs] at h1
        split at h1
        · rename_i l hl
          cases h1
          simp only [resX] at h2
          split at h2
          · rename_i x xs' k1 k2
            cases h2
            exact ⟨x, xs', l, _, rfl, hl, k2, rfl, hm i x k1⟩
          · cases h2
        · cases h1
      | cell c e =>
        simp only [cRs] at h1
        split at h1
        · rename_i ti he
          split at h1
          · rename_i l hl
            cases h1
            cases hag : ti.agg with
            | true =>
              rw [hag] at h2
              simp only [resX] at h2
              split at h2
              · rename_i x xs' k1 k2
                cases h2
                obtain ⟨v, g1, g2⟩ := run_loadVar (a := a) hp ht hm (i := c) he (x := x) (by rw [hag]; exact k1)
                exact ⟨x, xs', l, v, rfl, hl, k2, g1, g2⟩
              · cases h2
            | false =>
              rw [hag] at h2
              simp only [resX] at h2
              split at h2
              · rename_i x xs' k1 k2
                cases h2
                obtain ⟨v, g1, g2⟩ := run_loadVar (a := a) hp ht hm (i := c) he (x := x) (by rw [hag]; exact k1)
                exact ⟨x, xs', l, v, rfl, hl, k2, g1, g2⟩
              · cases h2
          · cases h1
        · cases h1
    obtain ⟨x, xs', rl', cv, e1, e2, e3, e4, e5⟩ := this
    subst e1
    obtain ⟨cvs, g1, g2⟩ := ih e2 e3
    refine ⟨cv :: cvs, ?_, VRL.cons e5 g2⟩
    rw [List.mapM_cons]
    simp only [Sem.run_bind, e4, g1, Result.andThen_ok, Sem.run_pure]

theorem results_ok {a : Act} (hp : Hp h n w φ) (ht : TabOk P tab) (hm : TmR φ t a) {fn : Func} {rl : List R} {xs : List X} (h1 : cRs tab fn.results.toList = some rl) (h2 : resX t h rl = some xs) :
    ∃ cv, (results fn a.tmps).run P w = .ok cv w ∧ VR φ (packX xs) cv := by
  obtain ⟨cvs, g1, g2⟩ := res_ok hp ht hm h1 h2
  have hrun : (results fn a.tmps).run P w = .ok (if h : cvs.toArray.size = 1 then cvs.toArray[0] else .tuple cvs.toArray) w := by
    unfold results
    rw [Array.mapM_eq_mapM_toList]
    simp only [Sem.run_bind, Sem.run_map]
    exact congrArg (fun q : Result (List Value) => (q.andThen fun a w' => Result.ok a.toArray w').andThen fun a w' => Result.ok (if h : a.size = 1 then a[0] else .tuple a) w') g1
  refine ⟨_, hrun, ?_⟩
  match xs, cvs, g2 with
  | [x], [cv], g2 => simpa [packX] using g2.2 0 x cv rfl rfl
  | [], [], g2 => simpa [packX] using VR.tup' VRL.nil
  | x1 :: x2 :: xs, c1 :: c2 :: cvs, g2 => simpa [packX] using VR.tup' g2
  | [], _ :: _, g2 => cases g2.1
  | _ :: _, [], g2 => cases g2.1
  | [_], _ :: _ :: _, g2 => exact absurd g2.1 (by simp)
  | _ :: _ :: _, [_], g2 => exact absurd g2.1 (by simp)

def FnsOk (P : Program) (tab : Tab) (eqs : List (TypeId × List IntKind)) (fns : T FI) : Prop := ∀ f fi, fns.get (.ofNat f) = some fi →
  ∃ fn c rs, P.funcs[f]? = some fn ∧ fn.body = some c ∧ cRs tab fn.results.toList = some rs ∧ fi = ⟨cK tab eqs fn.ntmps c, rs, fn.ntmps⟩

theorem mkFnsGo_ok (P : Program) (tab : Tab) (eqs : List (TypeId × List IntKind)) : ∀ (l : List Func) (k : Nat) (t : T FI), (∀ j i, l[j]? = some i → P.funcs[k + j]? = some i) → FnsOk P tab eqs t → FnsOk P tab eqs (mkFnsGo tab eqs l k t) := by
  intro l
  induction l with
  | nil => intro k t _ h; exact h
  | cons fn l ih =>
    intro k t hl h
    unfold mkFnsGo
    refine ih (k + 1) _ (fun j i' h1 => by rw [Nat.add_assoc, Nat.add_comm 1 j]; exact hl (j + 1) i' (by simpa using h1)) ?_
    have h0 := hl 0 fn rfl
    intro f fi hf
    rw [get_set] at hf
    split at hf
    · rename_i he
      have := ofNat_inj he
      subst this
      unfold cF at hf
      split at hf
      · rename_i c hc
        split at hf
        · rename_i rs hrs
          cases hf
          exact ⟨fn, c, rs, h0, hc, hrs, rfl⟩
        · cases hf
      · cases hf
    · exact h f fi hf
theorem mkFns_ok (P : Program) (eqs : List (TypeId × List IntKind)) : FnsOk P (mkTab P) eqs (mkFns P eqs) := mkFnsGo_ok P _ eqs _ 0 _ (fun j i h => by simpa using h) fun t ti h => by rw [get_e] at h; cases h

/-- No function bears the name of the one that is not entered. -/
def namesB : List Func → Bool
  | [] => true
  | f :: fs => !(f.name == "runtime.NumGoroutine") && namesB fs
theorem namesB_ok : ∀ {l : List Func}, namesB l = true → ∀ f ∈ l, (f.name == "runtime.NumGoroutine") = false := by
  intro l
  induction l with
  | nil => intro _ f h; cases h
  | cons g l ih =>
    intro h f hf
    simp only [namesB, Bool.and_eq_true, Bool.not_eq_true'] at h
    rcases List.mem_cons.1 hf with h1 | h1
    · subst h1; exact h.1
    · exact ih h.2 f h1
theorem body_ok (hn : namesB P.funcs.toList = true) {f : FuncId} {fn : Func} {c : Code} (hf : P.funcs[f]? = some fn) (hb : fn.body = some c) : Body P f := by
  intro args w
  have hm : fn ∈ P.funcs.toList := by
    rw [← Array.getElem?_toList] at hf
    exact List.mem_of_getElem? hf
  have := namesB_ok hn fn hm
  unfold callFunc
  simp only [Sem.run_bind, run_program, Result.andThen_ok, hf, this, hb, Option.isNone_some, Bool.false_eq_true, if_false, Sem.run_pure]

theorem callF_ok (hn : namesB P.funcs.toList = true) (ht : TabOk P tab) (hq : EqsOk P eqs) (hmx : P.follows .mixedOrders = true) {fns : T FI} (hfns : FnsOk P tab eqs fns) : ∀ d, CallOk P (callF fns d) := by
  intro d
  induction d with
  | zero => intro f args h n x h' n' hx; cases hx
  | succ d ih =>
    intro f args h n x h' n' hx
    have hx : (match fns.get (.ofNat f) with
      | none => none
      | some fi => bif Nat.ble args.length fi.nt then outR fi.results (codeX (callF fns d) 1000000 fi.code (T.ofList args) h n) else none) = some (x, h', n') := hx
    split at hx
    · cases hx
    · rename_i fi hfi
      obtain ⟨fn, c, rs, h1, h2, h3, h4⟩ := hfns f fi hfi
      subst h4
      cases hle : Nat.ble args.length fn.ntmps with
      | false => simp only [hle] at hx; cases hx
      | true =>
        simp only [hle] at hx
        have hle := Nat.le_of_ble_eq_true hle
        have hx : outR rs (codeX (callF fns d) 1000000 (cK tab eqs fn.ntmps c) (T.ofList args) h n) = some (x, h', n') := hx
        refine ⟨body_ok hn h1 h2, fun w φ vals hp hv => calls_of_wp h1 h2 ?_⟩
        have hlen : vals.length ≤ fn.ntmps := by rw [← hv.1]; exact hle
        have hsz : (vals.toArray ++ Array.replicate (fn.ntmps - vals.toArray.size) undef).size = fn.ntmps := by simp; omega
        have st : St fn.ntmps φ (T.ofList args) h n { tmps := vals.toArray ++ Array.replicate (fn.ntmps - vals.toArray.size) undef, defers := [] } w := by
          refine ⟨rfl, hsz, fun i y hy => ?_, hp⟩
          rw [get_ofList] at hy
          have hi : i < vals.length := by rw [← hv.1]; exact (List.getElem?_eq_some_iff.1 hy).1
          have : (vals.toArray ++ Array.replicate (fn.ntmps - vals.toArray.size) undef).getD i undef = vals[i] := by
            simp [Array.getD, show i < vals.length + (fn.ntmps - vals.length) by omega, Array.getElem_append_left, hi]
          show VR φ y (Array.getD _ i undef)
          rw [this]
          exact hv.2 i y _ hy (List.getElem?_eq_getElem hi)
        cases hr : codeX (callF fns d) 1000000 (cK tab eqs fn.ntmps c) (T.ofList args) h n with
        | no => rw [hr] at hx; cases hx
        | go e t' h2' n2' =>
          rw [hr] at hx
          refine (code_ok ht hq ih hmx c).1 hr st _ fun a' w' φ' s1 st1 => ?_
          have fin : ∀ xs, resX t' h2' rs = some xs → packX xs = x → h2' = h' → n2' = n' → a'.defers = [] ∧ ∃ v, (results fn a'.tmps).run P w' = .ok v w' ∧ ∃ v' φ', Ending.returned v = .returned v' ∧ Step φ h n w φ' h' n' w' ∧ VR φ' x v' := by
            intro xs k1 k2 k3 k4
            subst k2; subst k3; subst k4
            obtain ⟨cv, g1, g2⟩ := results_ok (a := a') st1.hp ht st1.tm h3 k1
            exact ⟨st1.defers, cv, g1, cv, φ', rfl, s1, g2⟩
          cases e with
          | normal =>
            simp only [outR] at hx
            split at hx
            · rename_i xs hxs
              cases hx
              exact fin xs hxs rfl rfl rfl
            · cases hx
          | ret =>
            simp only [outR] at hx
            split at hx
            · rename_i xs hxs
              cases hx
              exact fin xs hxs rfl rfl rfl
            · cases hx
          | exit i => cases hx
          | goto l => cases hx

/-- What no block of one's own stands behind. -/
theorem Hp.start (w : World) : Hp T.e Pt.z w fun _ => Option.none := by
  refine ⟨?_, ?_, ?_, ?_, ?_⟩ <;> intros <;> simp_all [get_e]

/-- A closed call: it returns, whatever the world, and leaves alone what was there. -/
theorem call_closed (hn : namesB P.funcs.toList = true) (hmx : P.follows .mixedOrders = true) (hq : EqsOk P eqs) {d : Nat} {f : FuncId} {b : Bool} {h' : H} {n' : Pt} (hx : callF (mkFns P eqs) d f [] .e .z = some (.bool b, h', n')) (w : World) :
    Body P f ∧ Calls P f #[] w fun e w' => e = .returned (.bool b) ∧ Kept w (fun _ => False) w' := by
  obtain ⟨hb, hc⟩ := callF_ok hn (mkTab_ok P) hq hmx (mkFns_ok P eqs) d f [] .e .z _ _ _ hx
  refine ⟨hb, (hc w _ [] (Hp.start w) VRL.nil).mono fun e w' ⟨v, φ', h1, h2, h3⟩ => ?_⟩
  rw [inv_bool h3] at h1
  refine ⟨h1, h2.kept.os, h2.kept.tape, h2.kept.output, h2.kept.size, fun k hk _ => h2.kept.block k hk fun ⟨id, s, g1, _⟩ => by cases g1⟩
end
end Go.Ex
