/- Functions that give back a slice of their own that can still be written, and a number. Nothing here speaks of one program. -/
import Derived.Test.YtgagfmjpmdgfdaaDoorAc2
set_option linter.unusedVariables false
set_option linter.unusedSimpArgs false
namespace Go.Ab
open Go.RowKit
/-- f gives back a slice of n elements in a block of its own, whose cells hold what cs tells, and the value u. -/
def FSpecW (P : Program) (f : FuncId) (args : List AV) (cs : List AV) (n : Nat) (u : Value) : Prop :=
  ∀ (w : World) (M : Nat → Option Nat) (vals : List Value), args.length = vals.length →
    (∀ (i : Nat) x v, args[i]? = some x → vals[i]? = some v → VR w M noV noG x v) → (∀ b, w.heap.size ≤ b → M b = none) →
    Calls P f vals.toArray w fun e w' => ∃ b cap vs ty, e = .returned (.tuple #[.slice (some ⟨b, 0, none⟩) n cap, u]) ∧ (n ≤ cap ∧ cap ≤ vs.size ∧ cap ≤ maxLen) ∧ Below w.heap.size w w' ∧ w.heap.size ≤ b ∧ w'.heap[b]? = some (.cells vs ty (0, 0)) ∧ cs.length ≤ vs.size ∧
      ∀ (j : Nat) c, cs[j]? = some c → ∃ u, vs[j]? = some u ∧ u.oneCell' = true ∧ VR w' (upd M b (some 0)) noV noG c u
def OkW (P : Program) (fn : Func) (cs : List AV) (n : Nat) (u : Value) (σ : AS) : Prop :=
  (∃ id c, ResAll P σ fn.results.toList [.arr id 0 n c, .sc u] ∧ (σ.va id).bind AV.close.closeL = some cs) ∨
  (∃ id es z e, ResAll P σ fn.results.toList [.own id es, .sc u] ∧ σ.gr id = some (es.length, z, e) ∧ 0 < z ∧ es.flatten = cs ∧ es.length = n ∧ 0 < n ∧ (∀ e ∈ es, e.length = z) ∧ ∀ x ∈ es.flatten, ∃ v, x = .sc v)
def postQW (P : Program) (fn : Func) (cs : List AV) (n : Nat) (u : Value) : Exit → AS → Prop
  | .normal, σ => OkW P fn cs n u σ
  | .ret, σ => OkW P fn cs n u σ
  | _, _ => False

theorem FSpecW.of_body {P : Program} {f : FuncId} {fn : Func} {c : Code} {args cs : List AV} {n : Nat} {u : Value} (hf : P.funcs[f]? = some fn) (hb : fn.body = some c)
    (hn : args.length ≤ fn.ntmps) (h : ∀ w0 M0, AWP P w0 M0 c (postQW P fn cs n u) (AS.entry fn.ntmps args)) : FSpecW P f args cs n u := by
  intro w M vals hlen hargs hM
  refine calls_of_wp hf hb (h w ⟨M, fun _ => false, noV⟩ _ w ⟨⟨M, noV, noG, fun _ => none⟩, ?_⟩ _ ?_)
  · have hsz : (vals.toArray ++ Array.replicate (fn.ntmps - vals.toArray.size) undef).size = fn.ntmps := by simp; omega
    constructor
    · exact Kept.refl _ _
    · rfl
    · exact hsz
    · intro i
      show VR w M noV noG ((args[i]?).getD .any) _
      cases ha : args[i]? with
      | none => exact .any _
      | some x =>
        have hi : i < vals.length := by rw [← hlen]; exact (List.getElem?_eq_some_iff.1 ha).1
        have hv := List.getElem?_eq_getElem hi
        have : (vals.toArray ++ Array.replicate (fn.ntmps - vals.toArray.size) undef).getD i undef = vals[i] := by
          simp [Array.getD, show i < vals.length + (fn.ntmps - vals.length) by omega, Array.getElem_append_left, hi]
        show VR w M noV noG x (Array.getD _ i undef)
        rw [this]
        exact hargs i x _ ha hv
    · exact fun _ _ _ => rfl
    · exact fun b hb => ⟨hM b hb, rfl⟩
    · exact fun _ _ _ => ⟨rfl, rfl⟩
    · exact fun _ _ h => by cases h
    · exact fun _ _ h => by cases h
    · exact fun _ _ _ h => by cases h
    · exact fun _ _ _ _ h => by cases h
    · exact fun _ _ _ h => by cases h
  · have main : ∀ σ' a' w', OkW P fn cs n u σ' → Rel w ⟨M, fun _ => false, noV⟩ σ' a' w' →
        a'.defers = [] ∧ ∃ v, (results fn a'.tmps).run P w' = .ok v w' ∧ ∃ b cap vs ty, Ending.returned v = .returned (.tuple #[.slice (some ⟨b, 0, none⟩) n cap, u]) ∧ (n ≤ cap ∧ cap ≤ vs.size ∧ cap ≤ maxLen) ∧ Below w.heap.size w w' ∧ w.heap.size ≤ b ∧ w'.heap[b]? = some (.cells vs ty (0, 0)) ∧ cs.length ≤ vs.size ∧
          ∀ (j : Nat) c, cs[j]? = some c → ∃ u, vs[j]? = some u ∧ u.oneCell' = true ∧ VR w' (upd M b (some 0)) noV noG c u := fun σ' a' w' hok ⟨x, hx⟩ => by
      rcases hok with ⟨id, c, h1, h2⟩ | ⟨id, es, z, e, h1, hg, hz0, hes, hen, hn0, hez, hsc⟩
      · obtain ⟨cv, g1, g2⟩ := run_results' hx h1
        change VR w' x.M x.V x.G (.tup [.arr id 0 n c, .sc u]) cv at g2
        obtain ⟨cs0, q1, q2⟩ := Option.bind_eq_some_iff.1 h2
        obtain ⟨b, vs, ty, m1, m2, m3, m4, m5, m6, m7⟩ := hx.va _ _ q1
        have hbn : w.heap.size ≤ b := m2.resolve_right (by simp)
        cases g2 with
        | tup _ vv hlv hvv =>
          match vv, hlv with
          | [v0, v1], _ =>
            have e0 := hvv 0 _ _ rfl rfl
            have e1 := hvv 1 _ _ rfl rfl
            cases e1
            cases e0 with
            | arr _ _ _ _ b' cap hb' hcn hcp hcs =>
              have : b' = b := Option.some.inj (hb'.symm.trans m1)
              subst this
              obtain ⟨p1, p2⟩ := closeL_get _ _ q2
              have himm : ∀ b1 off y, Imm w' x.M b1 off y → Imm w' (upd M b' (some 0)) b1 off y := fun b1 off y hi => ⟨hi.1, hi.2.1, fun m hm => by
                by_cases hbb : b1 = b'
                · subst hbb; exact absurd (hi.2.2 0 m4) (Nat.not_lt_zero _)
                · rw [upd_ne _ _ hbb] at hm
                  rcases Nat.lt_or_ge b1 w.heap.size with hlt | hge
                  · exact hi.2.2 m (by rw [hx.m0 b1 hlt rfl]; exact hm)
                  · rw [hM b1 hge] at hm; cases hm⟩
              refine ⟨hx.defers, _, g1, b', cap, vs, ty, rfl, ⟨Nat.le_trans hcn hcp, (hcs rfl).cells m5, (hcs rfl).top⟩, hx.below.below fun _ => rfl, hbn, m5, by rw [← p1]; exact m6, fun j c hj => ?_⟩
              have hj' : j < cs0.length := by rw [p1]; exact (List.getElem?_eq_some_iff.1 hj).1
              obtain ⟨v, n1, n2, n3⟩ := m7 j _ (List.getElem?_eq_getElem hj')
              exact ⟨v, n1, n2, (n3.closed c (p2 j _ c (List.getElem?_eq_getElem hj') hj) _ _).mono himm (fun _ _ hh => hh)⟩
      · obtain ⟨cv, g1, g2⟩ := run_results' hx h1
        change VR w' x.M x.V x.G (.tup [.own id es, .sc u]) cv at g2
        obtain ⟨l, k1, k2, k3, k3', k4, k5⟩ := hx.gr _ _ _ _ hg
        cases g2 with
        | tup _ vv hlv hvv =>
          match vv, hlv with
          | [v0, v1], _ =>
            have e0 := hvv 0 _ _ rfl rfl
            have e1 := hvv 1 _ _ rfl rfl
            cases e1
            cases e0 with
            | own _ _ _ hsl g hgg hle heq =>
              have : g = l := Option.some.inj (hgg.symm.trans k1)
              subst this
              have hv0 := heq k2.symm
              have hlen : es.flatten.length = es.length * z := by
                have : ∀ (l : List (List AV)), (∀ e ∈ l, e.length = z) → l.flatten.length = l.length * z := by
                  intro l
                  induction l with
                  | nil => intro _; simp
                  | cons a l ih => intro h; rw [List.flatten_cons, List.length_append, h a List.mem_cons_self, ih fun e he => h e (List.mem_cons_of_mem _ he), List.length_cons, Nat.add_mul]; omega
                exact this es hez
              cases hblk : g.blk with
              | none =>
                have := k4 hblk
                omega
              | some b =>
                obtain ⟨m1, m2, m3, vs, m4, m5⟩ := k5 b hblk
                have hbn : w.heap.size ≤ b := m1.resolve_right (by simp)
                rw [hv0] at hsl g1
                simp only [GL.val, hblk, Option.map_some] at hsl g1
                rw [k2, hen] at g1
                have hcap : es.length * z ≤ vs.size := by rw [m5]; exact Nat.mul_le_mul_right z k3
                have hcz : g.cap ≤ vs.size := by rw [m5]; exact Nat.le_mul_of_pos_right _ hz0
                refine ⟨hx.defers, _, g1, b, g.cap, vs, e, rfl, ⟨by omega, hcz, k3'⟩, hx.below.below fun _ => rfl, hbn, m4, by rw [← hes, hlen]; exact hcap, fun j c hj => ?_⟩
                rw [← hes] at hj
                obtain ⟨v, hv⟩ := hsc c (List.mem_of_getElem? hj)
                subst hv
                have hlt : j < es.length * z := by rw [← hlen]; exact (List.getElem?_eq_some_iff.1 hj).1
                have hi' : j / z < es.length := by rw [Nat.div_lt_iff_lt_mul hz0]; omega
                have hm : j % z < (es[j / z]).length := by rw [hez _ (List.getElem_mem hi')]; exact Nat.mod_lt _ hz0
                have hjj : j / z * z + j % z = j := by have := Nat.div_add_mod j z; rw [Nat.mul_comm] at this; exact this
                have h9 := flat_get es hez (j / z) (j % z) _ _ (List.getElem?_eq_getElem hi') (List.getElem?_eq_getElem hm)
                rw [hjj, hj] at h9
                have h10 := Option.some.inj h9
                generalize hcv : Value.slice (some ⟨b, 0, none⟩) g.cnt g.cap = cvv at hsl
                cases hsl with
                | sl0 => simp at hi'
                | sl _ z' b' off' _ Xf hz' hcap' hc hv' =>
                  injection hcv with r1 r2 r3
                  injection r1 with r1
                  injection r1 with r4 r5
                  subst r4
                  subst r5
                  have hzz : z' = z := by rw [← hez _ (List.getElem_mem hi'), hz' _ (List.getElem_mem hi')]
                  subst hzz
                  have c1 := hc _ _ _ _ (List.getElem?_eq_getElem hi') (List.getElem?_eq_getElem hm)
                  have c2 := hv' _ _ _ _ (List.getElem?_eq_getElem hi') (List.getElem?_eq_getElem hm)
                  rw [← h10] at c2
                  generalize Xf (j / z') (j % z') = uu at c1 c2
                  cases c2
                  rw [hjj] at c1
                  have c3 := c1.1
                  simp only [World.cell?, m4, Nat.zero_add] at c3
                  exact ⟨v, by simpa using c3, c1.2.1, .sc _⟩
    intro e σ' a' w' he hr'
    cases e with
    | normal => exact main σ' a' w' he hr'
    | ret => exact main σ' a' w' he hr'
    | exit _ => exact he.elim
    | goto _ => exact he.elim
    | panic _ => exact he.elim
    | outgrown => exact he.elim

section
variable {P : Program} {w0 : World} {M0 : MT} {σ : AS} {ty : TypeId} {pos : String} {after : Array Edge} {guard : Option (Nat × Bool)}
/-- A slice that is written out, of no elements: of a variable without cells. -/
theorem o_litA0 {t e z : Nat} {zv : Value} {d : Tmp} (hu : P.underlying t = some (.slice e)) (hs : ∀ w, (sizeOf e).run P w = .ok z w)
    (hzv : ∀ w, (zeroValue e).run P w = .ok zv w) (hd : okDB σ (some d) = true) :
    OpAny P w0 M0 σ ⟨some d, .buildSlice t 0 #[], ty, pos, after, guard⟩ (.allocA [] 0) := by
  intro σ' hag a w ⟨X, hr⟩ K Q hK
  obtain ⟨cells, _, hrun⟩ := run_buildSlice (P := P) (len := 0) hu hs hzv (by omega) #[] w (fun _ => True) fun init hi => ⟨init, rfl, trivial⟩
  have hrun : (execOp a.eval ⟨some d, .buildSlice t 0 #[], ty, pos, after, guard⟩).run P w = .ok (.value (.slice (some ⟨w.heap.size, 0, none⟩) 0 0)) (w.alloc (.cells cells e)) := by
    simp only [execOp]
    exact run_value (by simpa using hrun)
  unfold Oper.wp
  rw [hrun, Oper.upon_value]
  have hd : d < σ.n := okD hd
  exact hK _ _ (hr.gotVar (cs := []) (n := 0) (vs := cells) (e := e) (by rw [hag.n]; exact hd) ((Below.refl _ w).alloc (Nat.le_refl _) _) (Nat.le_refl _) (heap_new w _) (Nat.zero_le _) ⟨Nat.le_refl _, Nat.zero_le _, Nat.zero_le _⟩ (fun j c hj => by simp at hj))
end
section
variable {P : Program} {w0 : World} {M0 : MT} {σ : AS} {ty : TypeId} {pos : String} {after : Array Edge}
theorem AOps.callW {ops : Array Oper} {R : AS → Prop} {rest : List Oper} {f : FuncId} {args : Array Operand} {tys : Array TypeId} {cl cs : List AV} {n : Nat} {u : Value} {d : Tmp} (hs : FSpecW P f cl cs n u) (hb : Body P f)
    (hcl : (args.toList.map fun o => (σ.ev o).close) = cl.map some) (hd : okDB σ (some d) = true)
    (h : AOps P w0 M0 ops rest R ((σ.app (some d) (.allocA cs n)).put (some d) (.tup [.arr (d, σ.gen d) 0 n n, .sc u]))) :
    AOps P w0 M0 ops (⟨some d, .call ⟨.value (.func f), args, tys⟩, ty, pos, after, none⟩ :: rest) R σ := fun a w ⟨X, hr⟩ Q' hQ => by
  have hd : d < σ.n := okD hd
  refine wpList_plain rfl fun K hK => ?_
  obtain ⟨c1, c2⟩ := closedArgs (fun o => hr.ev o) args.toList cl (fun o ho => rfl) hcl
  have hrun : (execOp a.eval ⟨some d, .call ⟨.value (.func f), args, tys⟩, ty, pos, after, none⟩).run P w = .ok (.enter f (args.map a.eval)) w := by
    simp [execOp, resolve, Deferred.ofValue, Act.eval, invoke]
    exact hb _ _
  unfold Oper.wp
  rw [hrun, Oper.upon_enter]
  have hcall := hs w X.M (args.toList.map a.eval) c1 c2 (fun b hbb => (hr.mlt b hbb).1)
  have harr : (args.toList.map a.eval).toArray = args.map a.eval := by apply Array.ext'; simp
  rw [harr] at hcall
  refine hcall.mono fun e' w1 ⟨b, cap, vs, ty', he, hcn, hbel, p1, p2, hlen, hcell⟩ => ?_
  subst he
  obtain ⟨X1, hr1⟩ := hr.gotVar hd hbel p1 p2 hlen hcn hcell
  have hs' : d < a.tmps.size := by rw [hr.size]; exact hd
  have hv := hr1.tm d
  rw [getD_put a d d _ hs', if_pos rfl] at hv
  change VR w1 X1.M X1.V X1.G (upd σ.tm d (.arr (d, σ.gen d) 0 n n) d) _ at hv
  rw [upd_same] at hv
  have hr2 := hr1.put (d := some d) (v := .tup [.arr (d, σ.gen d) 0 n n, .sc u]) (cv := .tuple #[.slice (some ⟨b, 0, none⟩) n cap, u]) (show d < σ.n from hd)
    (.tup [.arr (d, σ.gen d) 0 n n, .sc u] [.slice (some ⟨b, 0, none⟩) n cap, u] rfl fun i c v hc hvv => by
      match i with
      | 0 => simp at hc hvv; subst hc; subst hvv; exact hv
      | 1 => simp at hc hvv; subst hc; subst hvv; exact .sc _
      | i + 2 => simp at hc)
  rw [put_put] at hr2
  exact hK _ _ (h _ _ ⟨X1, hr2⟩ Q' hQ)
end
end Go.Ab
