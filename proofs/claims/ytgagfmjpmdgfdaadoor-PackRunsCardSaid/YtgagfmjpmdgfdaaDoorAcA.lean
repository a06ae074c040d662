import Derived.Test.YtgagfmjpmdgfdaaDoorAbC
import Derived.Test.YtgagfmjpmdgfdaaDoorAbB
/- The head of a slice that can only be read, its room cut off; results in two cells. Nothing here speaks of one program. -/
set_option linter.unusedVariables false
namespace Go.Ab
open Go.RowKit
section
variable {P : Program} {w0 : World} {M0 : MT} {σ : AS} {ty : TypeId} {pos : String} {after : Array Edge} {guard : Option (Nat × Bool)}
theorem o_slice3S {d : Option Tmp} {t e z h : Nat} {es : List (List AV)} (x hi mx : Operand) (hu : P.underlying t = some (.slice e)) (hs : ∀ w, (sizeOf e).run P w = .ok z w)
    (hx : slEs (σ.ev x) = some es) (hhi : boundA σ 0 (some hi) = some h) (hmx : boundA σ 0 (some mx) = some h) (hle : h ≤ es.length) (hd : okDB σ d = true) :
    OpAny P w0 M0 σ ⟨d, .slice t x none (some hi) (some mx), ty, pos, after, guard⟩ (.val (.sl (es.take h))) :=
  opAny_val (okD hd) fun σ' a w X hag hr => by
    have h1 := hr.ev x
    rw [hag.ev x (by simp [Op.operands])] at h1
    have h2 := slEs_spec h1 hx
    have hH := run_bound (P := P) hr (hag.ev hi (by simp [Op.operands])) hhi (Nat.le_refl h) .slice3B
    generalize hcv : a.eval x = cv at h2
    cases h2 with
    | sl0 ad cap =>
      have h0 : h = 0 := by simpa using hle
      subst h0
      have hM := run_bound (P := P) hr (hag.ev mx (by simp [Op.operands])) hmx (Nat.zero_le cap) .slice3Acap
      refine ⟨.slice ad 0 0, ?_, by rw [List.take_zero]; exact .sl0 _ _⟩
      simp only [execOp, hcv]
      refine run_value ?_
      simp [Instr.sliceAt, Instr.slice, Instr.sliceBounds, run_underlying' hu, hs, Result.andThen, hM, hH]
    | sl _ z' b off cap Xf hz hcap hc hv =>
      have hM := run_bound (P := P) hr (hag.ev mx (by simp [Op.operands])) hmx (show h ≤ cap by omega) .slice3Acap
      have ht : ∀ (i : Nat) (e : List AV), (es.take h)[i]? = some e → es[i]? = some e := fun i e he => by
        rw [List.getElem?_take] at he
        split at he
        · exact he
        · cases he
      refine ⟨.slice (some ⟨b, off, none⟩) h h, ?_, ?_⟩
      · simp only [execOp, hcv]
        refine run_value ?_
        simp [Instr.sliceAt, Instr.slice, Instr.sliceBounds, run_underlying' hu, hs, Result.andThen, hM, hH, addr_add]
      · have hl : (es.take h).length = h := by rw [List.length_take]; omega
        have := VR.sl (w := w) (M := X.M) (V := X.V) (G := X.G) (es.take h) z' b off h Xf (fun e he => hz e (List.mem_of_mem_take he)) (by omega) (fun i e j c h3 h4 => hc i e j c (ht i e h3) h4) (fun i e j c h3 h4 => hv i e j c (ht i e h3) h4)
        rwa [hl] at this
theorem postQ.retCC1 {fn : Func} {t ty t2 ty2 t' off sz off2 sz2 : Nat} {id id2 : OId} {ag ag2 : Bool} {cs cs2 : List AV} {v v2 v' r : AV} (hf : fn.results = #[.cell t ty, .cell t2 ty2, .tmp t']) (h1 : nf (σ.tm t) = some (.ref id off)) (h2 : σ.va id = some cs) (h3 : ∀ w, (sizeOf ty).run P w = .ok sz w)
    (h4 : ∀ w, (isAgg ty).run P w = .ok ag w) (h5 : partA ag sz (cs.drop off) = some v) (g1 : nf (σ.tm t2) = some (.ref id2 off2)) (g2 : σ.va id2 = some cs2) (g3 : ∀ w, (sizeOf ty2).run P w = .ok sz2 w)
    (g4 : ∀ w, (isAgg ty2).run P w = .ok ag2 w) (g5 : partA ag2 sz2 (cs2.drop off2) = some v2) (h6 : nf (σ.tm t') = some v') (hr : (AV.tup [v, v2, v']).close = some r) : postQ P fn r none .ret σ :=
  ⟨[v, v2, v'], by rw [hf]; exact ⟨ResV.cell h1 h2 h3 h4 h5, ResV.cell g1 g2 g3 g4 g5, nf_eq h6, trivial⟩, hr⟩
end
end Go.Ab

/- A call that uses up a variable of the frame, in a region of any order. Nothing here speaks of one program. -/
set_option linter.unusedVariables false
namespace Go.Ab
open Go.RowKit
theorem FSpecM.toC {P : Program} {f : FuncId} {args : List AV} {lent lent' : List (List AV)} {r r' : AV} (h : FSpecM P f args lent r none lent') (hr : r.close = some r') : FSpecC P f args lent r' :=
  fun w M bs vals h1 h2 h3 h4 h5 h6 => (h w M bs vals h1 h2 h3 h4 h5 h6).mono fun e w' ⟨v, he, hk, _, hv⟩ => ⟨v, M, he, hk, fun _ _ => rfl, VR.closed hv _ hr noV noG⟩
section
variable {P : Program} {w0 : World} {M0 : MT} {σ : AS} {ty : TypeId} {pos : String} {after : Array Edge} {guard : Option (Nat × Bool)}
theorem o_callCR {f : FuncId} {args : Array Operand} {tys : Array TypeId} {cl cs : List AV} {r : AV} {d : Tmp} {off : Nat} (id : OId) (y : Operand) (hs : FSpecC P f cl [cs] r) (hb : Body P f)
    (hy : args[0]? = some y) (hyv : nf (σ.ev y) = some (.ref id off))
    (hcl : (args.toList.map fun o => lendA [id] (σ.ev o)) = cl.map some) (hva : (σ.va id).bind AV.close.closeL = some cs) (hd : okDB σ (some d) = true) :
    OpAnyM P w0 M0 σ ⟨some d, .call ⟨.value (.func f), args, tys⟩, ty, pos, after, guard⟩ (.spend id r) := by
  have hd : d < σ.n := okD hd
  intro σ' hag a w ⟨X, hr⟩ K Q hK
  obtain ⟨cs0, e1, e2⟩ := Option.bind_eq_some_iff.1 hva
  have hyin : y ∈ (Op.call ⟨.value (.func f), args, tys⟩).operands := by
    simp [Op.operands, Call.operands]
    exact .inr (Array.mem_of_getElem? hy)
  have hva' : σ'.va id = some cs0 := hag.va y hyin id off cs0 (nf_eq hyv) e1
  obtain ⟨b, vs, ty', m1, m2, m3, m4, m5, m6, m7⟩ := hr.va id cs0 hva'
  have hV : ∀ (k : Nat) id' b', [id][k]? = some id' → [b][k]? = some b' → X.V id' = some b' := fun k id' b' h1 h2 => by
    cases k with
    | zero => simp at h1 h2; subst h1; subst h2; exact m1
    | succ k => simp at h1
  have hheld : ∀ (k : Nat) b' cs', [b][k]? = some b' → [cs][k]? = some cs' → Held w X.M b' cs' := fun k b' cs' h1 h2 => by
    cases k with
    | succ k => simp at h1
    | zero =>
      simp at h1 h2; subst h1; subst h2
      obtain ⟨p1, p2⟩ := closeL_get _ _ e2
      refine ⟨m4, vs, ty', m5, by rw [← p1]; exact m6, fun j c hj => ?_⟩
      have hj' : j < cs0.length := by rw [p1]; exact (List.getElem?_eq_some_iff.1 hj).1
      obtain ⟨v, n1, n2, n3⟩ := m7 j _ (List.getElem?_eq_getElem hj')
      exact ⟨v, n1, n2, n3.closed c (p2 j _ c (List.getElem?_eq_getElem hj') hj) _ _⟩
  have hrun : (execOp a.eval ⟨some d, .call ⟨.value (.func f), args, tys⟩, ty, pos, after, guard⟩).run P w = .ok (.enter f (args.map a.eval)) w := by
    simp [execOp, resolve, Deferred.ofValue, Act.eval, invoke]
    exact hb _ _
  unfold Oper.wp
  rw [hrun, Oper.upon_enter]
  have hlen : args.toList.length = cl.length := by simpa using congrArg List.length hcl
  have hcall := hs w X.M [b] (args.toList.map a.eval) (by simp [hlen]) (fun i x v hx hv => by
      simp only [List.getElem?_map, Option.map_eq_some_iff] at hv
      obtain ⟨o, ho, rfl⟩ := hv
      have h1 : (args.toList.map fun o => lendA [id] (σ.ev o))[i]? = some (lendA [id] (σ.ev o)) := by rw [List.getElem?_map, ho]; rfl
      rw [hcl, List.getElem?_map, hx] at h1
      have h2 := hr.ev o
      rw [hag.ev o (by simp [Op.operands, Call.operands]; exact .inr (Array.mem_toList_iff.1 (List.mem_of_getElem? ho)))] at h2
      exact h2.lent rfl hV (Option.some.inj h1).symm) (fun b hbb => (hr.mlt b hbb).1) (by simp) rfl hheld
  have harr : (args.toList.map a.eval).toArray = args.map a.eval := by apply Array.ext'; simp
  rw [harr] at hcall
  refine hcall.mono fun e w' ⟨v, M', he, hkept, hMM, hres⟩ => ?_
  subst he
  have hR := hr.spend ⟨m1, m2, m3, m4, lt_of_cells m5⟩ hkept hMM
  exact hK _ _ ⟨_, hR.put (d := some d) (show d < _ by show d < σ'.n; rw [hag.n]; exact hd) (VR.open' hres _ _)⟩
end
end Go.Ab

/- Functions that give back a slice of their own that can still be written, and a number. Nothing here speaks of one program. -/
set_option linter.unusedVariables false
set_option linter.unusedSimpArgs false
namespace Go.Ab
open Go.RowKit
/-- f gives back a slice of n elements in a block of its own, whose cells hold what cs tells, and the value u. -/
def FSpecW (P : Program) (f : FuncId) (args : List AV) (cs : List AV) (n : Nat) (u : Value) : Prop :=
  ∀ (w : World) (M : Nat → Option Nat) (vals : List Value), args.length = vals.length →
    (∀ (i : Nat) x v, args[i]? = some x → vals[i]? = some v → VR w M noV noG x v) → (∀ b, w.heap.size ≤ b → M b = none) →
    Calls P f vals.toArray w fun e w' => ∃ b cap vs ty, e = .returned (.tuple #[.slice (some ⟨b, 0, none⟩) n cap, u]) ∧ (n ≤ cap ∧ cap ≤ vs.size ∧ cap ≤ maxLen) ∧ Below w.heap.size w w' ∧ w.heap.size ≤ b ∧ w'.heap[b]? = some (.cells vs ty (0, 0)) ∧ cs.length ≤ vs.size ∧
      ∀ (j : Nat) c, cs[j]? = some c → ∃ u, vs[j]? = some u ∧ u.oneCell' = true ∧ VR w' (upd M b (some 0)) noV noG c u
def OkW (P : Program) (fn : Func) (cs : List AV) (n : Nat) (u : Value) (σ : AS) : Prop :=
  (∃ id c, ResAll P σ fn.results.toList [.arr id 0 n c, .sc u] ∧ (σ.va id).bind AV.close.closeL = some cs) ∨
  (∃ id es z e, ResAll P σ fn.results.toList [.own id es, .sc u] ∧ σ.gr id = some (es.length, z, e) ∧ 0 < z ∧ es.flatten = cs ∧ es.length = n ∧ 0 < n ∧ (∀ e ∈ es, e.length = z) ∧ ∀ x ∈ es.flatten, ∃ v, x = .sc v)
def postQW (P : Program) (fn : Func) (cs : List AV) (n : Nat) (u : Value) : Exit → AS → Prop
  | .normal, σ => OkW P fn cs n u σ
  | .ret, σ => OkW P fn cs n u σ
  | _, _ => False

theorem FSpecW.of_body {P : Program} {f : FuncId} {fn : Func} {c : Code} {args cs : List AV} {n : Nat} {u : Value} (hf : P.funcs[f]? = some fn) (hb : fn.body = some c)
    (hn : args.length ≤ fn.ntmps) (h : ∀ w0 M0, AWP P w0 M0 c (postQW P fn cs n u) (AS.entry fn.ntmps args)) : FSpecW P f args cs n u := by
  intro w M vals hlen hargs hM
  refine calls_of_wp hf hb (h w ⟨M, fun _ => false, noV⟩ _ w ⟨⟨M, noV, noG, fun _ => none⟩, ?_⟩ _ ?_)
  · have hsz : (vals.toArray ++ Array.replicate (fn.ntmps - vals.toArray.size) undef).size = fn.ntmps := by simp; omega
    constructor
    · exact Kept.refl _ _
    · rfl
    · exact hsz
    · intro i
      show VR w M noV noG ((args[i]?).getD .any) _
      cases ha : args[i]? with
      | none => exact .any _
      | some x =>
        have hi : i < vals.length := by rw [← hlen]; exact (List.getElem?_eq_some_iff.1 ha).1
        have hv := List.getElem?_eq_getElem hi
        have : (vals.toArray ++ Array.replicate (fn.ntmps - vals.toArray.size) undef).getD i undef = vals[i] := by
          simp [Array.getD, show i < vals.length + (fn.ntmps - vals.length) by omega, Array.getElem_append_left, hi]
        show VR w M noV noG x (Array.getD _ i undef)
        rw [this]
        exact hargs i x _ ha hv
    · exact fun _ _ _ => rfl
    · exact fun b hb => ⟨hM b hb, rfl⟩
    · exact fun _ _ _ => ⟨rfl, rfl⟩
    · exact fun _ _ h => by cases h
    · exact fun _ _ h => by cases h
    · exact fun _ _ _ h => by cases h
    · exact fun _ _ _ _ h => by cases h
    · exact fun _ _ _ h => by cases h
  · have main : ∀ σ' a' w', OkW P fn cs n u σ' → Rel w ⟨M, fun _ => false, noV⟩ σ' a' w' →
        a'.defers = [] ∧ ∃ v, (results fn a'.tmps).run P w' = .ok v w' ∧ ∃ b cap vs ty, Ending.returned v = .returned (.tuple #[.slice (some ⟨b, 0, none⟩) n cap, u]) ∧ (n ≤ cap ∧ cap ≤ vs.size ∧ cap ≤ maxLen) ∧ Below w.heap.size w w' ∧ w.heap.size ≤ b ∧ w'.heap[b]? = some (.cells vs ty (0, 0)) ∧ cs.length ≤ vs.size ∧
          ∀ (j : Nat) c, cs[j]? = some c → ∃ u, vs[j]? = some u ∧ u.oneCell' = true ∧ VR w' (upd M b (some 0)) noV noG c u := fun σ' a' w' hok ⟨x, hx⟩ => by
      rcases hok with ⟨id, c, h1, h2⟩ | ⟨id, es, z, e, h1, hg, hz0, hes, hen, hn0, hez, hsc⟩
      · obtain ⟨cv, g1, g2⟩ := run_results' hx h1
        change VR w' x.M x.V x.G (.tup [.arr id 0 n c, .sc u]) cv at g2
        obtain ⟨cs0, q1, q2⟩ := Option.bind_eq_some_iff.1 h2
        obtain ⟨b, vs, ty, m1, m2, m3, m4, m5, m6, m7⟩ := hx.va _ _ q1
        have hbn : w.heap.size ≤ b := m2.resolve_right (by simp)
        cases g2 with
        | tup _ vv hlv hvv =>
          match vv, hlv with
          | [v0, v1], _ =>
            have e0 := hvv 0 _ _ rfl rfl
            have e1 := hvv 1 _ _ rfl rfl
            cases e1
            cases e0 with
            | arr _ _ _ _ b' cap hb' hcn hcp hcs =>
              have : b' = b := Option.some.inj (hb'.symm.trans m1)
              subst this
              obtain ⟨p1, p2⟩ := closeL_get _ _ q2
              have himm : ∀ b1 off y, Imm w' x.M b1 off y → Imm w' (upd M b' (some 0)) b1 off y := fun b1 off y hi => ⟨hi.1, hi.2.1, fun m hm => by
                by_cases hbb : b1 = b'
                · subst hbb; exact absurd (hi.2.2 0 m4) (Nat.not_lt_zero _)
                · rw [upd_ne _ _ hbb] at hm
                  rcases Nat.lt_or_ge b1 w.heap.size with hlt | hge
                  · exact hi.2.2 m (by rw [hx.m0 b1 hlt rfl]; exact hm)
                  · rw [hM b1 hge] at hm; cases hm⟩
              refine ⟨hx.defers, _, g1, b', cap, vs, ty, rfl, ⟨Nat.le_trans hcn hcp, (hcs rfl).cells m5, (hcs rfl).top⟩, hx.below.below fun _ => rfl, hbn, m5, by rw [← p1]; exact m6, fun j c hj => ?_⟩
              have hj' : j < cs0.length := by rw [p1]; exact (List.getElem?_eq_some_iff.1 hj).1
              obtain ⟨v, n1, n2, n3⟩ := m7 j _ (List.getElem?_eq_getElem hj')
              exact ⟨v, n1, n2, (n3.closed c (p2 j _ c (List.getElem?_eq_getElem hj') hj) _ _).mono himm (fun _ _ hh => hh)⟩
      · obtain ⟨cv, g1, g2⟩ := run_results' hx h1
        change VR w' x.M x.V x.G (.tup [.own id es, .sc u]) cv at g2
        obtain ⟨l, k1, k2, k3, k3', k4, k5⟩ := hx.gr _ _ _ _ hg
        cases g2 with
        | tup _ vv hlv hvv =>
          match vv, hlv with
          | [v0, v1], _ =>
            have e0 := hvv 0 _ _ rfl rfl
            have e1 := hvv 1 _ _ rfl rfl
            cases e1
            cases e0 with
            | own _ _ _ hsl g hgg hle heq =>
              have : g = l := Option.some.inj (hgg.symm.trans k1)
              subst this
              have hv0 := heq k2.symm
              have hlen : es.flatten.length = es.length * z := by
                have : ∀ (l : List (List AV)), (∀ e ∈ l, e.length = z) → l.flatten.length = l.length * z := by
                  intro l
                  induction l with
                  | nil => intro _; simp
                  | cons a l ih => intro h; rw [List.flatten_cons, List.length_append, h a List.mem_cons_self, ih fun e he => h e (List.mem_cons_of_mem _ he), List.length_cons, Nat.add_mul]; omega
                exact this es hez
              cases hblk : g.blk with
              | none =>
                have := k4 hblk
                omega
              | some b =>
                obtain ⟨m1, m2, m3, vs, m4, m5⟩ := k5 b hblk
                have hbn : w.heap.size ≤ b := m1.resolve_right (by simp)
                rw [hv0] at hsl g1
                simp only [GL.val, hblk, Option.map_some] at hsl g1
                rw [k2, hen] at g1
                have hcap : es.length * z ≤ vs.size := by rw [m5]; exact Nat.mul_le_mul_right z k3
                have hcz : g.cap ≤ vs.size := by rw [m5]; exact Nat.le_mul_of_pos_right _ hz0
                refine ⟨hx.defers, _, g1, b, g.cap, vs, e, rfl, ⟨by omega, hcz, k3'⟩, hx.below.below fun _ => rfl, hbn, m4, by rw [← hes, hlen]; exact hcap, fun j c hj => ?_⟩
                rw [← hes] at hj
                obtain ⟨v, hv⟩ := hsc c (List.mem_of_getElem? hj)
                subst hv
                have hlt : j < es.length * z := by rw [← hlen]; exact (List.getElem?_eq_some_iff.1 hj).1
                have hi' : j / z < es.length := by rw [Nat.div_lt_iff_lt_mul hz0]; omega
                have hm : j % z < (es[j / z]).length := by rw [hez _ (List.getElem_mem hi')]; exact Nat.mod_lt _ hz0
                have hjj : j / z * z + j % z = j := by have := Nat.div_add_mod j z; rw [Nat.mul_comm] at this; exact this
                have h9 := flat_get es hez (j / z) (j % z) _ _ (List.getElem?_eq_getElem hi') (List.getElem?_eq_getElem hm)
                rw [hjj, hj] at h9
                have h10 := Option.some.inj h9
                generalize hcv : Value.slice (some ⟨b, 0, none⟩) g.cnt g.cap = cvv at hsl
                cases hsl with
                | sl0 => simp at hi'
                | sl _ z' b' off' _ Xf hz' hcap' hc hv' =>
                  injection hcv with r1 r2 r3
                  injection r1 with r1
                  injection r1 with r4 r5
                  subst r4
                  subst r5
                  have hzz : z' = z := by rw [← hez _ (List.getElem_mem hi'), hz' _ (List.getElem_mem hi')]
                  subst hzz
                  have c1 := hc _ _ _ _ (List.getElem?_eq_getElem hi') (List.getElem?_eq_getElem hm)
                  have c2 := hv' _ _ _ _ (List.getElem?_eq_getElem hi') (List.getElem?_eq_getElem hm)
                  rw [← h10] at c2
                  generalize Xf (j / z') (j % z') = uu at c1 c2
                  cases c2
                  rw [hjj] at c1
                  have c3 := c1.1
                  simp only [World.cell?, m4, Nat.zero_add] at c3
                  exact ⟨v, by simpa using c3, c1.2.1, .sc _⟩
    intro e σ' a' w' he hr'
    cases e with
    | normal => exact main σ' a' w' he hr'
    | ret => exact main σ' a' w' he hr'
    | exit _ => exact he.elim
    | goto _ => exact he.elim
    | panic _ => exact he.elim
    | outgrown => exact he.elim

section
variable {P : Program} {w0 : World} {M0 : MT} {σ : AS} {ty : TypeId} {pos : String} {after : Array Edge} {guard : Option (Nat × Bool)}
/-- A slice that is written out, of no elements: of a variable without cells. -/
theorem o_litA0 {t e z : Nat} {zv : Value} {d : Tmp} (hu : P.underlying t = some (.slice e)) (hs : ∀ w, (sizeOf e).run P w = .ok z w)
    (hzv : ∀ w, (zeroValue e).run P w = .ok zv w) (hd : okDB σ (some d) = true) :
    OpAny P w0 M0 σ ⟨some d, .buildSlice t 0 #[], ty, pos, after, guard⟩ (.allocA [] 0) := by
  intro σ' hag a w ⟨X, hr⟩ K Q hK
  obtain ⟨cells, _, hrun⟩ := run_buildSlice (P := P) (len := 0) hu hs hzv (by omega) #[] w (fun _ => True) fun init hi => ⟨init, rfl, trivial⟩
  have hrun : (execOp a.eval ⟨some d, .buildSlice t 0 #[], ty, pos, after, guard⟩).run P w = .ok (.value (.slice (some ⟨w.heap.size, 0, none⟩) 0 0)) (w.alloc (.cells cells e)) := by
    simp only [execOp]
    exact run_value (by simpa using hrun)
  unfold Oper.wp
  rw [hrun, Oper.upon_value]
  have hd : d < σ.n := okD hd
  exact hK _ _ (hr.gotVar (cs := []) (n := 0) (vs := cells) (e := e) (by rw [hag.n]; exact hd) ((Below.refl _ w).alloc (Nat.le_refl _) _) (Nat.le_refl _) (heap_new w _) (Nat.zero_le _) ⟨Nat.le_refl _, Nat.zero_le _, Nat.zero_le _⟩ (fun j c hj => by simp at hj))
end
section
variable {P : Program} {w0 : World} {M0 : MT} {σ : AS} {ty : TypeId} {pos : String} {after : Array Edge}
theorem AOps.callW {ops : Array Oper} {R : AS → Prop} {rest : List Oper} {f : FuncId} {args : Array Operand} {tys : Array TypeId} {cl cs : List AV} {n : Nat} {u : Value} {d : Tmp} (hs : FSpecW P f cl cs n u) (hb : Body P f)
    (hcl : (args.toList.map fun o => (σ.ev o).close) = cl.map some) (hd : okDB σ (some d) = true)
    (h : AOps P w0 M0 ops rest R ((σ.app (some d) (.allocA cs n)).put (some d) (.tup [.arr (d, σ.gen d) 0 n n, .sc u]))) :
    AOps P w0 M0 ops (⟨some d, .call ⟨.value (.func f), args, tys⟩, ty, pos, after, none⟩ :: rest) R σ := fun a w ⟨X, hr⟩ Q' hQ => by
  have hd : d < σ.n := okD hd
  refine wpList_plain rfl fun K hK => ?_
  obtain ⟨c1, c2⟩ := closedArgs (fun o => hr.ev o) args.toList cl (fun o ho => rfl) hcl
  have hrun : (execOp a.eval ⟨some d, .call ⟨.value (.func f), args, tys⟩, ty, pos, after, none⟩).run P w = .ok (.enter f (args.map a.eval)) w := by
    simp [execOp, resolve, Deferred.ofValue, Act.eval, invoke]
    exact hb _ _
  unfold Oper.wp
  rw [hrun, Oper.upon_enter]
  have hcall := hs w X.M (args.toList.map a.eval) c1 c2 (fun b hbb => (hr.mlt b hbb).1)
  have harr : (args.toList.map a.eval).toArray = args.map a.eval := by apply Array.ext'; simp
  rw [harr] at hcall
  refine hcall.mono fun e' w1 ⟨b, cap, vs, ty', he, hcn, hbel, p1, p2, hlen, hcell⟩ => ?_
  subst he
  obtain ⟨X1, hr1⟩ := hr.gotVar hd hbel p1 p2 hlen hcn hcell
  have hs' : d < a.tmps.size := by rw [hr.size]; exact hd
  have hv := hr1.tm d
  rw [getD_put a d d _ hs', if_pos rfl] at hv
  change VR w1 X1.M X1.V X1.G (upd σ.tm d (.arr (d, σ.gen d) 0 n n) d) _ at hv
  rw [upd_same] at hv
  have hr2 := hr1.put (d := some d) (v := .tup [.arr (d, σ.gen d) 0 n n, .sc u]) (cv := .tuple #[.slice (some ⟨b, 0, none⟩) n cap, u]) (show d < σ.n from hd)
    (.tup [.arr (d, σ.gen d) 0 n n, .sc u] [.slice (some ⟨b, 0, none⟩) n cap, u] rfl fun i c v hc hvv => by
      match i with
      | 0 => simp at hc hvv; subst hc; subst hvv; exact hv
      | 1 => simp at hc hvv; subst hc; subst hvv; exact .sc _
      | i + 2 => simp at hc)
  rw [put_put] at hr2
  exact hK _ _ (h _ _ ⟨X1, hr2⟩ Q' hQ)
end
end Go.Ab

/- Regions in any order in which operations that make values may come ahead of the one store or behind it, those that stand behind it in the text too. Nothing here speaks of one program. -/
set_option linter.unusedVariables false
set_option linter.unusedSimpArgs false
namespace Go.Ab
open Go.RowKit

def ChainT (P : Program) (w0 : World) (M0 : MT) (ops : Array Oper) (s : Nat) (late : Nat → Bool) (sid : OId) (scs : List AV) : Nat → List Oper → AS → List (Option Ev) → AS → Prop
  | _, [], σ, evs, σF => evs = [] ∧ σF = σ
  | i, o :: l, σ, evs, σF => (i = s ∧ OpAny P w0 M0 σ o (.stor sid scs) ∧ ∃ es, evs = none :: es ∧ ChainT P w0 M0 ops s late sid scs (i + 1) l σ es σF) ∨
      (i ≠ s ∧ ∃ e es, evs = e :: es ∧ StepOk P w0 M0 ops σ o e ∧ (late i = true → noRefs sid σ o.op = true ∧ valEv e = true) ∧ ChainT P w0 M0 ops s late sid scs (i + 1) l (appO σ o.dst e) es σF)

theorem ChainT.states {P : Program} {w0 : World} {M0 : MT} {ops : Array Oper} {s : Nat} {late : Nat → Bool} {sid : OId} {scs : List AV} : ∀ (l : List Oper) (k : Nat) (σ : AS) (evs : List (Option Ev)) (σF : AS), ChainT P w0 M0 ops s late sid scs k l σ evs σF →
    ∃ st : Nat → AS, st 0 = σ ∧ st l.length = σF ∧ ∀ (i : Nat) o, l[i]? = some o → (k + i = s → st (i + 1) = st i ∧ OpAny P w0 M0 (st i) o (.stor sid scs)) ∧
      (k + i ≠ s → ∃ e, evs[i]? = some e ∧ StepOk P w0 M0 ops (st i) o e ∧ (late (k + i) = true → noRefs sid (st i) o.op = true ∧ valEv e = true) ∧ st (i + 1) = appO (st i) o.dst e) := by
  intro l
  induction l with
  | nil => intro k σ evs σF h; exact ⟨fun _ => σ, rfl, h.2.symm, fun i o h => by simp at h⟩
  | cons o l ih =>
    intro k σ evs σF h
    rcases h with ⟨hk, ho, es, h1, h2⟩ | ⟨hk, e, es, h1, h2, h3, h4⟩
    · obtain ⟨st, g1, g2, g3⟩ := ih (k + 1) _ es σF h2
      refine ⟨fun i => match i with | 0 => σ | i + 1 => st i, rfl, g2, fun i o' ho' => ?_⟩
      cases i with
      | zero => simp at ho'; subst ho'; exact ⟨fun _ => ⟨g1, ho⟩, fun hn => absurd hk (by simpa using hn)⟩
      | succ i =>
        simp at ho'; subst h1
        obtain ⟨q1, q2⟩ := g3 i o' ho'
        rw [show k + 1 + i = k + (i + 1) by omega] at q1 q2
        exact ⟨q1, fun hn => by obtain ⟨e, r1, r2⟩ := q2 hn; exact ⟨e, by simpa using r1, r2⟩⟩
    · obtain ⟨st, g1, g2, g3⟩ := ih (k + 1) _ es σF h4
      refine ⟨fun i => match i with | 0 => σ | i + 1 => st i, rfl, g2, fun i o' ho' => ?_⟩
      cases i with
      | zero => simp at ho'; subst ho'; subst h1; exact ⟨fun hh => absurd (by simpa using hh) hk, fun _ => ⟨e, rfl, h2, h3, g1⟩⟩
      | succ i =>
        simp at ho'; subst h1
        obtain ⟨q1, q2⟩ := g3 i o' ho'
        rw [show k + 1 + i = k + (i + 1) by omega] at q1 q2
        exact ⟨q1, fun hn => by obtain ⟨e, r1, r2⟩ := q2 hn; exact ⟨e, by simpa using r1, r2⟩⟩

def AHeadT (P : Program) (w0 : World) (M0 : MT) (ops : Array Oper) (s : Nat) (late : Nat → Bool) (sid : OId) (scs : List AV) (i : Nat) (l : List Oper) (R : AS → Prop) (σ : AS) : Prop :=
  ∃ evs σF, ChainT P w0 M0 ops s late sid scs i l σ evs σF ∧ R σF
section
variable {P : Program} {w0 : World} {M0 : MT} {ops : Array Oper} {R : AS → Prop} {rest : List Oper} {σ : AS} {s : Nat} {late : Nat → Bool} {sid : OId} {scs : List AV} {i : Nat}
theorem ne_of_beqf {a b : Nat} (h : Nat.beq a b = false) : a ≠ b := fun e => by subst e; simp at h
theorem AHeadT.nil (h : R σ) : AHeadT P w0 M0 ops s late sid scs i [] R σ := ⟨[], σ, ⟨rfl, rfl⟩, h⟩
theorem AHeadT.call {d : Option Tmp} {op : Op} {ty : TypeId} {pos : String} {after : Array Edge} {e : Ev} (ho : OpAny P w0 M0 σ ⟨d, op, ty, pos, after, none⟩ e) (he : headEv e = true) (hi : Nat.beq i s = false) (hl : late i = false)
    (h : AHeadT P w0 M0 ops s late sid scs (i + 1) rest R (σ.app d e)) : AHeadT P w0 M0 ops s late sid scs i (⟨d, op, ty, pos, after, none⟩ :: rest) R σ := by
  obtain ⟨evs, σF, h1, h2⟩ := h
  exact ⟨some e :: evs, σF, .inr ⟨ne_of_beqf hi, some e, evs, rfl, ⟨rfl, ho, he⟩, fun hh => (by rw [hl] at hh; cases hh), h1⟩, h2⟩
theorem AHeadT.callL {d : Option Tmp} {op : Op} {ty : TypeId} {pos : String} {after : Array Edge} {v : AV} (ho : OpAny P w0 M0 σ ⟨d, op, ty, pos, after, none⟩ (.val v)) (hi : Nat.beq i s = false) (hn : noRefs sid σ op = true)
    (h : AHeadT P w0 M0 ops s late sid scs (i + 1) rest R (σ.app d (.val v))) : AHeadT P w0 M0 ops s late sid scs i (⟨d, op, ty, pos, after, none⟩ :: rest) R σ := by
  obtain ⟨evs, σF, h1, h2⟩ := h
  exact ⟨some (.val v) :: evs, σF, .inr ⟨ne_of_beqf hi, some (.val v), evs, rfl, ⟨rfl, ho, rfl⟩, fun _ => ⟨hn, rfl⟩, h1⟩, h2⟩
theorem AHeadT.store {o : Oper} (ho : OpAny P w0 M0 σ o (.stor sid scs)) (hi : Nat.beq i s = true)
    (h : AHeadT P w0 M0 ops s late sid scs (i + 1) rest R σ) : AHeadT P w0 M0 ops s late sid scs i (o :: rest) R σ := by
  obtain ⟨evs, σF, h1, h2⟩ := h
  exact ⟨none :: evs, σF, .inl ⟨Nat.eq_of_beq_eq_true hi, ho, evs, rfl, h1⟩, h2⟩
end

def drawTOk (ops : Array Oper) (s : Nat) (late : Nat → Bool) : Bool :=
  Nat.blt s ops.size &&
  ((List.range ops.size).all fun i => Nat.beq i s || match ops[i]? with
    | none => false
    | some o => match o.dst with
      | none => false
      | some d => ((List.range ops.size).all fun j => Nat.beq j i || !(match dstOf ops j with | some d' => Nat.beq d' d | none => false)) &&
        ((readsOf ops o).all fun t => (List.range ops.size).all fun j => !(match dstOf ops j with | some d' => Nat.beq d' t | none => false) || (Nat.blt j i && Region.waitsFor .any ops i j))) &&
  ((List.range ops.size).all fun i => match ops[i]? with
    | none => true
    | some o => o.after.all fun e => !Region.binds .any e || Nat.blt e.on i) &&
  (match ops[s]? with
    | none => false
    | some o => o.dst.isNone && o.guard.isNone && (readsOf ops o).all fun t => (List.range ops.size).all fun j => !(match dstOf ops j with | some d' => Nat.beq d' t | none => false) || (Nat.blt j s && Region.waitsFor .any ops s j)) &&
  ((List.range ops.size).all fun i => Nat.beq i s || (late i || Region.waitsFor .any ops s i))

structure DrawTFacts (ops : Array Oper) (s : Nat) (late : Nat → Bool) : Prop where
  le : s < ops.size
  dst : ∀ i, i < ops.size → i ≠ s → ∃ o d, ops[i]? = some o ∧ o.dst = some d ∧ (∀ j, j < ops.size → dstOf ops j = some d → j = i) ∧
    ∀ t ∈ readsOf ops o, ∀ j, j < ops.size → dstOf ops j = some t → j < i ∧ Region.waitsFor .any ops i j = true
  down : ∀ i o, ops[i]? = some o → ∀ e ∈ o.after, Region.binds .any e = true → e.on < i
  store : ∃ o, ops[s]? = some o ∧ o.dst = none ∧ o.guard = none ∧ ∀ t ∈ readsOf ops o, ∀ j, j < ops.size → dstOf ops j = some t → j < s ∧ Region.waitsFor .any ops s j = true
  late : ∀ i, i < ops.size → i ≠ s → late i = true ∨ Region.waitsFor .any ops s i = true

theorem drawTFacts {ops : Array Oper} {s : Nat} {late : Nat → Bool} (h : drawTOk ops s late = true) : DrawTFacts ops s late := by
  unfold drawTOk at h
  simp only [Bool.and_eq_true] at h
  obtain ⟨⟨⟨⟨h1, h2⟩, h3⟩, h6⟩, h7⟩ := h
  refine ⟨ltB h1, fun i hi his => ?_, fun i o ho e he hb => ?_, ?_, fun i hi his => ?_⟩
  · have := List.all_eq_true.1 h2 i (List.mem_range.2 hi)
    rw [beq_ff his, Bool.false_or] at this
    split at this
    · cases this
    · rename_i o ho
      split at this
      · cases this
      · rename_i d hd
        simp only [Bool.and_eq_true] at this
        refine ⟨o, d, ho, hd, fun j hj hdj => ?_, fun t ht j hj hdj => ?_⟩
        · have := List.all_eq_true.1 this.1 j (List.mem_range.2 hj)
          rw [hdj] at this
          simp only [Bool.or_eq_true] at this
          rcases this with hh | hh
          · exact Nat.eq_of_beq_eq_true hh
          · simp at hh
        · have := beq_opt (List.all_eq_true.1 (List.all_eq_true.1 this.2 t ht) j (List.mem_range.2 hj)) hdj
          simp only [Bool.and_eq_true] at this
          exact ⟨ltB this.1, this.2⟩
  · have hi : i < ops.size := (Array.getElem?_eq_some_iff.1 ho).1
    have := List.all_eq_true.1 h3 i (List.mem_range.2 hi)
    rw [ho] at this
    have := Array.all_eq_true_iff_forall_mem.1 this e he
    simp only [hb, Bool.not_true, Bool.false_or] at this
    exact ltB this
  · split at h6
    · cases h6
    · rename_i o ho
      simp only [Bool.and_eq_true] at h6
      refine ⟨o, ho, by simpa using h6.1.1, by simpa using h6.1.2, fun t ht j hj hdj => ?_⟩
      have := beq_opt (List.all_eq_true.1 (List.all_eq_true.1 h6.2 t ht) j (List.mem_range.2 hj)) hdj
      simp only [Bool.and_eq_true] at this
      exact ⟨ltB this.1, this.2⟩
  · have := List.all_eq_true.1 h7 i (List.mem_range.2 hi)
    rw [beq_ff his] at this
    simpa using this

theorem writerT_iff {ops : Array Oper} {s : Nat} {late : Nat → Bool} (F : DrawTFacts ops s late) (t j : Nat) : writer ops ops.size t = some j ↔ j < ops.size ∧ dstOf ops j = some t := by
  constructor
  · intro h
    have h1 := List.find?_some h
    have h2 := List.mem_of_find?_eq_some h
    exact ⟨List.mem_range.1 h2, by simpa using h1⟩
  · intro ⟨h1, h2⟩
    cases hw : writer ops ops.size t with
    | none =>
      have := List.find?_eq_none.1 hw j (List.mem_range.2 h1)
      simp [h2] at this
    | some k =>
      have hk1 := List.find?_some hw
      have hk2 := List.mem_range.1 (List.mem_of_find?_eq_some hw)
      have hjs : j ≠ s := fun e => by
        obtain ⟨o, q1, q2, _⟩ := F.store
        subst e; simp [dstOf, q1, q2] at h2
      obtain ⟨o, d, p1, p2, p3, _⟩ := F.dst j h1 hjs
      have hd : dstOf ops j = some d := by simp [dstOf, p1, p2]
      have hdt : d = t := Option.some.inj (hd.symm.trans h2)
      subst hdt
      rw [p3 k hk2 (by simpa using hk1)]

theorem mix_same {σ : AS} {W : Nat → Option Nat} {E : Nat → Option Ev} {S S' : Nat → Bool} (h : ∀ t j, W t = some j → S j = S' j) : mix σ W E S = mix σ W E S' := by
  apply AS.ext'
  · rfl
  · intro t; simp only [mix]; cases hw : W t with
    | none => rfl
    | some j => simp only [h t j hw]
  · intro t; simp only [mix]; cases hw : W t.1 with
    | none => rfl
    | some j => simp only [h t.1 j hw]
  · intro t; simp only [mix]; cases hw : W t.1 with
    | none => rfl
    | some j => simp only [h t.1 j hw]
  · intro t; simp only [mix]; cases hw : W t with
    | none => rfl
    | some j => simp only [h t j hw]

set_option maxHeartbeats 4000000 in
theorem AWP.drawnT {P : Program} {w0 : World} {M0 : MT} {Q : Exit → AS → Prop} {σ : AS} {id : Nat} {ops : Array Oper} (s : Nat) (late : Nat → Bool) (sid : OId) (scs : List AV) (hm : P.follows .mixedOrders = true) (hc : drawTOk ops s late = true)
    (h : AHeadT P w0 M0 ops s late sid scs 0 ops.toList (fun σF => Q .normal (stored σF sid scs)) σ) : AWP P w0 M0 (.region id ops true) Q σ := by
  intro a w ⟨x0, hr0⟩ Q' hQ
  obtain ⟨evs, σF, hch, hfin⟩ := h
  have F := drawTFacts hc
  obtain ⟨st, st0, stF, hst⟩ := hch.states
  have hlen : ops.toList.length = ops.size := by simp
  rw [hlen] at stF
  let W : Nat → Option Nat := writer ops ops.size
  let E : Nat → Option Ev := fun i => (evs[i]?).getD none
  have hget : ∀ i o, ops[i]? = some o → ops.toList[i]? = some o := fun i o ho => by rw [Array.getElem?_toList]; exact ho
  have hWs : ∀ t j, W t = some j → j ≠ s := fun t j hj e => by
    have h2 := ((writerT_iff F t j).1 hj).2
    obtain ⟨o, q1, q2, _⟩ := F.store
    subst e; simp [dstOf, q1, q2] at h2
  have hstep : ∀ i, i ≠ s → ∀ o, ops[i]? = some o → StepOk P w0 M0 ops (st i) o (E i) ∧ (late i = true → noRefs sid (st i) o.op = true ∧ valEv (E i) = true) ∧ st (i + 1) = appO (st i) o.dst (E i) := fun i his o ho => by
    obtain ⟨e, g1, g2, g3, g4⟩ := (hst i o (hget i o ho)).2 (by rw [Nat.zero_add]; exact his)
    simp only [E, g1, Option.getD_some]
    rw [Nat.zero_add] at g3
    exact ⟨g2, g3, g4⟩
  have hhead : ∀ i, i < ops.size → i ≠ s → headO (E i) = true := fun i hi his => by
    obtain ⟨o, d, p1, _⟩ := F.dst i hi his
    have := (hstep i his o p1).1
    cases hE : E i with
    | none => rfl
    | some e => rw [hE] at this; exact this.2.2
  have hW : ∀ i, i < ops.size → i ≠ s → ∀ d, dstOf ops i = some d → ∀ t, W t = some i ↔ t = d := fun i hi his d hd t => by
    rw [writerT_iff F t i]
    exact ⟨fun ⟨_, h2⟩ => Option.some.inj (h2.symm.trans hd), fun h => by subst h; exact ⟨hi, hd⟩⟩
  have hcanon : ∀ i, i ≤ ops.size → st i = mix σ W E (fun j => Nat.blt j i) := by
    intro i
    induction i with
    | zero =>
      intro _
      rw [st0]
      refine (mix_none σ W E).symm.trans ?_
      congr 1
    | succ i ih =>
      intro hi
      by_cases his : i = s
      · obtain ⟨o, p1, _⟩ := F.store
        rw [((hst i o (hget i o (by rw [his]; exact p1))).1 (by rw [Nat.zero_add]; exact his)).1, ih (by omega)]
        refine mix_same fun t j hj => ?_
        have := hWs t j hj
        by_cases hb : j < i
        · rw [bltT hb, bltT (by omega)]
        · rw [bltF hb, bltF (by omega)]
      · obtain ⟨o, d, p1, p2, _⟩ := F.dst i (by omega) his
        have hd : dstOf ops i = some d := by simp [dstOf, p1, p2]
        rw [(hstep i his o p1).2.2, p2, ih (by omega), mix_step σ W E (fun j => Nat.blt j i) (hW i (by omega) his d hd) (bltF (by omega)) (hhead i (by omega) his)]
        congr 1
        funext j
        by_cases hj : j = i
        · subst hj; rw [bltT (Nat.lt_succ_self _)]; simp
        · rw [beq_ff hj]
          by_cases hb : j < i
          · rw [bltT hb, bltT (by omega)]; rfl
          · rw [bltF hb, bltF (by omega)]; rfl
  have hmixF : ∀ listed : Array Bool, (∀ j, j < ops.size → listed.getD j false = true) → mix σ W E (fun j => listed.getD j false) = σF := fun listed hall => by
    rw [← stF, hcanon ops.size (Nat.le_refl _)]
    refine mix_same fun t j hj => ?_
    have := ((writerT_iff F t j).1 hj).1
    rw [hall j this, bltT this]
  have hcnt0 : ∀ listed : Array Bool, ((List.range ops.size).filter fun j => !listed.getD j false).length = 0 → ∀ j, j < ops.size → listed.getD j false = true := fun listed hcount j hj => by
    have : (List.range ops.size).filter (fun j => !listed.getD j false) = [] := List.eq_nil_of_length_eq_zero hcount
    have := List.filter_eq_nil_iff.1 this j (List.mem_range.2 hj)
    simpa using this
  have hcnt : ∀ (listed : Array Bool) (i : Nat), listed.size = ops.size → i < ops.size → listed.getD i false = false → ∀ l : List Nat, l.Nodup → i ∈ l → (l.filter fun j => !listed.getD j false).length = ((l.filter fun j => !(listed.setIfInBounds i true).getD j false)).length + 1 := by
    intro listed i hsz hin hunF l
    induction l with
    | nil => intro _ h; cases h
    | cons b l ihl =>
      intro hnd hmem
      have hnd' := List.nodup_cons.1 hnd
      by_cases hb : b = i
      · subst hb
        have hsame : (l.filter fun j => !(listed.setIfInBounds b true).getD j false) = l.filter fun j => !listed.getD j false := by
          apply List.filter_congr
          intro j hj
          have : b ≠ j := fun h => hnd'.1 (h ▸ hj)
          rw [getD_set_ne false this]
        have hset : (listed.setIfInBounds b true).getD b false = true := by simp [Array.getD, hsz, hin]
        rw [List.filter_cons_of_pos (by simpa using hunF), List.filter_cons_of_neg (by rw [hset]; simp), hsame]
        rfl
      · have hmem' : i ∈ l := by rcases List.mem_cons.1 hmem with h | h; exact absurd h.symm hb; exact h
        have := ihl hnd'.2 hmem'
        have hbne : (listed.setIfInBounds i true).getD b false = listed.getD b false := getD_set_ne false (Ne.symm hb)
        cases hl : listed.getD b false with
        | true => rw [List.filter_cons_of_neg (by rw [hl]; simp), List.filter_cons_of_neg (by rw [hbne, hl]; simp)]; exact this
        | false => rw [List.filter_cons_of_pos (by rw [hl]; simp), List.filter_cons_of_pos (by rw [hbne, hl]; simp), List.length_cons, List.length_cons, this]
  have hmin : ∀ (listed : Array Bool) (j : Nat), listed.getD j false = false → ∃ j', j' ≤ j ∧ listed.getD j' false = false ∧ ∀ i, i < j' → listed.getD i false = true := by
    intro listed j
    induction j using Nat.strongRecOn with
    | _ j ihn =>
      intro h2
      by_cases hh : ∃ i, i < j ∧ listed.getD i false = false
      · obtain ⟨i, hi1, hi2⟩ := hh
        obtain ⟨j', q1, q2, q3⟩ := ihn i hi1 hi2
        exact ⟨j', by omega, q2, q3⟩
      · refine ⟨j, Nat.le_refl _, h2, fun i hi => ?_⟩
        cases hl : listed.getD i false with
        | true => rfl
        | false => exact absurd ⟨i, hi, hl⟩ hh
  have hreads : ∀ i, i ≤ ops.size → ∀ o, ops[i]? = some o → (∀ t ∈ readsOf ops o, ∀ j, j < ops.size → dstOf ops j = some t → j < i ∧ Region.waitsFor .any ops i j = true) →
      ∀ listed : Array Bool, (∀ e ∈ o.after, Region.binds .any e = true → listed.getD e.on false = true) → ∀ t ∈ readsOf ops o, (mix σ W E fun j => listed.getD j false).tm t = (st i).tm t := by
    intro i him o hoi p4 listed hdeps t ht
    rw [hcanon i him]
    simp only [mix]
    cases hw : W t with
    | none => rfl
    | some j =>
      obtain ⟨q1, q2⟩ := (writerT_iff F t j).1 hw
      obtain ⟨q3, q4⟩ := p4 t ht j q1 q2
      obtain ⟨o', ho', e, he, hb, hon⟩ := Region.waitsFor_spec q4
      have : o' = o := Option.some.inj (ho'.symm.trans hoi)
      subst this
      have hl := hdeps e he hb
      rw [hon] at hl
      simp only [hl, bltT q3]
  have hevs : ∀ i, ∀ o : Oper, ∀ σ' : AS, (∀ t ∈ readsOf ops o, σ'.tm t = (st i).tm t) → ∀ y ∈ o.op.operands, σ'.ev y = (st i).ev y := by
    intro i o σ' htm y hy
    cases y with
    | tmp t => exact htm t (List.mem_append.2 (.inl (List.mem_filterMap.2 ⟨.tmp t, Array.mem_toList_iff.2 hy, rfl⟩)))
    | const v => exact ev_const _ _ v
    | global g => rfl
    | func f => rfl
  have hn : ∀ i, i ≤ ops.size → ∀ listed : Array Bool, (mix σ W E fun j => listed.getD j false).n = (st i).n := fun i hi listed => by rw [hcanon i hi]; rfl
  have hag : ∀ i, i ≤ ops.size → ∀ o, ∀ listed : Array Bool, (∀ t ∈ readsOf ops o, (mix σ W E fun j => listed.getD j false).tm t = (st i).tm t) →
      ∀ σs a w X, σs.tm = (mix σ W E fun j => listed.getD j false).tm → σs.gen = (mix σ W E fun j => listed.getD j false).gen → RelW w0 M0 σs a w X → Agree (st i) (mix σ W E fun j => listed.getD j false) o.op := by
    intro i him o listed htm σs a w X hs1 hs2 hx
    refine ⟨hn i him listed, hevs i o _ htm, fun y hy id off cs hyr hycs => ?_⟩
    have hev : (mix σ W E fun j => listed.getD j false).ev y = .ref id off := (hevs i o _ htm y hy).trans hyr
    have hse : σs.ev y = (mix σ W E fun j => listed.getD j false).ev y := by
      cases y with
      | tmp t => exact congrFun hs1 t
      | const v => exact ev_const _ _ v
      | global g => rfl
      | func f => rfl
    have hVR := hx.ev y
    rw [hse, hev] at hVR
    have hVs : ∃ b, X.V id = some b := by
      generalize a.eval y = cv at hVR
      cases hVR with
      | ref _ _ b hb => exact ⟨b, hb⟩
    obtain ⟨b, hVb⟩ := hVs
    have hglt : id.2 < (mix σ W E fun j => listed.getD j false).gen id.1 := by
      rcases Nat.lt_or_ge id.2 ((mix σ W E fun j => listed.getD j false).gen id.1) with h | h
      · exact h
      · have := (hx.fresh id.1 id.2 (by rw [hs2]; exact h)).1
        have h2 : X.V (id.1, id.2) = some b := hVb
        rw [this] at h2; cases h2
    rw [hcanon i him] at hycs
    simp only [mix] at hycs hglt ⊢
    cases hw : W id.1 with
    | none => rw [hw] at hycs; exact hycs
    | some j =>
      simp only [hw] at hycs hglt ⊢
      have hσ0 : ∀ cs, σ.va id = some cs → id.2 < σ.gen id.1 := fun cs h => hr0.vgen id.1 id.2 cs h
      cases hji : Nat.blt j i with
      | true =>
        rw [hji] at hycs
        cases hlj : listed.getD j false with
        | true => exact hycs
        | false =>
          simp only [hlj, cond_false] at hglt ⊢
          simp only [cond_true] at hycs
          cases hEj : E j with
          | none => rw [hEj] at hycs; exact hycs
          | some ej =>
            rw [hEj] at hycs
            cases ej with
            | alloc cs' =>
              simp only [vaA] at hycs
              rw [beq_ff (by omega : id.2 ≠ σ.gen id.1)] at hycs
              exact hycs
            | allocA cs' _ =>
              simp only [vaA] at hycs
              rw [beq_ff (by omega : id.2 ≠ σ.gen id.1)] at hycs
              exact hycs
            | val v => exact hycs
            | fresh v n z e => exact hycs
            | grow => exact hycs
            | stor => exact hycs
            | lend => exact hycs
            | spend => exact hycs
      | false =>
        rw [hji] at hycs
        simp only [cond_false] at hycs
        cases hlj : listed.getD j false with
        | false => exact hycs
        | true =>
          simp only [cond_true]
          have := hσ0 cs hycs
          cases hEj : E j with
          | none => exact hycs
          | some ej =>
            cases ej with
            | alloc cs' =>
              simp only [vaA]
              rw [beq_ff (by omega : id.2 ≠ σ.gen id.1)]
              exact hycs
            | allocA cs' _ =>
              simp only [vaA]
              rw [beq_ff (by omega : id.2 ≠ σ.gen id.1)]
              exact hycs
            | val v => exact hycs
            | fresh v n z e => exact hycs
            | grow => exact hycs
            | stor => exact hycs
            | lend => exact hycs
            | spend => exact hycs
  refine wp_region_any hm ?_
  have main : ∀ (k : Nat) (listed : Array Bool) (a : Act) (w : World), listed.size = ops.size → (∀ j oj, ops[j]? = some oj → listed.getD j false = true → ∀ e ∈ oj.after, Region.binds .any e = true → listed.getD e.on false = true) →
      ((List.range ops.size).filter fun j => !listed.getD j false).length = k →
      Rel w0 M0 (bif listed.getD s false then stored (mix σ W E fun j => listed.getD j false) sid scs else mix σ W E fun j => listed.getD j false) a w → wpAny P .any ops Q' k listed a w := by
    intro k
    induction k with
    | zero =>
      intro listed a w hsz hclosed hcount hr
      have hall := hcnt0 listed hcount
      refine ⟨List.eq_nil_iff_forall_not_mem.2 fun i hi => ?_, ?_⟩
      · obtain ⟨hun, oi, hoi, _⟩ := mem_ready.1 hi
        have := getD_both hun
        rw [hall i (Array.getElem?_eq_some_iff.1 hoi).1] at this
        cases this
      · rw [hall s F.le, hmixF listed hall] at hr
        exact hQ _ _ a w hfin hr
    | succ k ih =>
      intro listed a w hsz hclosed hcount hr
      have hex : ∃ j, j < ops.size ∧ listed.getD j false = false := by
        have : (List.range ops.size).filter (fun j => !listed.getD j false) ≠ [] := fun h => by rw [h] at hcount; simp at hcount
        obtain ⟨j, hj⟩ := List.exists_mem_of_ne_nil _ this
        obtain ⟨h1, h2⟩ := List.mem_filter.1 hj
        exact ⟨j, List.mem_range.1 h1, by simpa using h2⟩
      obtain ⟨j0, hj0, hj0'⟩ := hex
      obtain ⟨j, hj1, hj2, hj3⟩ := hmin listed j0 hj0'
      have hjs : j < ops.size := by omega
      refine ⟨fun hno => ?_, fun i hi => ?_⟩
      · exfalso
        have hready : j ∈ Region.ready .any ops listed := mem_ready.2 ⟨getD_in (by rw [hsz]; exact hjs) hj2, ops[j], Array.getElem?_eq_getElem hjs, fun e he hb => hj3 e.on (F.down j _ (Array.getElem?_eq_getElem hjs) e he hb)⟩
        rw [hno] at hready
        cases hready
      · obtain ⟨hun, oi, hoi, hdeps⟩ := mem_ready.1 hi
        have hin : i < ops.size := (Array.getElem?_eq_some_iff.1 hoi).1
        have hunF : listed.getD i false = false := getD_both hun
        have hone := hcnt listed i hsz hin hunF (List.range ops.size) List.nodup_range (List.mem_range.2 hin)
        have hclosed' : ∀ j oj, ops[j]? = some oj → (listed.setIfInBounds i true).getD j false = true → ∀ e ∈ oj.after, Region.binds .any e = true → (listed.setIfInBounds i true).getD e.on false = true := fun j oj hj hl e he hb => by
          by_cases hij : i = j
          · subst hij
            have : oj = oi := Option.some.inj (hj.symm.trans hoi)
            subst this
            exact getD_set_true (hdeps e he hb)
          · rw [getD_set_ne false hij] at hl
            exact getD_set_true (hclosed j oj hj hl e he hb)
        by_cases his : i = s
        · subst his
          rw [hunF] at hr
          simp only [cond_false] at hr
          obtain ⟨X, hx⟩ := hr
          obtain ⟨so, p1, p2, p3, p4⟩ := F.store
          have : so = oi := Option.some.inj (p1.symm.trans hoi)
          subst this
          have hso2 := ((hst i so (hget i so hoi)).1 (Nat.zero_add _)).2
          have htm := hreads i (Nat.le_of_lt hin) so hoi p4 listed hdeps
          have hA := hag i (Nat.le_of_lt hin) so listed htm _ a w X rfl rfl hx
          unfold wpOp
          simp only [hoi]
          have hw : Region.wanted so (yielded ops a.tmps) = true := by unfold Region.wanted; rw [p3]
          rw [hw]
          simp only [if_true]
          refine .inl (hso2 _ hA a w ⟨X, hx⟩ _ _ fun a' w' hr' => ?_)
          rw [p2, stored_app] at hr'
          have hmixS : (mix σ W E fun j => listed.getD j false) = mix σ W E fun j => (listed.setIfInBounds i true).getD j false := by
            refine mix_same fun t j hj => ?_
            have := hWs t j hj
            rw [getD_set_ne false (Ne.symm this)]
          refine ih (listed.setIfInBounds i true) a' w' (by simp [hsz]) hclosed' (by omega) ?_
          rw [show (listed.setIfInBounds i true).getD i false = true by simp [Array.getD, hsz, hin]]
          simp only [cond_true]
          rw [← hmixS]; exact hr'
        · obtain ⟨o, d, p1, p2, p3, p4⟩ := F.dst i hin his
          have : o = oi := Option.some.inj (p1.symm.trans hoi)
          subst this
          have hd : dstOf ops i = some d := by simp [dstOf, p1, p2]
          have hsset : (listed.setIfInBounds i true).getD s false = listed.getD s false := getD_set_ne false his
          have hS : (fun j => bif Nat.beq j i then true else listed.getD j false) = fun j => (listed.setIfInBounds i true).getD j false := by
            funext j
            by_cases hj : j = i
            · subst hj; simp [Array.getD, hsz, hin]
            · rw [beq_ff hj, getD_set_ne false (Ne.symm hj)]; rfl
          have htm := hreads i (Nat.le_of_lt hin) o hoi p4 listed hdeps
          obtain ⟨hso, hlt, _⟩ := hstep i his o hoi
          have key : ∀ σs : AS, σs.tm = (mix σ W E fun j => listed.getD j false).tm → σs.gen = (mix σ W E fun j => listed.getD j false).gen → σs.n = (mix σ W E fun j => listed.getD j false).n →
              (∀ X, RelW w0 M0 σs a w X → Agree (st i) σs o.op) → Rel w0 M0 σs a w →
              (∀ a' w', Rel w0 M0 (appO σs (some d) (E i)) a' w' → wpAny P .any ops Q' k (listed.setIfInBounds i true) a' w') → wpOp P ops Q' i (wpAny P .any ops Q' k (listed.setIfInBounds i true)) a w := by
            intro σs e1 e2 e3 hagr ⟨X, hx⟩ next
            have hguard : ∀ b, GoOk ops (st i) o b → Region.wanted o (yielded ops a.tmps) = b := fun b hg => wanted_of hx (e3.trans (hn i (Nat.le_of_lt hin) listed)) (fun t ht => by rw [e1]; exact htm t ht) hg
            unfold wpOp
            simp only [hoi]
            cases hE : E i with
            | none =>
              rw [hE] at hso next
              rw [hguard false hso.1]
              simp only [Bool.false_eq_true, if_false]
              rw [p2]
              refine next _ _ ⟨X, hx.put (d := some d) ?_ (.sc undef)⟩
              have := hso.2
              rw [p2] at this
              show d < σs.n
              rw [e3, hn i (Nat.le_of_lt hin) listed]
              exact this
            | some e =>
              rw [hE] at hso next
              obtain ⟨s1, s2, s3⟩ := hso
              rw [hguard true s1]
              simp only [if_true]
              exact .inl (s2 σs (hagr X hx) a w ⟨X, hx⟩ _ _ fun a' w' hr' => next a' w' (by rw [p2] at hr'; exact hr'))
          cases hls : listed.getD s false with
          | false =>
            rw [hls] at hr hsset
            simp only [cond_false] at hr
            refine key _ rfl rfl rfl (fun X hx => hag i (Nat.le_of_lt hin) o listed htm _ a w X rfl rfl hx) hr fun a' w' hr' => ?_
            rw [mix_step σ W E _ (hW i hin his d hd) hunF (hhead i hin his), hS] at hr'
            refine ih (listed.setIfInBounds i true) a' w' (by simp [hsz]) hclosed' (by omega) ?_
            rw [hsset]; exact hr'
          | true =>
            rw [hls] at hr hsset
            simp only [cond_true] at hr
            have hlate : late i = true := by
              rcases F.late i hin his with h | h
              · exact h
              · exfalso
                obtain ⟨o', ho', e, he, hb, hon⟩ := Region.waitsFor_spec h
                have := hclosed s o' ho' hls e he hb
                rw [hon, hunF] at this; cases this
            obtain ⟨hnr, hve⟩ := hlt hlate
            refine key (stored (mix σ W E fun j => listed.getD j false) sid scs) rfl rfl rfl (fun X hx => ⟨hn i (Nat.le_of_lt hin) listed, hevs i o _ htm, fun y hy id off cs hyr hycs => ?_⟩) hr fun a' w' hr' => ?_
            · have h9 := List.all_eq_true.1 hnr y (Array.mem_toList_iff.2 hy)
              rw [hyr] at h9
              have hne : id ≠ sid := fun hh => by subst hh; simp at h9
              show updO (mix σ W E fun j => listed.getD j false).va sid (some scs) id = some cs
              rw [updO_ne _ _ hne]
              exact (hag i (Nat.le_of_lt hin) o listed htm (stored (mix σ W E fun j => listed.getD j false) sid scs) a w X rfl rfl hx).va y hy id off cs hyr hycs
            · rw [stored_appO hve, mix_step σ W E _ (hW i hin his d hd) hunF (hhead i hin his), hS] at hr'
              refine ih (listed.setIfInBounds i true) a' w' (by simp [hsz]) hclosed' (by omega) ?_
              rw [hsset]; exact hr'
  have hstart := main ((List.range ops.size).filter fun j => !(Array.replicate ops.size false).getD j false).length (Array.replicate ops.size false) a { w with drawn := w.drawn + 1 } (by simp)
    (fun j oj _ hl => by rw [getD_replicate_false] at hl; cases hl) rfl
    (by
      have : (fun j => (Array.replicate ops.size false).getD j false) = fun _ => false := by funext j; exact getD_replicate_false _ _
      rw [getD_replicate_false, this, mix_none]
      exact ⟨x0, hr0.drew⟩)
  have hk : ((List.range ops.size).filter fun j => !(Array.replicate ops.size false).getD j false).length = ops.size := by
    rw [List.filter_eq_self.2 (fun j _ => by rw [getD_replicate_false]; rfl)]
    simp
  rw [hk] at hstart
  exact hstart
end Go.Ab

/- A growing slice, told as what it holds. Nothing here speaks of one program. -/
namespace Go.Ab
open Go.RowKit
theorem Weak.toSl {σ : AS} (t : Nat) {es : List (List AV)} (h : slEs (σ.tm t) = some es) : Weak σ { σ with tm := upd σ.tm t (.sl es) } := by
  intro w0 M0 a w ⟨x, hx⟩
  refine ⟨x, ?_⟩
  constructor
  · exact hx.below
  · exact hx.defers
  · exact hx.size
  · intro i
    show VR _ _ _ _ (upd σ.tm t _ i) _
    by_cases hi : i = t
    · subst hi; rw [upd_same]; exact (slEs_spec (hx.tm i) h).open' _ _
    · rw [upd_ne _ _ hi]; exact hx.tm i
  · exact hx.m0
  · exact hx.mlt
  · exact hx.fresh
  · exact hx.lent
  · exact hx.va
  · exact hx.vgen
  · exact hx.gr
  · exact hx.ggen
end Go.Ab

