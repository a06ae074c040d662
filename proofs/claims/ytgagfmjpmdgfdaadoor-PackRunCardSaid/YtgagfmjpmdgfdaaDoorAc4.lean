/- Regions in any order in which operations that make values may come ahead of the one store or behind it, those that stand behind it in the text too. Nothing here speaks of one program. -/
import Derived.Test.YtgagfmjpmdgfdaaDoorAc3
import Derived.Test.YtgagfmjpmdgfdaaDoorAbB
set_option linter.unusedVariables false
set_option linter.unusedSimpArgs false
namespace Go.Ab
open Go.RowKit

def ChainT (P : Program) (w0 : World) (M0 : MT) (ops : Array Oper) (s : Nat) (late : Nat → Bool) (sid : OId) (scs : List AV) : Nat → List Oper → AS → List (Option Ev) → AS → Prop
  | _, [], σ, evs, σF => evs = [] ∧ σF = σ
  | i, o :: l, σ, evs, σF => (i = s ∧ OpAny P w0 M0 σ o (.stor sid scs) ∧ ∃ es, evs = none :: es ∧ ChainT P w0 M0 ops s late sid scs (i + 1) l σ es σF) ∨
      (i ≠ s ∧ ∃ e es, evs = e :: es ∧ StepOk P w0 M0 ops σ o e ∧ (late i = true → noRefs sid σ o.op = true ∧ valEv e = true) ∧ ChainT P w0 M0 ops s late sid scs (i + 1) l (appO σ o.dst e) es σF)

theorem ChainT.states {P : Program} {w0 : World} {M0 : MT} {ops : Array Oper} {s : Nat} {late : Nat → Bool} {sid : OId} {scs : List AV} : ∀ (l : List Oper) (k : Nat) (σ : AS) (evs : List (Option Ev)) (σF : AS), ChainT P w0 M0 ops s late sid scs k l σ evs σF →
    ∃ st : Nat → AS, st 0 = σ ∧ st l.length = σF ∧ ∀ (i : Nat) o, l[i]? = some o → (k + i = s → st (i + 1) = st i ∧ OpAny P w0 M0 (st i) o (.stor sid scs)) ∧
      (k + i ≠ s → ∃ e, evs[i]? = some e ∧ StepOk P w0 M0 ops (st i) o e ∧ (late (k + i) = true → noRefs sid (st i) o.op = true ∧ valEv e = true) ∧ st (i + 1) = appO (st i) o.dst e) := by
  intro l
  induction l with
  | nil => intro k σ evs σF h; exact ⟨fun _ => σ, rfl, h.2.symm, fun i o h => by simp at h⟩
  | cons o l ih =>
    intro k σ evs σF h
    rcases h with ⟨hk, ho, es, h1, h2⟩ | ⟨hk, e, es, h1, h2, h3, h4⟩
    · obtain ⟨st, g1, g2, g3⟩ := ih (k + 1) _ es σF h2
      refine ⟨fun i => match i with | 0 => σ | i + 1 => st i, rfl, g2, fun i o' ho' => ?_⟩
      cases i with
      | zero => simp at ho'; subst ho'; exact ⟨fun _ => ⟨g1, ho⟩, fun hn => absurd hk (by simpa using hn)⟩
      | succ i =>
        simp at ho'; subst h1
        obtain ⟨q1, q2⟩ := g3 i o' ho'
        rw [show k + 1 + i = k + (i + 1) by omega] at q1 q2
        exact ⟨q1, fun hn => by obtain ⟨e, r1, r2⟩ := q2 hn; exact ⟨e, by simpa using r1, r2⟩⟩
    · obtain ⟨st, g1, g2, g3⟩ := ih (k + 1) _ es σF h4
      refine ⟨fun i => match i with | 0 => σ | i + 1 => st i, rfl, g2, fun i o' ho' => ?_⟩
      cases i with
      | zero => simp at ho'; subst ho'; subst h1; exact ⟨fun hh => absurd (by simpa using hh) hk, fun _ => ⟨e, rfl, h2, h3, g1⟩⟩
      | succ i =>
        simp at ho'; subst h1
        obtain ⟨q1, q2⟩ := g3 i o' ho'
        rw [show k + 1 + i = k + (i + 1) by omega] at q1 q2
        exact ⟨q1, fun hn => by obtain ⟨e, r1, r2⟩ := q2 hn; exact ⟨e, by simpa using r1, r2⟩⟩

def AHeadT (P : Program) (w0 : World) (M0 : MT) (ops : Array Oper) (s : Nat) (late : Nat → Bool) (sid : OId) (scs : List AV) (i : Nat) (l : List Oper) (R : AS → Prop) (σ : AS) : Prop :=
  ∃ evs σF, ChainT P w0 M0 ops s late sid scs i l σ evs σF ∧ R σF
section
variable {P : Program} {w0 : World} {M0 : MT} {ops : Array Oper} {R : AS → Prop} {rest : List Oper} {σ : AS} {s : Nat} {late : Nat → Bool} {sid : OId} {scs : List AV} {i : Nat}
theorem ne_of_beqf {a b : Nat} (h : Nat.beq a b = false) : a ≠ b := fun e => by subst e; simp at h
theorem AHeadT.nil (h : R σ) : AHeadT P w0 M0 ops s late sid scs i [] R σ := ⟨[], σ, ⟨rfl, rfl⟩, h⟩
theorem AHeadT.call {d : Option Tmp} {op : Op} {ty : TypeId} {pos : String} {after : Array Edge} {e : Ev} (ho : OpAny P w0 M0 σ ⟨d, op, ty, pos, after, none⟩ e) (he : headEv e = true) (hi : Nat.beq i s = false) (hl : late i = false)
    (h : AHeadT P w0 M0 ops s late sid scs (i + 1) rest R (σ.app d e)) : AHeadT P w0 M0 ops s late sid scs i (⟨d, op, ty, pos, after, none⟩ :: rest) R σ := by
  obtain ⟨evs, σF, h1, h2⟩ := h
  exact ⟨some e :: evs, σF, .inr ⟨ne_of_beqf hi, some e, evs, rfl, ⟨rfl, ho, he⟩, fun hh => (by rw [hl] at hh; cases hh), h1⟩, h2⟩
theorem AHeadT.callL {d : Option Tmp} {op : Op} {ty : TypeId} {pos : String} {after : Array Edge} {v : AV} (ho : OpAny P w0 M0 σ ⟨d, op, ty, pos, after, none⟩ (.val v)) (hi : Nat.beq i s = false) (hn : noRefs sid σ op = true)
    (h : AHeadT P w0 M0 ops s late sid scs (i + 1) rest R (σ.app d (.val v))) : AHeadT P w0 M0 ops s late sid scs i (⟨d, op, ty, pos, after, none⟩ :: rest) R σ := by
  obtain ⟨evs, σF, h1, h2⟩ := h
  exact ⟨some (.val v) :: evs, σF, .inr ⟨ne_of_beqf hi, some (.val v), evs, rfl, ⟨rfl, ho, rfl⟩, fun _ => ⟨hn, rfl⟩, h1⟩, h2⟩
theorem AHeadT.store {o : Oper} (ho : OpAny P w0 M0 σ o (.stor sid scs)) (hi : Nat.beq i s = true)
    (h : AHeadT P w0 M0 ops s late sid scs (i + 1) rest R σ) : AHeadT P w0 M0 ops s late sid scs i (o :: rest) R σ := by
  obtain ⟨evs, σF, h1, h2⟩ := h
  exact ⟨none :: evs, σF, .inl ⟨Nat.eq_of_beq_eq_true hi, ho, evs, rfl, h1⟩, h2⟩
end

def drawTOk (ops : Array Oper) (s : Nat) (late : Nat → Bool) : Bool :=
  Nat.blt s ops.size &&
  ((List.range ops.size).all fun i => Nat.beq i s || match ops[i]? with
    | none => false
    | some o => match o.dst with
      | none => false
      | some d => ((List.range ops.size).all fun j => Nat.beq j i || !(match dstOf ops j with | some d' => Nat.beq d' d | none => false)) &&
        ((readsOf ops o).all fun t => (List.range ops.size).all fun j => !(match dstOf ops j with | some d' => Nat.beq d' t | none => false) || (Nat.blt j i && Region.waitsFor .any ops i j))) &&
  ((List.range ops.size).all fun i => match ops[i]? with
    | none => true
    | some o => o.after.all fun e => !Region.binds .any e || Nat.blt e.on i) &&
  (match ops[s]? with
    | none => false
    | some o => o.dst.isNone && o.guard.isNone && (readsOf ops o).all fun t => (List.range ops.size).all fun j => !(match dstOf ops j with | some d' => Nat.beq d' t | none => false) || (Nat.blt j s && Region.waitsFor .any ops s j)) &&
  ((List.range ops.size).all fun i => Nat.beq i s || (late i || Region.waitsFor .any ops s i))

structure DrawTFacts (ops : Array Oper) (s : Nat) (late : Nat → Bool) : Prop where
  le : s < ops.size
  dst : ∀ i, i < ops.size → i ≠ s → ∃ o d, ops[i]? = some o ∧ o.dst = some d ∧ (∀ j, j < ops.size → dstOf ops j = some d → j = i) ∧
    ∀ t ∈ readsOf ops o, ∀ j, j < ops.size → dstOf ops j = some t → j < i ∧ Region.waitsFor .any ops i j = true
  down : ∀ i o, ops[i]? = some o → ∀ e ∈ o.after, Region.binds .any e = true → e.on < i
  store : ∃ o, ops[s]? = some o ∧ o.dst = none ∧ o.guard = none ∧ ∀ t ∈ readsOf ops o, ∀ j, j < ops.size → dstOf ops j = some t → j < s ∧ Region.waitsFor .any ops s j = true
  late : ∀ i, i < ops.size → i ≠ s → late i = true ∨ Region.waitsFor .any ops s i = true

theorem drawTFacts {ops : Array Oper} {s : Nat} {late : Nat → Bool} (h : drawTOk ops s late = true) : DrawTFacts ops s late := by
  unfold drawTOk at h
  simp only [Bool.and_eq_true] at h
  obtain ⟨⟨⟨⟨h1, h2⟩, h3⟩, h6⟩, h7⟩ := h
  refine ⟨ltB h1, fun i hi his => ?_, fun i o ho e he hb => ?_, ?_, fun i hi his => ?_⟩
  · have := List.all_eq_true.1 h2 i (List.mem_range.2 hi)
    rw [beq_ff his, Bool.false_or] at this
    split at this
    · cases this
    · rename_i o ho
      split at this
      · cases this
      · rename_i d hd
        simp only [Bool.and_eq_true] at this
        refine ⟨o, d, ho, hd, fun j hj hdj => ?_, fun t ht j hj hdj => ?_⟩
        · have := List.all_eq_true.1 this.1 j (List.mem_range.2 hj)
          rw [hdj] at this
          simp only [Bool.or_eq_true] at this
          rcases this with hh | hh
          · exact Nat.eq_of_beq_eq_true hh
          · simp at hh
        · have := beq_opt (List.all_eq_true.1 (List.all_eq_true.1 this.2 t ht) j (List.mem_range.2 hj)) hdj
          simp only [Bool.and_eq_true] at this
          exact ⟨ltB this.1, this.2⟩
  · have hi : i < ops.size := (Array.getElem?_eq_some_iff.1 ho).1
    have := List.all_eq_true.1 h3 i (List.mem_range.2 hi)
    rw [ho] at this
    have := Array.all_eq_true_iff_forall_mem.1 this e he
    simp only [hb, Bool.not_true, Bool.false_or] at this
    exact ltB this
  · split at h6
    · cases h6
    · rename_i o ho
      simp only [Bool.and_eq_true] at h6
      refine ⟨o, ho, by simpa using h6.1.1, by simpa using h6.1.2, fun t ht j hj hdj => ?_⟩
      have := beq_opt (List.all_eq_true.1 (List.all_eq_true.1 h6.2 t ht) j (List.mem_range.2 hj)) hdj
      simp only [Bool.and_eq_true] at this
      exact ⟨ltB this.1, this.2⟩
  · have := List.all_eq_true.1 h7 i (List.mem_range.2 hi)
    rw [beq_ff his] at this
    simpa using this

theorem writerT_iff {ops : Array Oper} {s : Nat} {late : Nat → Bool} (F : DrawTFacts ops s late) (t j : Nat) : writer ops ops.size t = some j ↔ j < ops.size ∧ dstOf ops j = some t := by
  constructor
  · intro h
    have h1 := List.find?_some h
    have h2 := List.mem_of_find?_eq_some h
    exact ⟨List.mem_range.1 h2, by simpa using h1⟩
  · intro ⟨h1, h2⟩
    cases hw : writer ops ops.size t with
    | none =>
      have := List.find?_eq_none.1 hw j (List.mem_range.2 h1)
      simp [h2] at this
    | some k =>
      have hk1 := List.find?_some hw
      have hk2 := List.mem_range.1 (List.mem_of_find?_eq_some hw)
      have hjs : j ≠ s := fun e => by
        obtain ⟨o, q1, q2, _⟩ := F.store
        subst e; simp [dstOf, q1, q2] at h2
      obtain ⟨o, d, p1, p2, p3, _⟩ := F.dst j h1 hjs
      have hd : dstOf ops j = some d := by simp [dstOf, p1, p2]
      have hdt : d = t := Option.some.inj (hd.symm.trans h2)
      subst hdt
      rw [p3 k hk2 (by simpa using hk1)]

theorem mix_same {σ : AS} {W : Nat → Option Nat} {E : Nat → Option Ev} {S S' : Nat → Bool} (h : ∀ t j, W t = some j → S j = S' j) : mix σ W E S = mix σ W E S' := by
  apply AS.ext'
  · rfl
  · intro t; simp only [mix]; cases hw : W t with
    | none => rfl
    | some j => simp only [h t j hw]
  · intro t; simp only [mix]; cases hw : W t.1 with
    | none => rfl
    | some j => simp only [h t.1 j hw]
  · intro t; simp only [mix]; cases hw : W t.1 with
    | none => rfl
    | some j => simp only [h t.1 j hw]
  · intro t; simp only [mix]; cases hw : W t with
    | none => rfl
    | some j => simp only [h t j hw]

set_option maxHeartbeats 4000000 in
theorem AWP.drawnT {P : Program} {w0 : World} {M0 : MT} {Q : Exit → AS → Prop} {σ : AS} {id : Nat} {ops : Array Oper} (s : Nat) (late : Nat → Bool) (sid : OId) (scs : List AV) (hm : P.follows .mixedOrders = true) (hc : drawTOk ops s late = true)
    (h : AHeadT P w0 M0 ops s late sid scs 0 ops.toList (fun σF => Q .normal (stored σF sid scs)) σ) : AWP P w0 M0 (.region id ops true) Q σ := by
  intro a w ⟨x0, hr0⟩ Q' hQ
  obtain ⟨evs, σF, hch, hfin⟩ := h
  have F := drawTFacts hc
  obtain ⟨st, st0, stF, hst⟩ := hch.states
  have hlen : ops.toList.length = ops.size := by simp
  rw [hlen] at stF
  let W : Nat → Option Nat := writer ops ops.size
  let E : Nat → Option Ev := fun i => (evs[i]?).getD none
  have hget : ∀ i o, ops[i]? = some o → ops.toList[i]? = some o := fun i o ho => by rw [Array.getElem?_toList]; exact ho
  have hWs : ∀ t j, W t = some j → j ≠ s := fun t j hj e => by
    have h2 := ((writerT_iff F t j).1 hj).2
    obtain ⟨o, q1, q2, _⟩ := F.store
    subst e; simp [dstOf, q1, q2] at h2
  have hstep : ∀ i, i ≠ s → ∀ o, ops[i]? = some o → StepOk P w0 M0 ops (st i) o (E i) ∧ (late i = true → noRefs sid (st i) o.op = true ∧ valEv (E i) = true) ∧ st (i + 1) = appO (st i) o.dst (E i) := fun i his o ho => by
    obtain ⟨e, g1, g2, g3, g4⟩ := (hst i o (hget i o ho)).2 (by rw [Nat.zero_add]; exact his)
    simp only [E, g1, Option.getD_some]
    rw [Nat.zero_add] at g3
    exact ⟨g2, g3, g4⟩
  have hhead : ∀ i, i < ops.size → i ≠ s → headO (E i) = true := fun i hi his => by
    obtain ⟨o, d, p1, _⟩ := F.dst i hi his
    have := (hstep i his o p1).1
    cases hE : E i with
    | none => rfl
    | some e => rw [hE] at this; exact this.2.2
  have hW : ∀ i, i < ops.size → i ≠ s → ∀ d, dstOf ops i = some d → ∀ t, W t = some i ↔ t = d := fun i hi his d hd t => by
    rw [writerT_iff F t i]
    exact ⟨fun ⟨_, h2⟩ => Option.some.inj (h2.symm.trans hd), fun h => by subst h; exact ⟨hi, hd⟩⟩
  have hcanon : ∀ i, i ≤ ops.size → st i = mix σ W E (fun j => Nat.blt j i) := by
    intro i
    induction i with
    | zero =>
      intro _
      rw [st0]
      refine (mix_none σ W E).symm.trans ?_
      congr 1
    | succ i ih =>
      intro hi
      by_cases his : i = s
      · obtain ⟨o, p1, _⟩ := F.store
        rw [((hst i o (hget i o (by rw [his]; exact p1))).1 (by rw [Nat.zero_add]; exact his)).1, ih (by omega)]
        refine mix_same fun t j hj => ?_
        have := hWs t j hj
        by_cases hb : j < i
        · rw [bltT hb, bltT (by omega)]
        · rw [bltF hb, bltF (by omega)]
      · obtain ⟨o, d, p1, p2, _⟩ := F.dst i (by omega) his
        have hd : dstOf ops i = some d := by simp [dstOf, p1, p2]
        rw [(hstep i his o p1).2.2, p2, ih (by omega), mix_step σ W E (fun j => Nat.blt j i) (hW i (by omega) his d hd) (bltF (by omega)) (hhead i (by omega) his)]
        congr 1
        funext j
        by_cases hj : j = i
        · subst hj; rw [bltT (Nat.lt_succ_self _)]; simp
        · rw [beq_ff hj]
          by_cases hb : j < i
          · rw [bltT hb, bltT (by omega)]; rfl
          · rw [bltF hb, bltF (by omega)]; rfl
  have hmixF : ∀ listed : Array Bool, (∀ j, j < ops.size → listed.getD j false = true) → mix σ W E (fun j => listed.getD j false) = σF := fun listed hall => by
    rw [← stF, hcanon ops.size (Nat.le_refl _)]
    refine mix_same fun t j hj => ?_
    have := ((writerT_iff F t j).1 hj).1
    rw [hall j this, bltT this]
  have hcnt0 : ∀ listed : Array Bool, ((List.range ops.size).filter fun j => !listed.getD j false).length = 0 → ∀ j, j < ops.size → listed.getD j false = true := fun listed hcount j hj => by
    have : (List.range ops.size).filter (fun j => !listed.getD j false) = [] := List.eq_nil_of_length_eq_zero hcount
    have := List.filter_eq_nil_iff.1 this j (List.mem_range.2 hj)
    simpa using this
  have hcnt : ∀ (listed : Array Bool) (i : Nat), listed.size = ops.size → i < ops.size → listed.getD i false = false → ∀ l : List Nat, l.Nodup → i ∈ l → (l.filter fun j => !listed.getD j false).length = ((l.filter fun j => !(listed.setIfInBounds i true).getD j false)).length + 1 := by
    intro listed i hsz hin hunF l
    induction l with
    | nil => intro _ h; cases h
    | cons b l ihl =>
      intro hnd hmem
      have hnd' := List.nodup_cons.1 hnd
      by_cases hb : b = i
      · subst hb
        have hsame : (l.filter fun j => !(listed.setIfInBounds b true).getD j false) = l.filter fun j => !listed.getD j false := by
          apply List.filter_congr
          intro j hj
          have : b ≠ j := fun h => hnd'.1 (h ▸ hj)
          rw [getD_set_ne false this]
        have hset : (listed.setIfInBounds b true).getD b false = true := by simp [Array.getD, hsz, hin]
        rw [List.filter_cons_of_pos (by simpa using hunF), List.filter_cons_of_neg (by rw [hset]; simp), hsame]
        rfl
      · have hmem' : i ∈ l := by rcases List.mem_cons.1 hmem with h | h; exact absurd h.symm hb; exact h
        have := ihl hnd'.2 hmem'
        have hbne : (listed.setIfInBounds i true).getD b false = listed.getD b false := getD_set_ne false (Ne.symm hb)
        cases hl : listed.getD b false with
        | true => rw [List.filter_cons_of_neg (by rw [hl]; simp), List.filter_cons_of_neg (by rw [hbne, hl]; simp)]; exact this
        | false => rw [List.filter_cons_of_pos (by rw [hl]; simp), List.filter_cons_of_pos (by rw [hbne, hl]; simp), List.length_cons, List.length_cons, this]
  have hmin : ∀ (listed : Array Bool) (j : Nat), listed.getD j false = false → ∃ j', j' ≤ j ∧ listed.getD j' false = false ∧ ∀ i, i < j' → listed.getD i false = true := by
    intro listed j
    induction j using Nat.strongRecOn with
    | _ j ihn =>
      intro h2
      by_cases hh : ∃ i, i < j ∧ listed.getD i false = false
      · obtain ⟨i, hi1, hi2⟩ := hh
        obtain ⟨j', q1, q2, q3⟩ := ihn i hi1 hi2
        exact ⟨j', by omega, q2, q3⟩
      · refine ⟨j, Nat.le_refl _, h2, fun i hi => ?_⟩
        cases hl : listed.getD i false with
        | true => rfl
        | false => exact absurd ⟨i, hi, hl⟩ hh
  have hreads : ∀ i, i ≤ ops.size → ∀ o, ops[i]? = some o → (∀ t ∈ readsOf ops o, ∀ j, j < ops.size → dstOf ops j = some t → j < i ∧ Region.waitsFor .any ops i j = true) →
      ∀ listed : Array Bool, (∀ e ∈ o.after, Region.binds .any e = true → listed.getD e.on false = true) → ∀ t ∈ readsOf ops o, (mix σ W E fun j => listed.getD j false).tm t = (st i).tm t := by
    intro i him o hoi p4 listed hdeps t ht
    rw [hcanon i him]
    simp only [mix]
    cases hw : W t with
    | none => rfl
    | some j =>
      obtain ⟨q1, q2⟩ := (writerT_iff F t j).1 hw
      obtain ⟨q3, q4⟩ := p4 t ht j q1 q2
      obtain ⟨o', ho', e, he, hb, hon⟩ := Region.waitsFor_spec q4
      have : o' = o := Option.some.inj (ho'.symm.trans hoi)
      subst this
      have hl := hdeps e he hb
      rw [hon] at hl
      simp only [hl, bltT q3]
  have hevs : ∀ i, ∀ o : Oper, ∀ σ' : AS, (∀ t ∈ readsOf ops o, σ'.tm t = (st i).tm t) → ∀ y ∈ o.op.operands, σ'.ev y = (st i).ev y := by
    intro i o σ' htm y hy
    cases y with
    | tmp t => exact htm t (List.mem_append.2 (.inl (List.mem_filterMap.2 ⟨.tmp t, Array.mem_toList_iff.2 hy, rfl⟩)))
    | const v => exact ev_const _ _ v
    | global g => rfl
    | func f => rfl
  have hn : ∀ i, i ≤ ops.size → ∀ listed : Array Bool, (mix σ W E fun j => listed.getD j false).n = (st i).n := fun i hi listed => by rw [hcanon i hi]; rfl
  have hag : ∀ i, i ≤ ops.size → ∀ o, ∀ listed : Array Bool, (∀ t ∈ readsOf ops o, (mix σ W E fun j => listed.getD j false).tm t = (st i).tm t) →
      ∀ σs a w X, σs.tm = (mix σ W E fun j => listed.getD j false).tm → σs.gen = (mix σ W E fun j => listed.getD j false).gen → RelW w0 M0 σs a w X → Agree (st i) (mix σ W E fun j => listed.getD j false) o.op := by
    intro i him o listed htm σs a w X hs1 hs2 hx
    refine ⟨hn i him listed, hevs i o _ htm, fun y hy id off cs hyr hycs => ?_⟩
    have hev : (mix σ W E fun j => listed.getD j false).ev y = .ref id off := (hevs i o _ htm y hy).trans hyr
    have hse : σs.ev y = (mix σ W E fun j => listed.getD j false).ev y := by
      cases y with
      | tmp t => exact congrFun hs1 t
      | const v => exact ev_const _ _ v
      | global g => rfl
      | func f => rfl
    have hVR := hx.ev y
    rw [hse, hev] at hVR
    have hVs : ∃ b, X.V id = some b := by
      generalize a.eval y = cv at hVR
      cases hVR with
      | ref _ _ b hb => exact ⟨b, hb⟩
    obtain ⟨b, hVb⟩ := hVs
    have hglt : id.2 < (mix σ W E fun j => listed.getD j false).gen id.1 := by
      rcases Nat.lt_or_ge id.2 ((mix σ W E fun j => listed.getD j false).gen id.1) with h | h
      · exact h
      · have := (hx.fresh id.1 id.2 (by rw [hs2]; exact h)).1
        have h2 : X.V (id.1, id.2) = some b := hVb
        rw [this] at h2; cases h2
    rw [hcanon i him] at hycs
    simp only [mix] at hycs hglt ⊢
    cases hw : W id.1 with
    | none => rw [hw] at hycs; exact hycs
    | some j =>
      simp only [hw] at hycs hglt ⊢
      have hσ0 : ∀ cs, σ.va id = some cs → id.2 < σ.gen id.1 := fun cs h => hr0.vgen id.1 id.2 cs h
      cases hji : Nat.blt j i with
      | true =>
        rw [hji] at hycs
        cases hlj : listed.getD j false with
        | true => exact hycs
        | false =>
          simp only [hlj, cond_false] at hglt ⊢
          simp only [cond_true] at hycs
          cases hEj : E j with
          | none => rw [hEj] at hycs; exact hycs
          | some ej =>
            rw [hEj] at hycs
            cases ej with
            | alloc cs' =>
              simp only [vaA] at hycs
              rw [beq_ff (by omega : id.2 ≠ σ.gen id.1)] at hycs
              exact hycs
            | allocA cs' _ =>
              simp only [vaA] at hycs
              rw [beq_ff (by omega : id.2 ≠ σ.gen id.1)] at hycs
              exact hycs
            | val v => exact hycs
            | fresh v n z e => exact hycs
            | grow => exact hycs
            | stor => exact hycs
            | lend => exact hycs
            | spend => exact hycs
      | false =>
        rw [hji] at hycs
        simp only [cond_false] at hycs
        cases hlj : listed.getD j false with
        | false => exact hycs
        | true =>
          simp only [cond_true]
          have := hσ0 cs hycs
          cases hEj : E j with
          | none => exact hycs
          | some ej =>
            cases ej with
            | alloc cs' =>
              simp only [vaA]
              rw [beq_ff (by omega : id.2 ≠ σ.gen id.1)]
              exact hycs
            | allocA cs' _ =>
              simp only [vaA]
              rw [beq_ff (by omega : id.2 ≠ σ.gen id.1)]
              exact hycs
            | val v => exact hycs
            | fresh v n z e => exact hycs
            | grow => exact hycs
            | stor => exact hycs
            | lend => exact hycs
            | spend => exact hycs
  refine wp_region_any hm ?_
  have main : ∀ (k : Nat) (listed : Array Bool) (a : Act) (w : World), listed.size = ops.size → (∀ j oj, ops[j]? = some oj → listed.getD j false = true → ∀ e ∈ oj.after, Region.binds .any e = true → listed.getD e.on false = true) →
      ((List.range ops.size).filter fun j => !listed.getD j false).length = k →
      Rel w0 M0 (bif listed.getD s false then stored (mix σ W E fun j => listed.getD j false) sid scs else mix σ W E fun j => listed.getD j false) a w → wpAny P .any ops Q' k listed a w := by
    intro k
    induction k with
    | zero =>
      intro listed a w hsz hclosed hcount hr
      have hall := hcnt0 listed hcount
      refine ⟨List.eq_nil_iff_forall_not_mem.2 fun i hi => ?_, ?_⟩
      · obtain ⟨hun, oi, hoi, _⟩ := mem_ready.1 hi
        have := getD_both hun
        rw [hall i (Array.getElem?_eq_some_iff.1 hoi).1] at this
        cases this
      · rw [hall s F.le, hmixF listed hall] at hr
        exact hQ _ _ a w hfin hr
    | succ k ih =>
      intro listed a w hsz hclosed hcount hr
      have hex : ∃ j, j < ops.size ∧ listed.getD j false = false := by
        have : (List.range ops.size).filter (fun j => !listed.getD j false) ≠ [] := fun h => by rw [h] at hcount; simp at hcount
        obtain ⟨j, hj⟩ := List.exists_mem_of_ne_nil _ this
        obtain ⟨h1, h2⟩ := List.mem_filter.1 hj
        exact ⟨j, List.mem_range.1 h1, by simpa using h2⟩
      obtain ⟨j0, hj0, hj0'⟩ := hex
      obtain ⟨j, hj1, hj2, hj3⟩ := hmin listed j0 hj0'
      have hjs : j < ops.size := by omega
      refine ⟨fun hno => ?_, fun i hi => ?_⟩
      · exfalso
        have hready : j ∈ Region.ready .any ops listed := mem_ready.2 ⟨getD_in (by rw [hsz]; exact hjs) hj2, ops[j], Array.getElem?_eq_getElem hjs, fun e he hb => hj3 e.on (F.down j _ (Array.getElem?_eq_getElem hjs) e he hb)⟩
        rw [hno] at hready
        cases hready
      · obtain ⟨hun, oi, hoi, hdeps⟩ := mem_ready.1 hi
        have hin : i < ops.size := (Array.getElem?_eq_some_iff.1 hoi).1
        have hunF : listed.getD i false = false := getD_both hun
        have hone := hcnt listed i hsz hin hunF (List.range ops.size) List.nodup_range (List.mem_range.2 hin)
        have hclosed' : ∀ j oj, ops[j]? = some oj → (listed.setIfInBounds i true).getD j false = true → ∀ e ∈ oj.after, Region.binds .any e = true → (listed.setIfInBounds i true).getD e.on false = true := fun j oj hj hl e he hb => by
          by_cases hij : i = j
          · subst hij
            have : oj = oi := Option.some.inj (hj.symm.trans hoi)
            subst this
            exact getD_set_true (hdeps e he hb)
          · rw [getD_set_ne false hij] at hl
            exact getD_set_true (hclosed j oj hj hl e he hb)
        by_cases his : i = s
        · subst his
          rw [hunF] at hr
          simp only [cond_false] at hr
          obtain ⟨X, hx⟩ := hr
          obtain ⟨so, p1, p2, p3, p4⟩ := F.store
          have : so = oi := Option.some.inj (p1.symm.trans hoi)
          subst this
          have hso2 := ((hst i so (hget i so hoi)).1 (Nat.zero_add _)).2
          have htm := hreads i (Nat.le_of_lt hin) so hoi p4 listed hdeps
          have hA := hag i (Nat.le_of_lt hin) so listed htm _ a w X rfl rfl hx
          unfold wpOp
          simp only [hoi]
          have hw : Region.wanted so (yielded ops a.tmps) = true := by unfold Region.wanted; rw [p3]
          rw [hw]
          simp only [if_true]
          refine .inl (hso2 _ hA a w ⟨X, hx⟩ _ _ fun a' w' hr' => ?_)
          rw [p2, stored_app] at hr'
          have hmixS : (mix σ W E fun j => listed.getD j false) = mix σ W E fun j => (listed.setIfInBounds i true).getD j false := by
            refine mix_same fun t j hj => ?_
            have := hWs t j hj
            rw [getD_set_ne false (Ne.symm this)]
          refine ih (listed.setIfInBounds i true) a' w' (by simp [hsz]) hclosed' (by omega) ?_
          rw [show (listed.setIfInBounds i true).getD i false = true by simp [Array.getD, hsz, hin]]
          simp only [cond_true]
          rw [← hmixS]; exact hr'
        · obtain ⟨o, d, p1, p2, p3, p4⟩ := F.dst i hin his
          have : o = oi := Option.some.inj (p1.symm.trans hoi)
          subst this
          have hd : dstOf ops i = some d := by simp [dstOf, p1, p2]
          have hsset : (listed.setIfInBounds i true).getD s false = listed.getD s false := getD_set_ne false his
          have hS : (fun j => bif Nat.beq j i then true else listed.getD j false) = fun j => (listed.setIfInBounds i true).getD j false := by
            funext j
            by_cases hj : j = i
            · subst hj; simp [Array.getD, hsz, hin]
            · rw [beq_ff hj, getD_set_ne false (Ne.symm hj)]; rfl
          have htm := hreads i (Nat.le_of_lt hin) o hoi p4 listed hdeps
          obtain ⟨hso, hlt, _⟩ := hstep i his o hoi
          have key : ∀ σs : AS, σs.tm = (mix σ W E fun j => listed.getD j false).tm → σs.gen = (mix σ W E fun j => listed.getD j false).gen → σs.n = (mix σ W E fun j => listed.getD j false).n →
              (∀ X, RelW w0 M0 σs a w X → Agree (st i) σs o.op) → Rel w0 M0 σs a w →
              (∀ a' w', Rel w0 M0 (appO σs (some d) (E i)) a' w' → wpAny P .any ops Q' k (listed.setIfInBounds i true) a' w') → wpOp P ops Q' i (wpAny P .any ops Q' k (listed.setIfInBounds i true)) a w := by
            intro σs e1 e2 e3 hagr ⟨X, hx⟩ next
            have hguard : ∀ b, GoOk ops (st i) o b → Region.wanted o (yielded ops a.tmps) = b := fun b hg => wanted_of hx (e3.trans (hn i (Nat.le_of_lt hin) listed)) (fun t ht => by rw [e1]; exact htm t ht) hg
            unfold wpOp
            simp only [hoi]
            cases hE : E i with
            | none =>
              rw [hE] at hso next
              rw [hguard false hso.1]
              simp only [Bool.false_eq_true, if_false]
              rw [p2]
              refine next _ _ ⟨X, hx.put (d := some d) ?_ (.sc undef)⟩
              have := hso.2
              rw [p2] at this
              show d < σs.n
              rw [e3, hn i (Nat.le_of_lt hin) listed]
              exact this
            | some e =>
              rw [hE] at hso next
              obtain ⟨s1, s2, s3⟩ := hso
              rw [hguard true s1]
              simp only [if_true]
              exact .inl (s2 σs (hagr X hx) a w ⟨X, hx⟩ _ _ fun a' w' hr' => next a' w' (by rw [p2] at hr'; exact hr'))
          cases hls : listed.getD s false with
          | false =>
            rw [hls] at hr hsset
            simp only [cond_false] at hr
            refine key _ rfl rfl rfl (fun X hx => hag i (Nat.le_of_lt hin) o listed htm _ a w X rfl rfl hx) hr fun a' w' hr' => ?_
            rw [mix_step σ W E _ (hW i hin his d hd) hunF (hhead i hin his), hS] at hr'
            refine ih (listed.setIfInBounds i true) a' w' (by simp [hsz]) hclosed' (by omega) ?_
            rw [hsset]; exact hr'
          | true =>
            rw [hls] at hr hsset
            simp only [cond_true] at hr
            have hlate : late i = true := by
              rcases F.late i hin his with h | h
              · exact h
              · exfalso
                obtain ⟨o', ho', e, he, hb, hon⟩ := Region.waitsFor_spec h
                have := hclosed s o' ho' hls e he hb
                rw [hon, hunF] at this; cases this
            obtain ⟨hnr, hve⟩ := hlt hlate
            refine key (stored (mix σ W E fun j => listed.getD j false) sid scs) rfl rfl rfl (fun X hx => ⟨hn i (Nat.le_of_lt hin) listed, hevs i o _ htm, fun y hy id off cs hyr hycs => ?_⟩) hr fun a' w' hr' => ?_
            · have h9 := List.all_eq_true.1 hnr y (Array.mem_toList_iff.2 hy)
              rw [hyr] at h9
              have hne : id ≠ sid := fun hh => by subst hh; simp at h9
              show updO (mix σ W E fun j => listed.getD j false).va sid (some scs) id = some cs
              rw [updO_ne _ _ hne]
              exact (hag i (Nat.le_of_lt hin) o listed htm (stored (mix σ W E fun j => listed.getD j false) sid scs) a w X rfl rfl hx).va y hy id off cs hyr hycs
            · rw [stored_appO hve, mix_step σ W E _ (hW i hin his d hd) hunF (hhead i hin his), hS] at hr'
              refine ih (listed.setIfInBounds i true) a' w' (by simp [hsz]) hclosed' (by omega) ?_
              rw [hsset]; exact hr'
  have hstart := main ((List.range ops.size).filter fun j => !(Array.replicate ops.size false).getD j false).length (Array.replicate ops.size false) a { w with drawn := w.drawn + 1 } (by simp)
    (fun j oj _ hl => by rw [getD_replicate_false] at hl; cases hl) rfl
    (by
      have : (fun j => (Array.replicate ops.size false).getD j false) = fun _ => false := by funext j; exact getD_replicate_false _ _
      rw [getD_replicate_false, this, mix_none]
      exact ⟨x0, hr0.drew⟩)
  have hk : ((List.range ops.size).filter fun j => !(Array.replicate ops.size false).getD j false).length = ops.size := by
    rw [List.filter_eq_self.2 (fun j _ => by rw [getD_replicate_false]; rfl)]
    simp
  rw [hk] at hstart
  exact hstart
end Go.Ab
