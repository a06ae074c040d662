/- Calls: what a function does, told of values alone. Nothing here speaks of one program. -/
import Derived.Test.YtnnohkbgjdmjdaaGreatAb7
namespace Go.Ab
open Go.RowKit

/-- What a call gives back: with 'fr', one growing slice among it that is the caller's own. -/
def Res (w : World) (M : Nat → Option Nat) (w' : World) (r : AV) (fr : Option (Nat × Nat × TypeId)) (v : Value) : Prop :=
  match fr with
  | none => VR w' M noV noG r v
  | some (n, z, e) => ∃ l : GL, l.cnt = n ∧ n ≤ l.cap ∧ l.cap ≤ maxLen ∧ (l.blk = none → l.cap = 0) ∧
      (∀ b, l.blk = some b → w.heap.size ≤ b ∧ ∃ vs, w'.heap[b]? = some (.cells vs e (0, 0)) ∧ vs.size = l.cap * z) ∧
      VR w' (match l.blk with | some b => upd M b (some (n * z)) | none => M) noV (updO noG (0, 0) (some l)) r v

/-- Called with values that are told by args, in whatever memory, f returns what r tells, and nothing that was there has changed. -/
def FSpecG (P : Program) (Γ : World → Prop) (f : FuncId) (args : List AV) (r : AV) (fr : Option (Nat × Nat × TypeId)) : Prop :=
  ∀ (w : World) (M : Nat → Option Nat) (vals : List Value), Γ w → args.length = vals.length →
    (∀ (i : Nat) x v, args[i]? = some x → vals[i]? = some v → VR w M noV noG x v) → (∀ b, w.heap.size ≤ b → M b = none) →
    Calls P f vals.toArray w fun e w' => ∃ v, e = .returned v ∧ Below w.heap.size w w' ∧ Res w M w' r fr v

/-- The same, of whatever memory. -/
def FSpec (P : Program) (f : FuncId) (args : List AV) (r : AV) (fr : Option (Nat × Nat × TypeId)) : Prop := FSpecG P (fun _ => True) f args r fr

/-- A premise on what the package's variables hold: nothing that a call does changes it. -/
def Stable (Γ : World → Prop) : Prop := ∀ w w', Below w.heap.size w w' → Γ w → Γ w'

theorem FSpec.toG {P : Program} {Γ : World → Prop} {f args r fr} (h : FSpec P f args r fr) : FSpecG P Γ f args r fr := fun w M vals _ => h w M vals trivial

/-- The function f has a body. -/
def Body (P : Program) (f : FuncId) : Prop := ∀ (args : Array Value) (w : World), (callFunc f args).run P w = .ok (.enter f args) w

theorem imm_below {M : Nat → Option Nat} {w w' : World} (h : Below w.heap.size w w') {b off : Nat} {y : Value} (hi : Imm w M b off y) : Imm w' M b off y := by
  have hb : b < w.heap.size := by
    rcases Nat.lt_or_ge b w.heap.size with h' | h'
    · exact h'
    · have := hi.1; simp [World.cell?, Array.getElem?_eq_none h'] at this
  exact ⟨by rw [cell?_same (h.block b hb)]; exact hi.1, hi.2⟩

theorem VR.ren' {w M V G x v} {id : OId} {l : GL} (h : VR w M V G x v) : V = noV → G = updO noG (0, 0) (some l) → ∀ V' G', G' id = some l → VR w M V' G' (x.ren id) v := by
  induction h with
  | any v => intro _ _ V' G' _; exact .any v
  | sc v => intro _ _ V' G' _; exact .sc v
  | agg cs vs hl h1 _ ih =>
    intro h2 h3 V' G' hg
    obtain ⟨r1, r2⟩ := renL_get id cs
    refine .agg _ vs (by rw [r1]; exact hl) h1 fun i c v hc hv => ?_
    rw [r2, Option.map_eq_some_iff] at hc
    obtain ⟨c', hc', rfl⟩ := hc
    exact ih i c' v hc' hv h2 h3 V' G' hg
  | tup cs vs hl _ ih =>
    intro h2 h3 V' G' hg
    obtain ⟨r1, r2⟩ := renL_get id cs
    refine .tup _ vs (by rw [r1]; exact hl) fun i c v hc hv => ?_
    rw [r2, Option.map_eq_some_iff] at hc
    obtain ⟨c', hc', rfl⟩ := hc
    exact ih i c' v hc' hv h2 h3 V' G' hg
  | ref id' off b h => intro h2; subst h2; cases h
  | arr id' off n c b cap h h1 hc => intro h2; subst h2; cases h
  | rd cs b off X hc hv _ => intro _ _ V' G' _; exact .rd cs b off X hc hv
  | sl0 a c => intro _ _ V' G' _; exact .sl0 a c
  | nil0 a => intro _ _ V' G' _; exact .nil0 a
  | sl es z b off cap X hz hcap hc hv _ => intro _ _ V' G' _; exact .sl es z b off cap X hz hcap hc hv
  | own id' es v h g hg hle heq _ =>
    intro _ h3 V' G' hg'
    subst h3
    have hid : id' = (0, 0) := by
      by_cases hh : id' = (0, 0)
      · exact hh
      · rw [updO_ne _ _ hh] at hg; cases hg
    subst hid
    rw [updO_same] at hg
    cases hg
    exact .own id es v h _ hg' hle heq
  | clo f cs vs hl _ ih =>
    intro h2 h3 V' G' hg
    obtain ⟨r1, r2⟩ := renL_get id cs
    refine .clo f _ vs (by rw [r1]; exact hl) fun i c v hc hv => ?_
    rw [r2, Option.map_eq_some_iff] at hc
    obtain ⟨c', hc', rfl⟩ := hc
    exact ih i c' v hc' hv h2 h3 V' G' hg
  | bnd f cs vs hl _ ih =>
    intro h2 h3 V' G' hg
    obtain ⟨r1, r2⟩ := renL_get id cs
    refine .bnd f _ vs (by rw [r1]; exact hl) fun i c v hc hv => ?_
    rw [r2, Option.map_eq_some_iff] at hc
    obtain ⟨c', hc', rfl⟩ := hc
    exact ih i c' v hc' hv h2 h3 V' G' hg
  | ifc t x v _ ih => intro h2 h3 V' G' hg; exact .ifc t _ v (ih h2 h3 V' G' hg)

section
variable {w0 : World} {M0 : MT} {σ : AS} {a : Act} {w : World} {x : Wit}

/-- All that was there is as it was. -/
theorem RelW.world (h : RelW w0 M0 σ a w x) {w' : World} (hb : Below w.heap.size w w') : RelW w0 M0 σ a w' x := by
  have himm : ∀ b off y, Imm w x.M b off y → Imm w' x.M b off y := fun b off y hi => imm_below hb hi
  constructor
  · exact h.below.trans (hb.mono h.below.size)
  · exact h.defers
  · exact h.size
  · exact fun i => (h.tm i).mono himm fun _ _ hh => hh.of_eq (hb.block _ hh.lt)
  · exact h.m0
  · exact fun b hb' => h.mlt b (Nat.le_trans hb.size hb')
  · exact h.fresh
  · exact h.lent
  · intro id cs hv
    obtain ⟨b, vs, ty, h1, h2, h3, h4, h5, h6, h7⟩ := h.va id cs hv
    exact ⟨b, vs, ty, h1, h2, h3, h4, by rw [hb.block b (lt_of_cells h5)]; exact h5, h6, fun j c hj => by
      obtain ⟨v, g1, g2, g3⟩ := h7 j c hj
      exact ⟨v, g1, g2, g3.mono himm fun _ _ hh => hh.of_eq (hb.block _ hh.lt)⟩⟩
  · exact h.vgen
  · intro id n z e hg
    obtain ⟨l, h1, h2, h3, h3', h4, h5⟩ := h.gr id n z e hg
    refine ⟨l, h1, h2, h3, h3', h4, fun b hbl => ?_⟩
    obtain ⟨g1, g2, g3, vs, g4, g5⟩ := h5 b hbl
    exact ⟨g1, g2, g3, vs, by rw [hb.block b (lt_of_cells g4)]; exact g4, g5⟩
  · exact h.ggen

/-- A growing slice that a call has given back. -/
theorem RelW.callGrow (h : RelW w0 M0 σ a w x) {d : Tmp} (hd : d < σ.n) {w1 : World} (hb : Below w.heap.size w w1) {r : AV} {n z : Nat} {e : TypeId} {cv : Value}
    (hres : Res w x.M w1 r (some (n, z, e)) cv) : Rel w0 M0 (σ.app (some d) (.fresh r n z e)) (a.put (some d) cv) w1 := by
  obtain ⟨l, l1, l2, l3, l4, l5, l6⟩ := hres
  have hbs := h.below.size
  have hnn := (h.fresh d (σ.gen d) (Nat.le_refl _)).2
  have hs' : d < a.tmps.size := by rw [h.size]; exact hd
  have hnew : ∀ b, l.blk = some b → w.heap.size ≤ b ∧ b < w1.heap.size := fun b hbl => by
    obtain ⟨p1, vs, p2, _⟩ := l5 b hbl
    exact ⟨p1, lt_of_cells p2⟩
  generalize hM : (match l.blk with | some b => upd x.M b (some (n * z)) | none => x.M) = M1 at l6
  have hM1 : ∀ b, (∀ b', l.blk = some b' → b ≠ b') → M1 b = x.M b := fun b hne => by
    subst hM
    cases hbl : l.blk with
    | none => rfl
    | some b' => exact upd_ne _ _ (hne b' hbl)
  let ow1 : Nat → Option (Bool × OId) := match l.blk with | some b => upd x.ow b (some (false, (d, σ.gen d))) | none => x.ow
  have how1 : ∀ b, (∀ b', l.blk = some b' → b ≠ b') → ow1 b = x.ow b := fun b hne => by
    simp only [ow1]
    cases hbl : l.blk with
    | none => rfl
    | some b' => exact upd_ne _ _ (hne b' hbl)
  have hold : ∀ b, b < w.heap.size → ∀ b', l.blk = some b' → b ≠ b' := fun b hlt b' hbl => by have := (hnew b' hbl).1; omega
  have himm : ∀ b off y, Imm w x.M b off y → Imm w1 M1 b off y := fun b off y hi => by
    have hlt : b < w.heap.size := by
      rcases Nat.lt_or_ge b w.heap.size with h' | h'
      · exact h'
      · have := hi.1; simp [World.cell?, Array.getElem?_eq_none h'] at this
    have h1 := imm_below hb hi
    exact ⟨h1.1, h1.2.1, by rw [hM1 b (hold b hlt)]; exact h1.2.2⟩
  have lift : ∀ {c v}, VR w x.M x.V x.G c v → VR w1 M1 x.V (updO x.G (d, σ.gen d) (some l)) c v := fun hv => locsG hnn (hv.mono himm fun _ _ hh => hh.of_eq (hb.block _ hh.lt))
  refine ⟨⟨M1, x.V, updO x.G (d, σ.gen d) (some l), ow1⟩, ?_⟩
  constructor
  · exact h.below.trans (hb.mono hbs)
  · exact h.defers
  · show (a.tmps.setIfInBounds d _).size = σ.n
    rw [Array.size_setIfInBounds]; exact h.size
  · intro i
    rw [getD_put a d i _ hs']
    show VR _ _ _ _ (upd σ.tm d _ i) _
    by_cases hi : i = d
    · subst hi
      rw [upd_same, if_pos rfl]
      exact l6.ren' rfl rfl _ _ (updO_same _ _ _)
    · rw [upd_ne _ _ hi, if_neg hi]
      exact lift (h.tm i)
  · intro b hb' ht
    show M1 b = M0.m b
    rw [hM1 b (hold b (by omega))]; exact h.m0 b hb' ht
  · intro b hb'
    have hne : ∀ b', l.blk = some b' → b ≠ b' := fun b' hbl => by have := (hnew b' hbl).2; omega
    show M1 b = none ∧ ow1 b = none
    rw [hM1 b hne, how1 b hne]
    exact h.mlt b (Nat.le_trans hb.size hb')
  · intro d' g hg
    show x.V (d', g) = none ∧ updO x.G (d, σ.gen d) _ (d', g) = none
    have hg' : σ.gen d' ≤ g ∧ (d', g) ≠ (d, σ.gen d) := by
      change upd σ.gen d (σ.gen d + 1) d' ≤ g at hg
      by_cases hdd : d' = d
      · subst hdd; rw [upd_same] at hg
        exact ⟨by omega, fun e => by have := (Prod.mk.inj e).2; omega⟩
      · rw [upd_ne _ _ hdd] at hg
        exact ⟨hg, fun e => hdd (Prod.mk.inj e).1⟩
    rw [updO_ne _ _ hg'.2]
    exact h.fresh d' g hg'.1
  · intro id b hid
    obtain ⟨h1, h2, h3, h4⟩ := h.lent id b hid
    refine ⟨h1, h2, ?_, h4⟩
    show 0 < upd σ.gen d _ id.1
    rw [upd_ne _ _ (fun e => by subst e; exact absurd h1 (Nat.not_le_of_lt hd))]; exact h3
  · intro id cs' hv
    obtain ⟨b, vs', ty', h1, h2, h3, h4, h5, h6, h7⟩ := h.va id cs' hv
    have hlt := lt_of_cells h5
    refine ⟨b, vs', ty', h1, h2, by show ow1 b = _; rw [how1 b (hold b hlt)]; exact h3, by show M1 b = _; rw [hM1 b (hold b hlt)]; exact h4, by rw [hb.block b hlt]; exact h5, h6, fun j c hj => ?_⟩
    obtain ⟨v, g1, g2, g3⟩ := h7 j c hj
    exact ⟨v, g1, g2, lift g3⟩
  · intro d' g cs' hv
    have := h.vgen d' g cs' hv
    show g < upd σ.gen d (σ.gen d + 1) d'
    by_cases hdd : d' = d
    · subst hdd; rw [upd_same]; omega
    · rw [upd_ne _ _ hdd]; exact this
  · intro id n' z' e' hg
    change updO σ.gr (d, σ.gen d) (some (n, z, e)) id = some (n', z', e') at hg
    by_cases hid : id = (d, σ.gen d)
    · subst hid
      rw [updO_same] at hg
      cases hg
      refine ⟨l, updO_same _ _ _, l1, l2, l3, l4, fun b hbl => ?_⟩
      obtain ⟨p1, vs, p2, p3⟩ := l5 b hbl
      refine ⟨.inl (by omega), ?_, ?_, vs, p2, p3⟩
      · show ow1 b = _
        simp only [ow1, hbl]; exact upd_same _ _ _
      · show M1 b = _
        subst hM; simp only [hbl]; exact upd_same _ _ _
    · rw [updO_ne _ _ hid] at hg
      obtain ⟨l', h1, h2, h3, h3', h4, h5⟩ := h.gr id n' z' e' hg
      refine ⟨l', by show updO x.G _ _ id = _; rw [updO_ne _ _ hid]; exact h1, h2, h3, h3', h4, fun b hbl => ?_⟩
      obtain ⟨g1, g2, g3, vs', g4, g5⟩ := h5 b hbl
      have hlt := lt_of_cells g4
      exact ⟨g1, by show ow1 b = _; rw [how1 b (hold b hlt)]; exact g2, by show M1 b = _; rw [hM1 b (hold b hlt)]; exact g3, vs', by rw [hb.block b hlt]; exact g4, g5⟩
  · intro d' g nz hg
    change updO σ.gr (d, σ.gen d) (some (n, z, e)) (d', g) = some nz at hg
    show g < upd σ.gen d (σ.gen d + 1) d'
    by_cases hid : (d', g) = (d, σ.gen d)
    · cases hid; rw [upd_same]; omega
    · rw [updO_ne _ _ hid] at hg
      have := h.ggen d' g nz hg
      by_cases hdd : d' = d
      · subst hdd; rw [upd_same]; omega
      · rw [upd_ne _ _ hdd]; exact this
end

/-- The event of a call. -/
def Ev.call (r : AV) : Option (Nat × Nat × TypeId) → Ev
  | none => .val r
  | some (n, z, e) => .fresh r n z e

theorem closedArgs {w M V G} {σ' : AS} {a : Act} (hev : ∀ o, VR w M V G (σ'.ev o) (a.eval o)) {σ : AS} : ∀ (l : List Operand) (cl : List AV), (∀ o ∈ l, σ'.ev o = σ.ev o) → (l.map fun o => (σ.ev o).close) = cl.map some →
    cl.length = (l.map a.eval).length ∧ ∀ (i : Nat) x v, cl[i]? = some x → (l.map a.eval)[i]? = some v → VR w M noV noG x v := fun l cl hag hcl => by
  have hlen : l.length = cl.length := by simpa using congrArg List.length hcl
  refine ⟨by simp [hlen], fun i x v hx hv => ?_⟩
  simp only [List.getElem?_map, Option.map_eq_some_iff] at hv
  obtain ⟨o, ho, rfl⟩ := hv
  have h1 : (l.map fun o => (σ.ev o).close)[i]? = some ((σ.ev o).close) := by rw [List.getElem?_map, ho]; rfl
  rw [hcl, List.getElem?_map, hx] at h1
  have h2 := hev o
  rw [hag o (List.mem_of_getElem? ho)] at h2
  exact h2.closed x (Option.some.inj h1).symm _ _

section
variable {P : Program} {w0 : World} {M0 : MT} {σ : AS} {ty : TypeId} {pos : String} {after : Array Edge} {guard : Option (Nat × Bool)}

theorem ok_call {Γ : World → Prop} {f : FuncId} {args : Array Operand} {tys : Array TypeId} {cl : List AV} {r : AV} {fr : Option (Nat × Nat × TypeId)} {d : Tmp} (hs : FSpecG P Γ f cl r fr) (hG : ∀ w, Kept w0 M0 w → Γ w) (hb : Body P f)
    (hcl : (args.toList.map fun o => (σ.ev o).close) = cl.map some) (hd : d < σ.n) :
    OpAny P w0 M0 σ ⟨some d, .call ⟨.value (.func f), args, tys⟩, ty, pos, after, guard⟩ (.call r fr) := by
  intro σ' hag a w ⟨X, hr⟩ K Q hK
  obtain ⟨c1, c2⟩ := closedArgs (fun o => hr.ev o) args.toList cl (fun o ho => hag.ev o (by simp [Op.operands, Call.operands]; exact .inr (Array.mem_toList_iff.1 ho))) hcl
  have hrun : (execOp a.eval ⟨some d, .call ⟨.value (.func f), args, tys⟩, ty, pos, after, guard⟩).run P w = .ok (.enter f (args.map a.eval)) w := by
    simp [execOp, resolve, Deferred.ofValue, Act.eval, invoke]
    exact hb _ _
  unfold Oper.wp
  rw [hrun, Oper.upon_enter]
  have hcall := hs w X.M (args.toList.map a.eval) (hG w hr.below) c1 c2 (fun b hbb => (hr.mlt b hbb).1)
  have harr : (args.toList.map a.eval).toArray = args.map a.eval := by apply Array.ext'; simp
  rw [harr] at hcall
  refine hcall.mono fun e w' ⟨v, he, hbel, hres⟩ => ?_
  subst he
  have hd' : d < σ'.n := by rw [hag.n]; exact hd
  cases fr with
  | none => exact hK _ _ ⟨X, (hr.world hbel).put (d := some d) hd' (VR.open' hres _ _)⟩
  | some t =>
    obtain ⟨n, z, e⟩ := t
    exact hK _ _ (hr.callGrow hd' hbel hres)

theorem ok_callV {Γ : World → Prop} {f : FuncId} {caps ccl : List AV} {args : Array Operand} {tys : Array TypeId} {cl : List AV} {r : AV} {fr : Option (Nat × Nat × TypeId)} {d : Tmp} (x : Operand) (hx : σ.ev x = .clo f caps)
    (hs : FSpecG P Γ f (cl ++ ccl) r fr) (hG : ∀ w, Kept w0 M0 w → Γ w) (hb : Body P f)
    (hcl : (args.toList.map fun o => (σ.ev o).close) = cl.map some) (hcc : AV.close.closeL caps = some ccl) (hd : d < σ.n) :
    OpAny P w0 M0 σ ⟨some d, .call ⟨.value x, args, tys⟩, ty, pos, after, guard⟩ (.call r fr) := by
  intro σ' hag a w ⟨X, hr⟩ K Q hK
  obtain ⟨c1, c2⟩ := closedArgs (fun o => hr.ev o) args.toList cl (fun o ho => hag.ev o (by simp [Op.operands, Call.operands]; exact .inr (Array.mem_toList_iff.1 ho))) hcl
  have hxv := hr.ev x
  rw [hag.ev x (by simp [Op.operands, Call.operands]), hx] at hxv
  generalize hcv : a.eval x = cv at hxv
  cases hxv with
  | clo _ _ vs hl hh =>
    obtain ⟨q1, q2⟩ := closeL_get caps ccl hcc
    have hrun : (execOp a.eval ⟨some d, .call ⟨.value x, args, tys⟩, ty, pos, after, guard⟩).run P w = .ok (.enter f (args.map a.eval ++ vs.toArray)) w := by
      simp [execOp, resolve, Deferred.ofValue, hcv, invoke]
      exact hb _ _
    unfold Oper.wp
    rw [hrun, Oper.upon_enter]
    have hcall := hs w X.M (args.toList.map a.eval ++ vs) (hG w hr.below) (by simp only [List.length_append]; omega) (fun i y v hy hv => by
        by_cases hi : i < cl.length
        · rw [List.getElem?_append_left hi] at hy
          rw [List.getElem?_append_left (by omega)] at hv
          exact c2 i y v hy hv
        · rw [List.getElem?_append_right (by omega)] at hy
          rw [List.getElem?_append_right (by omega), ← c1] at hv
          have hlt : i - cl.length < caps.length := by rw [q1]; exact (List.getElem?_eq_some_iff.1 hy).1
          exact (hh _ _ v (List.getElem?_eq_getElem hlt) hv).closed y (q2 _ _ y (List.getElem?_eq_getElem hlt) hy) _ _) (fun b hbb => (hr.mlt b hbb).1)
    have harr : (args.toList.map a.eval ++ vs).toArray = args.map a.eval ++ vs.toArray := by apply Array.ext'; simp
    rw [harr] at hcall
    refine hcall.mono fun e w' ⟨v, he, hbel, hres⟩ => ?_
    subst he
    have hd' : d < σ'.n := by rw [hag.n]; exact hd
    cases fr with
    | none => exact hK _ _ ⟨X, (hr.world hbel).put (d := some d) hd' (VR.open' hres _ _)⟩
    | some t =>
      obtain ⟨n, z, e⟩ := t
      exact hK _ _ (hr.callGrow hd' hbel hres)

end
end Go.Ab
