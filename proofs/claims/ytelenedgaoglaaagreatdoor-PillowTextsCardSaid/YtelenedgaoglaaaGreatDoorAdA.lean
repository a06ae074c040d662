/- Frames beside which more is known of the memory: of blocks that are no variables of the frame. Nothing here speaks of one program. -/
import Derived.Test.YtelenedgaoglaaaGreatDoorAbC
set_option linter.unusedVariables false
set_option linter.unusedSimpArgs false
namespace Go.Ab
open Go.RowKit
abbrev Sec := (Nat → Prop) → (Nat → Prop) → World → (Nat → Option Nat) → Prop
structure SecOk (J : Sec) : Prop where
  stab : ∀ {T F w w' M M'}, J T F w M → (∀ b, F b → w'.heap[b]? = w.heap[b]? ∧ M' b = M b) → J T F w' M'
  sub : ∀ {T F w M}, J T F w M → ∀ b, T b → F b
  hid : ∀ {T F w M}, J T F w M → ∀ b, T b → M b = some 0
def GrOwn (σ : AS) (x : Wit) (b : Nat) : Prop := ∃ id t l, σ.gr id = some t ∧ x.G id = some l ∧ l.blk = some b
def Owned (σ : AS) (x : Wit) (b : Nat) : Prop := (∃ id cs, σ.va id = some cs ∧ x.V id = some b) ∨ GrOwn σ x b
structure RelX (F0 : Nat → Prop) (J : Sec) (w0 : World) (M0 : MT) (σ : AS) (a : Act) (w : World) (x : Wit) (T F : Nat → Prop) : Prop where
  rel : RelW w0 M0 σ a w x
  sec : J T F w x.M
  ok : SecOk J
  tf : ∀ b, M0.t b = true → F0 b
  t : ∀ b, T b → w0.heap.size ≤ b ∨ M0.t b = true
  lt : ∀ b, F b → b < w.heap.size
  free : ∀ b, F b → ¬ Owned σ x b
  f0 : ∀ b, F b → F0 b ∨ w0.heap.size ≤ b ∨ M0.m b ≠ some 0
def RelJ (F0 : Nat → Prop) (J : Sec) (w0 : World) (M0 : MT) (σ : AS) (a : Act) (w : World) : Prop := ∃ x T F, RelX F0 J w0 M0 σ a w x T F
open Classical in
noncomputable def ownT (σ : AS) (x : Wit) : Nat → Bool := fun b => decide (Owned σ x b)
theorem ownT_iff {σ x b} : ownT σ x b = true ↔ Owned σ x b := by simp [ownT]
theorem ownT_not {σ x b} : ownT σ x b = false ↔ ¬ Owned σ x b := by simp [ownT]
section
variable {w0 : World} {M0 : MT} {σ σ' : AS} {a a' : Act} {w w' : World} {x x' : Wit}
theorem RelW.owned (h : RelW w0 M0 σ a w x) {b : Nat} (hb : Owned σ x b) : Mine w0 M0 b ∧ b < w.heap.size := by
  rcases hb with ⟨id, cs, h1, h2⟩ | ⟨id, ⟨n, z, e⟩, l, h1, h2, h3⟩
  · obtain ⟨b', vs, ty, g1, g2, g3, g4, g5, _⟩ := h.va id cs h1
    cases h2.symm.trans g1
    exact ⟨g2, lt_of_cells g5⟩
  · obtain ⟨l', g1, _, _, _, _, g5⟩ := h.gr id n z e h1
    cases h2.symm.trans g1
    obtain ⟨q1, _, _, vs, q4, _⟩ := g5 b h3
    exact ⟨q1, lt_of_cells q4⟩
theorem RelW.rebase (h : RelW w0 M0 σ a w x) : RelW w ⟨x.M, ownT σ x, M0.v⟩ σ a w x where
  below := Kept.refl _ _
  defers := h.defers
  size := h.size
  tm := h.tm
  m0 := fun _ _ _ => rfl
  mlt := h.mlt
  fresh := h.fresh
  lent := h.lent
  va := fun id cs hv => by
    obtain ⟨b, vs, ty, g1, g2, g3⟩ := h.va id cs hv
    exact ⟨b, vs, ty, g1, .inr (ownT_iff.2 (.inl ⟨id, cs, hv, g1⟩)), g3⟩
  vgen := h.vgen
  gr := fun id n z e hg => by
    obtain ⟨l, g1, g2, g3, g3', g4, g5⟩ := h.gr id n z e hg
    refine ⟨l, g1, g2, g3, g3', g4, fun b hb => ?_⟩
    obtain ⟨q1, q2⟩ := g5 b hb
    exact ⟨.inr (ownT_iff.2 (.inr ⟨id, _, l, hg, g1, hb⟩)), q2⟩
  ggen := h.ggen
theorem RelW.unbase (h : RelW w0 M0 σ a w x) (h' : RelW w ⟨x.M, ownT σ x, M0.v⟩ σ' a' w' x') : RelW w0 M0 σ' a' w' x' := by
  have hnot : ∀ b, b < w0.heap.size → M0.t b = false → ownT σ x b = false := fun b hb ht => by
    rw [ownT_not]; intro ho
    exact (h.owned ho).1.ne hb ht rfl
  have mine : ∀ b, Mine w ⟨x.M, ownT σ x, M0.v⟩ b → Mine w0 M0 b := fun b hm => by
    rcases hm with hm | hm
    · exact .inl (Nat.le_trans h.below.size hm)
    · exact (h.owned (ownT_iff.1 hm)).1
  constructor
  · refine ⟨h'.below.os.trans h.below.os, h'.below.tape.trans h.below.tape, h'.below.output.trans h.below.output, Nat.le_trans h.below.size h'.below.size, fun k hk ht => ?_, fun k n hs => h'.below.sz k n (h.below.sz k n hs)⟩
    rw [h'.below.block k (Nat.lt_of_lt_of_le hk h.below.size) (hnot k hk ht)]
    exact h.below.block k hk ht
  · exact h'.defers
  · exact h'.size
  · exact h'.tm
  · intro b hb ht
    rw [h'.m0 b (Nat.lt_of_lt_of_le hb h.below.size) (hnot b hb ht)]
    exact h.m0 b hb ht
  · exact h'.mlt
  · exact h'.fresh
  · exact h'.lent
  · intro id cs hv
    obtain ⟨b, vs, ty, g1, g2, g3⟩ := h'.va id cs hv
    exact ⟨b, vs, ty, g1, mine b g2, g3⟩
  · exact h'.vgen
  · intro id n z e hg
    obtain ⟨l, g1, g2, g3, g3', g4, g5⟩ := h'.gr id n z e hg
    refine ⟨l, g1, g2, g3, g3', g4, fun b hb => ?_⟩
    obtain ⟨q1, q2⟩ := g5 b hb
    exact ⟨mine b q1, q2⟩
  · exact h'.ggen
variable {F0 T F : Nat → Prop} {J : Sec}
theorem RelX.lift (h : RelX F0 J w0 M0 σ a w x T F) (h' : RelW w ⟨x.M, ownT σ x, M0.v⟩ σ' a' w' x') : RelX F0 J w0 M0 σ' a' w' x' T F where
  rel := h.rel.unbase h'
  sec := h.ok.stab h.sec fun b hb => by
    have hn : ownT σ x b = false := ownT_not.2 (h.free b hb)
    exact ⟨h'.below.block b (h.lt b hb) hn, h'.m0 b (h.lt b hb) hn⟩
  ok := h.ok
  tf := h.tf
  t := h.t
  lt := fun b hb => Nat.lt_of_lt_of_le (h.lt b hb) h'.below.size
  free := fun b hb ho => by
    rcases (h'.owned ho).1 with hm | hm
    · have := h.lt b hb; omega
    · exact h.free b hb (ownT_iff.1 hm)
  f0 := h.f0
end
def AWPJ (P : Program) (F0 : Nat → Prop) (w0 : World) (M0 : MT) (c : Code) (Q : Exit → Sec → AS → Prop) (J : Sec) (σ : AS) : Prop :=
  ∀ a w, RelJ F0 J w0 M0 σ a w → ∀ Q' : Exit → Act → World → Prop, (∀ e J' σ' a' w', Q e J' σ' → RelJ F0 J' w0 M0 σ' a' w' → Q' e a' w') → c.wp P Q' a w
def AOpsJ (P : Program) (F0 : Nat → Prop) (w0 : World) (M0 : MT) (ops : Array Oper) (l : List Oper) (Q : Sec → AS → Prop) (J : Sec) (σ : AS) : Prop :=
  ∀ a w, RelJ F0 J w0 M0 σ a w → ∀ Q' : Exit → Act → World → Prop, (∀ J' σ' a' w', Q J' σ' → RelJ F0 J' w0 M0 σ' a' w' → Q' .normal a' w') → wpList P ops Q' l a w
def OpJ (P : Program) (F0 : Nat → Prop) (w0 : World) (M0 : MT) (J : Sec) (σ : AS) (o : Oper) (R : Sec → AS → Prop) : Prop :=
  ∀ a w, RelJ F0 J w0 M0 σ a w → ∀ K Q, (∀ J' σ' a' w', R J' σ' → RelJ F0 J' w0 M0 σ' a' w' → K a' w') → o.wp P a w K Q
def WeakJ (J : Sec) (σ : AS) (J' : Sec) (σ' : AS) : Prop := ∀ F0 w0 M0 a w, RelJ F0 J w0 M0 σ a w → RelJ F0 J' w0 M0 σ' a w
section
variable {P : Program} {F0 : Nat → Prop} {w0 : World} {M0 : MT} {Q : Exit → Sec → AS → Prop} {J : Sec} {σ : AS}
theorem Weak.toJ {σ' : AS} (h : Weak σ σ') : WeakJ J σ J σ' := fun F0 w0 M0 a w ⟨x, T, F, hx⟩ => by
  obtain ⟨x', hx'⟩ := h _ _ a w ⟨x, hx.rel.rebase⟩
  exact ⟨x', T, F, hx.lift hx'⟩
theorem WeakJ.refl : WeakJ J σ J σ := fun _ _ _ _ _ h => h
theorem AWPJ.weak {c : Code} {J' : Sec} {σ' : AS} (hw : WeakJ J σ J' σ') (h : AWPJ P F0 w0 M0 c Q J' σ') : AWPJ P F0 w0 M0 c Q J σ := fun a w hr => h a w (hw _ _ _ _ _ hr)
theorem AOpsJ.weak {ops : Array Oper} {l : List Oper} {Q : Sec → AS → Prop} {J' : Sec} {σ' : AS} (hw : WeakJ J σ J' σ') (h : AOpsJ P F0 w0 M0 ops l Q J' σ') : AOpsJ P F0 w0 M0 ops l Q J σ := fun a w hr => h a w (hw _ _ _ _ _ hr)
theorem AWPJ.lift {c : Code} (h : ∀ u N, AWP P u N c (fun e σ' => Q e J σ') σ) : AWPJ P F0 w0 M0 c Q J σ := fun a w ⟨x, T, F, hx⟩ Q' hQ =>
  h w _ a w ⟨x, hx.rel.rebase⟩ Q' fun e σ' a' w' he ⟨x', hr'⟩ => hQ e J σ' a' w' he ⟨x', T, F, hx.lift hr'⟩
theorem AOpsJ.lift {ops : Array Oper} {l : List Oper} {Q : Sec → AS → Prop} (h : ∀ u N, AOps P u N ops l (fun σ' => Q J σ') σ) : AOpsJ P F0 w0 M0 ops l Q J σ := fun a w ⟨x, T, F, hx⟩ Q' hQ =>
  h w _ a w ⟨x, hx.rel.rebase⟩ Q' fun σ' a' w' he ⟨x', hr'⟩ => hQ J σ' a' w' he ⟨x', T, F, hx.lift hr'⟩
def seqQJ (P : Program) (F0 : Nat → Prop) (w0 : World) (M0 : MT) (y : Code) (Q : Exit → Sec → AS → Prop) : Exit → Sec → AS → Prop
  | .normal, J, σ => AWPJ P F0 w0 M0 y Q J σ
  | e, J, σ => Q e J σ
theorem AWPJ.seq {x y : Code} (h : AWPJ P F0 w0 M0 x (seqQJ P F0 w0 M0 y Q) J σ) : AWPJ P F0 w0 M0 (.seq x y) Q J σ := fun a w hr Q' hQ =>
  wp_seq (h a w hr _ fun e J' σ' a' w' he hr' => by
    cases e with
    | normal => exact he a' w' hr' Q' hQ
    | exit id => exact hQ _ J' σ' a' w' he hr'
    | goto id => exact hQ _ J' σ' a' w' he hr'
    | ret => exact hQ _ J' σ' a' w' he hr'
    | panic c => exact hQ _ J' σ' a' w' he hr'
    | outgrown => exact hQ _ J' σ' a' w' he hr')
theorem AWPJ.skip (h : Q .normal J σ) : AWPJ P F0 w0 M0 .skip Q J σ := fun a w hr _ hQ => wp_skip (hQ _ J σ a w h hr)
theorem AWPJ.exit {id : Nat} (h : Q (.exit id) J σ) : AWPJ P F0 w0 M0 (.exit id) Q J σ := fun a w hr _ hQ => wp_exit (hQ _ J σ a w h hr)
theorem AWPJ.ret (h : Q .ret J σ) : AWPJ P F0 w0 M0 .ret Q J σ := fun a w hr _ hQ => wp_ret (hQ _ J σ a w h hr)
def blockQJ (id : Nat) (Q : Exit → Sec → AS → Prop) : Exit → Sec → AS → Prop
  | .exit id', J, σ => bif Nat.beq id' id then Q .normal J σ else Q (.exit id') J σ
  | e, J, σ => Q e J σ
theorem AWPJ.block {id : Nat} {c : Code} (h : AWPJ P F0 w0 M0 c (blockQJ id Q) J σ) : AWPJ P F0 w0 M0 (.block id c) Q J σ := fun a w hr Q' hQ =>
  wp_block (h a w hr _ fun e J' σ' a' w' he hr' => by
    cases e with
    | exit id' =>
      simp only [blockQJ] at he
      simp only [Exit.inBlock]
      by_cases hid : id' = id
      · subst hid
        rw [if_pos rfl]
        simp at he
        exact hQ _ J' σ' a' w' he hr'
      · rw [if_neg hid]
        rw [beq_ff hid] at he
        exact hQ _ J' σ' a' w' he hr'
    | normal => exact hQ _ J' σ' a' w' he hr'
    | goto id => exact hQ _ J' σ' a' w' he hr'
    | ret => exact hQ _ J' σ' a' w' he hr'
    | panic c => exact hQ _ J' σ' a' w' he hr'
    | outgrown => exact hQ _ J' σ' a' w' he hr')
theorem AWPJ.cond {c : Operand} {x y : Code} (b : Bool) (hc : exact (σ.ev c) = some (.bool b)) (ht : b = true → AWPJ P F0 w0 M0 x Q J σ) (hf : b = false → AWPJ P F0 w0 M0 y Q J σ) :
    AWPJ P F0 w0 M0 (.cond c x y) Q J σ := fun a w ⟨X, T, F, hx⟩ Q' hQ => by
  have h1 := (hx.rel.ev c).exact _ hc
  exact wp_cond_split h1 (fun hb => ht hb a w ⟨X, T, F, hx⟩ Q' hQ) (fun hb => hf hb a w ⟨X, T, F, hx⟩ Q' hQ)
theorem AWPJ.condT {c : Operand} {x y : Code} (hc : exact (σ.ev c) = some (.bool true)) (ht : AWPJ P F0 w0 M0 x Q J σ) : AWPJ P F0 w0 M0 (.cond c x y) Q J σ :=
  AWPJ.cond true hc (fun _ => ht) (fun h => by cases h)
theorem AWPJ.condF {c : Operand} {x y : Code} (hc : exact (σ.ev c) = some (.bool false)) (hf : AWPJ P F0 w0 M0 y Q J σ) : AWPJ P F0 w0 M0 (.cond c x y) Q J σ :=
  AWPJ.cond false hc (fun h => by cases h) (fun _ => hf)
def roundQJ {ι : Type} (sj : ι → Sec) (st : ι → AS) (more : ι → Prop) (Q : Exit → Sec → AS → Prop) : Exit → Sec → AS → Prop
  | .normal, J, σ => ∃ j, more j ∧ WeakJ J σ (sj j) (st j)
  | e, J, σ => Q e J σ
theorem AWPJ.loop {c : Code} {ι : Type} (sj : ι → Sec) (st : ι → AS) (inv : ι → Prop) (μ : ι → Nat) (i0 : ι) (h0 : WeakJ J σ (sj i0) (st i0)) (hi0 : inv i0)
    (round : ∀ i, inv i → AWPJ P F0 w0 M0 c (roundQJ sj st (fun j => inv j ∧ μ j < μ i) Q) (sj i) (st i)) : AWPJ P F0 w0 M0 (.loop c) Q J σ := fun a w hr Q' hQ => by
  intro b k cs
  have key : ∀ n i, μ i = n → inv i → ∀ a w, RelJ F0 (sj i) w0 M0 (st i) a w →
      ∃ e a' w', Q' e a' w' ∧ Arrives P (lone (b.at a (.code c :: .inLoop c :: k)) cs w) b k cs e a' w' := by
    intro n
    induction n using Nat.strongRecOn with
    | _ n ih =>
      intro i hi hinv a w hr
      have h1 := round i hinv a w hr (Exit.then (fun a' w' => ∃ j, inv j ∧ μ j < μ i ∧ RelJ F0 (sj j) w0 M0 (st j) a' w') Q') (fun e J' σ' a' w' he hr' => by
        cases e with
        | normal =>
          obtain ⟨j, ⟨hj1, hj2⟩, hw⟩ := he
          exact ⟨j, hj1, hj2, hw _ _ _ _ _ hr'⟩
        | exit id => exact hQ _ J' σ' a' w' he hr'
        | goto id => exact hQ _ J' σ' a' w' he hr'
        | ret => exact hQ _ J' σ' a' w' he hr'
        | panic c => exact hQ _ J' σ' a' w' he hr'
        | outgrown => exact hQ _ J' σ' a' w' he hr')
      obtain ⟨e, a₁, w₁, hq, harr⟩ := h1 b (.inLoop c :: k) cs
      cases e with
      | normal =>
        obtain ⟨j, hj1, hj2, hr1⟩ := hq
        obtain ⟨e₂, a₂, w₂, hq₂, harr₂⟩ := ih (μ j) (hi ▸ hj2) j rfl hj1 a₁ w₁ hr1
        exact ⟨e₂, a₂, w₂, hq₂, .of_steps (Steps.trans harr (.one step_inLoop)) harr₂⟩
      | exit id => exact ⟨_, a₁, w₁, hq, .pass (x := .inLoop c) rfl (fun _ _ => .inl (by simp)) harr⟩
      | goto l => exact ⟨_, a₁, w₁, hq, .pass (x := .inLoop c) rfl (fun _ _ => .inl (by simp)) harr⟩
      | ret => exact ⟨_, a₁, w₁, hq, .pass (x := .inLoop c) rfl (fun _ _ => .inl (by simp)) harr⟩
      | panic ch => exact ⟨_, a₁, w₁, hq, .pass (x := .inLoop c) rfl (fun _ _ => .inl (by simp)) harr⟩
      | outgrown => exact ⟨_, a₁, w₁, hq, .pass (x := .inLoop c) rfl (fun _ _ => .inl (by simp)) harr⟩
  obtain ⟨e, a', w', hq, harr⟩ := key _ i0 rfl hi0 a w (h0 _ _ _ _ _ hr)
  exact ⟨e, a', w', hq, .of_steps (.one step_loop) harr⟩
theorem AWPJ.some {ι : Type} {c : Code} {Js : ι → Sec} (hJ : ∀ T F w M, J T F w M → ∃ i, Js i T F w M) (hok : ∀ i, SecOk (Js i)) (h : ∀ i, AWPJ P F0 w0 M0 c Q (Js i) σ) : AWPJ P F0 w0 M0 c Q J σ := fun a w ⟨x, T, F, hx⟩ => by
  obtain ⟨i, hi⟩ := hJ _ _ _ _ hx.sec
  exact h i a w ⟨x, T, F, hx.rel, hi, hok i, hx.tf, hx.t, hx.lt, hx.free, hx.f0⟩
theorem AWPJ.region {id : Nat} {l : List Oper} (h : AOpsJ P F0 w0 M0 l.toArray l (Q .normal) J σ) : AWPJ P F0 w0 M0 (.region id l.toArray false) Q J σ := fun a w hr Q' hQ =>
  wp_region_lit (h a w hr Q' fun J' σ' a' w' he hr' => hQ _ J' σ' a' w' he hr')
variable {ops : Array Oper} {R : Sec → AS → Prop} {rest : List Oper}
theorem AOpsJ.nil (h : R J σ) : AOpsJ P F0 w0 M0 ops [] R J σ := fun a w hr _ hQ => wpList_nil (hQ J σ a w h hr)
theorem AOpsJ.op {d : Option Tmp} {op : Op} {ty : TypeId} {pos : String} {after : Array Edge} {S : Sec → AS → Prop} (ho : OpJ P F0 w0 M0 J σ ⟨d, op, ty, pos, after, none⟩ S) (h : ∀ J' σ', S J' σ' → AOpsJ P F0 w0 M0 ops rest R J' σ') :
    AOpsJ P F0 w0 M0 ops (⟨d, op, ty, pos, after, none⟩ :: rest) R J σ := fun a w hr Q' hQ =>
  wpList_plain rfl fun K hK => ho a w hr K Q' fun J' σ' a' w' hs hr' => hK _ _ (h J' σ' hs a' w' hr' Q' hQ)
theorem OpSeq.toJ {o : Oper} {e : Ev} (h : ∀ u N, OpSeq P u N σ o e) : OpJ P F0 w0 M0 J σ o (fun J' σ' => J' = J ∧ σ' = σ.app o.dst e) := fun a w ⟨x, T, F, hx⟩ K Q hK =>
  h w _ a w ⟨x, hx.rel.rebase⟩ K Q fun a' w' ⟨x', hr'⟩ => hK J _ a' w' ⟨rfl, rfl⟩ ⟨x', T, F, hx.lift hr'⟩
theorem AOpsJ.cons {d : Option Tmp} {op : Op} {ty : TypeId} {pos : String} {after : Array Edge} {e : Ev} (ho : ∀ u N, OpSeq P u N σ ⟨d, op, ty, pos, after, none⟩ e) (h : AOpsJ P F0 w0 M0 ops rest R J (σ.app d e)) :
    AOpsJ P F0 w0 M0 ops (⟨d, op, ty, pos, after, none⟩ :: rest) R J σ := AOpsJ.op (OpSeq.toJ ho) fun J' σ' ⟨h1, h2⟩ => by subst h1; subst h2; exact h
theorem AOpsJ.call {d : Option Tmp} {op : Op} {ty : TypeId} {pos : String} {after : Array Edge} {e : Ev} (ho : ∀ u N, OpAny P u N σ ⟨d, op, ty, pos, after, none⟩ e) (h : AOpsJ P F0 w0 M0 ops rest R J (σ.app d e)) :
    AOpsJ P F0 w0 M0 ops (⟨d, op, ty, pos, after, none⟩ :: rest) R J σ := AOpsJ.cons (fun u N => (ho u N).seq) h
theorem AOpsJ.goOp {d : Option Tmp} {op : Op} {ty : TypeId} {pos : String} {after : Array Edge} {j t : Nat} {want b : Bool} {S : Sec → AS → Prop} (hj : (ops[j]?).bind (·.dst) = some t) (ht : Nat.blt t σ.n = true) (hv : exact (σ.tm t) = some (.bool b)) (hb : b = want)
    (ho : OpJ P F0 w0 M0 J σ ⟨d, op, ty, pos, after, some (j, want)⟩ S) (h : ∀ J' σ', S J' σ' → AOpsJ P F0 w0 M0 ops rest R J' σ') :
    AOpsJ P F0 w0 M0 ops (⟨d, op, ty, pos, after, some (j, want)⟩ :: rest) R J σ := fun a w ⟨X, T, F, hx⟩ Q' hQ => by
  have hy := yielded_of (ops := ops) hx.rel hj (Nat.lt_of_lt_of_le (Nat.lt_succ_self _) (Nat.le_of_ble_eq_true ht)) hv
  refine wpList_step fun K hK => ?_
  rw [if_pos (by simp [Region.wanted, hy, hb])]
  exact ho a w ⟨X, T, F, hx⟩ K Q' fun J' σ' a' w' hs hr' => hK _ _ (h J' σ' hs a' w' hr' Q' hQ)
theorem AOpsJ.split {o : Oper} {j t : Nat} {want b : Bool} (_ : o.guard = some (j, want)) (_ : (ops[j]?).bind (·.dst) = some t) (_ : exact (σ.tm t) = some (.bool b))
    (h1 : b = want → AOpsJ P F0 w0 M0 ops (o :: rest) R J σ) (h2 : b = !want → AOpsJ P F0 w0 M0 ops (o :: rest) R J σ) : AOpsJ P F0 w0 M0 ops (o :: rest) R J σ := by
  cases b <;> cases want <;> first | exact h1 rfl | exact h2 rfl
end
end Go.Ab
set_option linter.unusedVariables false
set_option linter.unusedSimpArgs false
namespace Go.Ab
open Go.RowKit
structure PostJ (T F : Nat → Prop) (w : World) (M : Nat → Option Nat) (J' : Sec) (T' F' : Nat → Prop) (w' : World) (M' : Nat → Option Nat) : Prop where
  ok : SecOk J'
  sec : J' T' F' w' M'
  os : w'.os = w.os
  tape : w'.tape = w.tape
  output : w'.output = w.output
  size : w.heap.size ≤ w'.heap.size
  block : ∀ k, k < w.heap.size → ¬ T k → w'.heap[k]? = w.heap[k]?
  sz : ∀ k n, Sz w k n → Sz w' k n
  t : ∀ b, T' b → T b ∨ w.heap.size ≤ b
  lt : ∀ b, F' b → b < w'.heap.size
  f : ∀ b, F' b → F b ∨ w.heap.size ≤ b ∨ M b ≠ some 0
  old : ∀ b, b < w.heap.size → ¬ T b → M' b = M b
  top : ∀ b, w'.heap.size ≤ b → M' b = none
def FSpecJ (P : Program) (J : Sec) (f : FuncId) (args : List AV) (R : AV → Sec → Prop) : Prop :=
  ∀ (w : World) (M : Nat → Option Nat) (vals : List Value) (T F : Nat → Prop), SecOk J → J T F w M → (∀ b, F b → b < w.heap.size) → args.length = vals.length →
    (∀ (i : Nat) x v, args[i]? = some x → vals[i]? = some v → VR w M noV noG x v) → (∀ b, w.heap.size ≤ b → M b = none) →
    Calls P f vals.toArray w fun e w' => ∃ v r J' T' F' M', e = .returned v ∧ R r J' ∧ PostJ T F w M J' T' F' w' M' ∧ VR w' M' noV noG r v
theorem FSpecJ.know {P : Program} {J : Sec} {f : FuncId} {args args' : List AV} {R : AV → Sec → Prop} (h : FSpecJ P J f args' R) (hl : args'.length = args.length)
    (hk : ∀ T F w M, J T F w M → ∀ (i : Nat) x y v, args[i]? = some x → args'[i]? = some y → VR w M noV noG x v → VR w M noV noG y v) : FSpecJ P J f args R := by
  intro w M vals T F hok hJ hlt hlen hargs hM
  refine h w M vals T F hok hJ hlt (hl.trans hlen) (fun i y v hy hv => ?_) hM
  have hi : i < args.length := by rw [← hl]; exact (List.getElem?_eq_some_iff.1 hy).1
  exact hk T F w M hJ i _ y v (List.getElem?_eq_getElem hi) hy (hargs i _ v (List.getElem?_eq_getElem hi) hv)
theorem FSpecJ.mono {P : Program} {J : Sec} {f : FuncId} {args : List AV} {R R' : AV → Sec → Prop} (h : FSpecJ P J f args R) (hR : ∀ r J', R r J' → R' r J') : FSpecJ P J f args R' := by
  intro w M vals T F hok hJ hlt hlen hargs hM
  refine (h w M vals T F hok hJ hlt hlen hargs hM).mono fun e w' ⟨v, r, J', T', F', M', h1, h2, h3⟩ => ⟨v, r, J', T', F', M', h1, hR _ _ h2, h3⟩
def postQJ (P : Program) (fn : Func) (R : AV → Sec → Prop) : Exit → Sec → AS → Prop
  | .normal, J, σ => ∃ rs r, ResAll P σ fn.results.toList rs ∧ (packA rs).close = some r ∧ R r J
  | .ret, J, σ => ∃ rs r, ResAll P σ fn.results.toList rs ∧ (packA rs).close = some r ∧ R r J
  | _, _, _ => False
theorem entry_relJ {fn : Func} {args : List AV} {w : World} {M : Nat → Option Nat} {t : Nat → Bool} {vals : List Value} (hn : args.length ≤ fn.ntmps) (hlen : args.length = vals.length)
    (hargs : ∀ (i : Nat) x v, args[i]? = some x → vals[i]? = some v → VR w M noV noG x v) (hM : ∀ b, w.heap.size ≤ b → M b = none) :
    RelW w ⟨M, t, noV⟩ (AS.entry fn.ntmps args) { tmps := vals.toArray ++ Array.replicate (fn.ntmps - vals.toArray.size) undef, defers := [] } w ⟨M, noV, noG, fun _ => none⟩ := by
  have hsz : (vals.toArray ++ Array.replicate (fn.ntmps - vals.toArray.size) undef).size = fn.ntmps := by simp; omega
  constructor
  · exact Kept.refl _ _
  · rfl
  · exact hsz
  · intro i
    show VR w M noV noG ((args[i]?).getD .any) _
    cases ha : args[i]? with
    | none => exact .any _
    | some x =>
      have hi : i < vals.length := by rw [← hlen]; exact (List.getElem?_eq_some_iff.1 ha).1
      have hv := List.getElem?_eq_getElem hi
      have : (vals.toArray ++ Array.replicate (fn.ntmps - vals.toArray.size) undef).getD i undef = vals[i] := by
        simp [Array.getD, show i < vals.length + (fn.ntmps - vals.length) by omega, Array.getElem_append_left, hi]
      show VR w M noV noG x (Array.getD _ i undef)
      rw [this]
      exact hargs i x _ ha hv
  · exact fun _ _ _ => rfl
  · exact fun b hb => ⟨hM b hb, rfl⟩
  · exact fun _ _ _ => ⟨rfl, rfl⟩
  · exact fun _ _ h => by cases h
  · exact fun _ _ h => by cases h
  · exact fun _ _ _ h => by cases h
  · exact fun _ _ _ _ h => by cases h
  · exact fun _ _ _ h => by cases h
theorem entry_free {n : Nat} {args : List AV} {x : Wit} {b : Nat} : ¬ Owned (AS.entry n args) x b := by
  rintro (⟨id, cs, h1, _⟩ | ⟨id, t, l, h1, _⟩)
  · cases h1
  · cases h1
open Classical in
theorem FSpecJ.of_body {P : Program} {J : Sec} {f : FuncId} {fn : Func} {c : Code} {args : List AV} {R : AV → Sec → Prop} (hf : P.funcs[f]? = some fn) (hb : fn.body = some c)
    (hn : args.length ≤ fn.ntmps) (h : ∀ F0 w0 M0, AWPJ P F0 w0 M0 c (postQJ P fn R) J (AS.entry fn.ntmps args)) : FSpecJ P J f args R := by
  intro w M vals T F hok hJ hlt hlen hargs hM
  refine calls_of_wp hf hb (h F w ⟨M, fun k => decide (T k), noV⟩ _ w ⟨⟨M, noV, noG, fun _ => none⟩, T, F, entry_relJ hn hlen hargs hM, hJ, hok, fun b hb => hok.sub hJ b (by simpa using hb), fun b hb => .inr (by simpa using hb), hlt, fun b _ => entry_free, fun b hb => .inl hb⟩ _ ?_)
  have main : ∀ J' σ' a' w', (∃ rs r, ResAll P σ' fn.results.toList rs ∧ (packA rs).close = some r ∧ R r J') → RelJ F J' w ⟨M, fun k => decide (T k), noV⟩ σ' a' w' →
      a'.defers = [] ∧ ∃ v, (results fn a'.tmps).run P w' = .ok v w' ∧ ∃ v' r J' T' F' M', Ending.returned v = .returned v' ∧ R r J' ∧ PostJ T F w M J' T' F' w' M' ∧ VR w' M' noV noG r v' := fun J' σ' a' w' ⟨rs, r, h1, h2, h3⟩ ⟨x, T', F', hx⟩ => by
    obtain ⟨cv, g1, g2⟩ := run_results' hx.rel h1
    refine ⟨hx.rel.defers, cv, g1, cv, r, J', T', F', x.M, rfl, h3, ?_, g2.closed r h2 noV noG⟩
    constructor
    · exact hx.ok
    · exact hx.sec
    · exact hx.rel.below.os
    · exact hx.rel.below.tape
    · exact hx.rel.below.output
    · exact hx.rel.below.size
    · exact fun k hk ht => hx.rel.below.block k hk (by simpa using ht)
    · exact hx.rel.below.sz
    · intro b hb
      rcases hx.t b hb with h | h
      · exact .inr h
      · exact .inl (by simpa using h)
    · exact hx.lt
    · exact hx.f0
    · exact fun b hb ht => hx.rel.m0 b hb (by simpa using ht)
    · exact fun b hb => (hx.rel.mlt b hb).1
  intro e σ' J' a' w' he hr'
  cases e with
  | normal => exact main _ _ _ _ he hr'
  | ret => exact main _ _ _ _ he hr'
  | exit _ => exact he.elim
  | goto _ => exact he.elim
  | panic _ => exact he.elim
  | outgrown => exact he.elim
def J0 : Sec := fun T F _ _ => (∀ b, ¬ T b) ∧ ∀ b, ¬ F b
theorem J0_ok : SecOk J0 where
  stab := fun h _ => h
  sub := fun h b hb => absurd hb (h.1 b)
  hid := fun h b hb => absurd hb (h.1 b)
theorem FSpec.of_bodyJ {P : Program} {f : FuncId} {fn : Func} {c : Code} {args : List AV} {r : AV} (hf : P.funcs[f]? = some fn) (hb : fn.body = some c)
    (hn : args.length ≤ fn.ntmps) (h : ∀ F0 w0 M0, AWPJ P F0 w0 M0 c (postQJ P fn (fun r' _ => r' = r)) J0 (AS.entry fn.ntmps args)) : FSpec P f args r none := by
  intro w M vals _ hlen hargs hM
  refine (FSpecJ.of_body hf hb hn h w M vals (fun _ => False) (fun _ => False) J0_ok ⟨fun b h => h, fun b h => h⟩ (fun _ h => h.elim) hlen hargs hM).mono fun e w' ⟨v, r', J', T', F', M', h1, h2, h3, h4⟩ => ?_
  subst h2
  refine ⟨v, h1, ⟨h3.os, h3.tape, h3.output, h3.size, fun k hk => h3.block k hk (fun h => h)⟩, ?_⟩
  refine h4.mono (fun b off y hi => ⟨hi.1, hi.2.1, fun m hm => ?_⟩) (fun _ _ hh => hh)
  rcases Nat.lt_or_ge b w.heap.size with hlt | hge
  · exact hi.2.2 m (by rw [h3.old b hlt (fun h => h)]; exact hm)
  · rw [hM b hge] at hm; cases hm
def AV.plain : AV → Bool
  | .any => true
  | .sc _ => true
  | .agg cs => plainL cs
  | .tup cs => plainL cs
  | .clo _ cs => plainL cs
  | _ => false
where
  plainL : List AV → Bool
    | [] => true
    | c :: cs => c.plain && plainL cs
theorem plainL_get : ∀ (cs : List AV), AV.plain.plainL cs = true → ∀ (i : Nat) c, cs[i]? = some c → c.plain = true := by
  intro cs
  induction cs with
  | nil => intro _ i c h; simp at h
  | cons c cs ih =>
    intro h i c' hc
    simp only [AV.plain.plainL, Bool.and_eq_true] at h
    cases i with
    | zero => simp at hc; subst hc; exact h.1
    | succ i => simp at hc; exact ih h.2 i c' hc
theorem VR.plain {w M V G x v} (h : VR w M V G x v) : x.plain = true → ∀ w' M' V' G', VR w' M' V' G' x v := by
  induction h with
  | any v => intro _ _ _ _ _; exact .any v
  | sc v => intro _ _ _ _ _; exact .sc v
  | agg cs vs hl h1 _ ih => intro hp w' M' V' G'; exact .agg cs vs hl h1 fun i c v hc hv => ih i c v hc hv (plainL_get cs hp i c hc) _ _ _ _
  | tup cs vs hl _ ih => intro hp w' M' V' G'; exact .tup cs vs hl fun i c v hc hv => ih i c v hc hv (plainL_get cs hp i c hc) _ _ _ _
  | clo f cs vs hl _ ih => intro hp w' M' V' G'; exact .clo f cs vs hl fun i c v hc hv => ih i c v hc hv (plainL_get cs hp i c hc) _ _ _ _
  | _ => intro hp; cases hp
open Classical in
noncomputable def cutM (σ : AS) (x : Wit) : Nat → Option Nat := fun b => if GrOwn σ x b then some 0 else x.M b
section
variable {w0 : World} {M0 : MT} {σ : AS} {a : Act} {w w' : World} {x : Wit} {F0 T F : Nat → Prop} {J : Sec}
theorem RelX.cutSec (h : RelX F0 J w0 M0 σ a w x T F) : J T F w (cutM σ x) :=
  h.ok.stab h.sec fun b hb => ⟨rfl, by unfold cutM; rw [if_neg fun hg => h.free b hb (.inr hg)]⟩
theorem RelX.cutTop (h : RelX F0 J w0 M0 σ a w x T F) : ∀ b, w.heap.size ≤ b → cutM σ x b = none := fun b hb => by
  unfold cutM
  rw [if_neg fun hg => by have := (h.rel.owned (.inr hg)).2; omega]
  exact (h.rel.mlt b hb).1
theorem RelX.cutArg (h : RelX F0 J w0 M0 σ a w x T F) {y v} (hv : VR w x.M noV noG y v) (hc : y.plain = true ∨ ∀ id, σ.gr id = none) : VR w (cutM σ x) noV noG y v := by
  rcases hc with hc | hc
  · exact hv.plain hc _ _ _ _
  · have : cutM σ x = x.M := by
      funext b; unfold cutM
      rw [if_neg]
      rintro ⟨id, t, l, h1, _⟩
      rw [hc] at h1; cases h1
    rw [this]; exact hv
theorem RelX.back (h : RelX F0 J w0 M0 σ a w x T F) {J' : Sec} {T' F' : Nat → Prop} {M' : Nat → Option Nat} (hp : PostJ T F w (cutM σ x) J' T' F' w' M') :
    ∃ x', RelX F0 J' w0 M0 σ a w' x' T' F' ∧ (∀ r v, VR w' M' noV noG r v → VR w' x'.M x'.V x'.G r v) := by
  have hT0 : ∀ k, k < w0.heap.size → M0.t k = false → ¬ T k := fun k hk ht hT => by
    rcases h.t k hT with h1 | h1
    · omega
    · rw [ht] at h1; cases h1
  have hnT : ∀ b, Owned σ x b → ¬ T b := fun b ho hT => h.free b (h.ok.sub h.sec b hT) ho
  classical
  let M1 : Nat → Option Nat := fun b => if b < w.heap.size ∧ ¬ T b then x.M b else M' b
  have hM1 : ∀ b, b < w.heap.size → ¬ T b → M1 b = x.M b := fun b h1 h2 => if_pos ⟨h1, h2⟩
  have himm : ∀ b off y, Imm w x.M b off y → Imm w' M1 b off y := fun b off y hi => by
    have hlt : b < w.heap.size := by
      rcases Nat.lt_or_ge b w.heap.size with h' | h'
      · exact h'
      · have := hi.1; simp [World.cell?, Array.getElem?_eq_none h'] at this
    have hnt : ¬ T b := fun hT => absurd (hi.2.2 0 (h.ok.hid h.sec b hT)) (Nat.not_lt_zero _)
    exact ⟨by rw [cell?_same (hp.block b hlt hnt)]; exact hi.1, hi.2.1, by rw [hM1 b hlt hnt]; exact hi.2.2⟩
  have hown : ∀ b, Owned σ x b → b < w.heap.size := fun b ho => (h.rel.owned ho).2
  refine ⟨⟨M1, x.V, x.G, x.ow⟩, ?_, fun r v hv => ?_⟩
  · constructor
    · constructor
      · refine ⟨hp.os.trans h.rel.below.os, hp.tape.trans h.rel.below.tape, hp.output.trans h.rel.below.output, Nat.le_trans h.rel.below.size hp.size, fun k hk ht => ?_, fun k n hs => hp.sz k n (h.rel.below.sz k n hs)⟩
        rw [hp.block k (Nat.lt_of_lt_of_le hk h.rel.below.size) (hT0 k hk ht)]
        exact h.rel.below.block k hk ht
      · exact h.rel.defers
      · exact h.rel.size
      · exact fun i => (h.rel.tm i).mono himm hp.sz
      · intro b hb ht
        show M1 b = _
        rw [hM1 b (Nat.lt_of_lt_of_le hb h.rel.below.size) (hT0 b hb ht)]
        exact h.rel.m0 b hb ht
      · intro b hb
        refine ⟨?_, (h.rel.mlt b (Nat.le_trans hp.size hb)).2⟩
        show M1 b = none
        have : ¬ (b < w.heap.size ∧ ¬ T b) := fun hh => by have := hp.size; omega
        simp only [M1]; rw [if_neg this]; exact hp.top b hb
      · exact h.rel.fresh
      · exact h.rel.lent
      · intro id cs hv
        obtain ⟨b, vs, ty, g1, g2, g3, g4, g5, g6, g7⟩ := h.rel.va id cs hv
        have ho : Owned σ x b := .inl ⟨id, cs, hv, g1⟩
        have hnt := hnT b ho
        have hlt := hown b ho
        refine ⟨b, vs, ty, g1, g2, g3, by show M1 b = _; rw [hM1 b hlt hnt]; exact g4, by rw [hp.block b hlt hnt]; exact g5, g6, fun j c hj => ?_⟩
        obtain ⟨v, q1, q2, q3⟩ := g7 j c hj
        exact ⟨v, q1, q2, q3.mono himm hp.sz⟩
      · exact h.rel.vgen
      · intro id n z e hg
        obtain ⟨l, g1, g2, g3, g3', g4, g5⟩ := h.rel.gr id n z e hg
        refine ⟨l, g1, g2, g3, g3', g4, fun b hb => ?_⟩
        obtain ⟨q1, q2, q3, vs, q4, q5⟩ := g5 b hb
        have ho : Owned σ x b := .inr ⟨id, _, l, hg, g1, hb⟩
        exact ⟨q1, q2, by show M1 b = _; rw [hM1 b (hown b ho) (hnT b ho)]; exact q3, vs, by rw [hp.block b (hown b ho) (hnT b ho)]; exact q4, q5⟩
      · exact h.rel.ggen
    · refine hp.ok.stab hp.sec fun b hb => ⟨rfl, ?_⟩
      show M1 b = M' b
      simp only [M1]
      by_cases hc : b < w.heap.size ∧ ¬ T b
      · rw [if_pos hc, hp.old b hc.1 hc.2]
        unfold cutM
        rw [if_neg]
        intro hg
        rcases hp.f b hb with h1 | h1 | h1
        · exact h.free b h1 (.inr hg)
        · omega
        · unfold cutM at h1; rw [if_pos hg] at h1; exact h1 rfl
      · rw [if_neg hc]
    · exact hp.ok
    · exact h.tf
    · intro b hb
      rcases hp.t b hb with h1 | h1
      · exact h.t b h1
      · exact .inl (Nat.le_trans h.rel.below.size h1)
    · exact hp.lt
    · intro b hb ho
      have ho' : Owned σ x b := ho
      rcases hp.f b hb with h1 | h1 | h1
      · exact h.free b h1 ho'
      · have := hown b ho'; omega
      · rcases ho' with ⟨id, cs, g1, g2⟩ | hg
        · obtain ⟨b', vs, ty, q1, _, _, q4, _⟩ := h.rel.va id cs g1
          cases g2.symm.trans q1
          unfold cutM at h1
          split at h1
          · exact h1 rfl
          · exact h1 q4
        · unfold cutM at h1; rw [if_pos hg] at h1; exact h1 rfl
    · intro b hb
      rcases hp.f b hb with h1 | h1 | h1
      · exact h.f0 b h1
      · exact .inr (.inl (Nat.le_trans h.rel.below.size h1))
      · by_cases hlt : b < w0.heap.size
        · cases ht : M0.t b with
          | true => exact .inl (h.tf b ht)
          | false =>
            refine .inr (.inr fun h0 => h1 ?_)
            unfold cutM
            split
            · rfl
            · rw [h.rel.m0 b hlt ht]; exact h0
        · exact .inr (.inl (by omega))
  · refine (hv.open' x.V x.G).mono (fun b off y hi => ⟨hi.1, hi.2.1, fun m hm => ?_⟩) (fun _ _ hh => hh)
    change M1 b = some m at hm
    simp only [M1] at hm
    by_cases hc : b < w.heap.size ∧ ¬ T b
    · rw [if_pos hc] at hm
      by_cases hg : GrOwn σ x b
      · refine absurd (hi.2.2 0 ?_) (by omega)
        rw [hp.old b hc.1 hc.2]; unfold cutM; rw [if_pos hg]
      · refine hi.2.2 m ?_
        rw [hp.old b hc.1 hc.2]; unfold cutM; rw [if_neg hg]; exact hm
    · rw [if_neg hc] at hm; exact hi.2.2 m hm
end
theorem RelX.put {w0 : World} {M0 : MT} {σ : AS} {a : Act} {w : World} {x : Wit} {F0 T F : Nat → Prop} {J : Sec} (h : RelX F0 J w0 M0 σ a w x T F) {d : Option Tmp} {v : AV} {cv : Value} (hd : okDst σ d) (hv : VR w x.M x.V x.G v cv) : RelX F0 J w0 M0 (σ.put d v) (a.put d cv) w x T F where
  rel := h.rel.put hd hv
  sec := h.sec
  ok := h.ok
  tf := h.tf
  t := h.t
  lt := h.lt
  free := fun b hb ho => h.free b hb (by cases d <;> exact ho)
  f0 := h.f0
section
variable {P : Program} {F0 : Nat → Prop} {w0 : World} {M0 : MT} {σ : AS} {J : Sec} {ty : TypeId} {pos : String} {after : Array Edge} {guard : Option (Nat × Bool)}
def argsOk (σ : AS) (cl : List AV) : Prop := AV.plain.plainL cl = true ∨ ∀ id, σ.gr id = none
theorem o_callJ {f : FuncId} {args : Array Operand} {tys : Array TypeId} {cl : List AV} {R : AV → Sec → Prop} {d : Tmp} (hs : FSpecJ P J f cl R) (hb : Body P f)
    (hcl : (args.toList.map fun o => (σ.ev o).close) = cl.map some) (hp : argsOk σ cl) (hd : okDB σ (some d) = true) :
    OpJ P F0 w0 M0 J σ ⟨some d, .call ⟨.value (.func f), args, tys⟩, ty, pos, after, guard⟩ (fun J' σ' => ∃ r, R r J' ∧ σ' = σ.put (some d) r) := by
  intro a w ⟨X, T, F, hr⟩ K Q hK
  obtain ⟨c1, c2⟩ := closedArgs (fun o => hr.rel.ev o) args.toList cl (fun o _ => rfl) hcl
  have hrun : (execOp a.eval ⟨some d, .call ⟨.value (.func f), args, tys⟩, ty, pos, after, guard⟩).run P w = .ok (.enter f (args.map a.eval)) w := by
    simp [execOp, resolve, Deferred.ofValue, Act.eval, invoke]
    exact hb _ _
  unfold Oper.wp
  rw [hrun, Oper.upon_enter]
  have hcall := hs w (cutM σ X) (args.toList.map a.eval) T F hr.ok hr.cutSec hr.lt c1 (fun i y v hy hv => hr.cutArg (c2 i y v hy hv) (hp.imp (fun h => plainL_get cl h i y hy) id)) hr.cutTop
  have harr : (args.toList.map a.eval).toArray = args.map a.eval := by apply Array.ext'; simp
  rw [harr] at hcall
  refine hcall.mono fun e w' ⟨v, r, J', T', F', M', he, hR, hpo, hv⟩ => ?_
  subst he
  obtain ⟨x', hx', hval⟩ := hr.back hpo
  exact hK J' _ _ _ ⟨r, hR, rfl⟩ ⟨x', T', F', hx'.put (d := some d) (okD hd) (hval r v hv)⟩
theorem o_callVJ {f : FuncId} {caps : List Value} {args : Array Operand} {tys : Array TypeId} {cl : List AV} {R : AV → Sec → Prop} {d : Tmp} (x : Operand) (hx : exact (σ.ev x) = some (.func (.func f) #[] caps.toArray)) (hs : FSpecJ P J f (cl ++ caps.map .sc) R) (hb : Body P f)
    (hcl : (args.toList.map fun o => (σ.ev o).close) = cl.map some) (hp : argsOk σ cl) (hd : okDB σ (some d) = true) :
    OpJ P F0 w0 M0 J σ ⟨some d, .call ⟨.value x, args, tys⟩, ty, pos, after, guard⟩ (fun J' σ' => ∃ r, R r J' ∧ σ' = σ.put (some d) r) := by
  intro a w ⟨X, T, F, hr⟩ K Q hK
  obtain ⟨c1, c2⟩ := closedArgs (fun o => hr.rel.ev o) args.toList cl (fun o _ => rfl) hcl
  have hcv := (hr.rel.ev x).exact _ hx
  have hrun : (execOp a.eval ⟨some d, .call ⟨.value x, args, tys⟩, ty, pos, after, guard⟩).run P w = .ok (.enter f (args.map a.eval ++ caps.toArray)) w := by
    simp [execOp, resolve, Deferred.ofValue, hcv, invoke]
    exact hb _ _
  unfold Oper.wp
  rw [hrun, Oper.upon_enter]
  have hcall := hs w (cutM σ X) (args.toList.map a.eval ++ caps) T F hr.ok hr.cutSec hr.lt (by simp [c1]) (fun i y v hy hv => by
      by_cases hi : i < cl.length
      · rw [List.getElem?_append_left hi] at hy
        rw [List.getElem?_append_left (by omega)] at hv
        exact hr.cutArg (c2 i y v hy hv) (hp.imp (fun h => plainL_get cl h i y hy) id)
      · rw [List.getElem?_append_right (by omega)] at hy
        rw [List.getElem?_append_right (by omega), ← c1] at hv
        rw [List.getElem?_map, hv] at hy
        cases hy
        exact .sc _) hr.cutTop
  have harr : (args.toList.map a.eval ++ caps).toArray = args.map a.eval ++ caps.toArray := by apply Array.ext'; simp
  rw [harr] at hcall
  refine hcall.mono fun e w' ⟨v, r, J', T', F', M', he, hR, hpo, hv⟩ => ?_
  subst he
  obtain ⟨x', hx', hval⟩ := hr.back hpo
  exact hK J' _ _ _ ⟨r, hR, rfl⟩ ⟨x', T', F', hx'.put (d := some d) (okD hd) (hval r v hv)⟩
end
end Go.Ab
set_option linter.unusedVariables false
set_option linter.unusedSimpArgs false
namespace Go.Ab
open Go.RowKit
theorem VR.monoI {w w' : World} {M M' : Nat → Option Nat} {V G x v} (h : VR w M V G x v) : V = noV → (∀ b off y, Imm w M b off y → Imm w' M' b off y) → VR w' M' V G x v := by
  induction h with
  | any v => intro _ _; exact .any v
  | sc v => intro _ _; exact .sc v
  | agg cs vs hl h1 _ ih => intro hV hi; exact .agg cs vs hl h1 fun i c v a b => ih i c v a b hV hi
  | tup cs vs hl _ ih => intro hV hi; exact .tup cs vs hl fun i c v a b => ih i c v a b hV hi
  | ref id off b h => intro hV; subst hV; cases h
  | arr id off n c b cap h h1 hc hs => intro hV; subst hV; cases h
  | rd cs b off X hc _ ih => intro hV hi; exact .rd cs b off X (fun j c h => hi _ _ _ (hc j c h)) fun j c h => ih j c h rfl hi
  | sl0 a cap => intro _ _; exact .sl0 a cap
  | nil0 a => intro _ _; exact .nil0 a
  | sl es z b off cap X hz hcap hc _ ih => intro hV hi; exact .sl es z b off cap X hz hcap (fun i e j c h h' => hi _ _ _ (hc i e j c h h')) fun i e j c h h' => ih i e j c h h' rfl hi
  | own id es v _ g hg hle heq ih => intro hV hi; exact .own id es v (ih rfl hi) g hg hle heq
  | clo f cs vs hl _ ih => intro hV hi; exact .clo f cs vs hl fun i c v a b => ih i c v a b hV hi
  | bnd f cs vs hl _ ih => intro hV hi; exact .bnd f cs vs hl fun i c v a b => ih i c v a b hV hi
  | ifc t x v _ ih => intro hV hi; exact .ifc t x v (ih hV hi)
open Classical in
noncomputable def inF (F : Nat → Prop) (M : Nat → Option Nat) : Nat → Option Nat := fun b => if F b then M b else some 0
theorem inF_imm {F : Nat → Prop} {M : Nat → Option Nat} {w : World} {b off : Nat} {y : Value} : Imm w (inF F M) b off y ↔ F b ∧ Imm w M b off y := by
  unfold Imm inF
  by_cases h : F b
  · simp [h]
  · simp only [h, if_false, false_and, iff_false]
    rintro ⟨_, _, h3⟩
    exact absurd (h3 0 rfl) (by omega)
theorem inF_stab {F : Nat → Prop} {M M' : Nat → Option Nat} {w w' : World} (h : ∀ b, F b → w'.heap[b]? = w.heap[b]? ∧ M' b = M b) {y v} (hv : VR w (inF F M) noV noG y v) : VR w' (inF F M') noV noG y v :=
  hv.monoI rfl fun b off y hi => by
    obtain ⟨h1, h2⟩ := inF_imm.1 hi
    obtain ⟨h3, h4⟩ := h b h1
    exact inF_imm.2 ⟨h1, by rw [cell?_same h3]; exact h2.1, h2.2.1, by rw [h4]; exact h2.2.2⟩
theorem inF_open {F : Nat → Prop} {M : Nat → Option Nat} {w : World} {y v} (hv : VR w (inF F M) noV noG y v) : VR w M noV noG y v :=
  hv.monoI rfl fun b off y hi => (inF_imm.1 hi).2
theorem RelX.postRefl {w0 : World} {M0 : MT} {σ : AS} {a : Act} {w : World} {x : Wit} {F0 T F : Nat → Prop} {J : Sec} (h : RelX F0 J w0 M0 σ a w x T F) : PostJ T F w (cutM σ x) J T F w (cutM σ x) :=
  ⟨h.ok, h.cutSec, rfl, rfl, rfl, Nat.le_refl _, fun _ _ _ => rfl, fun _ _ h => h, fun _ h => .inl h, h.lt, fun _ h => .inl h, fun _ _ _ => rfl, h.cutTop⟩
section
variable {P : Program} {F0 : Nat → Prop} {w0 : World} {M0 : MT} {σ : AS} {J : Sec} {ty : TypeId} {pos : String} {after : Array Edge} {guard : Option (Nat × Bool)}
theorem OpJ.of_value {d : Option Tmp} {op : Op} {S : AV → Sec → Prop} (hd : okDB σ d = true)
    (h : ∀ a w x T F, RelX F0 J w0 M0 σ a w x T F → ∃ v w' r J' T' F' M', (execOp a.eval ⟨d, op, ty, pos, after, guard⟩).run P w = .ok (.value v) w' ∧ S r J' ∧ PostJ T F w (cutM σ x) J' T' F' w' M' ∧ VR w' M' noV noG r v) :
    OpJ P F0 w0 M0 J σ ⟨d, op, ty, pos, after, guard⟩ (fun J' σ' => ∃ r, S r J' ∧ σ' = σ.put d r) := by
  intro a w ⟨x, T, F, hx⟩ K Q hK
  obtain ⟨v, w', r, J', T', F', M', h1, h2, h3, h4⟩ := h a w x T F hx
  unfold Oper.wp
  rw [h1, Oper.upon_value]
  obtain ⟨x', hx', hval⟩ := hx.back h3
  exact hK J' _ _ _ ⟨r, h2, rfl⟩ ⟨x', T', F', hx'.put (okD hd) (hval r v h4)⟩
theorem OpJ.of_skip {d : Option Tmp} {op : Op} {S : Sec → Prop} (hd : okDB σ d = true)
    (h : ∀ a w x T F, RelX F0 J w0 M0 σ a w x T F → ∃ w' J' T' F' M', (execOp a.eval ⟨d, op, ty, pos, after, guard⟩).run P w = .ok .skip w' ∧ S J' ∧ PostJ T F w (cutM σ x) J' T' F' w' M') :
    OpJ P F0 w0 M0 J σ ⟨d, op, ty, pos, after, guard⟩ (fun J' σ' => S J' ∧ σ' = σ.put d (.sc undef)) := by
  intro a w ⟨x, T, F, hx⟩ K Q hK
  obtain ⟨w', J', T', F', M', h1, h2, h3⟩ := h a w x T F hx
  unfold Oper.wp
  rw [h1, Oper.upon_skip]
  obtain ⟨x', hx', _⟩ := hx.back h3
  exact hK J' _ _ _ ⟨h2, rfl⟩ ⟨x', T', F', hx'.put (okD hd) (.sc undef)⟩
theorem o_makeMapJ {t : TypeId} {d : Option Tmp} {rv : Option Operand} {J' : Nat → Sec} (hrv : rv = none) (hok : ∀ s, SecOk (J' s)) (hJ : ∀ T F w M, J T F w M → (∀ b, F b → b < w.heap.size) → J' w.heap.size (fun b => T b ∨ b = w.heap.size) (fun b => F b ∨ b = w.heap.size) (w.alloc (.map #[] 0)) (upd M w.heap.size (some 0)))
    (hd : okDB σ d = true) :
    OpJ P F0 w0 M0 J σ ⟨d, .makeMap t rv, ty, pos, after, guard⟩ (fun J1 σ' => ∃ r, (∃ s, r = .sc (.map (some s)) ∧ J1 = J' s) ∧ σ' = σ.put d r) :=
  OpJ.of_value (S := fun r J1 => ∃ s, r = .sc (.map (some s)) ∧ J1 = J' s) hd fun a w X T F hr => by
    subst hrv
    have hp := hr.postRefl
    refine ⟨.map (some w.heap.size), w.alloc (.map #[] 0), .sc (.map (some w.heap.size)), J' w.heap.size, fun b => T b ∨ b = w.heap.size, fun b => F b ∨ b = w.heap.size, upd (cutM σ X) w.heap.size (some 0), ?_, ⟨_, rfl, rfl⟩, ?_, .sc _⟩
    · simp only [execOp]
      refine run_value ?_
      simp [Instr.makeMap, newObj, Sem.run]
    · refine ⟨hok _, hJ _ _ _ _ hp.sec hr.lt, rfl, rfl, rfl, by simp, fun k hk _ => heap_old w _ hk, fun k n hs => Sz.alloc hs, fun b hb => ?_, fun b hb => ?_, fun b hb => ?_, fun b hb _ => upd_ne _ _ (by omega), fun b hb => by
        have h2 : w.heap.size + 1 ≤ b := by simpa using hb
        rw [upd_ne _ _ (by omega)]; exact hr.cutTop b (by omega)⟩
      · rcases hb with h | h
        · exact .inl h
        · exact .inr (by omega)
      · rcases hb with h | h
        · have := hr.lt b h; simp; omega
        · simp; omega
      · rcases hb with h | h
        · exact .inl h
        · exact .inr (.inl (by omega))
end
structure KeyAt (P : Program) (kt : TypeId) {κ : Type} (key : κ → Value) [DecidableEq κ] : Prop where
  st : ∃ fs, P.underlying kt = some (.struct fs)
  eq : ∀ k k' w, (Op.equal kt (key k) (key k')).run P w = .ok (decide (k = k')) w
  ck : ∀ k b w, (Instr.checkKey b 10000 kt (key k)).run P w = .ok () w
  sb : ∀ k, Instr.sameBits 10000 (key k) (key k) = true
theorem run_findAsking {P : Program} {kt : TypeId} {κ : Type} [DecidableEq κ] {key : κ → Value} (K : KeyAt P kt key) (k : κ) (w : World) : ∀ (es : List MapEntry) (i : Nat), (∀ e ∈ es, ∃ k', e.key = key k') →
    (∃ j e, (Instr.findAsking kt (key k) es i).run P w = .ok (some (i + j, e.val)) w ∧ es[j]? = some e ∧ e.key = key k) ∨ (Instr.findAsking kt (key k) es i).run P w = .ok none w := by
  intro es
  induction es with
  | nil => intro i _; exact .inr (by simp [Instr.findAsking])
  | cons e es ih =>
    intro i he
    obtain ⟨k', hk'⟩ := he e List.mem_cons_self
    have h1 := K.eq k k' w
    by_cases hkk : k = k'
    · refine .inl ⟨0, e, ?_, rfl, by rw [hk', hkk]⟩
      subst hkk
      simp [Instr.findAsking, hk', h1, Result.andThen]
    · have h2 : (Instr.findAsking kt (key k) (e :: es) i).run P w = (Instr.findAsking kt (key k) es (i + 1)).run P w := by
        simp [Instr.findAsking, hk', h1, hkk, Result.andThen]
      rw [h2]
      rcases ih (i + 1) (fun x hx => he x (List.mem_cons_of_mem _ hx)) with ⟨j, x, g1, g2, g3⟩ | h
      · exact .inl ⟨j + 1, x, by rw [g1, show i + 1 + j = i + (j + 1) by omega], by simpa using g2, g3⟩
      · exact .inr h
theorem run_findKey {P : Program} {kt : TypeId} {κ : Type} [DecidableEq κ] {key : κ → Value} (K : KeyAt P kt key) (k : κ) (w : World) (es : List MapEntry) (he : ∀ e ∈ es, ∃ k', e.key = key k') :
    (∃ j e, (Instr.findKey kt (key k) es).run P w = .ok (some (j, e.val)) w ∧ es[j]? = some e ∧ e.key = key k) ∨ (Instr.findKey kt (key k) es).run P w = .ok none w := by
  obtain ⟨fs, hst⟩ := K.st
  cases es with
  | nil => exact .inr (by simp [Instr.findKey, run_underlying' hst, Instr.findNow, Result.andThen])
  | cons e es =>
    have h : (Instr.findKey kt (key k) (e :: es)).run P w = (Instr.findAsking kt (key k) (e :: es) 0).run P w := by
      simp [Instr.findKey, run_underlying' hst, Instr.findNow, Instr.sameNow, Result.andThen]
    rw [h]
    rcases run_findAsking K k w (e :: es) 0 he with ⟨j, x, g1, g2, g3⟩ | h
    · exact .inl ⟨j, x, by rw [g1, Nat.zero_add], g2, g3⟩
    · exact .inr h
end Go.Ab
set_option linter.unusedVariables false
set_option linter.unusedSimpArgs false
namespace Go.Ab
open Go.RowKit
def Jm {κ : Type} (key : κ → Value) (dom : κ → Prop) (val : κ → AV) (s : Nat) (fc : List (AV × Value)) : Sec := fun T F w M =>
  (∀ b, T b ↔ b = s) ∧ F s ∧ M s = some 0 ∧ (∃ es clock, w.heap[s]? = some (.map es clock) ∧ ∀ e ∈ es.toList, ∃ k, dom k ∧ e.key = key k ∧ VR w (inF F M) noV noG (val k) e.val) ∧
  ∀ p ∈ fc, VR w (inF F M) noV noG p.1 p.2
theorem Jm_ok {κ : Type} {key : κ → Value} {dom : κ → Prop} {val : κ → AV} {s : Nat} {fc : List (AV × Value)} : SecOk (Jm key dom val s fc) where
  stab := fun {T F w w' M M'} ⟨h1, h2, h3, ⟨es, clock, h4, h5⟩, h6⟩ h => by
    obtain ⟨g1, g2⟩ := h s h2
    refine ⟨h1, h2, g2.trans h3, ⟨es, clock, g1.trans h4, fun e he => ?_⟩, fun p hp => inF_stab h (h6 p hp)⟩
    obtain ⟨k, k1, k2, k3⟩ := h5 e he
    exact ⟨k, k1, k2, inF_stab h k3⟩
  sub := fun ⟨h1, h2, _⟩ b hb => by rw [(h1 b).1 hb]; exact h2
  hid := fun ⟨h1, _, h3, _⟩ b hb => by rw [(h1 b).1 hb]; exact h3
theorem Jm_fact {κ : Type} {key : κ → Value} {dom : κ → Prop} {val : κ → AV} {s : Nat} {fc : List (AV × Value)} {y v} (hm : (y, v) ∈ fc) {T F w M} (h : Jm key dom val s fc T F w M) : VR w M noV noG y v :=
  inF_open (h.2.2.2.2 _ hm)
theorem run_getObjM {P : Program} {w : World} {r : Nat} {es : Array MapEntry} {clock : Nat} (hb : w.heap[r]? = some (.map es clock)) : (getObj r).run P w = .ok (.map es clock) w := by
  simp [getObj, Sem.run, hb]
theorem run_setObjM {P : Program} {w : World} {r : Nat} {es : Array MapEntry} {clock : Nat} (o : Obj) (hb : w.heap[r]? = some (.map es clock)) : (setObj r o).run P w = .ok () { w with heap := w.heap.setIfInBounds r o } := by
  simp [setObj, Sem.run, hb]
theorem map_noSz {w : World} {s n : Nat} {es : Array MapEntry} {clock : Nat} (h : w.heap[s]? = some (.map es clock)) : ¬ Sz w s n := by
  rintro ⟨vs, ty, fz, h1, _⟩
  rw [h] at h1; cases h1
theorem setObj_other (w : World) (s k : Nat) (o : Obj) (h : k ≠ s) : ({ w with heap := w.heap.setIfInBounds s o } : World).heap[k]? = w.heap[k]? := by
  show (w.heap.setIfInBounds s o)[k]? = _
  rw [Array.getElem?_setIfInBounds_ne (Ne.symm h)]
theorem setObj_same (w : World) (s : Nat) (o : Obj) (h : s < w.heap.size) : ({ w with heap := w.heap.setIfInBounds s o } : World).heap[s]? = some o := by
  show (w.heap.setIfInBounds s o)[s]? = _
  rw [Array.getElem?_setIfInBounds_self_of_lt h]
section
variable {P : Program} {F0 : Nat → Prop} {w0 : World} {M0 : MT} {σ : AS} {ty : TypeId} {pos : String} {after : Array Edge} {guard : Option (Nat × Bool)}
variable {κ : Type} [DecidableEq κ] {key : κ → Value} {dom : κ → Prop} {val : κ → AV} {s : Nat} {fc : List (AV × Value)}
theorem o_lookupJ {t kt et : TypeId} {d : Option Tmp} {zv : Value} (K : KeyAt P kt key) (hinj : ∀ k k', key k = key k' → k = k') (m x : Operand) (k : κ) (ht : P.underlying t = some (.map kt et)) (hz : ∀ w, (zeroValue et).run P w = .ok zv w)
    (hm : exact (σ.ev m) = some (.map (some s))) (hx : exact (σ.ev x) = some (key k)) (hd : okDB σ d = true) :
    OpJ P F0 w0 M0 (Jm key dom val s fc) σ ⟨d, .lookup t m x true, ty, pos, after, guard⟩ (fun J' σ' => ∃ r, ((r = .tup [val k, .sc (.bool true)] ∧ dom k ∨ r = .tup [.sc zv, .sc (.bool false)]) ∧ J' = Jm key dom val s fc) ∧ σ' = σ.put d r) :=
  OpJ.of_value (S := fun r J' => (r = .tup [val k, .sc (.bool true)] ∧ dom k ∨ r = .tup [.sc zv, .sc (.bool false)]) ∧ J' = Jm key dom val s fc) hd fun a w X T F hr => by
    have hmv := (hr.rel.ev m).exact _ hm
    have hxv := (hr.rel.ev x).exact _ hx
    have hp := hr.postRefl
    obtain ⟨h1, h2, h3, ⟨es, clock, h4, h5⟩, h6⟩ := hp.sec
    have hkeys : ∀ e ∈ es.toList, ∃ k', e.key = key k' := fun e he => by obtain ⟨k', _, q, _⟩ := h5 e he; exact ⟨k', q⟩
    have hget := run_getObjM (P := P) h4
    rcases run_findKey K k w es.toList hkeys with ⟨j, e, g1, g2, g3⟩ | g1
    · have he : e ∈ es.toList := List.mem_of_getElem? g2
      obtain ⟨k', q1, q2, q3⟩ := h5 e he
      have hkk : k' = k := hinj _ _ (q2.symm.trans g3)
      subst hkk
      refine ⟨.tuple #[e.val, .bool true], w, .tup [val k', .sc (.bool true)], _, T, F, cutM σ X, ?_, ⟨.inl ⟨rfl, q1⟩, rfl⟩, hp, ?_⟩
      · simp only [execOp, hmv, hxv]
        refine run_value ?_
        simp [Instr.lookup, run_underlying' ht, hget, K.ck, g1, Result.andThen]
      · refine .tup [val k', .sc (.bool true)] [e.val, .bool true] rfl fun i c v hc hv => ?_
        rcases i with _ | _ | i
        · simp at hc hv; subst hc; subst hv; exact inF_open q3
        · simp at hc hv; subst hc; subst hv; exact .sc _
        · simp at hc
    · refine ⟨.tuple #[zv, .bool false], w, .tup [.sc zv, .sc (.bool false)], _, T, F, cutM σ X, ?_, ⟨.inr rfl, rfl⟩, hp, ?_⟩
      · simp only [execOp, hmv, hxv]
        refine run_value ?_
        simp [Instr.lookup, run_underlying' ht, hget, K.ck, g1, hz, Result.andThen]
      · refine .tup [.sc zv, .sc (.bool false)] [zv, .bool false] rfl fun i c v hc hv => ?_
        rcases i with _ | _ | i
        · simp at hc hv; subst hc; subst hv; exact .sc _
        · simp at hc hv; subst hc; subst hv; exact .sc _
        · simp at hc
theorem o_updateJ {t kt et : TypeId} {d : Option Tmp} (K : KeyAt P kt key) (m x y : Operand) (k : κ) (hk : dom k) (ht : P.underlying t = some (.map kt et))
    (hm : exact (σ.ev m) = some (.map (some s))) (hx : exact (σ.ev x) = some (key k)) (hy : (σ.ev y).close = some (val k)) (hgr : ∀ id, σ.gr id = none) (hd : okDB σ d = true) :
    OpJ P F0 w0 M0 (Jm key dom val s fc) σ ⟨d, .mapUpdate t m x y, ty, pos, after, guard⟩ (fun J' σ' => J' = Jm key dom val s fc ∧ σ' = σ.put d (.sc undef)) :=
  OpJ.of_skip (S := fun J' => J' = Jm key dom val s fc) hd fun a w X T F hr => by
    have hmv := (hr.rel.ev m).exact _ hm
    have hxv := (hr.rel.ev x).exact _ hx
    have hp := hr.postRefl
    have hyv := hr.cutArg ((hr.rel.ev y).closed _ hy noV noG) (.inr hgr)
    obtain ⟨h1, h2, h3, ⟨es, clock, h4, h5⟩, h6⟩ := hp.sec
    have hkeys : ∀ e ∈ es.toList, ∃ k', e.key = key k' := fun e he => by obtain ⟨k', _, q, _⟩ := h5 e he; exact ⟨k', q⟩
    have hget := run_getObjM (P := P) h4
    have hlt := lt_of_cells h4
    let F1 : Nat → Prop := fun b => F b ∨ (b < w.heap.size ∧ cutM σ X b ≠ some 0)
    have main : ∀ (es' : Array MapEntry) clock', (∀ e ∈ es'.toList, e ∈ es.toList ∨ e.key = key k ∧ e.val = a.eval y) →
        PostJ T F w (cutM σ X) (Jm key dom val s fc) T F1 { w with heap := w.heap.setIfInBounds s (.map es' clock') } (cutM σ X) := fun es' clock' hes => by
      have hF1 : ∀ {z v}, VR w (inF F (cutM σ X)) noV noG z v → VR { w with heap := w.heap.setIfInBounds s (.map es' clock') } (inF F1 (cutM σ X)) noV noG z v := fun hv =>
        hv.monoI rfl fun b off u hi => by
          obtain ⟨q1, q2⟩ := inF_imm.1 hi
          have hb : b ≠ s := fun e => by subst e; exact absurd (q2.2.2 0 h3) (by omega)
          exact inF_imm.2 ⟨.inl q1, by rw [cell?_same (setObj_other w s b _ hb)]; exact q2.1, q2.2⟩
      have hnew : VR { w with heap := w.heap.setIfInBounds s (.map es' clock') } (inF F1 (cutM σ X)) noV noG (val k) (a.eval y) :=
        hyv.monoI rfl fun b off u hi => by
          have hb : b ≠ s := fun e => by subst e; exact absurd (hi.2.2 0 h3) (by omega)
          have hbl : b < w.heap.size := by
            rcases Nat.lt_or_ge b w.heap.size with h' | h'
            · exact h'
            · have := hi.1; simp [World.cell?, Array.getElem?_eq_none h'] at this
          exact inF_imm.2 ⟨.inr ⟨hbl, fun e => absurd (hi.2.2 0 e) (by omega)⟩, by rw [cell?_same (setObj_other w s b _ hb)]; exact hi.1, hi.2⟩
      refine ⟨Jm_ok, ⟨h1, .inl h2, h3, ⟨es', clock', setObj_same w s _ hlt, fun e he => ?_⟩, fun p hp => hF1 (h6 p hp)⟩, rfl, rfl, rfl, by simp, fun b hb hT => setObj_other w s b _ fun e => hT ((h1 b).2 e), fun b n hs => ?_, fun _ h => .inl h, fun b hb => ?_, fun b hb => ?_, fun _ _ _ => rfl, fun b hb => hr.cutTop b (by simpa using hb)⟩
      · rcases hes e he with h | ⟨q1, q2⟩
        · obtain ⟨k', q1, q2, q3⟩ := h5 e h
          exact ⟨k', q1, q2, hF1 q3⟩
        · exact ⟨k, hk, q1, by rw [q2]; exact hnew⟩
      · have hb : b ≠ s := fun e => by subst e; exact map_noSz h4 hs
        exact hs.of_eq (setObj_other w s b _ hb)
      · show b < (w.heap.setIfInBounds s _).size
        rw [Array.size_setIfInBounds]
        rcases hb with h | h
        · exact hr.lt b h
        · exact h.1
      · rcases hb with h | h
        · exact .inl h
        · exact .inr (.inr h.2)
    rcases run_findKey K k w es.toList hkeys with ⟨j, e, g1, g2, g3⟩ | g1
    · have hej : es[j]? = some e := by simpa using g2
      have hset := run_setObjM (P := P) (.map (es.modify j fun e => { e with key := key k, val := a.eval y }) clock) h4
      refine ⟨_, _, T, F1, cutM σ X, ?_, rfl, main (es.modify j fun e => { e with key := key k, val := a.eval y }) clock fun e' he' => ?_⟩
      · simp [execOp, hmv, hxv, Instr.mapUpdate, run_underlying' ht, hget, K.ck, g1, Result.andThen, hej, g3, Instr.keyThatStays, K.sb, hset]
      · obtain ⟨i, hi⟩ := List.getElem?_of_mem he'
        have hi2 : (es.modify j fun e => { e with key := key k, val := a.eval y })[i]? = some e' := by rw [← Array.getElem?_toList]; exact hi
        rw [Array.getElem?_modify] at hi2
        split at hi2
        · cases hgi : es[i]? with
          | none => rw [hgi] at hi2; cases hi2
          | some e0 => rw [hgi] at hi2; cases hi2; exact .inr ⟨rfl, rfl⟩
        · exact .inl (List.mem_of_getElem? (by simpa using hi2))
    · have hset := run_setObjM (P := P) (.map (es.push { key := key k, val := a.eval y, born := clock }) (clock + 1)) h4
      refine ⟨_, _, T, F1, cutM σ X, ?_, rfl, main (es.push { key := key k, val := a.eval y, born := clock }) (clock + 1) fun e' he' => ?_⟩
      · simp [execOp, hmv, hxv, Instr.mapUpdate, run_underlying' ht, hget, K.ck, g1, Result.andThen, hset]
      · simp at he'
        rcases he' with h | h
        · exact .inl (by simpa using h)
        · subst h; exact .inr ⟨rfl, rfl⟩
end
def Sec.sep (J1 J2 : Sec) : Sec := fun T F w M => ∃ T1 F1 T2 F2, (∀ b, T b ↔ T1 b ∨ T2 b) ∧ (∀ b, F b ↔ F1 b ∨ F2 b) ∧ (∀ b, T1 b → ¬ F2 b) ∧ (∀ b, T2 b → ¬ F1 b) ∧ J1 T1 F1 w M ∧ J2 T2 F2 w M
theorem Sec.sep_ok {J1 J2 : Sec} (o1 : SecOk J1) (o2 : SecOk J2) : SecOk (J1.sep J2) where
  stab := fun ⟨T1, F1, T2, F2, h1, h2, h3, h4, h5, h6⟩ h => ⟨T1, F1, T2, F2, h1, h2, h3, h4, o1.stab h5 fun b hb => h b ((h2 b).2 (.inl hb)), o2.stab h6 fun b hb => h b ((h2 b).2 (.inr hb))⟩
  sub := fun ⟨T1, F1, T2, F2, h1, h2, h3, h4, h5, h6⟩ b hb => (h2 b).2 (((h1 b).1 hb).imp (o1.sub h5 b) (o2.sub h6 b))
  hid := fun ⟨T1, F1, T2, F2, h1, h2, h3, h4, h5, h6⟩ b hb => ((h1 b).1 hb).elim (o1.hid h5 b) (o2.hid h6 b)
theorem FSpecJ.frame {P : Program} {J1 J2 : Sec} {f : FuncId} {args : List AV} {R : AV → Sec → Prop} (o1 : SecOk J1) (o2 : SecOk J2) (h : FSpecJ P J1 f args R) :
    FSpecJ P (J1.sep J2) f args (fun r J' => ∃ J1', R r J1' ∧ J' = J1'.sep J2) := by
  intro w M vals T F hok ⟨T1, F1, T2, F2, h1, h2, h3, h4, h5, h6⟩ hlt hlen hargs hM
  refine (h w M vals T1 F1 o1 h5 (fun b hb => hlt b ((h2 b).2 (.inl hb))) hlen hargs hM).mono fun e w' ⟨v, r, J', T', F', M', g1, g2, g3, g4⟩ => ?_
  have hF2 : ∀ b, F2 b → b < w.heap.size ∧ ¬ T1 b := fun b hb => ⟨hlt b ((h2 b).2 (.inr hb)), fun ht => h3 b ht hb⟩
  have hT2lt : ∀ b, T2 b → b < w.heap.size := fun b hb => (hF2 b (o2.sub h6 b hb)).1
  refine ⟨v, r, J'.sep J2, fun b => T' b ∨ T2 b, fun b => F' b ∨ F2 b, M', g1, ⟨J', g2, rfl⟩, ?_, g4⟩
  refine ⟨Sec.sep_ok g3.ok o2, ⟨T', F', T2, F2, fun _ => Iff.rfl, fun _ => Iff.rfl, fun b hb hf => ?_, fun b hb hf => ?_, g3.sec, o2.stab h6 fun b hb => ⟨g3.block b (hF2 b hb).1 (hF2 b hb).2, g3.old b (hF2 b hb).1 (hF2 b hb).2⟩⟩, g3.os, g3.tape, g3.output, g3.size, fun k hk hT => g3.block k hk fun ht => hT ((h1 k).2 (.inl ht)), g3.sz, fun b hb => ?_, fun b hb => ?_, fun b hb => ?_, fun b hb hT => g3.old b hb fun ht => hT ((h1 b).2 (.inl ht)), g3.top⟩
  · rcases g3.t b hb with h | h
    · exact (hF2 b hf).2 h
    · have := (hF2 b hf).1; omega
  · rcases g3.f b hf with h | h | h
    · exact h4 b hb h
    · have := hT2lt b hb; omega
    · exact h (o2.hid h6 b hb)
  · rcases hb with hb | hb
    · rcases g3.t b hb with h | h
      · exact .inl ((h1 b).2 (.inl h))
      · exact .inr h
    · exact .inl ((h1 b).2 (.inr hb))
  · rcases hb with hb | hb
    · exact g3.lt b hb
    · exact Nat.lt_of_lt_of_le (hF2 b hb).1 g3.size
  · rcases hb with hb | hb
    · rcases g3.f b hb with h | h | h
      · exact .inl ((h2 b).2 (.inl h))
      · exact .inr (.inl h)
      · exact .inr (.inr h)
    · exact .inl ((h2 b).2 (.inr hb))
end Go.Ab
set_option linter.unusedVariables false
set_option linter.unusedSimpArgs false
namespace Go.Ab
open Go.RowKit
theorem drawnCore {P : Program} {w0 : World} {M0 : MT} {σ σF : AS} {id : Nat} {ops : Array Oper} {evs : List (Option Ev)} (m : Nat) (hm : P.follows .mixedOrders = true) (hc : drawOk ops m = true)
    (hch : Chain P w0 M0 ops (ops.toList.take m) σ evs σF) (Q' : Exit → Act → World → Prop) (htail : ∀ a w, Rel w0 M0 σF a w → wpList P ops Q' (ops.toList.drop m) a w) :
    ∀ a w, Rel w0 M0 σ a w → (Code.region id ops true).wp P Q' a w := by
  intro a w ⟨x0, hr0⟩
  have F := drawFacts hc
  obtain ⟨st, st0, stF, hst⟩ := hch.states
  have hlen : (ops.toList.take m).length = m := by have := F.le; simp; omega
  rw [hlen] at stF
  let W : Nat → Option Nat := writer ops m
  let E : Nat → Option Ev := fun i => (evs[i]?).getD none
  have hget : ∀ i, i < m → ∀ o, ops[i]? = some o → (ops.toList.take m)[i]? = some o := fun i hi o ho => by
    rw [List.getElem?_take, if_pos hi, Array.getElem?_toList]; exact ho
  have hstep : ∀ i, i < m → ∀ o, ops[i]? = some o → StepOk P w0 M0 ops (st i) o (E i) ∧ st (i + 1) = appO (st i) o.dst (E i) := fun i hi o ho => by
    obtain ⟨e, g1, g2, g3⟩ := hst i o (hget i hi o ho)
    simp only [E, g1, Option.getD_some]
    exact ⟨g2, g3⟩
  have hhead : ∀ i, i < m → headO (E i) = true := fun i hi => by
    obtain ⟨o, d, p1, _⟩ := F.dst i hi
    have := (hstep i hi o p1).1
    cases hE : E i with
    | none => rfl
    | some e => rw [hE] at this; exact this.2.2
  have hW : ∀ i, i < m → ∀ d, dstOf ops i = some d → ∀ t, W t = some i ↔ t = d := fun i hi d hd t => by
    rw [writer_iff F t i]
    exact ⟨fun ⟨_, h2⟩ => Option.some.inj (h2.symm.trans hd), fun h => by subst h; exact ⟨hi, hd⟩⟩
  have hcanon : ∀ i, i ≤ m → st i = mix σ W E (fun j => Nat.blt j i) := by
    intro i
    induction i with
    | zero =>
      intro _
      rw [st0]
      refine (mix_none σ W E).symm.trans ?_
      congr 1
    | succ i ih =>
      intro hi
      obtain ⟨o, d, p1, p2, _⟩ := F.dst i hi
      have hd : dstOf ops i = some d := by simp [dstOf, p1, p2]
      rw [(hstep i hi o p1).2, p2, ih (by omega), mix_step σ W E (fun j => Nat.blt j i) (hW i hi d hd) (bltF (by omega)) (hhead i hi)]
      congr 1
      funext j
      by_cases hj : j = i
      · subst hj; rw [bltT (Nat.lt_succ_self _)]; simp
      · rw [beq_ff hj]
        by_cases hb : j < i
        · rw [bltT hb, bltT (by omega)]; rfl
        · rw [bltF hb, bltF (by omega)]; rfl
  refine wp_region_any hm ?_
  have main : ∀ (k : Nat) (listed : Array Bool) (a : Act) (w : World), listed.size = ops.size → (∀ j oj, ops[j]? = some oj → listed.getD j false = true → ∀ e ∈ oj.after, Region.binds .any e = true → listed.getD e.on false = true) →
      (∀ t, m ≤ t → t < ops.size → listed.getD t true = false) → ((List.range m).filter fun j => !listed.getD j false).length = k →
      Rel w0 M0 (mix σ W E fun j => listed.getD j false) a w → wpAny P .any ops Q' (k + (ops.size - m)) listed a w := by
    intro k
    induction k with
    | zero =>
      intro listed a w hsz hclosed htl hcount hr
      have hall : ∀ j, j < m → listed.getD j false = true := fun j hj => by
        have : (List.range m).filter (fun j => !listed.getD j false) = [] := List.eq_nil_of_length_eq_zero hcount
        have := List.filter_eq_nil_iff.1 this j (List.mem_range.2 hj)
        simpa using this
      have hL : listed = headL m ops.size := by
        refine arr_ext_getD (by rw [hsz]; simp [headL]; have := F.le; omega) fun j => ?_
        rw [headL_get m ops.size j F.le]
        by_cases h1 : j < m
        · rw [if_pos h1]; exact hall j h1
        · rw [if_neg h1]
          by_cases h2 : j < ops.size
          · rw [if_pos h2]; exact getD_both (htl j (by omega) h2)
          · rw [if_neg h2]; simp [Array.getD, hsz, h2]
      have hF : mix σ W E (fun j => listed.getD j false) = σF := by
        rw [← stF, hcanon m (Nat.le_refl _)]
        have : ∀ t j, W t = some j → listed.getD j false = Nat.blt j m := fun t j hj => by
          have := ((writer_iff F t j).1 hj).1
          rw [hall j this, bltT this]
        apply AS.ext'
        · rfl
        · intro t; simp only [mix]; cases hw : W t with
          | none => rfl
          | some j => simp only [this t j hw]
        · intro t; simp only [mix]; cases hw : W t.1 with
          | none => rfl
          | some j => simp only [this t.1 j hw]
        · intro t; simp only [mix]; cases hw : W t.1 with
          | none => rfl
          | some j => simp only [this t.1 j hw]
        · intro t; simp only [mix]; cases hw : W t with
          | none => rfl
          | some j => simp only [this t j hw]
      rw [hF] at hr
      subst hL
      have hdl : (ops.toList.drop m).length = ops.size - m := by simp
      have := wpAny_of_seq (P := P) (md := .any) (ops := ops) (Q' := Q') (ops.toList.drop m) m (headL m ops.size) a w (fun j => by rw [List.getElem?_drop, Array.getElem?_toList]) (by rw [hdl]; exact F.seq)
        (htail a w hr)
      rw [hdl] at this
      rw [Nat.zero_add]
      exact this
    | succ k ih =>
      intro listed a w hsz hclosed htl hcount hr
      rw [show k + 1 + (ops.size - m) = (k + (ops.size - m)) + 1 by omega]
      have hex : ∃ j, j < m ∧ listed.getD j false = false := by
        have : (List.range m).filter (fun j => !listed.getD j false) ≠ [] := fun h => by rw [h] at hcount; simp at hcount
        obtain ⟨j, hj⟩ := List.exists_mem_of_ne_nil _ this
        obtain ⟨h1, h2⟩ := List.mem_filter.1 hj
        exact ⟨j, List.mem_range.1 h1, by simpa using h2⟩
      have hmin : ∃ j, j < m ∧ listed.getD j false = false ∧ ∀ i, i < j → listed.getD i false = true := by
        obtain ⟨j, hj1, hj2⟩ := hex
        have key : ∀ n j, j ≤ n → j < m → listed.getD j false = false → ∃ j, j < m ∧ listed.getD j false = false ∧ ∀ i, i < j → listed.getD i false = true := by
          intro n
          induction n with
          | zero => intro j hj h1 h2; exact ⟨j, h1, h2, fun i hi => by omega⟩
          | succ n ihn =>
            intro j hj h1 h2
            by_cases hh : ∃ i, i < j ∧ listed.getD i false = false
            · obtain ⟨i, hi1, hi2⟩ := hh
              exact ihn i (by omega) (by omega) hi2
            · refine ⟨j, h1, h2, fun i hi => ?_⟩
              cases hl : listed.getD i false with
              | true => rfl
              | false => exact absurd ⟨i, hi, hl⟩ hh
        exact key j j (Nat.le_refl _) hj1 hj2
      refine ⟨fun hno => ?_, fun i hi => ?_⟩
      · exfalso
        obtain ⟨j, hj1, hj2, hj3⟩ := hmin
        have hjs : j < ops.size := Nat.lt_of_lt_of_le hj1 F.le
        have hready : j ∈ Region.ready .any ops listed := mem_ready.2 ⟨getD_in (by rw [hsz]; exact hjs) hj2, ops[j], Array.getElem?_eq_getElem hjs, fun e he hb => hj3 e.on (F.down j _ (Array.getElem?_eq_getElem hjs) e he hb)⟩
        rw [hno] at hready
        cases hready
      · obtain ⟨hun, oi, hoi, hdeps⟩ := mem_ready.1 hi
        have hin : i < ops.size := (Array.getElem?_eq_some_iff.1 hoi).1
        have him : i < m := by
          rcases Nat.lt_or_ge i m with h | h
          · exact h
          · exfalso
            have hmn : m < ops.size := by omega
            obtain ⟨s1, s2⟩ := F.tail hmn
            obtain ⟨j, hj1, hj2, _⟩ := hmin
            exact tail_waits s1 s2 hmn ⟨hsz, hclosed, htl⟩ _ j rfl hj1 (getD_in (by rw [hsz]; omega) hj2) i h hi
        obtain ⟨o, d, p1, p2, p3, p4⟩ := F.dst i him
        have : o = oi := Option.some.inj (p1.symm.trans hoi)
        subst this
        have hd : dstOf ops i = some d := by simp [dstOf, p1, p2]
        have hunF : listed.getD i false = false := getD_both hun
        have next : ∀ a' w', Rel w0 M0 (appO (mix σ W E fun j => listed.getD j false) (some d) (E i)) a' w' → wpAny P .any ops Q' (k + (ops.size - m)) (listed.setIfInBounds i true) a' w' := fun a' w' hr' => by
          rw [mix_step σ W E _ (hW i him d hd) hunF (hhead i him)] at hr'
          have hS : (fun j => bif Nat.beq j i then true else listed.getD j false) = fun j => (listed.setIfInBounds i true).getD j false := by
            funext j
            by_cases hj : j = i
            · subst hj; simp [Array.getD, hsz, hin]
            · rw [beq_ff hj, getD_set_ne false (Ne.symm hj)]; rfl
          rw [hS] at hr'
          refine ih (listed.setIfInBounds i true) a' w' (by simp [hsz]) (fun j oj hj hl e he hb => ?_) (fun t ht ht' => by rw [getD_set_ne true (by omega)]; exact htl t ht ht') ?_ hr'
          · by_cases hij : i = j
            · subst hij
              have : oj = o := Option.some.inj (hj.symm.trans hoi)
              subst this
              exact getD_set_true (hdeps e he hb)
            · rw [getD_set_ne false hij] at hl
              exact getD_set_true (hclosed j oj hj hl e he hb)
          ·
            have hcnt : ∀ l : List Nat, l.Nodup → i ∈ l → (l.filter fun j => !listed.getD j false).length = ((l.filter fun j => !(listed.setIfInBounds i true).getD j false)).length + 1 := by
              intro l
              induction l with
              | nil => intro _ h; cases h
              | cons b l ihl =>
                intro hnd hmem
                have hnd' := List.nodup_cons.1 hnd
                by_cases hb : b = i
                · subst hb
                  have hsame : (l.filter fun j => !(listed.setIfInBounds b true).getD j false) = l.filter fun j => !listed.getD j false := by
                    apply List.filter_congr
                    intro j hj
                    have : b ≠ j := fun h => hnd'.1 (h ▸ hj)
                    rw [getD_set_ne false this]
                  have hset : (listed.setIfInBounds b true).getD b false = true := by simp [Array.getD, hsz, hin]
                  rw [List.filter_cons_of_pos (by simpa using hunF), List.filter_cons_of_neg (by rw [hset]; simp), hsame]
                  rfl
                · have hmem' : i ∈ l := by rcases List.mem_cons.1 hmem with h | h; exact absurd h.symm hb; exact h
                  have := ihl hnd'.2 hmem'
                  have hbne : (listed.setIfInBounds i true).getD b false = listed.getD b false := getD_set_ne false (Ne.symm hb)
                  cases hl : listed.getD b false with
                  | true => rw [List.filter_cons_of_neg (by rw [hl]; simp), List.filter_cons_of_neg (by rw [hbne, hl]; simp)]; exact this
                  | false => rw [List.filter_cons_of_pos (by rw [hl]; simp), List.filter_cons_of_pos (by rw [hbne, hl]; simp), List.length_cons, List.length_cons, this]
            have := hcnt (List.range m) List.nodup_range (List.mem_range.2 him)
            omega
        have htm : ∀ t ∈ readsOf ops o, (mix σ W E fun j => listed.getD j false).tm t = (st i).tm t := fun t ht => by
          rw [hcanon i (Nat.le_of_lt him)]
          simp only [mix]
          cases hw : W t with
          | none => rfl
          | some j =>
            obtain ⟨q1, q2⟩ := (writer_iff F t j).1 hw
            obtain ⟨q3, q4⟩ := p4 t ht j q1 q2
            obtain ⟨o', ho', e, he, hb, hon⟩ := Region.waitsFor_spec q4
            have : o' = o := Option.some.inj (ho'.symm.trans hoi)
            subst this
            have hl := hdeps e he hb
            rw [hon] at hl
            simp only [hl, bltT q3]
        have hn : (mix σ W E fun j => listed.getD j false).n = (st i).n := by rw [hcanon i (Nat.le_of_lt him)]; rfl
        obtain ⟨X, hx⟩ := hr
        have hguard : ∀ w, GoOk ops (st i) o w → Region.wanted o (yielded ops a.tmps) = w := fun w hg => wanted_of hx hn htm hg
        unfold wpOp
        simp only [hoi]
        have hso := (hstep i him o hoi).1
        cases hE : E i with
        | none =>
          rw [hE] at hso next
          rw [hguard false hso.1]
          simp only [Bool.false_eq_true, if_false]
          rw [p2]
          refine next _ _ ⟨X, hx.put (d := some d) ?_ (.sc undef)⟩
          have := hso.2
          rw [p2] at this
          show d < _
          rw [hn]
          exact this
        | some e =>
          rw [hE] at hso next
          obtain ⟨s1, s2, s3⟩ := hso
          rw [hguard true s1]
          simp only [if_true]
          refine .inl (s2 _ ⟨hn, fun y hy => ?_, fun y hy id off cs hyr hycs => ?_⟩ a w ⟨X, hx⟩ _ _ fun a' w' hr' => next a' w' (by rw [p2] at hr'; exact hr'))
          · cases y with
            | tmp t => exact htm t (List.mem_append.2 (.inl (List.mem_filterMap.2 ⟨.tmp t, Array.mem_toList_iff.2 hy, rfl⟩)))
            | const v => exact ev_const _ _ v
            | global g => rfl
            | func f => rfl
          ·
            have hev : (mix σ W E fun j => listed.getD j false).ev y = .ref id off := by
              cases y with
              | tmp t => exact (htm t (List.mem_append.2 (.inl (List.mem_filterMap.2 ⟨.tmp t, Array.mem_toList_iff.2 hy, rfl⟩)))).trans hyr
              | const v => exact (ev_const _ _ v).trans hyr
              | global g => exact hyr
              | func f => exact hyr
            have hVR := hx.ev y
            rw [hev] at hVR
            have hVs : ∃ b, X.V id = some b := by
              generalize a.eval y = cv at hVR
              cases hVR with
              | ref _ _ b hb => exact ⟨b, hb⟩
            obtain ⟨b, hVb⟩ := hVs
            have hglt : id.2 < (mix σ W E fun j => listed.getD j false).gen id.1 := by
              rcases Nat.lt_or_ge id.2 ((mix σ W E fun j => listed.getD j false).gen id.1) with h | h
              · exact h
              · have := (hx.fresh id.1 id.2 h).1
                have h2 : X.V (id.1, id.2) = some b := hVb
                rw [this] at h2; cases h2
            rw [hcanon i (Nat.le_of_lt him)] at hycs
            simp only [mix] at hycs hglt ⊢
            cases hw : W id.1 with
            | none => rw [hw] at hycs; exact hycs
            | some j =>
              simp only [hw] at hycs hglt ⊢
              have hσ0 : ∀ cs, σ.va id = some cs → id.2 < σ.gen id.1 := fun cs h => hr0.vgen id.1 id.2 cs h
              cases hji : Nat.blt j i with
              | true =>
                rw [hji] at hycs
                cases hlj : listed.getD j false with
                | true => exact hycs
                | false =>
                  simp only [hlj, cond_false] at hglt ⊢
                  simp only [cond_true] at hycs
                  cases hEj : E j with
                  | none => rw [hEj] at hycs; exact hycs
                  | some ej =>
                    rw [hEj] at hycs
                    cases ej with
                    | alloc cs' =>
                      simp only [vaA] at hycs
                      rw [beq_ff (by omega : id.2 ≠ σ.gen id.1)] at hycs
                      exact hycs
                    | allocA cs' _ =>
                      simp only [vaA] at hycs
                      rw [beq_ff (by omega : id.2 ≠ σ.gen id.1)] at hycs
                      exact hycs
                    | val v => exact hycs
                    | fresh v n z e => exact hycs
                    | grow => exact hycs
                    | stor => exact hycs
                    | lend => exact hycs
                    | spend => exact hycs
              | false =>
                rw [hji] at hycs
                simp only [cond_false] at hycs
                cases hlj : listed.getD j false with
                | false => exact hycs
                | true =>
                  simp only [cond_true]
                  have := hσ0 cs hycs
                  cases hEj : E j with
                  | none => exact hycs
                  | some ej =>
                    cases ej with
                    | alloc cs' =>
                      simp only [vaA]
                      rw [beq_ff (by omega : id.2 ≠ σ.gen id.1)]
                      exact hycs
                    | allocA cs' _ =>
                      simp only [vaA]
                      rw [beq_ff (by omega : id.2 ≠ σ.gen id.1)]
                      exact hycs
                    | val v => exact hycs
                    | fresh v n z e => exact hycs
                    | grow => exact hycs
                    | stor => exact hycs
                    | lend => exact hycs
                    | spend => exact hycs
  have hstart := main ((List.range m).filter fun j => !(Array.replicate ops.size false).getD j false).length (Array.replicate ops.size false) a { w with drawn := w.drawn + 1 } (by simp)
    (fun j oj _ hl => by rw [getD_replicate_false] at hl; cases hl) (fun t _ ht' => by simp [Array.getD, ht']) rfl
    (by
      have : (fun j => (Array.replicate ops.size false).getD j false) = fun _ => false := by funext j; exact getD_replicate_false _ _
      rw [this, mix_none]
      exact ⟨x0, hr0.drew⟩)
  have hk : ((List.range m).filter fun j => !(Array.replicate ops.size false).getD j false).length = m := by
    rw [List.filter_eq_self.2 (fun j _ => by rw [getD_replicate_false]; rfl)]
    simp
  rw [hk] at hstart
  rw [show m + (ops.size - m) = ops.size by have := F.le; omega] at hstart
  exact hstart
def AHeadJ (P : Program) (F0 : Nat → Prop) (w0 : World) (M0 : MT) (ops : Array Oper) (l tail : List Oper) (R : Sec → AS → Prop) (J : Sec) (σ : AS) : Prop :=
  ∃ evs σF, (∀ u N, Chain P u N ops l σ evs σF) ∧ AOpsJ P F0 w0 M0 ops tail R J σF
section
variable {P : Program} {F0 : Nat → Prop} {w0 : World} {M0 : MT} {J : Sec} {ops : Array Oper} {R : Sec → AS → Prop} {rest tail : List Oper} {σ : AS}
theorem AHeadJ.nil (h : AOpsJ P F0 w0 M0 ops tail R J σ) : AHeadJ P F0 w0 M0 ops [] tail R J σ := ⟨[], σ, fun _ _ => ⟨rfl, rfl⟩, h⟩
theorem AHeadJ.call {d : Option Tmp} {op : Op} {ty : TypeId} {pos : String} {after : Array Edge} {e : Ev} (ho : ∀ u N, OpAny P u N σ ⟨d, op, ty, pos, after, none⟩ e) (he : headEv e = true)
    (h : AHeadJ P F0 w0 M0 ops rest tail R J (σ.app d e)) : AHeadJ P F0 w0 M0 ops (⟨d, op, ty, pos, after, none⟩ :: rest) tail R J σ := by
  obtain ⟨evs, σF, h1, h2⟩ := h
  exact ⟨some e :: evs, σF, fun u N => ⟨some e, evs, rfl, ⟨rfl, ho u N, he⟩, h1 u N⟩, h2⟩
theorem AWPJ.drawn {id : Nat} {Q : Exit → Sec → AS → Prop} (m : Nat) (hm : P.follows .mixedOrders = true) (hc : drawOk ops m = true)
    (h : AHeadJ P F0 w0 M0 ops (ops.toList.take m) (ops.toList.drop m) (Q .normal) J σ) : AWPJ P F0 w0 M0 (.region id ops true) Q J σ := by
  obtain ⟨evs, σF, hch, htail⟩ := h
  intro a w ⟨x, T, F, hx⟩ Q' hQ
  exact drawnCore m hm hc (hch w ⟨x.M, ownT σ x, M0.v⟩) Q' (fun a1 w1 ⟨x1, hr1⟩ => htail a1 w1 ⟨x1, T, F, hx.lift hr1⟩ Q' fun J' σ' a' w' hq hr' => hQ _ J' σ' a' w' hq hr') a w ⟨x, hx.rel.rebase⟩
end
section
variable {P : Program} {σ : AS} {J : Sec} {R : AV → Sec → Prop}
theorem postQJ.ret0 {fn : Func} (hf : fn.results = #[]) (hR : R (.tup []) J) : postQJ P fn R .ret J σ := ⟨[], .tup [], by rw [hf]; exact trivial, rfl, hR⟩
theorem postQJ.end0 {fn : Func} (hf : fn.results = #[]) (hR : R (.tup []) J) : postQJ P fn R .normal J σ := ⟨[], .tup [], by rw [hf]; exact trivial, rfl, hR⟩
theorem postQJ.ret1 {fn : Func} {t : Nat} {v r : AV} (hf : fn.results = #[.tmp t]) (hv : nf (σ.tm t) = some v) (hr : v.close = some r) (hR : R r J) : postQJ P fn R .ret J σ :=
  ⟨[v], r, by rw [hf]; exact ⟨nf_eq hv, trivial⟩, hr, hR⟩
theorem postQJ.ret2 {fn : Func} {t t' : Nat} {v v' r : AV} (hf : fn.results = #[.tmp t, .tmp t']) (hv : nf (σ.tm t) = some v) (hv' : nf (σ.tm t') = some v') (hr : (AV.tup [v, v']).close = some r) (hR : R r J) : postQJ P fn R .ret J σ :=
  ⟨[v, v'], r, by rw [hf]; exact ⟨nf_eq hv, nf_eq hv', trivial⟩, hr, hR⟩
end
end Go.Ab
namespace Go.Ab
open Go.RowKit
section
variable {P : Program} {F0 : Nat → Prop} {w0 : World} {M0 : MT} {J : Sec} {ops : Array Oper} {R : Sec → AS → Prop} {rest : List Oper} {σ : AS}
theorem AOpsJ.go {d : Option Tmp} {op : Op} {ty : TypeId} {pos : String} {after : Array Edge} {j t : Nat} {want b : Bool} {e : Ev} (hj : (ops[j]?).bind (·.dst) = some t) (ht : Nat.blt t σ.n = true) (hv : exact (σ.tm t) = some (.bool b)) (hb : b = want)
    (ho : ∀ u N, OpSeq P u N σ ⟨d, op, ty, pos, after, some (j, want)⟩ e) (h : AOpsJ P F0 w0 M0 ops rest R J (σ.app d e)) : AOpsJ P F0 w0 M0 ops (⟨d, op, ty, pos, after, some (j, want)⟩ :: rest) R J σ :=
  AOpsJ.goOp hj ht hv hb (OpSeq.toJ ho) fun J' σ' ⟨h1, h2⟩ => by subst h1; subst h2; exact h
theorem AOpsJ.pass {d : Option Tmp} {op : Op} {ty : TypeId} {pos : String} {after : Array Edge} {j t : Nat} {want b : Bool} (hj : (ops[j]?).bind (·.dst) = some t) (ht : Nat.blt t σ.n = true) (hv : exact (σ.tm t) = some (.bool b))
    (hb : b = !want) (hd : okDB σ d = true) (h : AOpsJ P F0 w0 M0 ops rest R J (σ.put d (.sc undef))) :
    AOpsJ P F0 w0 M0 ops (⟨d, op, ty, pos, after, some (j, want)⟩ :: rest) R J σ := fun a w ⟨X, T, F, hx⟩ Q' hQ => by
  have hy := yielded_of (ops := ops) hx.rel hj (ltB ht) hv
  have hnw : Region.wanted ⟨d, op, ty, pos, after, some (j, want)⟩ (yielded ops a.tmps) = false := by
    simp only [Region.wanted, hy, hb]
    cases want <;> rfl
  refine wpList_step fun K hK => ?_
  rw [if_neg (by rw [hnw]; simp)]
  exact hK _ _ (h _ _ ⟨X, T, F, hx.put (okD hd) (.sc undef)⟩ Q' hQ)
end
end Go.Ab
set_option linter.unusedVariables false
set_option linter.unusedSimpArgs false
namespace Go.Ab
open Go.RowKit
def Jrow (e z : Nat) (v : Value) (n : Nat) (cs : List AV) : Sec := fun T F w M =>
  (∀ k, T k ↔ v.ownBlock = some k) ∧ (∀ k, T k → F k ∧ M k = some 0) ∧ ∃ xs, w.ownsRow 0 e z v n xs ∧ xs.length = cs.length ∧
    ∀ (j : Nat) c x, cs[j]? = some c → xs[j]? = some x → x.oneCell' = true ∧ VR w (inF F M) noV noG c x
theorem ownsRow_same {w w' : World} {e z n : Nat} {v : Value} {xs : List Value} (h : w.ownsRow 0 e z v n xs) (hb : ∀ k, v.ownBlock = some k → w'.heap[k]? = w.heap[k]?) : w'.ownsRow 0 e z v n xs := by
  refine ⟨h.1, ?_⟩
  rcases h.2 with h | ⟨g, cap, cur, rfl, h1, h2, h3⟩
  · exact .inl h
  · exact .inr ⟨g, cap, cur, rfl, h1, (hb g rfl).trans h2, h3⟩
theorem Jrow_ok {e z n : Nat} {v : Value} {cs : List AV} : SecOk (Jrow e z v n cs) where
  stab := fun {T F w w' M M'} ⟨h1, h2, xs, h3, h4, h5⟩ h => ⟨h1, fun k hk => ⟨(h2 k hk).1, (h k (h2 k hk).1).2.trans (h2 k hk).2⟩, xs, ownsRow_same h3 fun k hk => (h k (h2 k ((h1 k).2 hk)).1).1, h4,
    fun j c x hc hx => ⟨(h5 j c x hc hx).1, inF_stab h (h5 j c x hc hx).2⟩⟩
  sub := fun ⟨_, h2, _⟩ k hk => (h2 k hk).1
  hid := fun ⟨_, h2, _⟩ k hk => (h2 k hk).2
def OpAnyJ (P : Program) (F0 : Nat → Prop) (w0 : World) (M0 : MT) (J : Sec) (σ : AS) (o : Oper) (e : Ev) : Prop := ∀ σ', Agree σ σ' o.op → ∀ a w, RelJ F0 J w0 M0 σ' a w → ∀ K Q, (∀ a' w', RelJ F0 J w0 M0 (σ'.app o.dst e) a' w' → K a' w') → o.wp P a w K Q
theorem OpAny.toJ {P : Program} {F0 : Nat → Prop} {w0 : World} {M0 : MT} {J : Sec} {σ : AS} {o : Oper} {e : Ev} (h : ∀ u N, OpAny P u N σ o e) : OpAnyJ P F0 w0 M0 J σ o e := fun σ' hag a w ⟨x, T, F, hx⟩ K Q hK =>
  h w _ σ' hag a w ⟨x, hx.rel.rebase⟩ K Q fun a' w' ⟨x', hr'⟩ => hK a' w' ⟨x', T, F, hx.lift hr'⟩
theorem OpAnyJ.op {P : Program} {F0 : Nat → Prop} {w0 : World} {M0 : MT} {J : Sec} {σ : AS} {o : Oper} {e : Ev} (h : OpAnyJ P F0 w0 M0 J σ o e) : OpJ P F0 w0 M0 J σ o (fun J' σ' => J' = J ∧ σ' = σ.app o.dst e) := fun a w hr K Q hK =>
  h σ (.refl σ _) a w hr K Q fun a' w' hr' => hK J _ a' w' ⟨rfl, rfl⟩ hr'
def StepOkJ (P : Program) (F0 : Nat → Prop) (w0 : World) (M0 : MT) (J : Sec) (ops : Array Oper) (σ : AS) (o : Oper) : Option Ev → Prop
  | none => GoOk ops σ o false ∧ okDst σ o.dst
  | some e => GoOk ops σ o true ∧ OpAnyJ P F0 w0 M0 J σ o e ∧ headEv e = true
def ChainJ (P : Program) (F0 : Nat → Prop) (w0 : World) (M0 : MT) (J : Sec) (ops : Array Oper) : List Oper → AS → List (Option Ev) → AS → Prop
  | [], σ, evs, σF => evs = [] ∧ σF = σ
  | o :: l, σ, evs, σF => ∃ e es, evs = e :: es ∧ StepOkJ P F0 w0 M0 J ops σ o e ∧ ChainJ P F0 w0 M0 J ops l (appO σ o.dst e) es σF
theorem ChainJ.states {P : Program} {F0 : Nat → Prop} {w0 : World} {M0 : MT} {J : Sec} {ops : Array Oper} : ∀ (l : List Oper) (σ : AS) (evs : List (Option Ev)) (σF : AS), ChainJ P F0 w0 M0 J ops l σ evs σF →
    ∃ st : Nat → AS, st 0 = σ ∧ st l.length = σF ∧ ∀ (i : Nat) o, l[i]? = some o → ∃ e, evs[i]? = some e ∧ StepOkJ P F0 w0 M0 J ops (st i) o e ∧ st (i + 1) = appO (st i) o.dst e := by
  intro l
  induction l with
  | nil => intro σ evs σF h; exact ⟨fun _ => σ, rfl, h.2.symm, fun i o h => by simp at h⟩
  | cons o l ih =>
    intro σ evs σF ⟨e, es, h1, h2, h3⟩
    obtain ⟨st, g1, g2, g3⟩ := ih _ es σF h3
    refine ⟨fun i => match i with | 0 => σ | i + 1 => st i, rfl, g2, fun i o' ho => ?_⟩
    cases i with
    | zero => simp at ho; subst ho; subst h1; exact ⟨e, rfl, h2, g1⟩
    | succ i => simp at ho; subst h1; exact g3 i o' ho
theorem RelX.drew {F0 : Nat → Prop} {J : Sec} {w0 : World} {M0 : MT} {σ : AS} {a : Act} {w : World} {x : Wit} {T F : Nat → Prop} (h : RelX F0 J w0 M0 σ a w x T F) : RelX F0 J w0 M0 σ a w.drew x T F :=
  ⟨h.rel.drew, h.ok.stab h.sec fun _ _ => ⟨rfl, rfl⟩, h.ok, h.tf, h.t, h.lt, h.free, h.f0⟩
theorem drawnCoreJ {P : Program} {F0 : Nat → Prop} {w0 : World} {M0 : MT} {J : Sec} {σ σF : AS} {id : Nat} {ops : Array Oper} {evs : List (Option Ev)} (m : Nat) (hm : P.follows .mixedOrders = true) (hc : drawOk ops m = true)
    (hch : ChainJ P F0 w0 M0 J ops (ops.toList.take m) σ evs σF) (Q' : Exit → Act → World → Prop) (htail : ∀ a w, RelJ F0 J w0 M0 σF a w → wpList P ops Q' (ops.toList.drop m) a w) :
    ∀ a w, RelJ F0 J w0 M0 σ a w → (Code.region id ops true).wp P Q' a w := by
  intro a w ⟨x0, T00, F00, hr0j⟩
  have hr0 := hr0j.rel
  have F := drawFacts hc
  obtain ⟨st, st0, stF, hst⟩ := hch.states
  have hlen : (ops.toList.take m).length = m := by have := F.le; simp; omega
  rw [hlen] at stF
  let W : Nat → Option Nat := writer ops m
  let E : Nat → Option Ev := fun i => (evs[i]?).getD none
  have hget : ∀ i, i < m → ∀ o, ops[i]? = some o → (ops.toList.take m)[i]? = some o := fun i hi o ho => by
    rw [List.getElem?_take, if_pos hi, Array.getElem?_toList]; exact ho
  have hstep : ∀ i, i < m → ∀ o, ops[i]? = some o → StepOkJ P F0 w0 M0 J ops (st i) o (E i) ∧ st (i + 1) = appO (st i) o.dst (E i) := fun i hi o ho => by
    obtain ⟨e, g1, g2, g3⟩ := hst i o (hget i hi o ho)
    simp only [E, g1, Option.getD_some]
    exact ⟨g2, g3⟩
  have hhead : ∀ i, i < m → headO (E i) = true := fun i hi => by
    obtain ⟨o, d, p1, _⟩ := F.dst i hi
    have := (hstep i hi o p1).1
    cases hE : E i with
    | none => rfl
    | some e => rw [hE] at this; exact this.2.2
  have hW : ∀ i, i < m → ∀ d, dstOf ops i = some d → ∀ t, W t = some i ↔ t = d := fun i hi d hd t => by
    rw [writer_iff F t i]
    exact ⟨fun ⟨_, h2⟩ => Option.some.inj (h2.symm.trans hd), fun h => by subst h; exact ⟨hi, hd⟩⟩
  have hcanon : ∀ i, i ≤ m → st i = mix σ W E (fun j => Nat.blt j i) := by
    intro i
    induction i with
    | zero =>
      intro _
      rw [st0]
      refine (mix_none σ W E).symm.trans ?_
      congr 1
    | succ i ih =>
      intro hi
      obtain ⟨o, d, p1, p2, _⟩ := F.dst i hi
      have hd : dstOf ops i = some d := by simp [dstOf, p1, p2]
      rw [(hstep i hi o p1).2, p2, ih (by omega), mix_step σ W E (fun j => Nat.blt j i) (hW i hi d hd) (bltF (by omega)) (hhead i hi)]
      congr 1
      funext j
      by_cases hj : j = i
      · subst hj; rw [bltT (Nat.lt_succ_self _)]; simp
      · rw [beq_ff hj]
        by_cases hb : j < i
        · rw [bltT hb, bltT (by omega)]; rfl
        · rw [bltF hb, bltF (by omega)]; rfl
  refine wp_region_any hm ?_
  have main : ∀ (k : Nat) (listed : Array Bool) (a : Act) (w : World), listed.size = ops.size → (∀ j oj, ops[j]? = some oj → listed.getD j false = true → ∀ e ∈ oj.after, Region.binds .any e = true → listed.getD e.on false = true) →
      (∀ t, m ≤ t → t < ops.size → listed.getD t true = false) → ((List.range m).filter fun j => !listed.getD j false).length = k →
      RelJ F0 J w0 M0 (mix σ W E fun j => listed.getD j false) a w → wpAny P .any ops Q' (k + (ops.size - m)) listed a w := by
    intro k
    induction k with
    | zero =>
      intro listed a w hsz hclosed htl hcount hr
      have hall : ∀ j, j < m → listed.getD j false = true := fun j hj => by
        have : (List.range m).filter (fun j => !listed.getD j false) = [] := List.eq_nil_of_length_eq_zero hcount
        have := List.filter_eq_nil_iff.1 this j (List.mem_range.2 hj)
        simpa using this
      have hL : listed = headL m ops.size := by
        refine arr_ext_getD (by rw [hsz]; simp [headL]; have := F.le; omega) fun j => ?_
        rw [headL_get m ops.size j F.le]
        by_cases h1 : j < m
        · rw [if_pos h1]; exact hall j h1
        · rw [if_neg h1]
          by_cases h2 : j < ops.size
          · rw [if_pos h2]; exact getD_both (htl j (by omega) h2)
          · rw [if_neg h2]; simp [Array.getD, hsz, h2]
      have hF : mix σ W E (fun j => listed.getD j false) = σF := by
        rw [← stF, hcanon m (Nat.le_refl _)]
        have : ∀ t j, W t = some j → listed.getD j false = Nat.blt j m := fun t j hj => by
          have := ((writer_iff F t j).1 hj).1
          rw [hall j this, bltT this]
        apply AS.ext'
        · rfl
        · intro t; simp only [mix]; cases hw : W t with
          | none => rfl
          | some j => simp only [this t j hw]
        · intro t; simp only [mix]; cases hw : W t.1 with
          | none => rfl
          | some j => simp only [this t.1 j hw]
        · intro t; simp only [mix]; cases hw : W t.1 with
          | none => rfl
          | some j => simp only [this t.1 j hw]
        · intro t; simp only [mix]; cases hw : W t with
          | none => rfl
          | some j => simp only [this t j hw]
      rw [hF] at hr
      subst hL
      have hdl : (ops.toList.drop m).length = ops.size - m := by simp
      have := wpAny_of_seq (P := P) (md := .any) (ops := ops) (Q' := Q') (ops.toList.drop m) m (headL m ops.size) a w (fun j => by rw [List.getElem?_drop, Array.getElem?_toList]) (by rw [hdl]; exact F.seq)
        (htail a w hr)
      rw [hdl] at this
      rw [Nat.zero_add]
      exact this
    | succ k ih =>
      intro listed a w hsz hclosed htl hcount hr
      rw [show k + 1 + (ops.size - m) = (k + (ops.size - m)) + 1 by omega]
      have hex : ∃ j, j < m ∧ listed.getD j false = false := by
        have : (List.range m).filter (fun j => !listed.getD j false) ≠ [] := fun h => by rw [h] at hcount; simp at hcount
        obtain ⟨j, hj⟩ := List.exists_mem_of_ne_nil _ this
        obtain ⟨h1, h2⟩ := List.mem_filter.1 hj
        exact ⟨j, List.mem_range.1 h1, by simpa using h2⟩
      have hmin : ∃ j, j < m ∧ listed.getD j false = false ∧ ∀ i, i < j → listed.getD i false = true := by
        obtain ⟨j, hj1, hj2⟩ := hex
        have key : ∀ n j, j ≤ n → j < m → listed.getD j false = false → ∃ j, j < m ∧ listed.getD j false = false ∧ ∀ i, i < j → listed.getD i false = true := by
          intro n
          induction n with
          | zero => intro j hj h1 h2; exact ⟨j, h1, h2, fun i hi => by omega⟩
          | succ n ihn =>
            intro j hj h1 h2
            by_cases hh : ∃ i, i < j ∧ listed.getD i false = false
            · obtain ⟨i, hi1, hi2⟩ := hh
              exact ihn i (by omega) (by omega) hi2
            · refine ⟨j, h1, h2, fun i hi => ?_⟩
              cases hl : listed.getD i false with
              | true => rfl
              | false => exact absurd ⟨i, hi, hl⟩ hh
        exact key j j (Nat.le_refl _) hj1 hj2
      refine ⟨fun hno => ?_, fun i hi => ?_⟩
      · exfalso
        obtain ⟨j, hj1, hj2, hj3⟩ := hmin
        have hjs : j < ops.size := Nat.lt_of_lt_of_le hj1 F.le
        have hready : j ∈ Region.ready .any ops listed := mem_ready.2 ⟨getD_in (by rw [hsz]; exact hjs) hj2, ops[j], Array.getElem?_eq_getElem hjs, fun e he hb => hj3 e.on (F.down j _ (Array.getElem?_eq_getElem hjs) e he hb)⟩
        rw [hno] at hready
        cases hready
      · obtain ⟨hun, oi, hoi, hdeps⟩ := mem_ready.1 hi
        have hin : i < ops.size := (Array.getElem?_eq_some_iff.1 hoi).1
        have him : i < m := by
          rcases Nat.lt_or_ge i m with h | h
          · exact h
          · exfalso
            have hmn : m < ops.size := by omega
            obtain ⟨s1, s2⟩ := F.tail hmn
            obtain ⟨j, hj1, hj2, _⟩ := hmin
            exact tail_waits s1 s2 hmn ⟨hsz, hclosed, htl⟩ _ j rfl hj1 (getD_in (by rw [hsz]; omega) hj2) i h hi
        obtain ⟨o, d, p1, p2, p3, p4⟩ := F.dst i him
        have : o = oi := Option.some.inj (p1.symm.trans hoi)
        subst this
        have hd : dstOf ops i = some d := by simp [dstOf, p1, p2]
        have hunF : listed.getD i false = false := getD_both hun
        have next : ∀ a' w', RelJ F0 J w0 M0 (appO (mix σ W E fun j => listed.getD j false) (some d) (E i)) a' w' → wpAny P .any ops Q' (k + (ops.size - m)) (listed.setIfInBounds i true) a' w' := fun a' w' hr' => by
          rw [mix_step σ W E _ (hW i him d hd) hunF (hhead i him)] at hr'
          have hS : (fun j => bif Nat.beq j i then true else listed.getD j false) = fun j => (listed.setIfInBounds i true).getD j false := by
            funext j
            by_cases hj : j = i
            · subst hj; simp [Array.getD, hsz, hin]
            · rw [beq_ff hj, getD_set_ne false (Ne.symm hj)]; rfl
          rw [hS] at hr'
          refine ih (listed.setIfInBounds i true) a' w' (by simp [hsz]) (fun j oj hj hl e he hb => ?_) (fun t ht ht' => by rw [getD_set_ne true (by omega)]; exact htl t ht ht') ?_ hr'
          · by_cases hij : i = j
            · subst hij
              have : oj = o := Option.some.inj (hj.symm.trans hoi)
              subst this
              exact getD_set_true (hdeps e he hb)
            · rw [getD_set_ne false hij] at hl
              exact getD_set_true (hclosed j oj hj hl e he hb)
          ·
            have hcnt : ∀ l : List Nat, l.Nodup → i ∈ l → (l.filter fun j => !listed.getD j false).length = ((l.filter fun j => !(listed.setIfInBounds i true).getD j false)).length + 1 := by
              intro l
              induction l with
              | nil => intro _ h; cases h
              | cons b l ihl =>
                intro hnd hmem
                have hnd' := List.nodup_cons.1 hnd
                by_cases hb : b = i
                · subst hb
                  have hsame : (l.filter fun j => !(listed.setIfInBounds b true).getD j false) = l.filter fun j => !listed.getD j false := by
                    apply List.filter_congr
                    intro j hj
                    have : b ≠ j := fun h => hnd'.1 (h ▸ hj)
                    rw [getD_set_ne false this]
                  have hset : (listed.setIfInBounds b true).getD b false = true := by simp [Array.getD, hsz, hin]
                  rw [List.filter_cons_of_pos (by simpa using hunF), List.filter_cons_of_neg (by rw [hset]; simp), hsame]
                  rfl
                · have hmem' : i ∈ l := by rcases List.mem_cons.1 hmem with h | h; exact absurd h.symm hb; exact h
                  have := ihl hnd'.2 hmem'
                  have hbne : (listed.setIfInBounds i true).getD b false = listed.getD b false := getD_set_ne false (Ne.symm hb)
                  cases hl : listed.getD b false with
                  | true => rw [List.filter_cons_of_neg (by rw [hl]; simp), List.filter_cons_of_neg (by rw [hbne, hl]; simp)]; exact this
                  | false => rw [List.filter_cons_of_pos (by rw [hl]; simp), List.filter_cons_of_pos (by rw [hbne, hl]; simp), List.length_cons, List.length_cons, this]
            have := hcnt (List.range m) List.nodup_range (List.mem_range.2 him)
            omega
        have htm : ∀ t ∈ readsOf ops o, (mix σ W E fun j => listed.getD j false).tm t = (st i).tm t := fun t ht => by
          rw [hcanon i (Nat.le_of_lt him)]
          simp only [mix]
          cases hw : W t with
          | none => rfl
          | some j =>
            obtain ⟨q1, q2⟩ := (writer_iff F t j).1 hw
            obtain ⟨q3, q4⟩ := p4 t ht j q1 q2
            obtain ⟨o', ho', e, he, hb, hon⟩ := Region.waitsFor_spec q4
            have : o' = o := Option.some.inj (ho'.symm.trans hoi)
            subst this
            have hl := hdeps e he hb
            rw [hon] at hl
            simp only [hl, bltT q3]
        have hn : (mix σ W E fun j => listed.getD j false).n = (st i).n := by rw [hcanon i (Nat.le_of_lt him)]; rfl
        obtain ⟨X, TT, FF, hxx⟩ := hr
        have hx := hxx.rel
        have hguard : ∀ w, GoOk ops (st i) o w → Region.wanted o (yielded ops a.tmps) = w := fun w hg => wanted_of hx hn htm hg
        unfold wpOp
        simp only [hoi]
        have hso := (hstep i him o hoi).1
        cases hE : E i with
        | none =>
          rw [hE] at hso next
          rw [hguard false hso.1]
          simp only [Bool.false_eq_true, if_false]
          rw [p2]
          refine next _ _ ⟨X, TT, FF, hxx.put (d := some d) ?_ (.sc undef)⟩
          have := hso.2
          rw [p2] at this
          show d < _
          rw [hn]
          exact this
        | some e =>
          rw [hE] at hso next
          obtain ⟨s1, s2, s3⟩ := hso
          rw [hguard true s1]
          simp only [if_true]
          refine .inl (s2 _ ⟨hn, fun y hy => ?_, fun y hy id off cs hyr hycs => ?_⟩ a w ⟨X, TT, FF, hxx⟩ _ _ fun a' w' hr' => next a' w' (by rw [p2] at hr'; exact hr'))
          · cases y with
            | tmp t => exact htm t (List.mem_append.2 (.inl (List.mem_filterMap.2 ⟨.tmp t, Array.mem_toList_iff.2 hy, rfl⟩)))
            | const v => exact ev_const _ _ v
            | global g => rfl
            | func f => rfl
          ·
            have hev : (mix σ W E fun j => listed.getD j false).ev y = .ref id off := by
              cases y with
              | tmp t => exact (htm t (List.mem_append.2 (.inl (List.mem_filterMap.2 ⟨.tmp t, Array.mem_toList_iff.2 hy, rfl⟩)))).trans hyr
              | const v => exact (ev_const _ _ v).trans hyr
              | global g => exact hyr
              | func f => exact hyr
            have hVR := hx.ev y
            rw [hev] at hVR
            have hVs : ∃ b, X.V id = some b := by
              generalize a.eval y = cv at hVR
              cases hVR with
              | ref _ _ b hb => exact ⟨b, hb⟩
            obtain ⟨b, hVb⟩ := hVs
            have hglt : id.2 < (mix σ W E fun j => listed.getD j false).gen id.1 := by
              rcases Nat.lt_or_ge id.2 ((mix σ W E fun j => listed.getD j false).gen id.1) with h | h
              · exact h
              · have := (hx.fresh id.1 id.2 h).1
                have h2 : X.V (id.1, id.2) = some b := hVb
                rw [this] at h2; cases h2
            rw [hcanon i (Nat.le_of_lt him)] at hycs
            simp only [mix] at hycs hglt ⊢
            cases hw : W id.1 with
            | none => rw [hw] at hycs; exact hycs
            | some j =>
              simp only [hw] at hycs hglt ⊢
              have hσ0 : ∀ cs, σ.va id = some cs → id.2 < σ.gen id.1 := fun cs h => hr0.vgen id.1 id.2 cs h
              cases hji : Nat.blt j i with
              | true =>
                rw [hji] at hycs
                cases hlj : listed.getD j false with
                | true => exact hycs
                | false =>
                  simp only [hlj, cond_false] at hglt ⊢
                  simp only [cond_true] at hycs
                  cases hEj : E j with
                  | none => rw [hEj] at hycs; exact hycs
                  | some ej =>
                    rw [hEj] at hycs
                    cases ej with
                    | alloc cs' =>
                      simp only [vaA] at hycs
                      rw [beq_ff (by omega : id.2 ≠ σ.gen id.1)] at hycs
                      exact hycs
                    | allocA cs' _ =>
                      simp only [vaA] at hycs
                      rw [beq_ff (by omega : id.2 ≠ σ.gen id.1)] at hycs
                      exact hycs
                    | val v => exact hycs
                    | fresh v n z e => exact hycs
                    | grow => exact hycs
                    | stor => exact hycs
                    | lend => exact hycs
                    | spend => exact hycs
              | false =>
                rw [hji] at hycs
                simp only [cond_false] at hycs
                cases hlj : listed.getD j false with
                | false => exact hycs
                | true =>
                  simp only [cond_true]
                  have := hσ0 cs hycs
                  cases hEj : E j with
                  | none => exact hycs
                  | some ej =>
                    cases ej with
                    | alloc cs' =>
                      simp only [vaA]
                      rw [beq_ff (by omega : id.2 ≠ σ.gen id.1)]
                      exact hycs
                    | allocA cs' _ =>
                      simp only [vaA]
                      rw [beq_ff (by omega : id.2 ≠ σ.gen id.1)]
                      exact hycs
                    | val v => exact hycs
                    | fresh v n z e => exact hycs
                    | grow => exact hycs
                    | stor => exact hycs
                    | lend => exact hycs
                    | spend => exact hycs
  have hstart := main ((List.range m).filter fun j => !(Array.replicate ops.size false).getD j false).length (Array.replicate ops.size false) a { w with drawn := w.drawn + 1 } (by simp)
    (fun j oj _ hl => by rw [getD_replicate_false] at hl; cases hl) (fun t _ ht' => by simp [Array.getD, ht']) rfl
    (by
      have : (fun j => (Array.replicate ops.size false).getD j false) = fun _ => false := by funext j; exact getD_replicate_false _ _
      rw [this, mix_none]
      exact ⟨x0, T00, F00, hr0j.drew⟩)
  have hk : ((List.range m).filter fun j => !(Array.replicate ops.size false).getD j false).length = m := by
    rw [List.filter_eq_self.2 (fun j _ => by rw [getD_replicate_false]; rfl)]
    simp
  rw [hk] at hstart
  rw [show m + (ops.size - m) = ops.size by have := F.le; omega] at hstart
  exact hstart
def AHeadK (P : Program) (F0 : Nat → Prop) (w0 : World) (M0 : MT) (ops : Array Oper) (l tail : List Oper) (R : Sec → AS → Prop) (J : Sec) (σ : AS) : Prop :=
  ∃ evs σF, ChainJ P F0 w0 M0 J ops l σ evs σF ∧ AOpsJ P F0 w0 M0 ops tail R J σF
section
variable {P : Program} {F0 : Nat → Prop} {w0 : World} {M0 : MT} {J : Sec} {ops : Array Oper} {R : Sec → AS → Prop} {rest tail : List Oper} {σ : AS}
theorem AHeadK.nil (h : AOpsJ P F0 w0 M0 ops tail R J σ) : AHeadK P F0 w0 M0 ops [] tail R J σ := ⟨[], σ, ⟨rfl, rfl⟩, h⟩
theorem AHeadK.look {d : Option Tmp} {op : Op} {ty : TypeId} {pos : String} {after : Array Edge} {e : Ev} (ho : OpAnyJ P F0 w0 M0 J σ ⟨d, op, ty, pos, after, none⟩ e) (he : headEv e = true)
    (h : AHeadK P F0 w0 M0 ops rest tail R J (σ.app d e)) : AHeadK P F0 w0 M0 ops (⟨d, op, ty, pos, after, none⟩ :: rest) tail R J σ := by
  obtain ⟨evs, σF, h1, h2⟩ := h
  exact ⟨some e :: evs, σF, ⟨some e, evs, rfl, ⟨rfl, ho, he⟩, h1⟩, h2⟩
theorem AHeadK.call {d : Option Tmp} {op : Op} {ty : TypeId} {pos : String} {after : Array Edge} {e : Ev} (ho : ∀ u N, OpAny P u N σ ⟨d, op, ty, pos, after, none⟩ e) (he : headEv e = true)
    (h : AHeadK P F0 w0 M0 ops rest tail R J (σ.app d e)) : AHeadK P F0 w0 M0 ops (⟨d, op, ty, pos, after, none⟩ :: rest) tail R J σ := AHeadK.look (OpAny.toJ ho) he h
theorem AHeadK.split {o : Oper} {j t : Nat} {want b : Bool} (_ : o.guard = some (j, want)) (_ : (ops[j]?).bind (·.dst) = some t) (_ : exact (σ.tm t) = some (.bool b))
    (h1 : b = want → AHeadK P F0 w0 M0 ops (o :: rest) tail R J σ) (h2 : b = !want → AHeadK P F0 w0 M0 ops (o :: rest) tail R J σ) : AHeadK P F0 w0 M0 ops (o :: rest) tail R J σ := by
  cases b <;> cases want <;> first | exact h1 rfl | exact h2 rfl
theorem AHeadK.goLook {d : Option Tmp} {op : Op} {ty : TypeId} {pos : String} {after : Array Edge} {j t : Nat} {want b : Bool} {e : Ev} (hj : (ops[j]?).bind (·.dst) = some t) (ht : Nat.blt t σ.n = true) (hv : exact (σ.tm t) = some (.bool b)) (hb : b = want)
    (ho : OpAnyJ P F0 w0 M0 J σ ⟨d, op, ty, pos, after, some (j, want)⟩ e) (he : headEv e = true) (h : AHeadK P F0 w0 M0 ops rest tail R J (σ.app d e)) :
    AHeadK P F0 w0 M0 ops (⟨d, op, ty, pos, after, some (j, want)⟩ :: rest) tail R J σ := by
  obtain ⟨evs, σF, h1, h2⟩ := h
  exact ⟨some e :: evs, σF, ⟨some e, evs, rfl, ⟨⟨t, .bool b, hj, ltB ht, hv, by subst hb; simp⟩, ho, he⟩, h1⟩, h2⟩
theorem AHeadK.go {d : Option Tmp} {op : Op} {ty : TypeId} {pos : String} {after : Array Edge} {j t : Nat} {want b : Bool} {e : Ev} (hj : (ops[j]?).bind (·.dst) = some t) (ht : Nat.blt t σ.n = true) (hv : exact (σ.tm t) = some (.bool b)) (hb : b = want)
    (ho : ∀ u N, OpAny P u N σ ⟨d, op, ty, pos, after, some (j, want)⟩ e) (he : headEv e = true) (h : AHeadK P F0 w0 M0 ops rest tail R J (σ.app d e)) :
    AHeadK P F0 w0 M0 ops (⟨d, op, ty, pos, after, some (j, want)⟩ :: rest) tail R J σ := AHeadK.goLook hj ht hv hb (OpAny.toJ ho) he h
theorem AHeadK.pass {d : Option Tmp} {op : Op} {ty : TypeId} {pos : String} {after : Array Edge} {j t : Nat} {want b : Bool} (hj : (ops[j]?).bind (·.dst) = some t) (ht : Nat.blt t σ.n = true) (hv : exact (σ.tm t) = some (.bool b))
    (hb : b = !want) (hd : okDB σ d = true) (h : AHeadK P F0 w0 M0 ops rest tail R J (σ.put d (.sc undef))) : AHeadK P F0 w0 M0 ops (⟨d, op, ty, pos, after, some (j, want)⟩ :: rest) tail R J σ := by
  obtain ⟨evs, σF, h1, h2⟩ := h
  exact ⟨none :: evs, σF, ⟨none, evs, rfl, ⟨⟨t, .bool b, hj, ltB ht, hv, by subst hb; cases want <;> rfl⟩, okD hd⟩, h1⟩, h2⟩
theorem AWPJ.drawnK {id : Nat} {Q : Exit → Sec → AS → Prop} (m : Nat) (hm : P.follows .mixedOrders = true) (hc : drawOk ops m = true)
    (h : AHeadK P F0 w0 M0 ops (ops.toList.take m) (ops.toList.drop m) (Q .normal) J σ) : AWPJ P F0 w0 M0 (.region id ops true) Q J σ := by
  obtain ⟨evs, σF, hch, htail⟩ := h
  intro a w hr Q' hQ
  exact drawnCoreJ m hm hc hch Q' (fun a1 w1 hr1 => htail a1 w1 hr1 Q' fun J' σ' a' w' hq hr' => hQ _ J' σ' a' w' hq hr') a w hr
end
section
variable {w0 : World} {M0 : MT} {σ σ' : AS} {a a' : Act} {w w' : World} {x x' : Wit} {F0 T F : Nat → Prop} {J1 J2 : Sec}
open Classical in
noncomputable def ownT1 (σ : AS) (x : Wit) (T1 : Nat → Prop) : Nat → Bool := fun b => decide (Owned σ x b ∨ T1 b)
theorem RelX.apart (h : RelX F0 (J1.sep J2) w0 M0 σ a w x T F) (o1 : SecOk J1) : ∃ T1 F1 T2 F2, (∀ b, T b ↔ T1 b ∨ T2 b) ∧ (∀ b, F b ↔ F1 b ∨ F2 b) ∧ (∀ b, T1 b → ¬ F2 b) ∧ (∀ b, T2 b → ¬ F1 b) ∧ J2 T2 F2 w x.M ∧
    RelX (fun b => F1 b ∨ Owned σ x b) J1 w ⟨x.M, ownT1 σ x T1, M0.v⟩ σ a w x T1 F1 := by
  obtain ⟨T1, F1, T2, F2, h1, h2, h3, h4, h5, h6⟩ := h.sec
  refine ⟨T1, F1, T2, F2, h1, h2, h3, h4, h6, ⟨?_, h5, o1, fun b hb => ?_, fun b hb => .inr (by simp [ownT1, hb]), fun b hb => h.lt b ((h2 b).2 (.inl hb)), fun b hb => h.free b ((h2 b).2 (.inl hb)), fun b hb => .inl (.inl hb)⟩⟩
  · have hr := h.rel.rebase
    have up : ∀ b, Mine w ⟨x.M, ownT σ x, M0.v⟩ b → Mine w ⟨x.M, ownT1 σ x T1, M0.v⟩ b := fun b hb => hb.imp id fun hh => by simp only [ownT1, decide_eq_true_eq]; exact .inl (ownT_iff.1 hh)
    exact ⟨Kept.refl _ _, hr.defers, hr.size, hr.tm, fun _ _ _ => rfl, hr.mlt, hr.fresh, hr.lent, fun id cs hv => by
      obtain ⟨b, vs, ty, g1, g2, g3⟩ := hr.va id cs hv
      exact ⟨b, vs, ty, g1, up b g2, g3⟩, hr.vgen, fun id n z e hg => by
      obtain ⟨l, g1, g2, g3, g3', g4, g5⟩ := hr.gr id n z e hg
      exact ⟨l, g1, g2, g3, g3', g4, fun b hb => ⟨up b (g5 b hb).1, (g5 b hb).2⟩⟩, hr.ggen⟩
  · simp only [ownT1, decide_eq_true_eq] at hb
    rcases hb with hb | hb
    · exact .inr hb
    · exact .inl (o1.sub h5 b hb)
theorem RelX.joint (h : RelX F0 (J1.sep J2) w0 M0 σ a w x T F) {T1 F1 T2 F2 T1' F1' : Nat → Prop} {J1' : Sec} (h1 : ∀ b, T b ↔ T1 b ∨ T2 b) (h2 : ∀ b, F b ↔ F1 b ∨ F2 b) (h3 : ∀ b, T1 b → ¬ F2 b) (h4 : ∀ b, T2 b → ¬ F1 b) (h6 : J2 T2 F2 w x.M) (o1 : SecOk J1) (o2 : SecOk J2)
    (hT1 : ∀ b, T1 b → F1 b) (h' : RelX (fun b => F1 b ∨ Owned σ x b) J1' w ⟨x.M, ownT1 σ x T1, M0.v⟩ σ' a' w' x' T1' F1') : RelX F0 (J1'.sep J2) w0 M0 σ' a' w' x' (fun b => T1' b ∨ T2 b) (fun b => F1' b ∨ F2 b) := by
  have hF2 : ∀ b, F2 b → b < w.heap.size ∧ ownT1 σ x T1 b = false := fun b hb => ⟨h.lt b ((h2 b).2 (.inr hb)), by
    simp only [ownT1, decide_eq_false_iff_not]
    rintro (ho | ht)
    · exact h.free b ((h2 b).2 (.inr hb)) ho
    · exact h3 b ht hb⟩
  have hnot : ∀ b, b < w0.heap.size → M0.t b = false → ownT1 σ x T1 b = false := fun b hb ht => by
    simp only [ownT1, decide_eq_false_iff_not]
    rintro (ho | hT)
    · exact (h.rel.owned ho).1.ne hb ht rfl
    · rcases h.t b ((h1 b).2 (.inl hT)) with q | q
      · omega
      · rw [ht] at q; cases q
  have mine : ∀ b, Mine w ⟨x.M, ownT1 σ x T1, M0.v⟩ b → Mine w0 M0 b := fun b hm => by
    rcases hm with hm | hm
    · exact .inl (Nat.le_trans h.rel.below.size hm)
    · simp only [ownT1, decide_eq_true_eq] at hm
      rcases hm with ho | hT
      · exact (h.rel.owned ho).1
      · exact h.t b ((h1 b).2 (.inl hT))
  have hr := h'.rel
  have hb0 := h.rel.below
  constructor
  · constructor
    · refine ⟨hr.below.os.trans hb0.os, hr.below.tape.trans hb0.tape, hr.below.output.trans hb0.output, Nat.le_trans hb0.size hr.below.size, fun k hk ht => ?_, fun k n hs => hr.below.sz k n (hb0.sz k n hs)⟩
      rw [hr.below.block k (Nat.lt_of_lt_of_le hk hb0.size) (hnot k hk ht)]
      exact hb0.block k hk ht
    · exact hr.defers
    · exact hr.size
    · exact hr.tm
    · intro b hb ht
      rw [hr.m0 b (Nat.lt_of_lt_of_le hb hb0.size) (hnot b hb ht)]
      exact h.rel.m0 b hb ht
    · exact hr.mlt
    · exact hr.fresh
    · exact hr.lent
    · intro id cs hv
      obtain ⟨b, vs, ty, g1, g2, g3⟩ := hr.va id cs hv
      exact ⟨b, vs, ty, g1, mine b g2, g3⟩
    · exact hr.vgen
    · intro id n z e hg
      obtain ⟨l, g1, g2, g3, g3', g4, g5⟩ := hr.gr id n z e hg
      exact ⟨l, g1, g2, g3, g3', g4, fun b hb => ⟨mine b (g5 b hb).1, (g5 b hb).2⟩⟩
    · exact hr.ggen
  · refine ⟨T1', F1', T2, F2, fun _ => Iff.rfl, fun _ => Iff.rfl, fun b hb hf => ?_, fun b hb hf => ?_, h'.sec, o2.stab h6 fun b hb => ⟨hr.below.block b (hF2 b hb).1 (hF2 b hb).2, hr.m0 b (hF2 b hb).1 (hF2 b hb).2⟩⟩
    · rcases h'.t b hb with q | q
      · have := (hF2 b hf).1; omega
      · have q : ownT1 σ x T1 b = true := q
        rw [(hF2 b hf).2] at q; cases q
    · have hlt := hF2 b (o2.sub h6 b hb)
      rcases h'.f0 b hf with (q | q) | q | q
      · exact h4 b hb q
      · exact h.free b ((h2 b).2 (.inr (o2.sub h6 b hb))) q
      · omega
      · exact q (o2.hid h6 b hb)
  · exact Sec.sep_ok h'.ok o2
  · exact h.tf
  · intro b hb
    rcases hb with hb | hb
    · exact mine b (h'.t b hb)
    · exact h.t b ((h1 b).2 (.inr hb))
  · intro b hb
    rcases hb with hb | hb
    · exact h'.lt b hb
    · exact Nat.lt_of_lt_of_le (hF2 b hb).1 hr.below.size
  · intro b hb ho
    rcases hb with hb | hb
    · exact h'.free b hb ho
    · rcases (hr.owned ho).1 with q | q
      · have := (hF2 b hb).1; omega
      · have q : ownT1 σ x T1 b = true := q
        rw [(hF2 b hb).2] at q; cases q
  · intro b hb
    have old : ∀ b, F b → F0 b ∨ w0.heap.size ≤ b ∨ M0.m b ≠ some 0 := h.f0
    have byM : ∀ b, b < w0.heap.size → M0.t b = false → x.M b ≠ some 0 → M0.m b ≠ some 0 := fun b hb ht hx => by rw [← h.rel.m0 b hb ht]; exact hx
    have close : ∀ b, (w0.heap.size ≤ b ∨ M0.t b = true) → F0 b ∨ w0.heap.size ≤ b ∨ M0.m b ≠ some 0 := fun b hh => hh.elim (fun q => .inr (.inl q)) fun q => .inl (h.tf b q)
    rcases hb with hb | hb
    · rcases h'.f0 b hb with (q | q) | q | q
      · exact old b ((h2 b).2 (.inl q))
      · exact close b (h.rel.owned q).1
      · exact .inr (.inl (Nat.le_trans hb0.size q))
      · by_cases hlt : b < w0.heap.size
        · cases ht : M0.t b with
          | true => exact .inl (h.tf b ht)
          | false => exact .inr (.inr (byM b hlt ht q))
        · exact .inr (.inl (by omega))
    · exact old b ((h2 b).2 (.inr hb))
end
theorem OpJ.frame {P : Program} {F0 : Nat → Prop} {w0 : World} {M0 : MT} {J1 J2 : Sec} {σ : AS} {o : Oper} {R : Sec → AS → Prop} (o1 : SecOk J1) (o2 : SecOk J2) (h : ∀ E u N, OpJ P E u N J1 σ o R) :
    OpJ P F0 w0 M0 (J1.sep J2) σ o (fun J' σ' => ∃ J1', R J1' σ' ∧ J' = J1'.sep J2) := by
  intro a w ⟨x, T, F, hx⟩ K Q hK
  obtain ⟨T1, F1, T2, F2, h1, h2, h3, h4, h6, hx1⟩ := hx.apart o1
  exact h _ _ _ a w ⟨x, T1, F1, hx1⟩ K Q fun J1' σ' a' w' hR ⟨x', T1', F1', hx'⟩ => hK _ σ' a' w' ⟨J1', hR, rfl⟩ ⟨x', _, _, hx.joint h1 h2 h3 h4 h6 o1 o2 (fun b hb => o1.sub hx1.sec b hb) hx'⟩
theorem Sec.sep_comm {J1 J2 : Sec} {T F w M} (h : J1.sep J2 T F w M) : J2.sep J1 T F w M := by
  obtain ⟨T1, F1, T2, F2, h1, h2, h3, h4, h5, h6⟩ := h
  exact ⟨T2, F2, T1, F1, fun b => (h1 b).trans Or.comm, fun b => (h2 b).trans Or.comm, h4, h3, h6, h5⟩
theorem WeakJ.same {J J' : Sec} {σ : AS} (o : SecOk J') (h : ∀ T F w M, J T F w M → J' T F w M) : WeakJ J σ J' σ := fun F0 w0 M0 a w ⟨x, T, F, hx⟩ => ⟨x, T, F, hx.rel, h _ _ _ _ hx.sec, o, hx.tf, hx.t, hx.lt, hx.free, hx.f0⟩
end Go.Ab
set_option linter.unusedVariables false
set_option linter.unusedSimpArgs false
namespace Go.Ab
open Go.RowKit
theorem news_one {w : World} {M : Nat → Option Nat} {ns : List (List AV)} {v : Value} (h : VR w M noV noG (.sl ns) v) (h1 : ∀ e ∈ ns, e.length = 1) (hpos : 0 < ns.length) :
    ∃ (b off yc : Nat) (news : List Value), v = .slice (some ⟨b, off, none⟩) ns.length yc ∧ news.length = ns.length ∧ (∀ (j : Nat) u, news[j]? = some u → w.cell? ((⟨b, off, none⟩ : Addr).add j) = some u) ∧ (∀ u ∈ news, u.oneCell' = true) ∧
      ∀ (i : Nat) e c, ns[i]? = some e → e[0]? = some c → ∃ u, news[i]? = some u ∧ u.oneCell' = true ∧ VR w M noV noG c u := by
  cases h with
  | sl0 a c => simp at hpos
  | sl _ z b off cap X hz hcap hc hv =>
    have hz1 : z = 1 := by rw [← hz _ (List.getElem_mem hpos), h1 _ (List.getElem_mem hpos)]
    subst hz1
    have hat : ∀ i, i < ns.length → ∃ e c, ns[i]? = some e ∧ e[0]? = some c := fun i hi => by
      have hl := h1 _ (List.getElem_mem hi)
      exact ⟨_, _, List.getElem?_eq_getElem hi, List.getElem?_eq_getElem (by omega)⟩
    refine ⟨b, off, cap, (List.range ns.length).map fun i => X i 0, rfl, by simp, fun j u hj => ?_, fun u hu => ?_, fun i e c he hcc => ?_⟩
    · have hjl : j < ns.length := by simpa using (List.getElem?_eq_some_iff.1 hj).1
      obtain ⟨e, c, g1, g2⟩ := hat j hjl
      have h3 := (hc j e 0 c g1 g2).1
      simp [hjl] at hj
      rw [addr_add, ← hj]
      simpa using h3
    · obtain ⟨i, hi, rfl⟩ := List.mem_map.1 hu
      obtain ⟨e, c, g1, g2⟩ := hat i (List.mem_range.1 hi)
      exact (hc i e 0 c g1 g2).2.1
    · have hi : i < ns.length := (List.getElem?_eq_some_iff.1 he).1
      exact ⟨X i 0, by simp [hi], (hc i e 0 c he hcc).2.1, hv i e 0 c he hcc⟩
section
variable {P : Program} {w0 : World} {M0 : MT} {σ : AS} {ty : TypeId} {pos : String} {after : Array Edge} {guard : Option (Nat × Bool)}
theorem run_append_roomT {w : World} {t e te : TypeId} {i : TypeInfo} (ht : P.underlying t = some (.slice e)) (hi : P.info? e = some i)
    (g sLen sCap : Nat) (cur : Array Value) (hg : w.heap[g]? = some (.cells cur te (0, 0)))
    (a : Addr) (m c : Nat) (news : List Value) (hl : news.length = m * i.size) (hnews : ∀ j u, news[j]? = some u → w.cell? (a.add j) = some u) (h1 : ∀ u ∈ news, u.oneCell' = true)
    (hroom : sLen + m ≤ sCap) (hfit : sLen * i.size + news.length ≤ cur.size) :
    (Builtin.append_ #[t, t] ty #[.slice (some ⟨g, 0, none⟩) sLen sCap, .slice (some a) m c]).run P w =
      .ok (.slice (some ⟨g, 0, none⟩) (sLen + m) sCap) (w.setRow g (cur.toList.take (sLen * i.size) ++ news ++ cur.toList.drop (sLen * i.size + news.length)).toArray) := by
  have hf := run_firstCells_some (P := P) w i.size m a m c news hl hnews
  have hst := run_storeCells_at P g (sLen * i.size) te news 0 cur w hg (by simpa using hfit) h1
  simp only [Nat.add_zero] at hst
  simp [Builtin.append_, run_underlying ht, sizeOf, typeInfo, hi, Builtin.lenOf, hroom, hf, Addr.add_lit, hst]
theorem o_appendNil {t e bytes : Nat} {i : TypeInfo} {zv : Value} {ns rs : List (List AV)} {d : Option Tmp} (x y : Operand) (hu : P.underlying t = some (.slice e)) (hi : P.info? e = some i) (hzv : i.zero = some zv) (hsz : i.size = 1) (hby : i.bytes = bytes) (hzc : zv.cells.size = 1)
    (hx : exact (σ.ev x) = some (.slice none 0 0)) (hy : slEs (σ.ev y) = some ns) (hns : ∀ e ∈ ns, e.length = 1) (hb : ns.length * bytes ≤ 140737488355328) (hbp : Nat.blt 0 bytes = true) (hpos : 0 < ns.length) (hrs : ns = rs) (hd : okDB σ d = true) :
    OpAny P w0 M0 σ ⟨d, .call ⟨.builtin .append, #[x, y], #[t, t]⟩, ty, pos, after, guard⟩ (.val (.sl rs)) := by
  subst hrs
  have hbp := ltB hbp
  intro σ' hag a w ⟨X, hr⟩ K Q hK
  have hxv := hr.ev x
  rw [hag.ev x (by simp [Op.operands, Call.operands])] at hxv
  have hxv := hxv.exact _ hx
  have hyv := hr.ev y
  rw [hag.ev y (by simp [Op.operands, Call.operands])] at hyv
  have hyv := slEs_spec hyv hy
  obtain ⟨b, off, yc, news, hv, hl, hn1, hn2, hn3⟩ := news_one hyv hns hpos
  have hmb := Nat.le_mul_of_pos_right ns.length hbp
  have hrun := run_append_nil (P := P) w t ty e i zv hu hi hzv ⟨b, off, none⟩ ns.length yc news (by rw [hsz]; omega) hn1 hpos (by omega) (by rw [hby]; omega)
  have hrun2 : (execOp a.eval ⟨d, .call ⟨.builtin .append, #[x, y], #[t, t]⟩, ty, pos, after, guard⟩).run P w = .ok (.value (.slice (some ⟨w.heap.size, 0, none⟩) ns.length (grownCap w ns.length 0 e))) (w.drew.alloc (.cells (news.toArray ++ Builtin.zeroCells zv.cells (grownCap w ns.length 0 e - ns.length)) e)) := by
    simp [execOp, resolve, invoke, builtin, hxv, hv, hrun]
  unfold Oper.wp
  rw [hrun2, Oper.upon_value]
  have hbel : Below w.heap.size w (w.drew.alloc (.cells (news.toArray ++ Builtin.zeroCells zv.cells (grownCap w ns.length 0 e - ns.length)) e)) := ⟨rfl, rfl, rfl, by simp, fun k hk => heap_old w.drew _ hk⟩
  have hr' := hr.world hbel
  have hMn : X.M w.heap.size = none := (hr.mlt _ (Nat.le_refl _)).1
  have hd' : okDst σ' d := okDst_agree hag (okD hd)
  refine hK _ _ ⟨X, hr'.put hd' ?_⟩
  have hcell : ∀ (i : Nat) el c, ns[i]? = some el → el[0]? = some c → ∃ u, (news.toArray ++ Builtin.zeroCells zv.cells (grownCap w ns.length 0 e - ns.length))[i]? = some u ∧ u.oneCell' = true ∧ VR w X.M noV noG c u := fun i el c he hc => by
    obtain ⟨u, g1, g2, g3⟩ := hn3 i el c he hc
    have hi : i < ns.length := (List.getElem?_eq_some_iff.1 he).1
    exact ⟨u, by rw [Array.getElem?_append_left (by simp; omega)]; simpa using g1, g2, g3⟩
  have hj0 : ∀ (i : Nat) el (j : Nat) c, ns[i]? = some el → el[j]? = some c → j = 0 := fun i el j c he hc => by
    have h1 := hns el (List.mem_of_getElem? he)
    have h2 := (List.getElem?_eq_some_iff.1 hc).1
    omega
  refine VR.sl ns 1 w.heap.size 0 _ (fun i _ => ((news.toArray ++ Builtin.zeroCells zv.cells (grownCap w ns.length 0 e - ns.length))[i]?).getD undef) hns (grownCap_ge w _ 0 e) (fun i el j c he hc => ?_) (fun i el j c he hc => ?_)
  · obtain rfl := hj0 i el j c he hc
    obtain ⟨u, g1, g2, g3⟩ := hcell i el c he hc
    refine ⟨?_, by rw [g1]; exact g2, fun m hm => by rw [hMn] at hm; cases hm⟩
    have hh := heap_new w.drew (Obj.cells (news.toArray ++ Builtin.zeroCells zv.cells (grownCap w ns.length 0 e - ns.length)) e)
    rw [show w.drew.heap.size = w.heap.size from rfl] at hh
    simp only [World.cell?, hh, Nat.zero_add, Nat.mul_one, Nat.add_zero, g1]; rfl
  · obtain rfl := hj0 i el j c he hc
    obtain ⟨u, g1, g2, g3⟩ := hcell i el c he hc
    rw [g1]
    exact (g3.mono (fun b off y hi => imm_below hbel hi) (fun _ _ hh => hh.of_eq (hbel.block _ hh.lt))).open' _ _
theorem o_appendS {t e bytes c n : Nat} {i : TypeInfo} {zv : Value} {id : OId} {cs : List AV} {ns rs : List (List AV)} {d : Option Tmp} (x y : Operand) (hu : P.underlying t = some (.slice e)) (hi : P.info? e = some i) (hzv : i.zero = some zv) (hsz : i.size = 1) (hby : i.bytes = bytes) (hzc : zv.cells.size = 1)
    (hx : nf (σ.ev x) = some (.arr id 0 n c)) (hva : (σ.va id).bind AV.close.closeL = some cs) (hn : cs.length = n) (hy : slEs (σ.ev y) = some ns) (hns : ∀ e ∈ ns, e.length = 1) (hb : (n + ns.length) * bytes ≤ 140737488355328) (hbp : Nat.blt 0 bytes = true) (hpos : 0 < ns.length)
    (hrs : (cs.map fun a => [a]) ++ ns = rs) (hd : okDB σ d = true) :
    OpAnyM P w0 M0 σ ⟨d, .call ⟨.builtin .append, #[x, y], #[t, t]⟩, ty, pos, after, guard⟩ (.spend id (.sl rs)) := by
  have hbp := ltB hbp
  subst hrs
  intro σ' hag a w ⟨X, hr⟩ K Q hK
  have hxin : x ∈ (Op.call ⟨.builtin .append, #[x, y], #[t, t]⟩).operands := by simp [Op.operands, Call.operands]
  have hyin : y ∈ (Op.call ⟨.builtin .append, #[x, y], #[t, t]⟩).operands := by simp [Op.operands, Call.operands]
  obtain ⟨cs0, e1, e2⟩ := Option.bind_eq_some_iff.1 hva
  have hva' : σ'.va id = some cs0 := hag.vaA x hxin id 0 n c cs0 (nf_eq hx) e1
  obtain ⟨p1, p2⟩ := closeL_get _ _ e2
  obtain ⟨b, vs, ty', m1, m2, m3, m4, m5, m6, m7⟩ := hr.va id cs0 hva'
  have hxv := hr.ev x
  rw [hag.ev x hxin, nf_eq hx] at hxv
  have hyv := hr.ev y
  rw [hag.ev y hyin] at hyv
  have hyv := slEs_spec hyv hy
  obtain ⟨yb, off, yc, news, hv, hl, hn1, hn2, hn3⟩ := news_one hyv hns hpos
  generalize hcv : a.eval x = cv at hxv
  cases hxv with
  | arr _ _ _ _ b' cap hb' h1 hc hs =>
    have : b' = b := Option.some.inj (hb'.symm.trans m1)
    subst this
    have hcap : cap ≤ vs.size := (hs rfl).cells m5
    have hmb := Nat.le_mul_of_pos_right (n + ns.length) hbp
    have hblt := lt_of_cells m5
    have hd' : okDst σ' d := okDst_agree hag.toAgree (okD hd)
    have hold : ∀ (j : Nat) u, cs[j]? = some u → ∃ v, vs[j]? = some v ∧ v.oneCell' = true ∧ VR w X.M noV noG u v := fun j u hj => by
      have hj' : j < cs0.length := by rw [p1]; exact (List.getElem?_eq_some_iff.1 hj).1
      obtain ⟨v, n1, n2, n3⟩ := m7 j _ (List.getElem?_eq_getElem hj')
      exact ⟨v, n1, n2, n3.closed u (p2 j _ u (List.getElem?_eq_getElem hj') hj) _ _⟩
    have hc0 : ∀ b, b ≠ b' → [b'].contains b = false := fun b h => by simp [h]
    have fin : ∀ (w1 : World) (g cap1 : Nat) (vs1 : Array Value) (te : TypeId), (execOp a.eval ⟨d, .call ⟨.builtin .append, #[x, y], #[t, t]⟩, ty, pos, after, guard⟩).run P w = .ok (.value (.slice (some ⟨g, 0, none⟩) (n + ns.length) cap1)) w1 →
        Kept w ⟨X.M, fun k => [b'].contains k, noV⟩ w1 → (g = b' ∨ w.heap.size ≤ g) → w1.heap[g]? = some (.cells vs1 te (0, 0)) → n + ns.length ≤ cap1 →
        (∀ j, j < n → vs1[j]? = vs[j]?) → (∀ j, j < ns.length → vs1[n + j]? = news[j]?) →
        Oper.wp P ⟨d, .call ⟨.builtin .append, #[x, y], #[t, t]⟩, ty, pos, after, guard⟩ a w K Q := fun w1 g cap1 vs1 te hrun hk hg hcells hcap1 ho hne => by
      unfold Oper.wp
      rw [hrun, Oper.upon_value]
      have hM : ∀ b, [b'].contains b = false → upd X.M b' none b = X.M b := fun b h => upd_ne _ _ (by intro e; subst e; simp at h)
      have hr1 := hr.spend ⟨m1, m2, m3, m4, hblt⟩ hk hM
      have himm : ∀ b off y, Imm w X.M b off y → Imm w1 (upd X.M b' none) b off y := fun b off y hi => by
        have hlt : b < w.heap.size := by
          rcases Nat.lt_or_ge b w.heap.size with h' | h'
          · exact h'
          · have := hi.1; simp [World.cell?, Array.getElem?_eq_none h'] at this
        have hneb : b ≠ b' := fun hh => by subst hh; exact absurd (hi.2.2 0 m4) (Nat.not_lt_zero _)
        exact ⟨by rw [cell?_same (hk.block b hlt (hc0 b hneb))]; exact hi.1, hi.2.1, by rw [hM b (hc0 b hneb)]; exact hi.2.2⟩
      have hMg : upd X.M b' none g = none := by
        rcases hg with h | h
        · subst h; exact upd_same _ _ _
        · rw [upd_ne _ _ (by omega)]; exact (hr.mlt g h).1
      refine hK _ _ ⟨_, hr1.put (d := d) hd' ?_⟩
      have hall : ∀ (i : Nat) el (j : Nat) u, ((cs.map fun a => [a]) ++ ns)[i]? = some el → el[j]? = some u → j = 0 ∧ ∃ v, vs1[i]? = some v ∧ v.oneCell' = true ∧ VR w X.M noV noG u v := fun i el j u he hu' => by
        have hel : el.length = 1 := by
          rcases List.mem_append.1 (List.mem_of_getElem? he) with h | h
          · obtain ⟨_, _, rfl⟩ := List.mem_map.1 h; rfl
          · exact hns el h
        have hj0 : j = 0 := by have := (List.getElem?_eq_some_iff.1 hu').1; omega
        subst hj0
        refine ⟨rfl, ?_⟩
        by_cases hic : i < cs.length
        · rw [List.getElem?_append_left (by simpa using hic), List.getElem?_map, List.getElem?_eq_getElem hic] at he
          cases he
          simp at hu'
          subst hu'
          rw [ho i (by omega)]
          exact hold i _ (List.getElem?_eq_getElem hic)
        · rw [List.getElem?_append_right (by simpa using Nat.le_of_not_lt hic), List.length_map] at he
          obtain ⟨v, g1, g2, g3⟩ := hn3 _ el u he hu'
          have hlt : i - cs.length < ns.length := (List.getElem?_eq_some_iff.1 he).1
          refine ⟨v, ?_, g2, g3⟩
          have := hne (i - cs.length) hlt
          rw [show n + (i - cs.length) = i by omega] at this
          rw [this]; exact g1
      have hlen : ((cs.map fun a => [a]) ++ ns).length = n + ns.length := by simp [hn]
      rw [← hlen]
      refine VR.sl _ 1 g 0 cap1 (fun i _ => (vs1[i]?).getD undef) (fun el he => ?_) (by rw [hlen]; exact hcap1) (fun i el j u he hu' => ?_) (fun i el j u he hu' => ?_)
      · rcases List.mem_append.1 he with h | h
        · obtain ⟨_, _, rfl⟩ := List.mem_map.1 h; rfl
        · exact hns el h
      · obtain ⟨rfl, v, g1, g2, g3⟩ := hall i el j u he hu'
        refine ⟨?_, by rw [g1]; exact g2, fun m hm => by have hm2 : upd X.M b' none g = some m := hm; rw [hMg] at hm2; cases hm2⟩
        simp only [World.cell?, hcells, Nat.zero_add, Nat.mul_one, Nat.add_zero, g1]; rfl
      · obtain ⟨rfl, v, g1, g2, g3⟩ := hall i el j u he hu'
        rw [g1]
        exact (g3.mono himm hk.sz).open' _ _
    have hstep : ∀ cv w', (Builtin.append_ #[t, t] ty #[a.eval x, a.eval y]).run P w = .ok cv w' → (execOp a.eval ⟨d, .call ⟨.builtin .append, #[x, y], #[t, t]⟩, ty, pos, after, guard⟩).run P w = .ok (.value cv) w' := fun cv w' h => by
      simp [execOp, resolve, invoke, builtin, h]
    by_cases hroom : n + ns.length ≤ cap
    · have hrun := run_append_roomT (P := P) (ty := ty) (w := w) hu hi b' n cap vs m5 ⟨yb, off, none⟩ ns.length yc news (by rw [hsz]; omega) hn1 hn2 hroom (by rw [hsz]; omega)
      rw [hsz, Nat.mul_one] at hrun
      have hsize : (vs.toList.take n ++ news ++ vs.toList.drop (n + news.length)).toArray.size = vs.size := by simp; omega
      refine fin _ b' cap _ ty' (hstep _ _ (by rw [hcv, hv]; exact hrun)) ?_ (.inl rfl) (setRow_heap w b' vs _ ty' _ m5) hroom (fun j hj => ?_) (fun j hj => ?_)
      · exact ⟨rfl, rfl, rfl, by rw [setRow_size]; exact Nat.le_refl _, fun k hk ht => setRow_other w b' k _ (fun e => by subst e; simp at ht), fun k m hs' => hs'.row fun m hm => by rw [hsize]; exact hm.cells m5⟩
      · have h1 : min n vs.size = n := by omega
        simp [List.getElem?_append, h1, hj, show j < vs.size by omega]
      · have h1 : min n vs.size = n := by omega
        simp [List.getElem?_append, h1, show ¬ (n + j < n) by omega, hl, hj]
    · have hbn := Nat.le_trans h1 hc
      have holds : ∀ (j : Nat) v, (vs.toList.take n)[j]? = some v → w.cell? ((⟨b', 0, none⟩ : Addr).add j) = some v := fun j v hj => by
        rw [List.getElem?_take] at hj
        split at hj
        · rw [addr_add]; simp only [World.cell?, m5, Nat.zero_add]; simpa using hj
        · cases hj
      have hlo : (vs.toList.take n).length = n * i.size := by rw [hsz]; simp; omega
      have hrun := run_append_grow (P := P) w t ty e i zv hu hi hzv ⟨b', 0, none⟩ n cap (vs.toList.take n) hlo holds ⟨yb, off, none⟩ ns.length yc news (by rw [hsz]; omega) hn1 (by omega) (by omega) (by rw [hby]; exact growslice_fits (by omega) hb)
      have hbel : Below w.heap.size w (w.drew.alloc (.cells ((vs.toList.take n).toArray ++ news.toArray ++ Builtin.zeroCells zv.cells (grownCap w (n + ns.length) cap e - (n + ns.length))) e)) := ⟨rfl, rfl, rfl, by simp, fun k hk => heap_old w.drew _ hk⟩
      refine fin _ w.heap.size (grownCap w (n + ns.length) cap e) _ e (hstep _ _ (by rw [hcv, hv]; exact hrun)) ⟨hbel.os, hbel.tape, hbel.output, hbel.size, fun k hk _ => hbel.block k hk, fun k m hs' => hs'.of_eq (hbel.block _ hs'.lt)⟩ (.inr (Nat.le_refl _)) (heap_new w.drew _) (grownCap_ge w _ cap e) (fun j hj => ?_) (fun j hj => ?_)
      · simp [Array.getElem?_append, hj, show j < vs.size by omega, show min n vs.size = n by omega, show j < n + news.length by omega]
      · simp [Array.getElem?_append, show min n vs.size = n by omega, show ¬ (n + j < n) by omega, hl, hj]
theorem o_assignK {d : Option Tmp} {v : Value} (hd : okDB σ d = true) : OpAny P w0 M0 σ ⟨d, .assign (.const v), ty, pos, after, guard⟩ (.val (.sc v)) :=
  opAny_val (okD hd) fun σ' a w X hag hr => ⟨v, rfl, .sc v⟩
theorem o_eqNilK {t e yt : Nat} {d : Option Tmp} (x : Operand) (hu : P.underlying t = some (.slice e)) (hx : exact (σ.ev x) = some (.slice none 0 0)) (hd : okDB σ d = true) :
    OpAny P w0 M0 σ ⟨d, .binOp .eql t x (.const (.slice none 0 0)) yt, ty, pos, after, guard⟩ (.val (.sc (.bool true))) :=
  opAny_val (okD hd) fun σ' a w X hag hr => by
    have h1 := hr.ev x
    rw [hag.ev x (by simp [Op.operands])] at h1
    have h1 := h1.exact _ hx
    refine ⟨.bool true, ?_, .sc _⟩
    simp only [execOp, h1]
    exact run_value (run_nilEq hu _ _ none 0 0 w)
end
end Go.Ab
set_option linter.unusedVariables false
set_option linter.unusedSimpArgs false
namespace Go.Ab
open Go.RowKit
theorem Sec.sep_l {J1 J2 : Sec} {T F w M} (h : J1.sep J2 T F w M) : ∃ T1 F1, J1 T1 F1 w M := by
  obtain ⟨T1, F1, T2, F2, h1, h2, h3, h4, h5, h6⟩ := h; exact ⟨T1, F1, h5⟩
theorem Sec.sep_r {J1 J2 : Sec} {T F w M} (h : J1.sep J2 T F w M) : ∃ T2 F2, J2 T2 F2 w M := by
  obtain ⟨T1, F1, T2, F2, h1, h2, h3, h4, h5, h6⟩ := h; exact ⟨T2, F2, h6⟩
section
variable {P : Program} {F0 : Nat → Prop} {w0 : World} {M0 : MT} {Q : Exit → Sec → AS → Prop} {J J' : Sec} {σ : AS}
theorem AWPJ.pure {c : Code} {φ : Prop} (hφ : ∀ T F w M, J T F w M → φ) (h : φ → AWPJ P F0 w0 M0 c Q J σ) : AWPJ P F0 w0 M0 c Q J σ := fun a w ⟨x, T, F, hx⟩ => h (hφ _ _ _ _ hx.sec) a w ⟨x, T, F, hx⟩
theorem AOpsJ.pure {ops : Array Oper} {l : List Oper} {R : Sec → AS → Prop} {φ : Prop} (hφ : ∀ T F w M, J T F w M → φ) (h : φ → AOpsJ P F0 w0 M0 ops l R J σ) : AOpsJ P F0 w0 M0 ops l R J σ := fun a w ⟨x, T, F, hx⟩ => h (hφ _ _ _ _ hx.sec) a w ⟨x, T, F, hx⟩
theorem WeakJ.drop {J1 J2 : Sec} (o1 : SecOk J1) : WeakJ (J1.sep J2) σ J1 σ := fun F0 w0 M0 a w ⟨x, T, F, hx⟩ => by
  obtain ⟨T1, F1, T2, F2, h1, h2, h3, h4, h5, h6⟩ := hx.sec
  exact ⟨x, T1, F1, hx.rel, h5, o1, hx.tf, fun b hb => hx.t b ((h1 b).2 (.inl hb)), fun b hb => hx.lt b ((h2 b).2 (.inl hb)), fun b hb => hx.free b ((h2 b).2 (.inl hb)), fun b hb => hx.f0 b ((h2 b).2 (.inl hb))⟩
theorem Jrow_nil {e z : Nat} {w : World} {M : Nat → Option Nat} : Jrow e z (.slice none 0 0) 0 [] (fun _ => False) (fun _ => False) w M :=
  ⟨fun k => by simp [Value.ownBlock], fun k h => h.elim, [], World.ownsRow_nil _ _ _ _, rfl, fun j c x h => by simp at h⟩
theorem WeakJ.nilRow {e z : Nat} : WeakJ J σ (J.sep (Jrow e z (.slice none 0 0) 0 [])) σ := fun F0 w0 M0 a w ⟨x, T, F, hx⟩ =>
  ⟨x, T, F, hx.rel, ⟨T, F, fun _ => False, fun _ => False, fun b => by simp, fun b => by simp, fun b _ h => h, fun b h => h.elim, hx.sec, Jrow_nil⟩, Sec.sep_ok hx.ok Jrow_ok, hx.tf, hx.t, hx.lt, hx.free, hx.f0⟩
theorem WeakJ.nilRow0 {e z : Nat} : WeakJ J0 σ (Jrow e z (.slice none 0 0) 0 []) σ := fun F0 w0 M0 a w ⟨x, T, F, hx⟩ =>
  ⟨x, fun _ => False, fun _ => False, hx.rel, Jrow_nil, Jrow_ok, hx.tf, fun b hb => hb.elim, fun b hb => hb.elim, fun b hb => hb.elim, fun b hb => hb.elim⟩
theorem WeakJ.trans {J'' : Sec} {σ' σ'' : AS} (h : WeakJ J σ J' σ') (k : WeakJ J' σ' J'' σ'') : WeakJ J σ J'' σ'' := fun F0 w0 M0 a w hr => k _ _ _ _ _ (h _ _ _ _ _ hr)
end
theorem Jrow_shape1 {e z n : Nat} {a : Option Addr} {cap : Nat} {cs : List AV} (hn : 0 < n) {T F w M} (h : Jrow e z (.slice a n cap) n cs T F w M) : ∃ g, a = some ⟨g, 0, none⟩ := by
  obtain ⟨_, _, xs, h3, _⟩ := h
  rcases h3.2 with ⟨h, h0⟩ | ⟨g, cap', cur, h, _⟩
  · omega
  · cases h; exact ⟨g, rfl⟩
theorem Jrow_cells {e z n g cap : Nat} {cs : List AV} {T F w M} (h : Jrow e z (.slice (some ⟨g, 0, none⟩) n cap) n cs T F w M) (off : Nat) : ∀ (j : Nat) c, (cs.drop off)[j]? = some c → ∃ v, w.cell? ⟨g, off + j, none⟩ = some v ∧ v.oneCell' = true ∧ VR w M noV noG c v := by
  obtain ⟨_, _, xs, h3, h4, h5⟩ := h
  intro j c hj
  rw [List.getElem?_drop] at hj
  have hlt : off + j < xs.length := by rw [h4]; exact (List.getElem?_eq_some_iff.1 hj).1
  obtain ⟨q1, q2⟩ := h5 _ c _ hj (List.getElem?_eq_getElem hlt)
  refine ⟨_, ?_, q1, inF_open q2⟩
  have := h3.cells (g := g) rfl (off + j) _ (List.getElem?_eq_getElem hlt)
  rw [addr_add, Nat.zero_add] at this
  exact this
section
variable {P : Program} {F0 : Nat → Prop} {w0 : World} {M0 : MT} {J : Sec} {σ : AS} {ty : TypeId} {pos : String} {after : Array Edge} {guard : Option (Nat × Bool)}
theorem newsZ {w : World} {M : Nat → Option Nat} {ns : List (List AV)} {v : Value} {z : Nat} (h : VR w M noV noG (.sl ns) v) (hnz : ∀ e ∈ ns, e.length = z) (hzp : 0 < z) (hpos : 0 < ns.length) :
    ∃ (yb yoff yc : Nat) (news : List Value), v = .slice (some ⟨yb, yoff, none⟩) ns.length yc ∧ news.length = ns.length * z ∧ ns.flatten.length = ns.length * z ∧ (∀ (j : Nat) u, news[j]? = some u → w.cell? ((⟨yb, yoff, none⟩ : Addr).add j) = some u) ∧ (∀ u ∈ news, u.oneCell' = true) ∧
      ∀ (j : Nat) c, ns.flatten[j]? = some c → ∃ u, news[j]? = some u ∧ u.oneCell' = true ∧ VR w M noV noG c u := by
  cases h with
  | sl0 a c => simp at hpos
  | sl _ z' b off cap Xn hz' hcap hc hv =>
    have hzz : z = z' := by rw [← hnz _ (List.getElem_mem hpos), hz' _ (List.getElem_mem hpos)]
    subst hzz
    have hfl : ns.flatten.length = ns.length * z := flat_len ns hnz
    let news : List Value := (List.range (ns.length * z)).map fun j => Xn (j / z) (j % z)
    have hnl : news.length = ns.length * z := by simp [news]
    have hnew : ∀ (j : Nat) c, ns.flatten[j]? = some c → news[j]? = some (Xn (j / z) (j % z)) ∧ Imm w M b (off + j) (Xn (j / z) (j % z)) ∧ VR w M noV noG c (Xn (j / z) (j % z)) := fun j c hj => by
      have hlt : j < ns.length * z := by rw [← hfl]; exact (List.getElem?_eq_some_iff.1 hj).1
      have hi' : j / z < ns.length := by rw [Nat.div_lt_iff_lt_mul hzp]; omega
      have hm : j % z < (ns[j / z]).length := by rw [hnz _ (List.getElem_mem hi')]; exact Nat.mod_lt _ hzp
      have hjj : j / z * z + j % z = j := by have := Nat.div_add_mod j z; rw [Nat.mul_comm] at this; exact this
      have h9 := flat_get ns hnz (j / z) (j % z) _ _ (List.getElem?_eq_getElem hi') (List.getElem?_eq_getElem hm)
      rw [hjj, hj] at h9
      cases h9
      have q1 := hc _ _ _ _ (List.getElem?_eq_getElem hi') (List.getElem?_eq_getElem hm)
      have q2 := hv _ _ _ _ (List.getElem?_eq_getElem hi') (List.getElem?_eq_getElem hm)
      rw [hjj] at q1
      exact ⟨by simp [news, hlt], q1, q2⟩
    have hat : ∀ (j : Nat) u, news[j]? = some u → ∃ c, ns.flatten[j]? = some c := fun j u hj => by
      have hlt : j < ns.flatten.length := by rw [hfl, ← hnl]; exact (List.getElem?_eq_some_iff.1 hj).1
      exact ⟨_, List.getElem?_eq_getElem hlt⟩
    refine ⟨b, off, cap, news, rfl, hnl, hfl, fun j u hj => ?_, fun u hu => ?_, fun j c hj => ?_⟩
    · obtain ⟨c, hc'⟩ := hat j u hj
      obtain ⟨q1, q2, _⟩ := hnew j c hc'
      rw [q1] at hj; cases hj
      rw [addr_add]; exact q2.1
    · obtain ⟨j, hj⟩ := List.getElem?_of_mem hu
      obtain ⟨c, hc'⟩ := hat j u hj
      obtain ⟨q1, q2, _⟩ := hnew j c hc'
      rw [q1] at hj; cases hj
      exact q2.2.1
    · obtain ⟨q1, q2, q3⟩ := hnew j c hj
      exact ⟨_, q1, q2.2.1, q3⟩
theorem o_indexX {d : Option Tmp} {t e z n cap g o : Nat} {k : IntKind} {m : Int} (x i : Operand) (hu : P.underlying t = some (.slice e)) (hs : ∀ w, (sizeOf e).run P w = .ok z w)
    (hx : exact (σ.ev x) = some (.slice (some ⟨g, 0, none⟩) n cap)) (hi : exact (σ.ev i) = some (.int k m)) (h0 : 0 ≤ m) (hm : m < n) (ho : m.toNat * z = o) (hd : okDB σ d = true) :
    OpAny P w0 M0 σ ⟨d, .indexAddr t x i, ty, pos, after, guard⟩ (.val (.sc (.pointer (some ⟨g, o, none⟩)))) :=
  opAny_val (okD hd) fun σ' a w X hag hr => by
    subst ho
    have h1 := hr.ev x
    rw [hag.ev x (by simp [Op.operands])] at h1
    have h1 := h1.exact _ hx
    have h2 := hr.ev i
    rw [hag.ev i (by simp [Op.operands])] at h2
    have h2 := h2.exact _ hi
    refine ⟨_, ?_, .sc _⟩
    simp only [execOp, h1, h2]
    refine run_value ?_
    simp [Instr.indexAt, asIntOf, run_underlying' hu, hs, h0, hm, Result.andThen, addr_add, Instr.sureAddr]
theorem o_fieldX {d : Option Tmp} {t f off sz g o o' : Nat} {ag : Bool} (x : Operand) (hx : exact (σ.ev x) = some (.pointer (some ⟨g, o, none⟩))) (hf : FieldAt P t f off sz ag) (ho : o + off = o') (hd : okDB σ d = true) :
    OpAny P w0 M0 σ ⟨d, .fieldAddr t x f, ty, pos, after, guard⟩ (.val (.sc (.pointer (some ⟨g, o', none⟩)))) :=
  opAny_val (okD hd) fun σ' a w X hag hr => by
    subst ho
    have h1 := hr.ev x
    rw [hag.ev x (by simp [Op.operands])] at h1
    have h1 := h1.exact _ hx
    refine ⟨_, ?_, .sc _⟩
    simp only [execOp, h1]
    exact run_value (run_fieldAt hf w g o)
theorem o_lenX {d : Option Tmp} {t e n cap : Nat} {a : Option Addr} (x : Operand) (hu : P.underlying t = some (.slice e)) (hx : exact (σ.ev x) = some (.slice a n cap)) (hd : okDB σ d = true) :
    OpAny P w0 M0 σ ⟨d, .call ⟨.builtin .len, #[x], #[t]⟩, ty, pos, after, guard⟩ (.val (.sc (.int .i64 n))) := ok_lenX x hx (fun w => by simp [Builtin.len_, run_underlying' hu, Result.andThen, goInt]) (okD hd)
theorem o_look {d : Option Tmp} {t sz b off : Nat} {ag : Bool} {cs : List AV} {r : AV} (x : Operand) (hx : exact (σ.ev x) = some (.pointer (some ⟨b, off, none⟩))) (hs : ∀ w, (sizeOf t).run P w = .ok sz w) (ha : ∀ w, (isAgg t).run P w = .ok ag w)
    (hJ : ∀ T F w M, J T F w M → ∀ (j : Nat) c, cs[j]? = some c → ∃ v, w.cell? ⟨b, off + j, none⟩ = some v ∧ v.oneCell' = true ∧ VR w M noV noG c v) (hp : partA ag sz cs = some r) (hd : okDB σ d = true) :
    OpAnyJ P F0 w0 M0 J σ ⟨d, .load t x, ty, pos, after, guard⟩ (.val r) := by
  intro σ' hag a w ⟨X, T, F, hr⟩ K Q hK
  have h1 := hr.rel.ev x
  rw [hag.ev x (by simp [Op.operands])] at h1
  have h1 := h1.exact _ hx
  have hc : Cells w X.M X.V X.G b off cs := fun j c hj => by
    obtain ⟨v, g1, g2, g3⟩ := hJ _ _ _ _ hr.sec j c hj
    exact ⟨v, g1, g2, g3.open' _ _⟩
  obtain ⟨cv, m1, m2⟩ := run_loadAt_cells (P := P) hs ha hc hp
  unfold Oper.wp
  have hrun : (execOp a.eval ⟨d, .load t x, ty, pos, after, guard⟩).run P w = .ok (.value cv) w := by
    simp only [execOp, h1]
    exact run_value m1
  rw [hrun, Oper.upon_value]
  exact hK _ _ ⟨X, T, F, hr.put (okDst_agree hag (okD hd)) m2⟩
theorem o_appendRow {t e z bytes n cap : Nat} {i : TypeInfo} {zv : Value} {a0 : Option Addr} {cs : List AV} {ns : List (List AV)} {d : Option Tmp} (x y : Operand) (hu : P.underlying t = some (.slice e)) (hi : P.info? e = some i) (hzv : i.zero = some zv) (hsz : i.size = z) (hby : i.bytes = bytes) (hzc : zv.cells.size = z) (hzp : Nat.blt 0 z = true)
    (hx : exact (σ.ev x) = some (.slice a0 n cap)) (hy : slEs (σ.ev y) = some ns) (hns : ∀ c ∈ ns, c.length = z) (hb : (n + ns.length) * bytes ≤ 140737488355328) (hbp : Nat.blt 0 bytes = true) (hpos : 0 < ns.length)
    (hp : (∀ c ∈ ns.flatten, ∃ v, c = .sc v) ∨ ∀ id, σ.gr id = none) (hd : okDB σ d = true) :
    OpJ P F0 w0 M0 (Jrow e z (.slice a0 n cap) n cs) σ ⟨d, .call ⟨.builtin .append, #[x, y], #[t, t]⟩, ty, pos, after, guard⟩ (fun J' σ' => ∃ r, (∃ a1 cap1, r = .sc (.slice (some a1) (n + ns.length) cap1) ∧ J' = Jrow e z (.slice (some a1) (n + ns.length) cap1) (n + ns.length) (cs ++ ns.flatten)) ∧ σ' = σ.put d r) := by
  have hzp := ltB hzp
  have hbp := ltB hbp
  refine OpJ.of_value (S := fun r J' => ∃ a1 cap1, r = .sc (.slice (some a1) (n + ns.length) cap1) ∧ J' = Jrow e z (.slice (some a1) (n + ns.length) cap1) (n + ns.length) (cs ++ ns.flatten)) hd fun a w X T F hr => ?_
  have hxv := (hr.rel.ev x).exact _ hx
  obtain ⟨yb, yoff, yc, news, hyv, hnl, hfl, hn1, hn2, hn3⟩ := newsZ (slEs_spec (hr.rel.ev y) hy) hns hzp hpos
  have hp0 := hr.postRefl
  obtain ⟨h1, h2, xs, h3, h4, h5⟩ := hp0.sec
  have hmb := Nat.le_mul_of_pos_right (n + ns.length) hbp
  have hml : n + ns.length ≤ maxLen := by unfold maxLen; omega
  have hxl : xs.length = n * z := h3.1
  have hstep : ∀ cv w', (Builtin.append_ #[t, t] ty #[a.eval x, a.eval y]).run P w = .ok cv w' → (execOp a.eval ⟨d, .call ⟨.builtin .append, #[x, y], #[t, t]⟩, ty, pos, after, guard⟩).run P w = .ok (.value cv) w' := fun cv w' h => by
    simp [execOp, resolve, invoke, builtin, h]
  have fin : ∀ (w1 : World) (g cap1 : Nat) (vs1 : Array Value), (Builtin.append_ #[t, t] ty #[a.eval x, a.eval y]).run P w = .ok (.slice (some ⟨g, 0, none⟩) (n + ns.length) cap1) w1 →
      Kept w ⟨X.M, fun k => (Value.slice a0 n cap).ownBlock == some k, noV⟩ w1 → (T g ∨ w.heap.size ≤ g) → w1.heap[g]? = some (.cells vs1 e (0, 0)) → n + ns.length ≤ cap1 → cap1 ≤ maxLen → vs1.size = cap1 * z → vs1.toList.take ((n + ns.length) * z) = xs ++ news →
      ∃ v w' r J' T' F' M', (execOp a.eval ⟨d, .call ⟨.builtin .append, #[x, y], #[t, t]⟩, ty, pos, after, guard⟩).run P w = .ok (.value v) w' ∧ (∃ a1 cap1, r = .sc (.slice (some a1) (n + ns.length) cap1) ∧ J' = Jrow e z (.slice (some a1) (n + ns.length) cap1) (n + ns.length) (cs ++ ns.flatten)) ∧ PostJ T F w (cutM σ X) J' T' F' w' M' ∧ VR w' M' noV noG r v := fun w1 g cap1 vs1 hrun hk hg hcells hc1 hc2 hsz1 htake => by
    have hkb : ∀ k, k < w.heap.size → ¬ T k → w1.heap[k]? = w.heap[k]? := fun k hk1 hk2 => hk.block k hk1 (by
      show (_ == _) = false
      rw [beq_eq_false_iff_ne]
      exact fun e => hk2 ((h1 k).2 e))
    let F1 : Nat → Prop := fun b => F b ∨ (b < w.heap.size ∧ cutM σ X b ≠ some 0) ∨ b = g
    let M1 : Nat → Option Nat := upd (cutM σ X) g (some 0)
    have hM1 : ∀ b, b ≠ g → M1 b = cutM σ X b := fun b hb => upd_ne _ _ hb
    have hTM : ∀ b, T b → cutM σ X b = some 0 := fun b hb => (h2 b hb).2
    have himm : ∀ b off u, Imm w (cutM σ X) b off u → Imm w1 (inF F1 M1) b off u := fun b off u hi => by
      have hlt : b < w.heap.size := by
        rcases Nat.lt_or_ge b w.heap.size with h' | h'
        · exact h'
        · have := hi.1; simp [World.cell?, Array.getElem?_eq_none h'] at this
      have hne0 : cutM σ X b ≠ some 0 := fun e => absurd (hi.2.2 0 e) (by omega)
      have hnT : ¬ T b := fun hT => hne0 (hTM b hT)
      have hbg : b ≠ g := fun e => by
        subst e
        rcases hg with h | h
        · exact hnT h
        · omega
      exact inF_imm.2 ⟨.inr (.inl ⟨hlt, hne0⟩), by rw [cell?_same (hkb b hlt hnT)]; exact hi.1, hi.2.1, by rw [hM1 b hbg]; exact hi.2.2⟩
    have hold : ∀ {c u}, VR w (inF F (cutM σ X)) noV noG c u → VR w1 (inF F1 M1) noV noG c u := fun hv => hv.monoI rfl fun b off u hi => himm b off u (inF_imm.1 hi).2
    have hnew : ∀ {c u}, c ∈ ns.flatten → VR w X.M noV noG c u → VR w1 (inF F1 M1) noV noG c u := fun hc hv => by
      have hv2 : VR w (cutM σ X) noV noG _ _ := hr.cutArg hv (hp.imp (fun h => by obtain ⟨v, rfl⟩ := h _ hc; rfl) id)
      exact hv2.monoI rfl himm
    refine ⟨_, w1, _, _, fun b => b = g, F1, M1, hstep _ _ hrun, ⟨⟨g, 0, none⟩, cap1, rfl, rfl⟩, ?_, .sc _⟩
    constructor
    · exact Jrow_ok
    · refine ⟨fun k => by simp [Value.ownBlock, eq_comm], fun k hk => ⟨.inr (.inr hk), by subst hk; exact upd_same _ _ _⟩, xs ++ news, ⟨by rw [List.length_append, hxl, hnl, Nat.add_mul], .inr ⟨g, cap1, vs1, rfl, Nat.zero_le _, hcells, hc1, hc2, hsz1, htake⟩⟩, by rw [List.length_append, List.length_append, h4, hnl, hfl], fun j c u hc hu => ?_⟩
      by_cases hj : j < cs.length
      · rw [List.getElem?_append_left hj] at hc
        rw [List.getElem?_append_left (by omega)] at hu
        obtain ⟨q1, q2⟩ := h5 j c u hc hu
        exact ⟨q1, hold q2⟩
      · rw [List.getElem?_append_right (by omega)] at hc
        rw [List.getElem?_append_right (by omega), h4] at hu
        obtain ⟨u', q1, q2, q3⟩ := hn3 _ c hc
        rw [q1] at hu; cases hu
        exact ⟨q2, hnew (List.mem_of_getElem? hc) q3⟩
    · exact hk.os
    · exact hk.tape
    · exact hk.output
    · exact hk.size
    · exact hkb
    · exact hk.sz
    · intro b hb; subst hb; exact hg
    · intro b hb
      rcases hb with hb | hb | hb
      · exact Nat.lt_of_lt_of_le (hr.lt b hb) hk.size
      · exact Nat.lt_of_lt_of_le hb.1 hk.size
      · subst hb; exact lt_of_cells hcells
    · intro b hb
      rcases hb with hb | hb | hb
      · exact .inl hb
      · exact .inr (.inr hb.2)
      · subst hb
        rcases hg with h | h
        · exact .inl (hr.ok.sub hr.sec b h)
        · exact .inr (.inl h)
    · intro b hb hT
      exact hM1 b fun e => by
        subst e
        rcases hg with h | h
        · exact hT h
        · omega
    · intro b hb
      have hlt := lt_of_cells hcells
      rw [hM1 b (by omega)]
      exact hr.cutTop b (Nat.le_trans hk.size hb)
  rcases h3.2 with ⟨he, hn0⟩ | ⟨g, cap', cur, he, _, hg, hnc, hcm, hcs, htake⟩
  · cases he
    have hxs : xs = [] := List.eq_nil_of_length_eq_zero (by rw [hxl]; simp)
    subst hxs
    have hb' : ns.length * bytes ≤ 140737488355328 := by have := hb; rwa [Nat.zero_add] at this
    have hrun := run_append_nil (P := P) w t ty e i zv hu hi hzv ⟨yb, yoff, none⟩ ns.length yc news (by rw [hsz]; exact hnl) hn1 hpos (by omega) (by rw [hby]; omega)
    have hge := grownCap_ge w ns.length 0 e
    have hle := grownCap_le_maxLen w ns.length 0 e (by omega)
    refine fin (w.drew.alloc (.cells (news.toArray ++ Builtin.zeroCells zv.cells (grownCap w ns.length 0 e - ns.length)) e)) w.heap.size (grownCap w ns.length 0 e) (news.toArray ++ Builtin.zeroCells zv.cells (grownCap w ns.length 0 e - ns.length)) (by rw [hxv, hyv, Nat.zero_add]; exact hrun) ⟨rfl, rfl, rfl, by simp, fun k hk _ => heap_old w.drew _ hk, fun k m hs => Sz.alloc (w := w.drew) hs⟩ (.inr (Nat.le_refl _)) (heap_new w.drew _) (by omega) hle ?_ ?_
    · simp only [Array.size_append, List.size_toArray, size_zeroCells, hzc, hnl, ← Nat.add_mul]
      congr 1; omega
    · rw [Array.toList_append, Nat.zero_add, List.nil_append, ← hnl]
      exact List.take_left
  · cases he
    by_cases hroom : n + ns.length ≤ cap
    · have hrun := run_append_room (P := P) w t ty e i hu hi g n cap cur hg ⟨yb, yoff, none⟩ ns.length yc news (by rw [hsz]; exact hnl) hn1 hn2 hroom (by rw [hsz, hnl, hcs, ← Nat.add_mul]; exact Nat.mul_le_mul_right _ hroom)
      rw [hsz] at hrun
      have hfit : n * z + news.length ≤ cur.size := by rw [hnl, hcs, ← Nat.add_mul]; exact Nat.mul_le_mul_right _ hroom
      have hsize : (cur.toList.take (n * z) ++ news ++ cur.toList.drop (n * z + news.length)).toArray.size = cur.size := by
        simp only [List.size_toArray, List.length_append, List.length_take, List.length_drop, Array.length_toList]; omega
      refine fin (w.setRow g (cur.toList.take (n * z) ++ news ++ cur.toList.drop (n * z + news.length)).toArray) g cap (cur.toList.take (n * z) ++ news ++ cur.toList.drop (n * z + news.length)).toArray (by rw [hxv, hyv]; exact hrun) ⟨rfl, rfl, rfl, by rw [setRow_size]; exact Nat.le_refl _, fun k hk ht => setRow_other w g k _ (fun e => by subst e; simp [Value.ownBlock] at ht), fun k m hs => hs.row fun m hm => by rw [hsize]; exact hm.cells hg⟩ (.inl ((h1 g).2 rfl)) (setRow_heap w g cur _ e _ hg) hroom hcm (by rw [hsize, hcs]) ?_
      rw [htake]
      have : (xs ++ news).length = (n + ns.length) * z := by rw [List.length_append, hxl, hnl, Nat.add_mul]
      rw [← this]
      exact List.take_left
    · have holds : ∀ j u, xs[j]? = some u → w.cell? ((⟨g, 0, none⟩ : Addr).add j) = some u := h3.cells (g := g) rfl
      have hrun := run_append_grow (P := P) w t ty e i zv hu hi hzv ⟨g, 0, none⟩ n cap xs (by rw [hsz]; exact hxl) holds ⟨yb, yoff, none⟩ ns.length yc news (by rw [hsz]; exact hnl) hn1 (by omega) (by omega) (by rw [hby]; exact growslice_fits (by omega) hb)
      have hge := grownCap_ge w (n + ns.length) cap e
      have hle := grownCap_le_maxLen w (n + ns.length) cap e hml
      refine fin (w.drew.alloc (.cells (xs.toArray ++ news.toArray ++ Builtin.zeroCells zv.cells (grownCap w (n + ns.length) cap e - (n + ns.length))) e)) w.heap.size (grownCap w (n + ns.length) cap e) (xs.toArray ++ news.toArray ++ Builtin.zeroCells zv.cells (grownCap w (n + ns.length) cap e - (n + ns.length))) (by rw [hxv, hyv]; exact hrun) ⟨rfl, rfl, rfl, by simp, fun k hk _ => heap_old w.drew _ hk, fun k m hs => Sz.alloc (w := w.drew) hs⟩ (.inr (Nat.le_refl _)) (heap_new w.drew _) hge hle ?_ ?_
      · simp only [Array.size_append, List.size_toArray, size_zeroCells, hzc, hxl, hnl, ← Nat.add_mul]
        congr 1; omega
      · rw [Array.toList_append, Array.toList_append]
        have : (xs ++ news).length = (n + ns.length) * z := by rw [List.length_append, hxl, hnl, Nat.add_mul]
        rw [← this]
        exact List.take_left
theorem o_storeRow {t e z n cap g o : Nat} {cs cs' : List AV} {u : Value} {d : Option Tmp} (x y : Operand) (hx : exact (σ.ev x) = some (.pointer (some ⟨g, o, none⟩))) (hy : exact (σ.ev y) = some u) (hs : ∀ w, (sizeOf t).run P w = .ok 1 w) (h1 : u.oneCell' = true) (ho : o < cs.length) (hcs : cs.set o (.sc u) = cs') (hd : okDB σ d = true) :
    OpJ P F0 w0 M0 (Jrow e z (.slice (some ⟨g, 0, none⟩) n cap) n cs) σ ⟨d, .store t x y, ty, pos, after, guard⟩ (fun J1 σ' => J1 = Jrow e z (.slice (some ⟨g, 0, none⟩) n cap) n cs' ∧ σ' = σ.put d (.sc undef)) := by
  subst hcs
  refine OpJ.of_skip (S := fun J1 => J1 = Jrow e z (.slice (some ⟨g, 0, none⟩) n cap) n (cs.set o (.sc u))) hd fun a w X T F hr => ?_
  have hcv := (hr.rel.ev x).exact _ hx
  have hyv := (hr.rel.ev y).exact _ hy
  have hp := hr.postRefl
  obtain ⟨g1, g2, xs, g3, g4, g5⟩ := hp.sec
  rcases g3.2 with ⟨he, hn0⟩ | ⟨g', cap', cur, he, _, hg, hnc, hcm, hcsz, htake⟩
  · cases he
  · cases he
    have hT : T g := (g1 g).2 rfl
    have hxl : xs.length = n * z := g3.1
    have hfit : o < cur.size := by
      have : n * z ≤ cur.size := by rw [hcsz]; exact Nat.mul_le_mul_right _ hnc
      omega
    have hcu : u.cells = #[u] := by cases u <;> simp_all [Value.cells, Value.oneCell']
    have hst := run_storeCells_at P g o e [u] 0 cur w hg (by simp; omega) (fun v hv => by simp at hv; subst hv; exact h1)
    have hrow : (cur.toList.take o ++ [u] ++ cur.toList.drop (o + 1)).toArray = cur.set o u hfit := by
      apply Array.ext'
      simp [List.set_eq_take_append_cons_drop, hfit]
    have hst2 : (storeCells ⟨g, o, none⟩ [u]).run P w = .ok () (w.setRow g (cur.set o u hfit)) := by
      simp only [Nat.add_zero] at hst
      rw [← hrow]
      exact hst
    refine ⟨w.setRow g (cur.set o u hfit), _, T, F, cutM σ X, ?_, rfl, ?_⟩
    · simp [execOp, hcv, hyv, Instr.storeAt, Instr.sureAddr, storeVar, hs, Result.andThen, hcu, hst2]
    · refine ⟨Jrow_ok, ⟨g1, g2, xs.set o u, ⟨by rw [List.length_set]; exact hxl, .inr ⟨g, cap, _, rfl, Nat.zero_le _, setRow_heap w g cur _ e _ hg, hnc, hcm, by simpa using hcsz, ?_⟩⟩, by rw [List.length_set, List.length_set]; exact g4, fun j c v hc hv => ?_⟩, rfl, rfl, rfl, by rw [setRow_size]; exact Nat.le_refl _, fun k hk hT' => setRow_other w g k _ (fun e => hT' (e ▸ hT)), fun k m hs => hs.row fun m hm => by have := hm.cells hg; simpa using this, fun _ h => .inl h, fun b hb => by rw [setRow_size]; exact hr.lt b hb, fun _ h => .inl h, fun _ _ _ => rfl, fun b hb => hr.cutTop b (by rw [setRow_size] at hb; exact hb)⟩
      · rw [Array.toList_set, ← htake, List.take_set]
      · rw [List.getElem?_set] at hc hv
        by_cases hj : o = j
        · subst hj
          rw [if_pos rfl, if_pos ho] at hc
          rw [if_pos rfl, if_pos (by omega)] at hv
          cases hc; cases hv
          exact ⟨h1, .sc _⟩
        · rw [if_neg hj] at hc hv
          obtain ⟨q1, q2⟩ := g5 j c v hc hv
          refine ⟨q1, q2.monoI rfl fun b off y hi => ?_⟩
          obtain ⟨r1, r2⟩ := inF_imm.1 hi
          have hb : b ≠ g := fun e => by subst e; exact absurd (r2.2.2 0 (g2 b hT).2) (by omega)
          exact inF_imm.2 ⟨r1, by rw [cell?_same (setRow_other w g b _ hb)]; exact r2.1, r2.2⟩
end
end Go.Ab
namespace Go.Ab
open Go.RowKit
section
variable {σ : AS}
def AS.ownIn (σ : AS) (id id2 : OId) (k z : Nat) (e : TypeId) (cs : List AV) : AS :=
  { σ with va := updO σ.va id (some (cs.set k (.own id2 []))), gr := updO σ.gr id2 (some (0, z, e)), gen := upd σ.gen id2.1 (id2.2 + 1) }
theorem Weak.ownIn {id : OId} (id2 : OId) (k z : Nat) (e : TypeId) {cs : List AV} (hva : σ.va id = some cs) (hk : cs[k]? = some (.sc (.slice none 0 0)))
    (hg : Nat.ble (σ.gen id2.1) id2.2 = true) (hn : Nat.blt id2.1 σ.n = true) : Weak σ (σ.ownIn id id2 k z e cs) := by
  intro w0 M0 a w ⟨x, h⟩
  have hg' : σ.gen id2.1 ≤ id2.2 := Nat.le_of_ble_eq_true hg
  have hn' : id2.1 < σ.n := Nat.lt_of_lt_of_le (Nat.lt_succ_self _) (Nat.le_of_ble_eq_true hn)
  obtain ⟨f1, f2⟩ := h.fresh id2.1 id2.2 hg'
  have lift : ∀ {c v}, VR w x.M x.V x.G c v → VR w x.M x.V (updO x.G id2 (some ⟨none, 0, 0⟩)) c v := fun hh => hh.locs (fun i b' hb => hb) (fun i g hgg => ⟨g, by
    by_cases hi : i = id2
    · subst hi; rw [f2] at hgg; cases hgg
    · rw [updO_ne _ _ hi]; exact hgg, Nat.le_refl _, fun _ => rfl⟩)
  have hgen : ∀ d, σ.gen d ≤ upd σ.gen id2.1 (id2.2 + 1) d := fun d => by
    by_cases hd : d = id2.1
    · subst hd; rw [upd_same]; omega
    · rw [upd_ne _ _ hd]; exact Nat.le_refl _
  refine ⟨⟨x.M, x.V, updO x.G id2 (some ⟨none, 0, 0⟩), x.ow⟩, ?_⟩
  constructor
  · exact h.below
  · exact h.defers
  · exact h.size
  · intro i; exact lift (h.tm i)
  · exact h.m0
  · exact h.mlt
  · intro d g hdg
    change upd σ.gen id2.1 (id2.2 + 1) d ≤ g at hdg
    have hne2 : (d, g) ≠ id2 := fun e => by
      subst e
      rw [upd_same] at hdg; simp only [] at hdg; omega
    show x.V (d, g) = none ∧ updO x.G id2 _ (d, g) = none
    rw [updO_ne _ _ hne2]
    exact h.fresh d g (Nat.le_trans (hgen d) hdg)
  · intro id' b' hid
    obtain ⟨q1, q2, q3, q4⟩ := h.lent id' b' hid
    exact ⟨q1, q2, Nat.lt_of_lt_of_le q3 (hgen _), q4⟩
  · intro id' cs1 hv'
    change updO σ.va id (some (cs.set k (.own id2 []))) id' = some cs1 at hv'
    by_cases hid : id' = id
    · subst hid
      rw [updO_same] at hv'; cases hv'
      obtain ⟨b, vs, ty, h1, h2, h3, h4, h5, h6, h7⟩ := h.va id' cs hva
      refine ⟨b, vs, ty, h1, h2, h3, h4, h5, by rw [List.length_set]; exact h6, fun j c hj => ?_⟩
      have hkl : k < cs.length := (List.getElem?_eq_some_iff.1 hk).1
      by_cases hjk : k = j
      · subst hjk
        rw [List.getElem?_set_self hkl] at hj
        cases hj
        obtain ⟨v, g1, g2, g3⟩ := h7 k _ hk
        refine ⟨v, g1, g2, ?_⟩
        cases g3
        exact .own id2 [] _ (.sl0 none 0) ⟨none, 0, 0⟩ (updO_same _ _ _) (Nat.le_refl _) (fun _ => rfl)
      · rw [List.getElem?_set_ne hjk] at hj
        obtain ⟨v, g1, g2, g3⟩ := h7 j c hj
        exact ⟨v, g1, g2, lift g3⟩
    · rw [updO_ne _ _ hid] at hv'
      obtain ⟨b1, vs1, ty1, k1, k2, k3, k4, k5, k6, k7⟩ := h.va id' cs1 hv'
      exact ⟨b1, vs1, ty1, k1, k2, k3, k4, k5, k6, fun j c hj => by
        obtain ⟨v, g1, g2, g3⟩ := k7 j c hj
        exact ⟨v, g1, g2, lift g3⟩⟩
  · intro d g cs1 hv'
    change updO σ.va id (some (cs.set k (.own id2 []))) (d, g) = some cs1 at hv'
    refine Nat.lt_of_lt_of_le ?_ (hgen d)
    by_cases hid : (d, g) = id
    · have := h.vgen id.1 id.2 cs hva
      rw [← hid] at this; exact this
    · rw [updO_ne _ _ hid] at hv'; exact h.vgen d g cs1 hv'
  · intro id' n z' e' hgr
    change updO σ.gr id2 (some (0, z, e)) id' = some (n, z', e') at hgr
    by_cases hid : id' = id2
    · subst hid
      rw [updO_same] at hgr; cases hgr
      exact ⟨⟨none, 0, 0⟩, updO_same _ _ _, rfl, Nat.le_refl _, Nat.zero_le _, fun _ => rfl, fun b hb => by cases hb⟩
    · rw [updO_ne _ _ hid] at hgr
      obtain ⟨l, q1, q2⟩ := h.gr id' n z' e' hgr
      exact ⟨l, by show updO x.G id2 _ id' = _; rw [updO_ne _ _ hid]; exact q1, q2⟩
  · intro d g nz hgr
    change updO σ.gr id2 (some (0, z, e)) (d, g) = some nz at hgr
    by_cases hid : (d, g) = id2
    · show g < upd σ.gen id2.1 (id2.2 + 1) d
      rw [← hid]; rw [upd_same]; exact Nat.lt_succ_self _
    · rw [updO_ne _ _ hid] at hgr
      exact Nat.lt_of_lt_of_le (h.ggen d g nz hgr) (hgen d)
end
end Go.Ab
