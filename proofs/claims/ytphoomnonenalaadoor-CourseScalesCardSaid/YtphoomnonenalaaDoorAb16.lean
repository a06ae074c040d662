/- A slice of a whole local array. Nothing here speaks of one program. -/
import Derived.Test.YtphoomnonenalaaDoorAb14
namespace Go.Ab
open Go.RowKit
section
variable {P : Program} {w0 : World} {M0 : MT} {σ : AS} {ty : TypeId} {pos : String} {after : Array Edge} {guard : Option (Nat × Bool)}
theorem o_sliceArr {d : Option Tmp} {t e z n : Nat} {id : OId} (x : Operand) (hu : P.underlying t = some (.array n e)) (hs : ∀ w, (sizeOf e).run P w = .ok z w)
    (hx : nf (σ.ev x) = some (.ref id 0)) (hd : okDB σ d = true) :
    OpAny P w0 M0 σ ⟨d, .slice t x none none none, ty, pos, after, guard⟩ (.val (.arr id 0 n)) :=
  opAny_val (okD hd) fun σ' a w X hag hr => by
    have h1 := hr.ev x
    rw [hag.ev x (by simp [Op.operands]), nf_eq hx] at h1
    generalize hcv : a.eval x = cv at h1
    cases h1 with
    | ref _ _ b hb =>
      refine ⟨_, ?_, .arr _ _ _ b _ hb (Nat.le_refl _)⟩
      simp only [execOp, hcv]
      refine run_value ?_
      by_cases hn : n = 0 <;> simp [Instr.sliceAt, run_underlying' hu, hs, Result.andThen, Instr.sureAddr, Instr.sliceBounds, addr_add, hn]
theorem AOps.weak {ops : Array Oper} {R : AS → Prop} {l : List Oper} {σ' : AS} (hw : Weak σ σ') (h : AOps P w0 M0 ops l R σ') : AOps P w0 M0 ops l R σ := fun a w hr => h a w (hw _ _ _ _ hr)
end
theorem lowL_sc (gen : Nat → Nat) : ∀ (l : List AV), (∀ x ∈ l, ∃ v, x = .sc v) → AV.low.lowL gen l = true := by
  intro l
  induction l with
  | nil => intro _; rfl
  | cons a l ih =>
    intro h
    obtain ⟨v, rfl⟩ := h a List.mem_cons_self
    simp only [AV.low.lowL, AV.low, Bool.true_and]
    exact ih fun x hx => h x (List.mem_cons_of_mem _ hx)
theorem lowL_fillV (gen : Nat → Nat) {α : Type} (f : α → Value) (l : List α) (n : Nat) (u : Value) : AV.low.lowL gen (l.map (fun d => .sc (f d)) ++ List.replicate n (.sc u)) = true := by
  refine lowL_sc gen _ fun x hx => ?_
  rcases List.mem_append.1 hx with h | h
  · obtain ⟨a, _, rfl⟩ := List.mem_map.1 h; exact ⟨_, rfl⟩
  · rw [(List.mem_replicate.1 h).2]; exact ⟨_, rfl⟩
end Go.Ab
