/- Layers compared; packs without layers; what Apply makes. -/
import Derived.Test.YtgagfmjpmdgfdaaDoorP4
import Derived.Test.YtgagfmjpmdgfdaaDoorQ1
import Derived.Laws.StructEq
set_option linter.unusedVariables false
set_option linter.unusedSimpArgs false
namespace Go.Ab
open Go.RowKit
/-- What is known of a value may be told by less. -/
theorem OpAny.le {P : Program} {w0 : World} {M0 : MT} {σ : AS} {o : Oper} {x y : AV} (h : OpAny P w0 M0 σ o (.val x)) (hxy : ∀ w M V G v, VR w M V G x v → VR w M V G y v) : OpAny P w0 M0 σ o (.val y) := by
  intro σ' hag a w hr K Q hK
  refine h σ' hag a w hr K Q fun a' w' ⟨X, hr'⟩ => hK a' w' ⟨X, ?_⟩
  cases hd : o.dst with
  | none => rw [hd] at hr'; exact hr'
  | some d =>
    rw [hd] at hr'
    have hr' : RelW w0 M0 { σ' with tm := upd σ'.tm d x } a' w' X := hr'
    show RelW w0 M0 { σ' with tm := upd σ'.tm d y } a' w' X
    exact ⟨hr'.below, hr'.defers, hr'.size, fun i => by
      have h1 := hr'.tm i
      show VR w' X.M X.V X.G (upd σ'.tm d y i) _
      by_cases hi : i = d
      · subst hi; rw [upd_same]
        have h1 : VR w' X.M X.V X.G (upd σ'.tm i x i) _ := h1
        rw [upd_same] at h1; exact hxy _ _ _ _ _ h1
      · rw [upd_ne _ _ hi]
        have h1 : VR w' X.M X.V X.G (upd σ'.tm d x i) _ := h1
        rw [upd_ne _ _ hi] at h1; exact h1, hr'.m0, hr'.mlt, hr'.fresh, hr'.lent, hr'.va, hr'.vgen, hr'.gr, hr'.ggen⟩
end Go.Ab
namespace Go.Proofs.YtgagfmjpmdgfdaaDoor
open Go.Ab Go.RowKit
theorem vr_nil {w M V G v} (h : VR w M V G (.agg [.sc (.slice none 0 0)]) v) : VR w M V G (.agg [.sl []]) v := by
  cases h with
  | agg _ vs hl h1 hh =>
    refine .agg _ vs hl h1 fun i c v hc hv => ?_
    cases i with
    | zero =>
      simp at hc; subst hc
      have := hh 0 _ v rfl hv
      cases this; exact .sl0 _ _
    | succ i => simp at hc
section
variable {w0 : World} {M0 : MT} {σ : AS} {ty : TypeId} {pos : String} {after : Array Edge} {guard : Option (Nat × Bool)} {d : Option Tmp}
set_option maxRecDepth 20000 in
theorem o_noPack (hd : okDB σ d = true) : OpAny Tryd.prog w0 M0 σ ⟨d, .build 24 #[], ty, pos, after, guard⟩ (.val (.agg (eK []))) :=
  (o_build bu24 rfl rfl hd).le fun _ _ _ _ _ h => vr_nil h
end
theorem g28 : Tryd.prog.eqGuardType Tryd.prog.depth 28 = false := by kernel_rfl
theorem s28 : Tryd.prog.stoodInHeld 28 = false := by kernel_rfl
def vL (l : Lay) : Value := .agg #[.int .i64 l.ice, .int .i64 l.wet, .int .i64 l.cold]
theorem lay_beq (l m : Lay) : (l.ice == m.ice && (l.wet == m.wet && l.cold == m.cold)) = decide (l = m) := by
  cases l; cases m; simp; rfl
set_option maxRecDepth 20000 in
theorem layEqIn (k : Nat) (l m : Lay) (w : World) : (Op.equalIn (k + 2) 28 (vL l) (vL m)).run Tryd.prog w = .ok (decide (l = m)) w := by
  have hf : Tryd.prog.fieldsOf 28 = (match Tryd.prog.underlying 28 with | some (.struct fs) => fs | _ => #[]) := rfl
  rw [Tryd.underlying28] at hf
  have hu : Tryd.prog.underlying 28 = some (.struct (Tryd.prog.fieldsOf 28)) := by rw [hf]; exact Tryd.underlying28
  unfold vL
  rw [run_equalIn_struct w (k + 1) 28 _ _ hu s28, hf]
  have hi : ∀ x y w, (Op.equalIn (k + 1) 3 (.int .i64 x) (.int .i64 y)).run Tryd.prog w = .ok (x == y) w := fun x y w => run_equalIn_int w k 3 .i64 .i64 x y Tryd.underlying3
  rw [← lay_beq]
  simp [Op.eqFields, part, Tryd.isAgg3, Tryd.sizeOf3, hi, Result.andThen]
  cases h1 : l.ice == m.ice <;> cases h2 : l.wet == m.wet <;> cases h3 : l.cold == m.cold <;> simp_all
theorem layEqual (l m : Lay) (w : World) : (Op.equal 28 (vL l) (vL m)).run Tryd.prog w = .ok (decide (l = m)) w := layEqIn 9998 l m w
theorem layNe (x y : Operand) (l m : Lay) (w : World) : (do eqGuard .neq 28 x y (vL l) (vL m); binOp .neq 28 (vL l) (vL m) : Sem Value).run Tryd.prog w = .ok (.bool (!decide (l = m))) w := by
  simp only [vL]
  have := layEqual l m w
  simp only [vL] at this
  simp [eqGuard, binOp, g28, this, Result.andThen]
/-- What Apply makes: the layers, what runs out, the error. -/
def preZ (p : List Lay) : List Lay := List.replicate (64 - p.length) zLay
def appM (p : List Lay) (s : Stp) : List Lay × Int × Int :=
  if packE p = 0 then
    if stepE s = 0 then
      if (stpK (preZ p) p s).2.2.2 = 0 then
        if packE (stpK (preZ p) p s).2.1 = 0 then ((stpK (preZ p) p s).2.1, (stpK (preZ p) p s).2.2.1, 0) else ([], 0, 2)
      else ([], 0, (stpK (preZ p) p s).2.2.2)
    else ([], 0, 21)
  else ([], 0, 20)
def sameB (p q : List Lay) : Bool := decide (p = q)
def burd : List Lay → Int → List (Int × Int)
  | [], _ => []
  | l :: r, load => (load, 10 * l.ice + l.cold - 40 * l.wet) :: burd r (load + (l.ice + l.wet))
end Go.Proofs.YtgagfmjpmdgfdaaDoor
