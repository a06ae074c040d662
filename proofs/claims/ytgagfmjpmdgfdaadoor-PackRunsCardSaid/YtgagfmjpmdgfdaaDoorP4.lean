/- Columns: whole layers, copies, the other steps. -/
import Derived.Test.YtgagfmjpmdgfdaaDoorP3
set_option linter.unusedVariables false
set_option linter.unusedSimpArgs false
namespace Go.Proofs.YtgagfmjpmdgfdaaDoor
open Go.Ab Go.RowKit
theorem splice_mid {a b c new : List AV} (h : b.length = new.length) : splice (a ++ b ++ c) new a.length = a ++ new ++ c := by
  have h1 : (a ++ b ++ c).take a.length = a := by rw [List.append_assoc, List.take_left']; rfl
  have h2 : (a ++ b ++ c).drop (a.length + new.length) = c := by rw [List.drop_left']; simp [h]
  unfold splice; rw [h1, h2]
theorem lays_app (a b : List Lay) : (lays (a ++ b)).flatten = (lays a).flatten ++ (lays b).flatten := by simp [lays]
theorem col_split (P M R : List Lay) (t : Int) : colC (P ++ M ++ R) t = (lays P).flatten ++ (lays M).flatten ++ ((lays R).flatten ++ [I t]) := by
  unfold colC; rw [lays_app, lays_app, List.append_assoc]
theorem c_setL {P R : List Lay} {l m : Lay} {t : Int} {o : Nat} (ho : P.length * 3 = o) : splice (colC (P ++ l :: R) t) (eL m) o = colC (P ++ m :: R) t := by
  subst ho
  have e1 : P ++ l :: R = P ++ [l] ++ R := by simp
  have e2 : P ++ m :: R = P ++ [m] ++ R := by simp
  rw [e1, e2, col_split, col_split, ← lays_flen, splice_mid (by simp [lays, eL])]
  simp [lays]
theorem col_copy {P M R : List Lay} {t : Int} {o : Nat} (hM : M.length = R.length) (ho : P.length * 3 = o) : splice (colC (P ++ M) t) (lays R).flatten o = colC (P ++ R) t := by
  subst ho
  have e1 : P ++ M = P ++ M ++ [] := by simp
  have e2 : P ++ R = P ++ R ++ [] := by simp
  rw [e1, e2, col_split, col_split, ← lays_flen, splice_mid (by rw [lays_flen, lays_flen, hM])]
theorem col_win {P R : List Lay} {t : Int} {o n : Nat} (ho : P.length * 3 = o) (hn : R.length = n) : ((colC (P ++ R) t).drop o).take (n * 3) = (lays R).flatten := by
  subst ho hn
  have h : colC (P ++ R) t = (lays P).flatten ++ ((lays R).flatten ++ [I t]) := by unfold colC; rw [lays_app, List.append_assoc]
  rw [h, ← lays_flen P, ← lays_flen R, List.drop_left' rfl, List.take_left' rfl]
theorem nfL_sc : ∀ (l : List AV), (∀ x ∈ l, ∃ v, x = .sc v) → nfL l = some l := by
  intro l
  induction l with
  | nil => intro _; rfl
  | cons a l ih =>
    intro h
    obtain ⟨v, rfl⟩ := h a List.mem_cons_self
    simp [nfL, nf, ih fun x hx => h x (List.mem_cons_of_mem _ hx)]
def zLay : Lay := ⟨0, 0, 0⟩
/-- Snow on a column. -/
def snwK (pre ls : List Lay) (much cold : Int) : List Lay × List Lay × Int :=
  if much = 0 then (pre, ls, 0) else if pre.length = 0 then (pre, ls, 2) else (pre.dropLast, ⟨much, 0, cold⟩ :: ls, 0)
def coolL : Int → List Lay → List Lay
  | _, [] => []
  | c, l :: r => ⟨l.ice, l.wet, l.cold + c⟩ :: r
def frzK (much : Int) (ls : List Lay) : List Lay := coolL (frzL much ls).1 (frzL much ls).2
/-- A step on a column: what stands above its top, its layers, what runs out, and the error. -/
def stpK (pre ls : List Lay) (s : Stp) : List Lay × List Lay × Int × Int :=
  if s.kind = 1 then ((snwK pre ls s.much s.cold).1, (snwK pre ls s.much s.cold).2.1, 0, (snwK pre ls s.much s.cold).2.2)
  else if s.kind = 2 then (pre, (pourL s.much ls).2, (pourL s.much ls).1, 0)
  else if s.kind = 3 then ((melt pre ls s.much 0).1, (melt pre ls s.much 0).2.1, (melt pre ls s.much 0).2.2, 0)
  else if s.kind = 4 then (pre, frzK s.much ls, 0, 0)
  else ((take pre ls s.much 0 0).1, (take pre ls s.much 0 0).2.1, (take pre ls s.much 0 0).2.2.2, 0)
section
variable {P : Program} {w0 : World} {M0 : MT} {σ : AS} {ty : TypeId} {pos : String} {after : Array Edge} {guard : Option (Nat × Bool)}
theorem o_appNil0 {t e z : Nat} {d : Tmp} (y : Operand) (hu : P.underlying t = some (.slice e)) (hs : ∀ w, (sizeOf e).run P w = .ok z w)
    (hy : nf (σ.ev y) = some .nil0) (hd : okDB σ (some d) = true) :
    OpSeq P w0 M0 σ ⟨some d, .call ⟨.builtin .append, #[.const (.slice none 0 0), y], #[t, t]⟩, ty, pos, after, guard⟩ (.val (.sl [])) := by
  intro a w ⟨X, hr⟩ K Q hK
  have h2 := hr.ev y
  rw [nf_eq hy] at h2
  have hd : d < σ.n := okD hd
  obtain ⟨ya, hya⟩ : ∃ ya, a.eval y = .slice ya 0 0 := by
    generalize a.eval y = v at h2
    cases h2 with
    | nil0 xa => exact ⟨xa, rfl⟩
  have hrun := run_append_zero (P := P) (ty := ty) hu hs w none ya 0 0 0 (Nat.le_refl _)
  have hx0 : a.eval (.const (.slice none 0 0)) = .slice none 0 0 := rfl
  have hrun2 : (execOp a.eval ⟨some d, .call ⟨.builtin .append, #[.const (.slice none 0 0), y], #[t, t]⟩, ty, pos, after, guard⟩).run P w = .ok (.value (.slice none 0 0)) w := by
    simp [execOp, resolve, invoke, builtin, hx0, hya, hrun]
  unfold Oper.wp
  rw [hrun2, Oper.upon_value]
  exact hK _ _ ⟨X, hr.put (d := some d) hd (.sl0 _ _)⟩
end
end Go.Proofs.YtgagfmjpmdgfdaaDoor
