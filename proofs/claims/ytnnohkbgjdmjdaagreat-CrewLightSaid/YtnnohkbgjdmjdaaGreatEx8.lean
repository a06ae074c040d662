/- All operations that look at values alone. Nothing here speaks of one program. -/
import Derived.Test.YtnnohkbgjdmjdaaGreatEx7
set_option linter.unusedVariables false
set_option linter.unusedSimpArgs false
namespace Go.Ex
section
variable {φ : Pl} {t : T X} {a : Act} {P : Program} {tab : Tab} {eqs : List (TypeId × List IntKind)} {dst : Option Tmp} {type : TypeId} {pos : String} {after : Array Edge} {guard : Option (Nat × Bool)}

theorem find_mem {t : TypeId} {q : TypeId × List IntKind} : ∀ {l : List (TypeId × List IntKind)}, l.find? (fun q => Nat.beq q.1 t) = some q → q ∈ l ∧ q.1 = t := by
  intro l h
  exact ⟨List.mem_of_find?_eq_some h, Nat.eq_of_beq_eq_true (by have := List.find?_some h; simpa using this)⟩

theorem builtinP_ok (ht : TabOk P tab) (h : TmR φ t a) {b : Builtin} {tys : Array TypeId} {args : Array Operand} {i : IP} {r : X} (hc : cBuiltin tab b tys.toList args.toList = some (.p i)) (hr : opP i t = some r) :
    Pure P φ a ⟨dst, .call ⟨.builtin b, args, tys⟩, type, pos, after, guard⟩ r := by
  unfold cBuiltin at hc
  split at hc
  · rename_i t1 x ht1 hx1
    have e1 : tys = #[t1] := by apply Array.ext'; simpa using ht1
    have e2 : args = #[x] := by apply Array.ext'; simpa using hx1
    subst e1; subst e2
    split at hc
    · rename_i he hx
      cases hc
      obtain ⟨i, u, hti⟩ := ty_ok ht he
      have hu := hti.under
      rw [kind_slice (congrArg TI.kind hti.eq).symm] at hu
      exact len_ok h hu hx hr
    · cases hc
  · repeat' split at hc
    all_goals first | (cases hc; done) | skip
    all_goals (rename_i hb; revert hc; cases (Nat.beq _ _ && (Nat.beq _ _ && Nat.blt _ _)) <;> intro hc <;> cases hc)
  · repeat' split at hc
    all_goals cases hc
  · rename_i t1 t2 x y ht1 hx1
    have e1 : tys = #[t1, t2] := by apply Array.ext'; simpa using ht1
    have e2 : args = #[x, y] := by apply Array.ext'; simpa using hx1
    subst e1; subst e2
    split at hc
    · rename_i hx hy
      cases hc
      exact max_ok h hx hy hr
    · cases hc
  · rename_i t1 t2 x y ht1 hx1
    have e1 : tys = #[t1, t2] := by apply Array.ext'; simpa using ht1
    have e2 : args = #[x, y] := by apply Array.ext'; simpa using hx1
    subst e1; subst e2
    split at hc
    · rename_i hx hy
      cases hc
      exact min_ok h hx hy hr
    · cases hc
  · cases hc

theorem opP_ok (ht : TabOk P tab) (he : EqsOk P eqs) (h : TmR φ t a) {op : Op} {i : IP} {r : X} (hc : cOp tab eqs op = some (.p i)) (hr : opP i t = some r) :
    Pure P φ a ⟨dst, op, type, pos, after, guard⟩ r := by
  unfold cOp at hc
  split at hc
  · split at hc
    · rename_i hx; cases hc; exact mov_ok h hx hr
    · cases hc
  · split at hc
    · rename_i hx; cases hc; exact asg_ok h hx hr
    · cases hc
  · split at hc
    · rename_i h1 h2 h3; cases hc; exact pick_ok h h1 h2 h3 hr
    · cases hc
  · split at hc <;> cases hc
  · split at hc <;> cases hc
  · -- build
    rename_i e ps
    have : ∃ zs l, i = .build zs l := by
      unfold cBuild at hc
      repeat' split at hc
      all_goals first | (cases hc; done) | (cases hc; exact ⟨_, _, rfl⟩) | skip
      all_goals (revert hc; cases (allTy tab _) <;> intro hc <;> cases hc; exact ⟨_, _, rfl⟩)
    obtain ⟨zs, l, rfl⟩ := this
    exact build_ok h ht hc hr
  · -- buildSlice
    exfalso
    unfold cBuildS at hc
    repeat' split at hc
    all_goals first | (cases hc; done) | skip
    all_goals (revert hc; cases (Nat.ble _ _ && (Nat.beq _ _ && Nat.blt _ _)) <;> intro hc <;> cases hc)
  · split at hc <;> cases hc
  · split at hc <;> cases hc
  · split at hc
    · rename_i h1; cases hc; exact nilc_ok h h1 hr
    · cases hc
  · -- binOp
    split at hc
    · rename_i h0 h1 h2; cases hc; exact bin_ok h h1 h2 hr
    · rename_i h0 h1 h2; cases hc
      obtain ⟨i, u, hti⟩ := ty_ok ht h0
      have hu := hti.under
      have hk := (congrArg TI.kind hti.eq).symm
      have : u = .bool := by cases u <;> simp_all [kindOf, tiOf]
      rw [this] at hu
      exact binb_ok h hu h1 h2 hr
    · rename_i h0 h1 h2
      obtain ⟨i, u, hti⟩ := ty_ok ht h0
      have hu := hti.under
      rw [kind_slice (congrArg TI.kind hti.eq).symm] at hu
      split at hc
      · cases hc; exact isnilS_ok (neg := false) h hu h1 h2 hr
      · cases hc; exact isnilS_ok (neg := true) h hu h1 h2 hr
      · cases hc
    · rename_i h0 h1 h2
      obtain ⟨i, u, hti⟩ := ty_ok ht h0
      have hu := hti.under
      have hk := (congrArg TI.kind hti.eq).symm
      obtain ⟨el, rfl⟩ : ∃ el, u = .pointer el := by cases u <;> simp_all [kindOf, tiOf]
      split at hc
      · cases hc; exact isnilP_ok (neg := false) h hu h1 h2 hr
      · cases hc; exact isnilP_ok (neg := true) h hu h1 h2 hr
      · cases hc
    · rename_i h0 h1 h2
      obtain ⟨i, u, hti⟩ := ty_ok ht h0
      have hu := hti.under
      have hk := (congrArg TI.kind hti.eq).symm
      obtain ⟨p, q, v, rfl⟩ : ∃ p q v, u = .func p q v := by cases u <;> simp_all [kindOf, tiOf]
      split at hc
      · cases hc; exact isnilF_ok (neg := false) h hu h1 h2 hr
      · cases hc; exact isnilF_ok (neg := true) h hu h1 h2 hr
      · cases hc
    · rename_i h0 h1 h2
      split at hc
      · rename_i t' ks hf
        obtain ⟨g1, g2⟩ := find_mem hf
        have hE := he _ g1
        simp only at g2
        subst g2
        split at hc
        · cases hc; exact eqa_ok (neg := false) h hE h1 h2 hr
        · cases hc; exact eqa_ok (neg := true) h hE h1 h2 hr
        · cases hc
      · cases hc
    · cases hc
  · split at hc
    · rename_i h1; cases hc; exact not_ok h h1 hr
    · cases hc
  · split at hc
    · rename_i h1; cases hc; exact neg_ok h h1 hr
    · cases hc
  · split at hc
    · rename_i h1 h2 h3; cases hc
      obtain ⟨i1, u1, hti1⟩ := ty_ok ht h1
      obtain ⟨i2, u2, hti2⟩ := ty_ok ht h2
      have hu1 := hti1.under
      have hu2 := hti2.under
      rw [kind_int (congrArg TI.kind hti1.eq).symm] at hu1
      rw [kind_int (congrArg TI.kind hti2.eq).symm] at hu2
      exact conv_ok h hu1 hu2 h3 hr
    · cases hc
  · split at hc
    · rename_i h1; cases hc; exact mkF_ok h h1 hr
    · cases hc
  · repeat' split at hc
    all_goals cases hc
  · repeat' split at hc
    all_goals first | (cases hc; done) | skip
    all_goals (revert hc; cases (Nat.beq _ _ && Nat.blt _ _) <;> intro hc <;> cases hc)
  · -- slice
    unfold cSlice at hc
    split at hc
    · rename_i h1 h2 h3 h4 h5
      split at hc
      · rename_i h6; cases hc
        exact slS_ok h ht h1 h6 h2 h3 h4 h5 hr
      · cases hc
    · cases hc
  · split at hc
    · rename_i h1 h2
      split at hc
      · rename_i o size hp
        cases hb : Nat.blt 0 size with
        | false => rw [hb] at hc; cases hc
        | true => rw [hb] at hc; cases hc; exact faddr_ok h ht h1 hp hb h2 hr
      · cases hc
    · cases hc
  · split at hc
    · rename_i h1 h2
      split at hc
      · rename_i o ft hp
        split at hc
        · rename_i h3; cases hc; exact fld_ok h ht h1 hp h3 h2 hr
        · cases hc
      · cases hc
    · cases hc
  · split at hc
    · rename_i h1 h2 h3
      split at hc
      · rename_i h4; cases hc; exact iaddrA_ok h ht h1 h4 h2 h3 hr
      · cases hc
    · rename_i h1 h2 h3
      split at hc
      · rename_i h4; cases hc; exact iaddrS_ok h ht h1 h4 h2 h3 hr
      · cases hc
    · cases hc
  · repeat' split at hc
    all_goals cases hc
  · repeat' split at hc
    all_goals cases hc
  · split at hc
    · rename_i h1; cases hc; exact ext_ok h h1 hr
    · cases hc
  · split at hc <;> cases hc
  · split at hc <;> cases hc
  · exact builtinP_ok ht h hc hr
  · cases hc
end
end Go.Ex
