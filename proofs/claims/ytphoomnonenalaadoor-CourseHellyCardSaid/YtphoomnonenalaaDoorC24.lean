/- slices.Clone and slices.Insert of ints where there are none. -/
import Derived.Test.YtphoomnonenalaaDoorAbB
import Derived.Test.YtphoomnonenalaaDoorC23
set_option linter.unusedSimpArgs false
set_option linter.unusedVariables false
namespace Go.Proofs.YtphoomnonenalaaDoor
open Go.Ab Go.RowKit
theorem Insert41_e (l : List Int) (n : Nat) (x : Int) (h0 : l = []) (hn : n ≤ l.length) : FSpec Tryd.prog 41 [.nil0, I n, .sl (ints [x])] (.sl (ints (insL l n x))) none := by
  subst h0
  obtain rfl : n = 0 := by simpa using hn
  intro w M vals _ hlen hargs hM
  obtain ⟨v1, v2, v3, rfl⟩ : ∃ v1 v2 v3, vals = [v1, v2, v3] := by
    match vals, hlen with
    | [v1, v2, v3], _ => exact ⟨v1, v2, v3, rfl⟩
  have h1 := hargs 0 _ _ rfl rfl
  have h2 := hargs 1 _ _ rfl rfl
  have h3 := hargs 2 _ _ rfl rfl
  cases h2
  cases h1 with
  | nil0 a =>
  cases h3 with
  | sl _ z b off cap X hz hcap hc hv =>
  obtain rfl : 1 = z := hz [I x] (by simp [ints])
  have hcell := (hc 0 [I x] 0 (I x) rfl rfl).1
  have hvv := hv 0 [I x] 0 (I x) rfl rfl
  have hX : X 0 0 = .int .i64 x := by generalize X 0 0 = u at hvv; cases hvv; rfl
  rw [hX] at hcell
  refine (Any2.slices_Insert_int_end_grow Tryd.laysIns a 0 0 b off 1 cap [] [.int .i64 x] w (by omega) (Nat.le_refl _) (by omega) (by omega) rfl rfl (fun _ => rfl) (fun _ _ j v h => by simp at h) (fun j v h => ?_) (fun v h => ?_)).mono ?_
  · have hj : j = 0 := by have := (List.getElem?_eq_some_iff.1 h).1; simp at this; exact this
    subst hj; simp at h; subst h; simpa using hcell
  · simp at h; subst h; rfl
  · rintro e w' ⟨rfl, rfl⟩
    refine ⟨_, rfl, ((Below.refl _ w).drew).alloc (Nat.le_refl _) _, ?_⟩
    exact ins_fin (L := [x]) (C := grownCap w (0 + 1) 0 (Tryd.laysIns_ren.t 3)) (M' := M) (B := w.heap.size) (grownCap_ge w _ _ _) (fun i hi => by
      obtain rfl : i = 0 := by simpa using hi
      exact (cell_row (heap_new w.drew _) (by simp)).trans rfl) (hM _ (Nat.le_refl _))
set_option maxRecDepth 20000 in
theorem Clone42_e (l : List Int) (h0 : l = []) : FSpec Tryd.prog 42 [.sl (ints l)] .nil0 none := by
  subst h0
  refine FSpec.of_body Tryd.func42 rfl (leB rfl) fun w0 M0 => ?_
  refine AWP.seq ?_
  refine AWP.region ?_
  refine AOps.call (o_nil0 rfl) ?_
  refine AOps.nil ?_
  refine AWP.seq ?_
  refine AWP.seq ?_
  refine AWP.region ?_
  refine AOps.call (o_move _ rfl rfl) ?_
  refine AOps.nilq _ Tryd.underlying45 rfl rfl ?_
  intro bq hbq
  refine AOps.nil ?_
  refine AWP.cond _ rfl (fun h4 => ?_) (fun h4 => ?_)
  · refine AWP.seq ?_
    refine AWP.region ?_
    refine AOps.call (o_nil0 rfl) ?_
    refine AOps.nil ?_
    refine AWP.ret ?_
    exact postQ.ret1 Tryd.results42 rfl rfl
  · skip
    refine AWP.skip ?_
    refine AWP.seq ?_
    refine AWP.region ?_
    refine AOps.call (o_lit0 Tryd.underlying45 Tryd.sizeOf3 Tryd.zeroValue3 rfl) ?_
    refine AOps.call (o_move _ rfl rfl) ?_
    refine AOps.call (o_append0 _ _ Tryd.underlying45 Tryd.sizeOf3 rfl rfl rfl) ?_
    refine AOps.call (o_assign _ rfl rfl) ?_
    refine AOps.nil ?_
    refine AWP.ret ?_
    exact postQ.ret1 Tryd.results42 rfl rfl
end Go.Proofs.YtphoomnonenalaaDoor
