import Derived.Test.YtgagfmjpmdgfdaaDoorQ7
import Derived.Test.YtgagfmjpmdgfdaaDoorP5
set_option linter.unusedSimpArgs false
set_option linter.unusedVariables false
namespace Go.Proofs.YtgagfmjpmdgfdaaDoor
open Go.Ab

theorem pre_len {p : List Lay} (h : packE p = 0) : (preZ p ++ p).length = 64 := by
  have := (packE_0.1 h).1
  unfold preZ; simp; omega
theorem preZ_len {p : List Lay} (h : p.length ≤ 64) : ((preZ p).length : Int) = ((64 - p.length : Nat) : Int) := by unfold preZ; simp
theorem stand_p (p : List Lay) (h : packE p = 0) : FSpecR Tryd.prog 69 [.agg (eK p)] (colC (preZ p ++ p) (preZ p).length) := by
  have := stand_s p (packE_0.1 h).1
  rw [preZ_len (packE_0.1 h).1]; exact this
theorem losK_len {pre : List Lay} {l : Lay} {r : List Lay} {ice wet : Int} : (losK pre l r ice wet).1.length + (losK pre l r ice wet).2.1.length = pre.length + (r.length + 1) := by
  unfold losK; split <;> simp [pourL_len] <;> omega
theorem melt_len : ∀ (n : Nat) {pre ls : List Lay} {much out : Int}, ls.length ≤ n → (melt pre ls much out).1.length + (melt pre ls much out).2.1.length = pre.length + ls.length := by
  intro n
  induction n with
  | zero => intro pre ls much out h; rw [melt_end (.inr (List.eq_nil_of_length_eq_zero (by omega)))]
  | succ n ih =>
    intro pre ls much out h
    cases ls with
    | nil => rw [melt_end (.inr rfl)]
    | cons l r =>
      rw [melt]
      split
      · rfl
      · split
        · rw [ih (by rw [pourL_len]; simpa using h), pourL_len]; simp; omega
        · simp [pourL_len]
theorem take_len : ∀ (n : Nat) {pre ls : List Lay} {much taken out : Int}, ls.length ≤ n → (take pre ls much taken out).1.length + (take pre ls much taken out).2.1.length = pre.length + ls.length := by
  intro n
  induction n with
  | zero => intro pre ls much taken out h; rw [take_end (.inr (List.eq_nil_of_length_eq_zero (by omega)))]
  | succ n ih =>
    intro pre ls much taken out h
    cases ls with
    | nil => rw [take_end (.inr rfl)]
    | cons l r =>
      rw [take]
      split
      · rfl
      · split
        · rw [ih (by rw [pourL_len]; simpa using h), pourL_len]; simp; omega
        · simp [pourL_len]
theorem coolL_len (c : Int) (ls : List Lay) : (coolL c ls).length = ls.length := by cases ls <;> simp [coolL]
theorem stp_len {pre ls : List Lay} {s : Stp} : (stpK pre ls s).1.length + (stpK pre ls s).2.1.length = pre.length + ls.length := by
  unfold stpK
  split
  · simp only [snwK]
    split
    · rfl
    · split
      · rfl
      · simp only [List.length_dropLast, List.length_cons]; omega
  · split
    · simp [pourL_len]
    · split
      · exact melt_len _ (Nat.le_refl _)
      · split
        · simp [frzK, coolL_len, frzL_len]
        · exact take_len _ (Nat.le_refl _)

set_option maxRecDepth 20000 in
theorem Apply_s (p : List Lay) (s : Stp) : FSpec Tryd.prog 31 [.agg (eK p), .agg (eT s)] (.tup [.agg (eK (appM p s).1), I (appM p s).2.1, I (appM p s).2.2]) (none) := by
  refine FSpec.of_body Tryd.func31 rfl (leB rfl) fun w0 M0 => ?_
  refine AWP.seq ?_
  refine AWP.region ?_
  refine AOps.call (o_box _ rfl rfl rfl) ?_
  refine AOps.call (o_box _ rfl rfl rfl) ?_
  refine AOps.call (o_alloc ze24 rfl rfl) ?_
  refine AOps.call (o_assign _ rfl rfl) ?_
  refine AOps.call (o_assign _ rfl rfl) ?_
  refine AOps.nil ?_
  refine AWP.seq ?_
  refine AWP.seq ?_
  refine AWP.region ?_
  refine AOps.call (o_loadRef _ rfl rfl Tryd.sizeOf24 Tryd.isAgg24 rfl rfl rfl) ?_
  refine AOps.call (o_call (Check_s _) Tryd.call26 rfl rfl) ?_
  refine AOps.call (o_assign _ rfl rfl) ?_
  refine AOps.nil ?_
  refine AWP.seq ?_
  refine AWP.region ?_
  refine AOps.call (o_move _ rfl rfl) ?_
  refine AOps.call (o_bin _ _ rfl rfl (fun _ => rfl) rfl) ?_
  refine AOps.nil ?_
  refine AWP.cond _ rfl (fun h9 => ?_) (fun h9 => ?_)
  · skip
    have hp : ¬ packE p = 0 := by simpa using h9
    have hp20 := packE_20 hp
    have hE : (appM p s) = ([], 0, packE p) := by unfold appM; rw [if_neg hp, hp20]
    refine AWP.seq ?_
    refine AWP.region ?_
    refine AOps.call (o_noPack rfl) ?_
    refine AOps.call (o_move _ rfl rfl) ?_
    refine AOps.cons (o_store _ _ rfl rfl Tryd.sizeOf24 rfl rfl rfl rfl rfl) ?_
    refine AOps.call (o_assign _ rfl rfl) ?_
    refine AOps.call (o_assign _ rfl rfl) ?_
    refine AOps.nil ?_
    refine AWP.ret ?_
    refine postQ.retC2 Tryd.results31 rfl rfl Tryd.sizeOf24 Tryd.isAgg24 rfl rfl rfl ?_
    rw [hE]
    rfl
  · skip
    have hp : packE p = 0 := by simpa using h9
    refine AWP.skip ?_
    refine AWP.seq ?_
    refine AWP.seq ?_
    refine AWP.region ?_
    refine AOps.call (o_loadRef _ rfl rfl Tryd.sizeOf26 Tryd.isAgg26 rfl rfl rfl) ?_
    refine AOps.call (o_call (CheckStep_s _) Tryd.call28 rfl rfl) ?_
    refine AOps.call (o_assign _ rfl rfl) ?_
    refine AOps.nil ?_
    refine AWP.seq ?_
    refine AWP.region ?_
    refine AOps.call (o_move _ rfl rfl) ?_
    refine AOps.call (o_bin _ _ rfl rfl (fun _ => rfl) rfl) ?_
    refine AOps.nil ?_
    refine AWP.cond _ rfl (fun h15 => ?_) (fun h15 => ?_)
    · skip
      have hs : ¬ stepE s = 0 := by simpa using h15
      have hs21 := stepE_21 hs
      have hE : (appM p s) = ([], 0, stepE s) := by unfold appM; rw [if_pos hp, if_neg hs, hs21]
      refine AWP.seq ?_
      refine AWP.region ?_
      refine AOps.call (o_noPack rfl) ?_
      refine AOps.call (o_move _ rfl rfl) ?_
      refine AOps.cons (o_store _ _ rfl rfl Tryd.sizeOf24 rfl rfl rfl rfl rfl) ?_
      refine AOps.call (o_assign _ rfl rfl) ?_
      refine AOps.call (o_assign _ rfl rfl) ?_
      refine AOps.nil ?_
      refine AWP.ret ?_
      refine postQ.retC2 Tryd.results31 rfl rfl Tryd.sizeOf24 Tryd.isAgg24 rfl rfl rfl ?_
      rw [hE]
      rfl
    · skip
      have hs : stepE s = 0 := by simpa using h15
      have hKl : ((stpK (preZ p) p s).1 ++ (stpK (preZ p) p s).2.1).length = 64 := by rw [List.length_append, stp_len, ← List.length_append]; exact pre_len hp
      refine AWP.skip ?_
      refine AWP.seq ?_
      refine AWP.region ?_
      refine AOps.call (o_loadRef _ rfl rfl Tryd.sizeOf24 Tryd.isAgg24 rfl rfl rfl) ?_
      refine AOps.call (o_callRef (stand_p p hp) Tryd.call69 rfl rfl) ?_
      refine AOps.call (o_assign _ rfl rfl) ?_
      refine AOps.nil ?_
      refine AWP.seq ?_
      refine AWP.region ?_
      refine AOps.call (o_move _ rfl rfl) ?_
      refine AOps.call (o_loadRef _ rfl rfl Tryd.sizeOf26 Tryd.isAgg26 rfl rfl rfl) ?_
      refine AOps.cons (o_callMC [(26, 0)] (step_s (preZ p) p s (pre_len hp) (colOk_of hp) hs) Tryd.call70 rfl rfl (lentOf1 (col_close _ _)) rfl rfl rfl) ?_
      refine AOps.call (o_move _ rfl rfl) ?_
      refine AOps.call (o_extract _ rfl rfl rfl rfl) ?_
      refine AOps.call (o_extract _ rfl rfl rfl rfl) ?_
      refine AOps.call (o_assign _ rfl rfl) ?_
      refine AOps.call (o_assign _ rfl rfl) ?_
      refine AOps.nil ?_
      refine AWP.seq ?_
      refine AWP.seq ?_
      refine AWP.region ?_
      refine AOps.call (o_move _ rfl rfl) ?_
      refine AOps.call (o_bin _ _ rfl rfl (fun _ => rfl) rfl) ?_
      refine AOps.nil ?_
      refine AWP.cond _ rfl (fun h25 => ?_) (fun h25 => ?_)
      · skip
        have hk : ¬ (stpK (preZ p) p s).2.2.2 = 0 := by simpa using h25
        have hE : (appM p s) = ([], 0, (stpK (preZ p) p s).2.2.2) := by unfold appM; rw [if_pos hp, if_pos hs, if_neg hk]
        refine AWP.seq ?_
        refine AWP.region ?_
        refine AOps.call (o_noPack rfl) ?_
        refine AOps.call (o_move _ rfl rfl) ?_
        refine AOps.cons (o_store _ _ rfl rfl Tryd.sizeOf24 rfl rfl rfl rfl rfl) ?_
        refine AOps.call (o_assign _ rfl rfl) ?_
        refine AOps.call (o_assign _ rfl rfl) ?_
        refine AOps.nil ?_
        refine AWP.ret ?_
        refine postQ.retC2 Tryd.results31 rfl rfl Tryd.sizeOf24 Tryd.isAgg24 rfl rfl rfl ?_
        rw [hE]
        rfl
      · skip
        have hk : (stpK (preZ p) p s).2.2.2 = 0 := by simpa using h25
        refine AWP.skip ?_
        refine AWP.seq ?_
        refine AWP.region ?_
        refine AOps.call (o_move _ rfl rfl) ?_
        refine AOps.cons (o_callMC [(26, 0)] (pack_s (stpK (preZ p) p s).1 (stpK (preZ p) p s).2.1 hKl) Tryd.call71 rfl rfl (lentOf1 (col_close _ _)) rfl rfl rfl) ?_
        refine AOps.call (o_alloc ze24 rfl rfl) ?_
        refine AOps.cons (o_store _ _ rfl rfl Tryd.sizeOf24 rfl rfl rfl rfl rfl) ?_
        refine AOps.nil ?_
        refine AWP.seq ?_
        refine AWP.seq ?_
        refine AWP.region ?_
        refine AOps.call (o_loadRef _ rfl rfl Tryd.sizeOf24 Tryd.isAgg24 rfl rfl rfl) ?_
        refine AOps.call (o_call (Check_s _) Tryd.call26 rfl rfl) ?_
        refine AOps.call (o_bin _ _ rfl rfl (fun _ => rfl) rfl) ?_
        refine AOps.nil ?_
        refine AWP.cond _ rfl (fun h33 => ?_) (fun h33 => ?_)
        · skip
          have hq : ¬ packE (stpK (preZ p) p s).2.1 = 0 := by simpa using h33
          have hE : (appM p s) = ([], 0, 2) := by unfold appM; rw [if_pos hp, if_pos hs, if_pos hk, if_neg hq]
          refine AWP.seq ?_
          refine AWP.region ?_
          refine AOps.call (o_noPack rfl) ?_
          refine AOps.cons (o_store _ _ rfl rfl Tryd.sizeOf24 rfl rfl rfl rfl rfl) ?_
          refine AOps.call (o_assign _ rfl rfl) ?_
          refine AOps.call (o_assign _ rfl rfl) ?_
          refine AOps.nil ?_
          refine AWP.ret ?_
          refine postQ.retC2 Tryd.results31 rfl rfl Tryd.sizeOf24 Tryd.isAgg24 rfl rfl rfl ?_
          rw [hE]
          rfl
        · skip
          have hq : packE (stpK (preZ p) p s).2.1 = 0 := by simpa using h33
          have hE : (appM p s) = ((stpK (preZ p) p s).2.1, (stpK (preZ p) p s).2.2.1, 0) := by unfold appM; rw [if_pos hp, if_pos hs, if_pos hk, if_pos hq]
          refine AWP.skip ?_
          refine AWP.seq ?_
          refine AWP.region ?_
          refine AOps.call (o_loadRef _ rfl rfl Tryd.sizeOf24 Tryd.isAgg24 rfl rfl rfl) ?_
          refine AOps.call (o_move _ rfl rfl) ?_
          refine AOps.cons (o_store _ _ rfl rfl Tryd.sizeOf24 rfl rfl rfl rfl rfl) ?_
          refine AOps.call (o_assign _ rfl rfl) ?_
          refine AOps.call (o_assign _ rfl rfl) ?_
          refine AOps.nil ?_
          refine AWP.ret ?_
          refine postQ.retC2 Tryd.results31 rfl rfl Tryd.sizeOf24 Tryd.isAgg24 rfl rfl rfl ?_
          rw [hE]
          rfl

end Go.Proofs.YtgagfmjpmdgfdaaDoor
