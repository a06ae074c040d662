import Derived.Test.YtgagfmjpmdgfdaaDoorQ6
set_option linter.unusedSimpArgs false
set_option linter.unusedVariables false
namespace Go.Proofs.YtgagfmjpmdgfdaaDoor
open Go.Ab

theorem stepE_0 {s : Stp} : stepE s = 0 ↔ (1 ≤ s.kind ∧ s.kind ≤ 6 ∧ 0 ≤ s.much ∧ s.much ≤ 65536 ∧ 0 ≤ s.cold ∧ s.cold ≤ 65536) ∧ (s.kind = 1 ∨ s.cold = 0) := by
  unfold stepE; split <;> simp_all
theorem stepE_21 {s : Stp} (h : ¬ stepE s = 0) : stepE s = 21 := by
  unfold stepE at *; split
  · rename_i h1; rw [if_pos h1] at h; exact absurd rfl h
  · rfl
theorem colOk_of {p : List Lay} (h : packE p = 0) : colOk p := fun l hl => by
  have h1 := (packE_0.1 h).2.1 l hl
  exact ⟨flo_of h1, (layB_iff.1 h1).1.1⟩

set_option maxRecDepth 20000 in
theorem step_s (pre ls : List Lay) (s : Stp) (hA : (pre ++ ls).length = 64) (hok : colOk ls) (hs : stepE s = 0) : FSpecM Tryd.prog 70 [.ref (1000000, 0) 0, .agg (eT s)] [colC (pre ++ ls) pre.length] (.tup [I (stpK pre ls s).2.2.1, I (stpK pre ls s).2.2.2]) none [colC ((stpK pre ls s).1 ++ (stpK pre ls s).2.1) (stpK pre ls s).1.length] := by
  refine FSpecM.of_body Tryd.func70 rfl (leB rfl) (leB rfl) rfl fun w0 M0 => ?_
  have hs1 := (stepE_0.1 hs).1
  have hfl := colOk_flo hok
  refine AWP.seq ?_
  refine AWP.region ?_
  refine AOps.call (o_box _ rfl rfl rfl) ?_
  refine AOps.call (o_assign _ rfl rfl) ?_
  refine AOps.call (o_assign _ rfl rfl) ?_
  refine AOps.nil ?_
  refine AWP.seq ?_
  refine AWP.region ?_
  refine AOps.call (o_fieldRef _ rfl fa26_0 rfl rfl) ?_
  refine AOps.call (o_loadRef _ rfl rfl Tryd.sizeOf3 Tryd.isAgg3 rfl rfl rfl) ?_
  refine AOps.nil ?_
  refine AWP.block ?_
  refine AWP.seq ?_
  refine AWP.region ?_
  refine AOps.call (o_bin _ _ rfl rfl (fun _ => rfl) rfl) ?_
  refine AOps.call (o_assign _ rfl rfl) ?_
  refine AOps.nil ?_
  refine AWP.cond _ rfl (fun h7 => ?_) (fun h7 => ?_)
  · skip
    have hk1 : s.kind = 1 := by simpa using h7
    have hE : (stpK pre ls s) = ((snwK pre ls s.much s.cold).1, (snwK pre ls s.much s.cold).2.1, 0, (snwK pre ls s.much s.cold).2.2) := if_pos hk1
    refine AWP.seq ?_
    refine AWP.region ?_
    refine AOps.call (o_move _ rfl rfl) ?_
    refine AOps.call (o_fieldRef _ rfl fa26_1 rfl rfl) ?_
    refine AOps.call (o_loadRef _ rfl rfl Tryd.sizeOf3 Tryd.isAgg3 rfl rfl rfl) ?_
    refine AOps.call (o_fieldRef _ rfl fa26_2 rfl rfl) ?_
    refine AOps.call (o_loadRef _ rfl rfl Tryd.sizeOf3 Tryd.isAgg3 rfl rfl rfl) ?_
    refine AOps.cons (o_callMC [(1000000, 0)] (snow_s pre ls s.much s.cold hA) Tryd.call89 rfl rfl (lentOf1 (col_close _ _)) rfl rfl rfl) ?_
    refine AOps.call (o_assign _ rfl rfl) ?_
    refine AOps.call (o_assign _ rfl rfl) ?_
    refine AOps.nil ?_
    refine AWP.ret ?_
    exact ⟨⟨[I _, I _], ⟨rfl, rfl, trivial⟩, by rw [hE]; rfl⟩, (by rw [hE]; exact col_close _ _), trivial⟩
  · skip
    have hk1 : ¬ s.kind = 1 := by simpa using h7
    refine AWP.seq ?_
    refine AWP.region ?_
    refine AOps.call (o_bin _ _ rfl rfl (fun _ => rfl) rfl) ?_
    refine AOps.call (o_assign _ rfl rfl) ?_
    refine AOps.nil ?_
    refine AWP.cond _ rfl (fun h16 => ?_) (fun h16 => ?_)
    · skip
      have hk2 : s.kind = 2 := by simpa using h16
      have hE : (stpK pre ls s) = (pre, (pourL s.much ls).2, (pourL s.much ls).1, 0) := by unfold stpK; rw [if_neg hk1, if_pos hk2]
      refine AWP.seq ?_
      refine AWP.drawn 7 mixed (by kernel_rfl) ?_
      refine AHead.call (o_move _ rfl rfl) rfl ?_
      refine AHead.call (o_move _ rfl rfl) rfl ?_
      refine AHead.call (o_nilCheck _ rfl rfl) rfl ?_
      refine AHead.call (o_fieldRef _ rfl fa102_1 rfl rfl) rfl ?_
      refine AHead.call (o_loadRefE _ rfl rfl Tryd.sizeOf3 Tryd.isAgg3 (col_top hA) rfl) rfl ?_
      refine AHead.call (o_fieldRef _ rfl fa26_1 rfl rfl) rfl ?_
      refine AHead.call (o_loadRef _ rfl rfl Tryd.sizeOf3 Tryd.isAgg3 rfl rfl rfl) rfl ?_
      refine AHead.nil ?_
      refine AOps.cons (o_callMC [(1000000, 0)] (pour_s pre ls pre.length s.much pre.length rfl hA hfl ⟨by omega, by omega⟩) Tryd.call90 rfl rfl (lentOf1 (col_close _ _)) rfl rfl rfl) ?_
      refine AOps.call (o_assign _ rfl rfl) ?_
      refine AOps.call (o_assign _ rfl rfl) ?_
      refine AOps.nil ?_
      refine AWP.ret ?_
      exact ⟨⟨[I _, I _], ⟨rfl, rfl, trivial⟩, by rw [hE]; rfl⟩, (by rw [hE]; exact col_close _ _), trivial⟩
    · skip
      have hk2 : ¬ s.kind = 2 := by simpa using h16
      refine AWP.seq ?_
      refine AWP.region ?_
      refine AOps.call (o_bin _ _ rfl rfl (fun _ => rfl) rfl) ?_
      refine AOps.call (o_assign _ rfl rfl) ?_
      refine AOps.nil ?_
      refine AWP.cond _ rfl (fun h27 => ?_) (fun h27 => ?_)
      · skip
        have hk3 : s.kind = 3 := by simpa using h27
        have hE : (stpK pre ls s) = ((melt pre ls s.much 0).1, (melt pre ls s.much 0).2.1, (melt pre ls s.much 0).2.2, 0) := by unfold stpK; rw [if_neg hk1, if_neg hk2, if_pos hk3]
        refine AWP.seq ?_
        refine AWP.region ?_
        refine AOps.call (o_move _ rfl rfl) ?_
        refine AOps.call (o_fieldRef _ rfl fa26_1 rfl rfl) ?_
        refine AOps.call (o_loadRef _ rfl rfl Tryd.sizeOf3 Tryd.isAgg3 rfl rfl rfl) ?_
        refine AOps.cons (o_callMC [(1000000, 0)] (melt_s pre ls s.much hA hok ⟨by omega, by omega⟩) Tryd.call73 rfl rfl (lentOf1 (col_close _ _)) rfl rfl rfl) ?_
        refine AOps.call (o_assign _ rfl rfl) ?_
        refine AOps.call (o_assign _ rfl rfl) ?_
        refine AOps.nil ?_
        refine AWP.ret ?_
        exact ⟨⟨[I _, I _], ⟨rfl, rfl, trivial⟩, by rw [hE]; rfl⟩, (by rw [hE]; exact col_close _ _), trivial⟩
      · skip
        have hk3 : ¬ s.kind = 3 := by simpa using h27
        refine AWP.seq ?_
        refine AWP.region ?_
        refine AOps.call (o_bin _ _ rfl rfl (fun _ => rfl) rfl) ?_
        refine AOps.call (o_assign _ rfl rfl) ?_
        refine AOps.nil ?_
        refine AWP.cond _ rfl (fun h34 => ?_) (fun h34 => ?_)
        · skip
          have hk4 : s.kind = 4 := by simpa using h34
          have hE : (stpK pre ls s) = (pre, frzK s.much ls, 0, 0) := by unfold stpK; rw [if_neg hk1, if_neg hk2, if_neg hk3, if_pos hk4]
          refine AWP.seq ?_
          refine AWP.region ?_
          refine AOps.call (o_move _ rfl rfl) ?_
          refine AOps.call (o_fieldRef _ rfl fa26_1 rfl rfl) ?_
          refine AOps.call (o_loadRef _ rfl rfl Tryd.sizeOf3 Tryd.isAgg3 rfl rfl rfl) ?_
          refine AOps.cons (o_callMC [(1000000, 0)] (freeze_s pre ls s.much hA hfl ⟨by omega, by omega⟩) Tryd.call91 rfl rfl (lentOf1 (col_close _ _)) rfl rfl rfl) ?_
          refine AOps.nil ?_
          refine AWP.seq ?_
          refine AWP.region ?_
          refine AOps.call (o_assign _ rfl rfl) ?_
          refine AOps.call (o_assign _ rfl rfl) ?_
          refine AOps.nil ?_
          refine AWP.ret ?_
          exact ⟨⟨[I _, I _], ⟨rfl, rfl, trivial⟩, by rw [hE]; rfl⟩, (by rw [hE]; exact col_close _ _), trivial⟩
        · skip
          have hk4 : ¬ s.kind = 4 := by simpa using h34
          have hE : (stpK pre ls s) = ((take pre ls s.much 0 0).1, (take pre ls s.much 0 0).2.1, (take pre ls s.much 0 0).2.2.2, 0) := by unfold stpK; rw [if_neg hk1, if_neg hk2, if_neg hk3, if_neg hk4]
          refine AWP.seq ?_
          refine AWP.region ?_
          refine AOps.call (o_move _ rfl rfl) ?_
          refine AOps.call (o_fieldRef _ rfl fa26_1 rfl rfl) ?_
          refine AOps.call (o_loadRef _ rfl rfl Tryd.sizeOf3 Tryd.isAgg3 rfl rfl rfl) ?_
          refine AOps.cons (o_callMC [(1000000, 0)] (take_s pre ls s.much hA hok ⟨by omega, by omega⟩) Tryd.call86 rfl rfl (lentOf1 (col_close _ _)) rfl rfl rfl) ?_
          refine AOps.call (o_move _ rfl rfl) ?_
          refine AOps.call (o_extract _ rfl rfl rfl rfl) ?_
          refine AOps.call (o_extract _ rfl rfl rfl rfl) ?_
          refine AOps.call (o_assign _ rfl rfl) ?_
          refine AOps.call (o_assign _ rfl rfl) ?_
          refine AOps.nil ?_
          refine AWP.seq ?_
          refine AWP.region ?_
          refine AOps.call (o_move _ rfl rfl) ?_
          refine AOps.call (o_assign _ rfl rfl) ?_
          refine AOps.call (o_assign _ rfl rfl) ?_
          refine AOps.nil ?_
          refine AWP.ret ?_
          exact ⟨⟨[I _, I _], ⟨rfl, rfl, trivial⟩, by rw [hE]; rfl⟩, (by rw [hE]; exact col_close _ _), trivial⟩

end Go.Proofs.YtgagfmjpmdgfdaaDoor
