import Derived.Test.YtgagfmjpmdgfdaaDoorQ23
import Derived.Test.YtgagfmjpmdgfdaaDoorQ18
set_option linter.unusedSimpArgs false
set_option linter.unusedVariables false
namespace Go.Proofs.YtgagfmjpmdgfdaaDoor
open Go.Ab

theorem do_ran (p : List Lay) (s : Stp) : (rappM p s) = appM p s := rappM_eq p s
theorem do_melt {p : List Lay} {m : Int} : doM p ⟨3, m, 0⟩ = itM melt1 m.toNat p := by
  unfold doM; rw [if_neg (by simp), if_neg (by simp), if_neg (by simp), if_neg (by simp), if_pos rfl]
theorem do_melt1 (p : List Lay) : doM p ⟨3, 1, 0⟩ = ((melt1 p).1, (melt1 p).2) := by
  rw [do_melt]; show itM melt1 1 p = _; simp [itM]
theorem rYld {p : List Lay} {m : Int} (hp : packE p = 0) (hm : 0 ≤ m ∧ m ≤ 65536) : yldM p m = ((doM p ⟨3, m, 0⟩).2, 0) := by
  rw [yld_of hp hm, do_melt, (melt_itM (p := preZ p) (colOk_of hp) hm.1).2]
theorem mstep {m : Int} (h : 0 ≤ m ∧ m ≤ 65536) : stepE ⟨3, m, 0⟩ = 0 := stepE_0.2 ⟨⟨by dsimp only; decide, by dsimp only; decide, h.1, h.2, by dsimp only; decide, by dsimp only; decide⟩, .inr rfl⟩

set_option maxRecDepth 20000 in
theorem rApply_s (p : List Lay) (s : Stp) : FSpec Tryd.prog 32 [.agg (eK p), .agg (eT s)] (.tup [.agg (eK (appM p s).1), I (appM p s).2.1, I (appM p s).2.2]) (none) := by
  refine FSpec.of_body Tryd.func32 rfl (leB rfl) fun w0 M0 => ?_
  refine AWP.seq ?_
  refine AWP.region ?_
  refine AOps.call (o_box _ rfl rfl rfl) ?_
  refine AOps.call (o_box _ rfl rfl rfl) ?_
  refine AOps.call (o_alloc ze24 rfl rfl) ?_
  refine AOps.call (o_assign _ rfl rfl) ?_
  refine AOps.call (o_assign _ rfl rfl) ?_
  refine AOps.nil ?_
  refine AWP.seq ?_
  refine AWP.region ?_
  refine AOps.call (o_loadRef _ rfl rfl Tryd.sizeOf24 Tryd.isAgg24 rfl rfl rfl) ?_
  refine AOps.call (o_call (rCheck_s p) Tryd.call27 rfl rfl) ?_
  refine AOps.call (o_assign _ rfl rfl) ?_
  refine AOps.nil ?_
  refine AWP.seq ?_
  refine AWP.seq ?_
  refine AWP.region ?_
  refine AOps.call (o_move _ rfl rfl) ?_
  refine AOps.call (o_bin _ _ rfl rfl (fun _ => rfl) rfl) ?_
  refine AOps.nil ?_
  refine AWP.cond _ rfl (fun h9 => ?_) (fun h9 => ?_)
  · skip
    have hp : packE p = 0 := by simpa using h9
    refine AWP.region ?_
    refine AOps.call (o_loadRef _ rfl rfl Tryd.sizeOf26 Tryd.isAgg26 rfl rfl rfl) ?_
    refine AOps.call (o_call (rCheckStep_s s) Tryd.call29 rfl rfl) ?_
    refine AOps.call (o_assign _ rfl rfl) ?_
    refine AOps.nil ?_
    refine AWP.seq ?_
    refine AWP.seq ?_
    refine AWP.region ?_
    refine AOps.call (o_move _ rfl rfl) ?_
    refine AOps.call (o_bin _ _ rfl rfl (fun _ => rfl) rfl) ?_
    refine AOps.nil ?_
    refine AWP.cond _ rfl (fun h13 => ?_) (fun h13 => ?_)
    · skip
      have hE : (appM p s) = ([], 0, if packE p = 0 then stepE s else packE p) := by
        first
        | (have hs : ¬ stepE s = 0 := (by simpa using h13); have hs21 := stepE_21 hs; rw [if_pos hp]; unfold appM; rw [if_pos hp, if_neg hs, hs21])
        | (rw [if_neg hp]; exact hE0)
      refine AWP.seq ?_
      refine AWP.region ?_
      refine AOps.call (o_noPack rfl) ?_
      refine AOps.call (o_move _ rfl rfl) ?_
      refine AOps.cons (o_store _ _ rfl rfl Tryd.sizeOf24 rfl rfl rfl rfl rfl) ?_
      refine AOps.call (o_assign _ rfl rfl) ?_
      refine AOps.call (o_assign _ rfl rfl) ?_
      refine AOps.nil ?_
      refine AWP.ret ?_
      refine postQ.retC2 Tryd.results32 rfl rfl Tryd.sizeOf24 Tryd.isAgg24 rfl rfl rfl ?_
      first
      | (rw [hE]; rfl)
      | (rw [hE, if_pos hp]; rfl)
      | (rw [hE, if_neg hp]; rfl)
    · skip
      have hp2 : packE p = 0 := by first | exact hp | exact absurd (by simpa using h13) hp
      have hs : stepE s = 0 := by first | exact absurd hp2 hp | (simpa using h13)
      refine AWP.skip ?_
      refine AWP.seq ?_
      refine AWP.region ?_
      refine AOps.call (o_fieldRef _ rfl fa24_0 rfl rfl) ?_
      refine AOps.call (o_loadRef _ rfl rfl Tryd.sizeOf22 Tryd.isAgg22 rfl rfl rfl) ?_
      refine AOps.call (o_loadRef _ rfl rfl Tryd.sizeOf26 Tryd.isAgg26 rfl rfl rfl) ?_
      refine AOps.call (o_call (rDo_s p s hp2 hs) Tryd.call72 rfl rfl) ?_
      refine AOps.call (o_move _ rfl rfl) ?_
      refine AOps.call (o_extract _ rfl rfl rfl rfl) ?_
      refine AOps.call (o_extract _ rfl rfl rfl rfl) ?_
      refine AOps.call (o_extract _ rfl rfl rfl rfl) ?_
      refine AOps.call (o_assign _ rfl rfl) ?_
      refine AOps.call (o_assign _ rfl rfl) ?_
      refine AOps.call (o_assign _ rfl rfl) ?_
      refine AOps.nil ?_
      refine AWP.seq ?_
      refine AWP.region ?_
      refine AOps.call (o_move _ rfl rfl) ?_
      refine AOps.call (o_build bu24 rfl rfl rfl) ?_
      refine AOps.call (o_alloc ze24 rfl rfl) ?_
      refine AOps.cons (o_store _ _ rfl rfl Tryd.sizeOf24 rfl rfl rfl rfl rfl) ?_
      refine AOps.nil ?_
      refine AWP.seq ?_
      refine AWP.seq ?_
      refine AWP.region ?_
      refine AOps.call (o_loadRef _ rfl rfl Tryd.sizeOf24 Tryd.isAgg24 rfl rfl rfl) ?_
      refine AOps.call (o_call (rCheck_s (doM p s).1) Tryd.call27 rfl rfl) ?_
      refine AOps.call (o_bin _ _ rfl rfl (fun _ => rfl) rfl) ?_
      refine AOps.nil ?_
      refine AWP.cond _ rfl (fun h28 => ?_) (fun h28 => ?_)
      · skip
        have hq : ¬ packE (doM p s).1 = 0 := by simpa using h28
        have hE : (appM p s) = ([], 0, 2) := by rw [← rappM_eq]; unfold rappM; rw [if_pos hp2, if_pos hs, if_neg hq]
        refine AWP.seq ?_
        refine AWP.region ?_
        refine AOps.call (o_noPack rfl) ?_
        refine AOps.cons (o_store _ _ rfl rfl Tryd.sizeOf24 rfl rfl rfl rfl rfl) ?_
        refine AOps.call (o_assign _ rfl rfl) ?_
        refine AOps.call (o_assign _ rfl rfl) ?_
        refine AOps.nil ?_
        refine AWP.ret ?_
        refine postQ.retC2 Tryd.results32 rfl rfl Tryd.sizeOf24 Tryd.isAgg24 rfl rfl rfl ?_
        first
        | (rw [hE]; rfl)
        | (rw [hE, if_pos hp]; rfl)
        | (rw [hE, if_neg hp]; rfl)
      · skip
        have hq : packE (doM p s).1 = 0 := by simpa using h28
        have hE : (appM p s) = ((doM p s).1, (doM p s).2, 0) := by rw [← rappM_eq]; unfold rappM; rw [if_pos hp2, if_pos hs, if_pos hq]
        refine AWP.skip ?_
        refine AWP.seq ?_
        refine AWP.region ?_
        refine AOps.call (o_loadRef _ rfl rfl Tryd.sizeOf24 Tryd.isAgg24 rfl rfl rfl) ?_
        refine AOps.call (o_move _ rfl rfl) ?_
        refine AOps.cons (o_store _ _ rfl rfl Tryd.sizeOf24 rfl rfl rfl rfl rfl) ?_
        refine AOps.call (o_assign _ rfl rfl) ?_
        refine AOps.call (o_assign _ rfl rfl) ?_
        refine AOps.nil ?_
        refine AWP.ret ?_
        refine postQ.retC2 Tryd.results32 rfl rfl Tryd.sizeOf24 Tryd.isAgg24 rfl rfl rfl ?_
        first
        | (rw [hE]; rfl)
        | (rw [hE, if_pos hp]; rfl)
        | (rw [hE, if_neg hp]; rfl)
  · skip
    have hp : ¬ packE p = 0 := by simpa using h9
    have hp20 := packE_20 hp
    have hE0 : (appM p s) = ([], 0, packE p) := by unfold appM; rw [if_neg hp, hp20]
    refine AWP.skip ?_
    refine AWP.seq ?_
    refine AWP.seq ?_
    refine AWP.region ?_
    refine AOps.call (o_move _ rfl rfl) ?_
    refine AOps.call (o_bin _ _ rfl rfl (fun _ => rfl) rfl) ?_
    refine AOps.nil ?_
    refine AWP.cond _ rfl (fun h35 => ?_) (fun h35 => ?_)
    · skip
      have hE : (appM p s) = ([], 0, if packE p = 0 then stepE s else packE p) := by
        first
        | (have hs : ¬ stepE s = 0 := (by simpa using h35); have hs21 := stepE_21 hs; rw [if_pos hp]; unfold appM; rw [if_pos hp, if_neg hs, hs21])
        | (rw [if_neg hp]; exact hE0)
      refine AWP.seq ?_
      refine AWP.region ?_
      refine AOps.call (o_noPack rfl) ?_
      refine AOps.call (o_move _ rfl rfl) ?_
      refine AOps.cons (o_store _ _ rfl rfl Tryd.sizeOf24 rfl rfl rfl rfl rfl) ?_
      refine AOps.call (o_assign _ rfl rfl) ?_
      refine AOps.call (o_assign _ rfl rfl) ?_
      refine AOps.nil ?_
      refine AWP.ret ?_
      refine postQ.retC2 Tryd.results32 rfl rfl Tryd.sizeOf24 Tryd.isAgg24 rfl rfl rfl ?_
      first
      | (rw [hE]; rfl)
      | (rw [hE, if_pos hp]; rfl)
      | (rw [hE, if_neg hp]; rfl)
    · skip
      have hp2 : packE p = 0 := by first | exact hp | exact absurd (by simpa using h35) hp
      have hs : stepE s = 0 := by first | exact absurd hp2 hp | (simpa using h35)
      refine AWP.skip ?_
      refine AWP.seq ?_
      refine AWP.region ?_
      refine AOps.call (o_fieldRef _ rfl fa24_0 rfl rfl) ?_
      refine AOps.call (o_loadRef _ rfl rfl Tryd.sizeOf22 Tryd.isAgg22 rfl rfl rfl) ?_
      refine AOps.call (o_loadRef _ rfl rfl Tryd.sizeOf26 Tryd.isAgg26 rfl rfl rfl) ?_
      refine AOps.call (o_call (rDo_s p s hp2 hs) Tryd.call72 rfl rfl) ?_
      refine AOps.call (o_move _ rfl rfl) ?_
      refine AOps.call (o_extract _ rfl rfl rfl rfl) ?_
      refine AOps.call (o_extract _ rfl rfl rfl rfl) ?_
      refine AOps.call (o_extract _ rfl rfl rfl rfl) ?_
      refine AOps.call (o_assign _ rfl rfl) ?_
      refine AOps.call (o_assign _ rfl rfl) ?_
      refine AOps.call (o_assign _ rfl rfl) ?_
      refine AOps.nil ?_
      refine AWP.seq ?_
      refine AWP.region ?_
      refine AOps.call (o_move _ rfl rfl) ?_
      refine AOps.call (o_build bu24 rfl rfl rfl) ?_
      refine AOps.call (o_alloc ze24 rfl rfl) ?_
      refine AOps.cons (o_store _ _ rfl rfl Tryd.sizeOf24 rfl rfl rfl rfl rfl) ?_
      refine AOps.nil ?_
      refine AWP.seq ?_
      refine AWP.seq ?_
      refine AWP.region ?_
      refine AOps.call (o_loadRef _ rfl rfl Tryd.sizeOf24 Tryd.isAgg24 rfl rfl rfl) ?_
      refine AOps.call (o_call (rCheck_s (doM p s).1) Tryd.call27 rfl rfl) ?_
      refine AOps.call (o_bin _ _ rfl rfl (fun _ => rfl) rfl) ?_
      refine AOps.nil ?_
      refine AWP.cond _ rfl (fun h50 => ?_) (fun h50 => ?_)
      · skip
        have hq : ¬ packE (doM p s).1 = 0 := by simpa using h50
        have hE : (appM p s) = ([], 0, 2) := by rw [← rappM_eq]; unfold rappM; rw [if_pos hp2, if_pos hs, if_neg hq]
        refine AWP.seq ?_
        refine AWP.region ?_
        refine AOps.call (o_noPack rfl) ?_
        refine AOps.cons (o_store _ _ rfl rfl Tryd.sizeOf24 rfl rfl rfl rfl rfl) ?_
        refine AOps.call (o_assign _ rfl rfl) ?_
        refine AOps.call (o_assign _ rfl rfl) ?_
        refine AOps.nil ?_
        refine AWP.ret ?_
        refine postQ.retC2 Tryd.results32 rfl rfl Tryd.sizeOf24 Tryd.isAgg24 rfl rfl rfl ?_
        first
        | (rw [hE]; rfl)
        | (rw [hE, if_pos hp]; rfl)
        | (rw [hE, if_neg hp]; rfl)
      · skip
        have hq : packE (doM p s).1 = 0 := by simpa using h50
        have hE : (appM p s) = ((doM p s).1, (doM p s).2, 0) := by rw [← rappM_eq]; unfold rappM; rw [if_pos hp2, if_pos hs, if_pos hq]
        refine AWP.skip ?_
        refine AWP.seq ?_
        refine AWP.region ?_
        refine AOps.call (o_loadRef _ rfl rfl Tryd.sizeOf24 Tryd.isAgg24 rfl rfl rfl) ?_
        refine AOps.call (o_move _ rfl rfl) ?_
        refine AOps.cons (o_store _ _ rfl rfl Tryd.sizeOf24 rfl rfl rfl rfl rfl) ?_
        refine AOps.call (o_assign _ rfl rfl) ?_
        refine AOps.call (o_assign _ rfl rfl) ?_
        refine AOps.nil ?_
        refine AWP.ret ?_
        refine postQ.retC2 Tryd.results32 rfl rfl Tryd.sizeOf24 Tryd.isAgg24 rfl rfl rfl ?_
        first
        | (rw [hE]; rfl)
        | (rw [hE, if_pos hp]; rfl)
        | (rw [hE, if_neg hp]; rfl)

set_option maxRecDepth 20000 in
theorem rYield_s (p : List Lay) (m : Int) : FSpec Tryd.prog 41 [.agg (eK p), I m] (.tup [I (yldM p m).1, I (yldM p m).2]) (none) := by
  refine FSpec.of_body Tryd.func41 rfl (leB rfl) fun w0 M0 => ?_
  refine AWP.seq ?_
  refine AWP.region ?_
  refine AOps.call (o_box _ rfl rfl rfl) ?_
  refine AOps.call (o_assign _ rfl rfl) ?_
  refine AOps.call (o_assign _ rfl rfl) ?_
  refine AOps.nil ?_
  refine AWP.seq ?_
  refine AWP.region ?_
  refine AOps.call (o_loadRef _ rfl rfl Tryd.sizeOf24 Tryd.isAgg24 rfl rfl rfl) ?_
  refine AOps.call (o_call (rCheck_s _) Tryd.call27 rfl rfl) ?_
  refine AOps.call (o_assign _ rfl rfl) ?_
  refine AOps.nil ?_
  refine AWP.seq ?_
  refine AWP.seq ?_
  refine AWP.region ?_
  refine AOps.call (o_move _ rfl rfl) ?_
  refine AOps.call (o_bin _ _ rfl rfl (fun _ => rfl) rfl) ?_
  refine AOps.nil ?_
  refine AWP.cond _ rfl (fun h7 => ?_) (fun h7 => ?_)
  · skip
    have hp : ¬ packE p = 0 := by simpa using h7
    have hp20 := packE_20 hp
    have hE : (yldM p m) = (0, packE p) := by unfold yldM; rw [if_neg hp, hp20]
    refine AWP.seq ?_
    refine AWP.region ?_
    refine AOps.call (o_move _ rfl rfl) ?_
    refine AOps.call (o_assign _ rfl rfl) ?_
    refine AOps.call (o_assign _ rfl rfl) ?_
    refine AOps.nil ?_
    refine AWP.ret ?_
    refine postQ.ret2 Tryd.results41 rfl rfl ?_
    rw [hE]
    rfl
  · skip
    have hp : packE p = 0 := by simpa using h7
    refine AWP.skip ?_
    refine AWP.seq ?_
    refine AWP.seq ?_
    refine AWP.region ?_
    refine AOps.call (o_move _ rfl rfl) ?_
    refine AOps.call (o_call (rwithin_s m 0 65536) Tryd.call68 rfl rfl) ?_
    refine AOps.call (o_un _ rfl (fun _ => rfl) rfl) ?_
    refine AOps.nil ?_
    refine AWP.cond _ rfl (fun h12 => ?_) (fun h12 => ?_)
    · skip
      have hm : ¬ (0 ≤ m ∧ m ≤ 65536) := by have hq := h12; simp [winB] at hq; omega
      have hE : (yldM p m) = (0, 1) := by unfold yldM; rw [if_pos hp, if_neg hm]
      refine AWP.seq ?_
      refine AWP.region ?_
      refine AOps.call (o_assign _ rfl rfl) ?_
      refine AOps.call (o_assign _ rfl rfl) ?_
      refine AOps.nil ?_
      refine AWP.ret ?_
      refine postQ.ret2 Tryd.results41 rfl rfl ?_
      rw [hE]
      rfl
    · skip
      have hm : 0 ≤ m ∧ m ≤ 65536 := by have hq := h12; simp [winB] at hq; omega
      have hE : (yldM p m) = ((doM p ⟨3, m, 0⟩).2, 0) := rYld hp hm
      refine AWP.skip ?_
      refine AWP.seq ?_
      refine AWP.region ?_
      refine AOps.call (o_fieldRef _ rfl fa24_0 rfl rfl) ?_
      refine AOps.call (o_loadRef _ rfl rfl Tryd.sizeOf22 Tryd.isAgg22 rfl rfl rfl) ?_
      refine AOps.call (o_move _ rfl rfl) ?_
      refine AOps.call (o_build bu26 rfl rfl rfl) ?_
      refine AOps.call (o_call (rDo_s p ⟨3, m, 0⟩ hp (mstep hm)) Tryd.call72 rfl rfl) ?_
      refine AOps.call (o_move _ rfl rfl) ?_
      refine AOps.call (o_extract _ rfl rfl rfl rfl) ?_
      refine AOps.call (o_extract _ rfl rfl rfl rfl) ?_
      refine AOps.call (o_extract _ rfl rfl rfl rfl) ?_
      refine AOps.call (o_assign _ rfl rfl) ?_
      refine AOps.call (o_assign _ rfl rfl) ?_
      refine AOps.call (o_assign _ rfl rfl) ?_
      refine AOps.nil ?_
      refine AWP.seq ?_
      refine AWP.region ?_
      refine AOps.call (o_move _ rfl rfl) ?_
      refine AOps.call (o_assign _ rfl rfl) ?_
      refine AOps.call (o_assign _ rfl rfl) ?_
      refine AOps.nil ?_
      refine AWP.ret ?_
      refine postQ.ret2 Tryd.results41 rfl rfl ?_
      rw [hE]
      rfl

set_option maxHeartbeats 4000000 in
set_option maxRecDepth 20000 in
theorem rEnough_s (p : List Lay) (o : Int) : FSpec Tryd.prog 43 [.agg (eK p), I o] (.tup [I (enM p o).1, B (enM p o).2.1, I (enM p o).2.2]) (none) := by
  refine FSpec.of_body Tryd.func43 rfl (leB rfl) fun w0 M0 => ?_
  refine AWP.seq ?_
  refine AWP.region ?_
  refine AOps.call (o_box _ rfl rfl rfl) ?_
  refine AOps.call (o_assign _ rfl rfl) ?_
  refine AOps.call (o_assign _ rfl rfl) ?_
  refine AOps.call (o_assign _ rfl rfl) ?_
  refine AOps.nil ?_
  refine AWP.seq ?_
  refine AWP.region ?_
  refine AOps.call (o_loadRef _ rfl rfl Tryd.sizeOf24 Tryd.isAgg24 rfl rfl rfl) ?_
  refine AOps.call (o_call (rCheck_s _) Tryd.call27 rfl rfl) ?_
  refine AOps.call (o_assign _ rfl rfl) ?_
  refine AOps.nil ?_
  refine AWP.seq ?_
  refine AWP.seq ?_
  refine AWP.region ?_
  refine AOps.call (o_move _ rfl rfl) ?_
  refine AOps.call (o_bin _ _ rfl rfl (fun _ => rfl) rfl) ?_
  refine AOps.nil ?_
  refine AWP.cond _ rfl (fun h7 => ?_) (fun h7 => ?_)
  · skip
    have hp : ¬ packE p = 0 := by simpa using h7
    have hp20 := packE_20 hp
    have hE : (enM p o) = (0, false, packE p) := by unfold enM; rw [if_neg hp, hp20]
    refine AWP.seq ?_
    refine AWP.region ?_
    refine AOps.call (o_move _ rfl rfl) ?_
    refine AOps.call (o_assign _ rfl rfl) ?_
    refine AOps.call (o_assign _ rfl rfl) ?_
    refine AOps.call (o_assign _ rfl rfl) ?_
    refine AOps.nil ?_
    refine AWP.ret ?_
    refine postQ.ret3 Tryd.results43 rfl rfl rfl ?_
    rw [hE]
    rfl
  · skip
    have hp : packE p = 0 := by simpa using h7
    refine AWP.skip ?_
    refine AWP.seq ?_
    refine AWP.seq ?_
    refine AWP.region ?_
    refine AOps.call (o_move _ rfl rfl) ?_
    refine AOps.call (o_call (rwithin_s o 0 65536) Tryd.call68 rfl rfl) ?_
    refine AOps.call (o_un _ rfl (fun _ => rfl) rfl) ?_
    refine AOps.nil ?_
    refine AWP.cond _ rfl (fun h12 => ?_) (fun h12 => ?_)
    · skip
      have hm : ¬ (0 ≤ o ∧ o ≤ 65536) := by have hq := h12; simp [winB] at hq; omega
      have hE : (enM p o) = (0, false, 1) := by unfold enM; rw [if_pos hp, if_neg hm]
      refine AWP.seq ?_
      refine AWP.region ?_
      refine AOps.call (o_assign _ rfl rfl) ?_
      refine AOps.call (o_assign _ rfl rfl) ?_
      refine AOps.call (o_assign _ rfl rfl) ?_
      refine AOps.nil ?_
      refine AWP.ret ?_
      refine postQ.ret3 Tryd.results43 rfl rfl rfl ?_
      rw [hE]
      rfl
    · skip
      have hm : 0 ≤ o ∧ o ≤ 65536 := by have hq := h12; simp [winB] at hq; omega
      refine AWP.skip ?_
      refine AWP.seq ?_
      refine AWP.region ?_
      refine AOps.call (o_fieldRef _ rfl fa24_0 rfl rfl) ?_
      refine AOps.call (o_loadRef _ rfl rfl Tryd.sizeOf22 Tryd.isAgg22 rfl rfl rfl) ?_
      refine AOps.call (o_assign _ rfl rfl) ?_
      refine AOps.nil ?_
      refine AWP.seq ?_
      refine AWP.region ?_
      refine AOps.call (o_assign _ rfl rfl) ?_
      refine AOps.nil ?_
      refine AWP.seq ?_
      refine AWP.seq ?_
      refine AWP.region ?_
      refine AOps.call (o_assign _ rfl rfl) ?_
      refine AOps.nil ?_
      refine AWP.block ?_
      refine AWP.loop (ι := Nat) (fun i => AS.mk' 46 [(1, I o), (8, .sl (lays (itM melt1 i p).1)), (9, I (itM melt1 i p).2), (10, I i)] [] [] []) (fun i => i ≤ 65537 ∧ ∀ j, j < i → enF p o j = false) (fun i => 65537 - i) (0) (Weak.mk' rfl ⟨⟨.refl rfl, rfl⟩, ⟨⟨.refl rfl, rfl⟩, ⟨⟨.refl rfl, rfl⟩, ⟨⟨.refl rfl, rfl⟩, trivial⟩⟩⟩⟩ trivial trivial) (⟨Nat.zero_le _, fun j h => absurd h (Nat.not_lt_zero _)⟩) ?_
      rintro n ⟨hn, hlo⟩
      try dsimp only at *
      refine AWP.seq ?_
      refine AWP.seq ?_
      refine AWP.region ?_
      refine AOps.call (o_move _ rfl rfl) ?_
      refine AOps.call (o_bin _ _ rfl rfl (fun _ => rfl) rfl) ?_
      refine AOps.nil ?_
      refine AWP.cond _ rfl (fun h21 => ?_) (fun h21 => ?_)
      · skip
        have hn2 : n ≤ 65536 := by have hq := of_decide_eq_true h21; omega
        have hEn : packE (itM melt1 n p).1 = 0 ∧ 0 ≤ (itM melt1 n p).2 ∧ (itM melt1 n p).2 ≤ 65536 := stF_E ⟨3, 0, 0⟩ hp n
        have hEm : packE (itM melt1 (n + 1) p).1 = 0 ∧ 0 ≤ (itM melt1 (n + 1) p).2 ∧ (itM melt1 (n + 1) p).2 ≤ 65536 := stF_E ⟨3, 0, 0⟩ hp (n + 1)
        rw [itM_snoc] at hEm
        have hbl := packE_bd hEn.1
        have hll := lays_len (itM melt1 n p).1
        refine AWP.skip ?_
        refine AWP.seq ?_
        refine AWP.block ?_
        refine AWP.seq ?_
        refine AWP.seq ?_
        refine AWP.region ?_
        refine AOps.call (o_move _ rfl rfl) ?_
        refine AOps.call (o_move _ rfl rfl) ?_
        refine AOps.call (o_bin _ _ rfl rfl (fun _ => rfl) rfl) ?_
        refine AOps.nil ?_
        refine AWP.cond _ rfl (fun h25 => ?_) (fun h25 => ?_)
        · skip
          have hE : (enM p o) = (((n : Nat) : Int), true, 0) := en_yes hp hm hn2 hlo (of_decide_eq_true h25)
          refine AWP.seq ?_
          refine AWP.region ?_
          refine AOps.call (o_move _ rfl rfl) ?_
          refine AOps.call (o_assign _ rfl rfl) ?_
          refine AOps.call (o_assign _ rfl rfl) ?_
          refine AOps.call (o_assign _ rfl rfl) ?_
          refine AOps.nil ?_
          refine AWP.ret ?_
          refine postQ.ret3 Tryd.results43 rfl rfl rfl ?_
          rw [hE]
          rfl
        · skip
          have hge : ¬ o ≤ (itM melt1 n p).2 := of_decide_eq_false h25
          refine AWP.skip ?_
          refine AWP.seq ?_
          refine AWP.seq ?_
          refine AWP.region ?_
          refine AOps.call (o_move _ rfl rfl) ?_
          refine AOps.call (o_len _ Tryd.underlying22 rfl rfl) ?_
          refine AOps.call (o_bin _ _ rfl rfl (fun _ => rfl) rfl) ?_
          refine AOps.nil ?_
          refine AWP.cond _ rfl (fun h31 => ?_) (fun h31 => ?_)
          · skip
            have hz : (itM melt1 n p).1 = [] := List.eq_nil_of_length_eq_zero (by have hq : (((lays (itM melt1 n p).1).length : Nat) : Int) = 0 := (by simpa using h31); omega)
            have hE : (enM p o) = (0, false, 0) := en_stop hp hm hlo hge hz
            refine AWP.exit ?_
            refine AWP.seq ?_
            refine AWP.region ?_
            refine AOps.call (o_assign _ rfl rfl) ?_
            refine AOps.call (o_assign _ rfl rfl) ?_
            refine AOps.call (o_assign _ rfl rfl) ?_
            refine AOps.nil ?_
            refine AWP.ret ?_
            refine postQ.ret3 Tryd.results43 rfl rfl rfl ?_
            rw [hE]
            rfl
          · skip
            have hdo := do_melt1 (itM melt1 n p).1
            have hD := rDo_s (itM melt1 n p).1 ⟨3, 1, 0⟩ hEn.1 (mstep (by omega))
            rw [hdo] at hD
            have hnx : itM melt1 (n + 1) p = ((melt1 (itM melt1 n p).1).1, (itM melt1 n p).2 + (melt1 (itM melt1 n p).1).2) := itM_snoc melt1 n p
            refine AWP.skip ?_
            refine AWP.seq ?_
            refine AWP.region ?_
            refine AOps.call (o_move _ rfl rfl) ?_
            refine AOps.call (o_build bu26 rfl rfl rfl) ?_
            refine AOps.call (o_call hD Tryd.call72 rfl rfl) ?_
            refine AOps.call (o_move _ rfl rfl) ?_
            refine AOps.call (o_extract _ rfl rfl rfl rfl) ?_
            refine AOps.call (o_extract _ rfl rfl rfl rfl) ?_
            refine AOps.call (o_extract _ rfl rfl rfl rfl) ?_
            refine AOps.call (o_assign _ rfl rfl) ?_
            refine AOps.call (o_assign _ rfl rfl) ?_
            refine AOps.call (o_assign _ rfl rfl) ?_
            refine AOps.nil ?_
            refine AWP.seq ?_
            refine AWP.region ?_
            refine AOps.call (o_move _ rfl rfl) ?_
            refine AOps.call (o_assign _ rfl rfl) ?_
            refine AOps.nil ?_
            refine AWP.region ?_
            refine AOps.call (o_move _ rfl rfl) ?_
            refine AOps.call (o_move _ rfl rfl) ?_
            refine AOps.call (o_add _ _ rfl rfl ⟨by (try dsimp only); omega, by (try dsimp only); omega⟩ rfl) ?_
            refine AOps.call (o_assign _ rfl rfl) ?_
            refine AOps.nil ?_
            refine AWP.region ?_
            refine AOps.call (o_move _ rfl rfl) ?_
            refine AOps.call (o_add _ _ rfl rfl ⟨by (try dsimp only); omega, by (try dsimp only); omega⟩ rfl) ?_
            refine AOps.call (o_assign _ rfl rfl) ?_
            refine AOps.nil ?_
            refine ⟨n + 1, ?_, (Weak.mk' rfl ⟨⟨.refl rfl, rfl⟩, ⟨⟨.refl (by rw [hnx]; rfl), rfl⟩, ⟨⟨.refl (by rw [hnx]; rfl), rfl⟩, ⟨⟨.refl rfl, rfl⟩, trivial⟩⟩⟩⟩ trivial trivial)⟩
            exact ⟨⟨by omega, fun j hj => by
              by_cases h : j < n
              · exact hlo j h
              · obtain rfl : j = n := by omega
                rw [enF_it hp]; exact decide_eq_false hge⟩, by omega⟩
      · skip
        have hE : (enM p o) = (0, false, 0) := en_end hp hm fun j hj => hlo j (by have hq := of_decide_eq_false h21; omega)
        refine AWP.exit ?_
        refine AWP.seq ?_
        refine AWP.region ?_
        refine AOps.call (o_assign _ rfl rfl) ?_
        refine AOps.call (o_assign _ rfl rfl) ?_
        refine AOps.call (o_assign _ rfl rfl) ?_
        refine AOps.nil ?_
        refine AWP.ret ?_
        refine postQ.ret3 Tryd.results43 rfl rfl rfl ?_
        rw [hE]
        rfl

set_option maxRecDepth 20000 in
theorem rReady_s (p : List Lay) : FSpec Tryd.prog 39 [.agg (eK p)] (.tup [I (if packE p = 0 then rdyL p else 0), I (packE p)]) (none) := by
  refine FSpec.of_body Tryd.func39 rfl (leB rfl) fun w0 M0 => ?_
  have hpl := lays_len p
  refine AWP.seq ?_
  refine AWP.region ?_
  refine AOps.call (o_box _ rfl rfl rfl) ?_
  refine AOps.call (o_assign _ rfl rfl) ?_
  refine AOps.call (o_assign _ rfl rfl) ?_
  refine AOps.nil ?_
  refine AWP.seq ?_
  refine AWP.region ?_
  refine AOps.call (o_loadRef _ rfl rfl Tryd.sizeOf24 Tryd.isAgg24 rfl rfl rfl) ?_
  refine AOps.call (o_call (rCheck_s _) Tryd.call27 rfl rfl) ?_
  refine AOps.call (o_assign _ rfl rfl) ?_
  refine AOps.nil ?_
  refine AWP.seq ?_
  refine AWP.seq ?_
  refine AWP.region ?_
  refine AOps.call (o_move _ rfl rfl) ?_
  refine AOps.call (o_bin _ _ rfl rfl (fun _ => rfl) rfl) ?_
  refine AOps.nil ?_
  refine AWP.cond _ rfl (fun h7 => ?_) (fun h7 => ?_)
  · skip
    have hp : ¬ packE p = 0 := by simpa using h7
    have hE : (if packE p = 0 then rdyL p else 0) = 0 := if_neg hp
    refine AWP.seq ?_
    refine AWP.region ?_
    refine AOps.call (o_move _ rfl rfl) ?_
    refine AOps.call (o_assign _ rfl rfl) ?_
    refine AOps.call (o_assign _ rfl rfl) ?_
    refine AOps.nil ?_
    refine AWP.ret ?_
    refine postQ.ret2 Tryd.results39 rfl rfl ?_
    rw [hE]
    first
    | rfl
    | (rw [List.take_length, hp]; rfl)
  · skip
    have hp : packE p = 0 := by simpa using h7
    have hE : (if packE p = 0 then rdyL p else 0) = rdyL p := if_pos hp
    have hpv := packE_0.1 hp
    refine AWP.skip ?_
    refine AWP.seq ?_
    refine AWP.region ?_
    refine AOps.call (o_assign _ rfl rfl) ?_
    refine AOps.nil ?_
    refine AWP.seq ?_
    refine AWP.seq ?_
    refine AWP.region ?_
    refine AOps.call (o_assign _ rfl rfl) ?_
    refine AOps.nil ?_
    refine AWP.block ?_
    refine AWP.loop (ι := Nat) (fun i => AS.mk' 40 [(1, .ref (1, 0) 0), (5, I (rdyL (p.take i))), (6, I i)] [((1, 0), eK p)] [] [(1, 1)]) (fun i => i ≤ p.length) (fun i => p.length - i) (0) (Weak.mk' rfl ⟨⟨.refl rfl, rfl⟩, ⟨⟨.refl rfl, rfl⟩, ⟨⟨.refl rfl, rfl⟩, trivial⟩⟩⟩ ⟨⟨rfl, rfl, rfl⟩, trivial⟩ trivial) (Nat.zero_le _) ?_
    rintro k hk
    try dsimp only at *
    refine AWP.seq ?_
    refine AWP.seq ?_
    refine AWP.region ?_
    refine AOps.call (o_move _ rfl rfl) ?_
    refine AOps.call (o_fieldRef _ rfl fa24_0 rfl rfl) ?_
    refine AOps.call (o_loadRef _ rfl rfl Tryd.sizeOf22 Tryd.isAgg22 rfl rfl rfl) ?_
    refine AOps.call (o_len _ Tryd.underlying22 rfl rfl) ?_
    refine AOps.call (o_bin _ _ rfl rfl (fun _ => rfl) rfl) ?_
    refine AOps.nil ?_
    refine AWP.cond _ rfl (fun h15 => ?_) (fun h15 => ?_)
    · skip
      have hlt : k < p.length := by have hq := of_decide_eq_true h15; omega
      have hel := lays_at hlt
      have hb := (layB_iff.1 (hpv.2.1 _ (List.getElem_mem hlt))).1
      have hw := rdyL_bd (all_take (n := k) hpv.2.1)
      have hwl : (p.take k).length ≤ 64 := by rw [List.length_take]; omega
      refine AWP.skip ?_
      refine AWP.seq ?_
      refine AWP.block ?_
      refine AWP.seq ?_
      refine AWP.region ?_
      refine AOps.call (o_fieldRef _ rfl fa24_0 rfl rfl) ?_
      refine AOps.call (o_loadRef _ rfl rfl Tryd.sizeOf22 Tryd.isAgg22 rfl rfl rfl) ?_
      refine AOps.call (o_move _ rfl rfl) ?_
      refine AOps.call (o_index _ _ Tryd.underlying22 Tryd.sizeOf28 rfl rfl (by omega) hel rfl rfl) ?_
      refine AOps.call (o_loadRd _ rfl Tryd.sizeOf28 Tryd.isAgg28 rfl rfl rfl) ?_
      refine AOps.call (o_alloc ze28 rfl rfl) ?_
      refine AOps.cons (o_store _ _ rfl rfl Tryd.sizeOf28 rfl rfl rfl rfl rfl) ?_
      refine AOps.nil ?_
      refine AWP.region ?_
      refine AOps.call (o_move _ rfl rfl) ?_
      refine AOps.call (o_fieldRef _ rfl fa28_2 rfl rfl) ?_
      refine AOps.call (o_loadRef _ rfl rfl Tryd.sizeOf3 Tryd.isAgg3 rfl rfl rfl) ?_
      refine AOps.call (o_add _ _ rfl rfl ⟨by (try dsimp only); omega, by (try dsimp only); omega⟩ rfl) ?_
      refine AOps.call (o_fieldRef _ rfl fa28_0 rfl rfl) ?_
      refine AOps.call (o_loadRef _ rfl rfl Tryd.sizeOf3 Tryd.isAgg3 rfl rfl rfl) ?_
      refine AOps.call (o_fieldRef _ rfl fa28_2 rfl rfl) ?_
      refine AOps.call (o_loadRef _ rfl rfl Tryd.sizeOf3 Tryd.isAgg3 rfl rfl rfl) ?_
      refine AOps.call (o_add _ _ rfl rfl ⟨by (try dsimp only); omega, by (try dsimp only); omega⟩ rfl) ?_
      refine AOps.call (o_quo _ _ rfl rfl ⟨by omega, by omega⟩ (by omega) rfl) ?_
      refine AOps.call (o_add _ _ rfl rfl ⟨by (try dsimp only); omega, by (try dsimp only); omega⟩ rfl) ?_
      refine AOps.call (o_fieldRef _ rfl fa28_1 rfl rfl) ?_
      refine AOps.call (o_loadRef _ rfl rfl Tryd.sizeOf3 Tryd.isAgg3 rfl rfl rfl) ?_
      refine AOps.call (o_sub _ _ rfl rfl ⟨by (try dsimp only); omega, by (try dsimp only); omega⟩ rfl) ?_
      refine AOps.call (o_assign _ rfl rfl) ?_
      refine AOps.nil ?_
      refine AWP.region ?_
      refine AOps.call (o_move _ rfl rfl) ?_
      refine AOps.call (o_add _ _ rfl rfl ⟨by (try dsimp only); omega, by (try dsimp only); omega⟩ rfl) ?_
      refine AOps.call (o_assign _ rfl rfl) ?_
      refine AOps.nil ?_
      refine ⟨k + 1, ?_, (Weak.mk' rfl ⟨⟨.refl rfl, rfl⟩, ⟨⟨.refl (by rw [rdyL_take hlt]; show I (rdyL (p.take k) + p[k].cold + (p[k].ice + p[k].cold) / 20 - p[k].wet) = I _; congr 1; omega), rfl⟩, ⟨⟨.refl rfl, rfl⟩, trivial⟩⟩⟩ ⟨⟨rfl, rfl, rfl⟩, trivial⟩ trivial)⟩
      exact ⟨by omega, by omega⟩
    · skip
      have hkl : k = p.length := by have := of_decide_eq_false h15; omega
      subst hkl
      refine AWP.exit ?_
      refine AWP.seq ?_
      refine AWP.region ?_
      refine AOps.call (o_move _ rfl rfl) ?_
      refine AOps.call (o_assign _ rfl rfl) ?_
      refine AOps.call (o_assign _ rfl rfl) ?_
      refine AOps.nil ?_
      refine AWP.ret ?_
      refine postQ.ret2 Tryd.results39 rfl rfl ?_
      rw [hE]
      first
      | rfl
      | (rw [List.take_length, hp]; rfl)

def heavyB (s : Stp) : Bool := !decide (s.kind = 1) && decide (s.much > 3000) && decide (s.much ≤ 65536)
def lightB (l : List Stp) : Bool := l.all fun s => !heavyB s
theorem lightB_yes {l : List Stp} {i : Nat} (h : ∀ (j : Nat) (hj : j < l.length), j < i → heavyB l[j] = false) (hi : l.length ≤ i) : lightB l = true := by
  refine List.all_eq_true.2 fun s hs => ?_
  obtain ⟨j, hj, rfl⟩ := List.mem_iff_getElem.1 hs
  rw [h j hj (by omega)]; rfl
theorem lightB_no {l : List Stp} {k : Nat} (hk : k < l.length) (h : heavyB l[k] = true) : lightB l = false := by
  cases hc : lightB l with
  | false => rfl
  | true => have := List.all_eq_true.1 hc _ (List.getElem_mem hk); rw [h] at this; cases this

set_option maxRecDepth 20000 in
theorem light_s (l : List Stp) (hl : l.length ≤ 9223372036854775807) : FSpec Tryd.prog 30 [.sl (stpsL l)] (B (lightB l)) (none) := by
  refine FSpec.of_body Tryd.func30 rfl (leB rfl) fun w0 M0 => ?_
  have hpl := stpsL_len l
  refine AWP.seq ?_
  refine AWP.region ?_
  refine AOps.call (o_assign _ rfl rfl) ?_
  refine AOps.nil ?_
  refine AWP.seq ?_
  refine AWP.seq ?_
  refine AWP.region ?_
  refine AOps.call (o_assign _ rfl rfl) ?_
  refine AOps.nil ?_
  refine AWP.block ?_
  refine AWP.loop (ι := Nat) (fun i => AS.mk' 32 [(0, .sl (stpsL l)), (3, I i)] [] [] []) (fun i => i ≤ l.length ∧ ∀ (j : Nat) (h : j < l.length), j < i → heavyB l[j] = false) (fun i => l.length - i) (0) (Weak.mk' rfl ⟨⟨.refl rfl, rfl⟩, ⟨⟨.refl rfl, rfl⟩, trivial⟩⟩ trivial trivial) (⟨Nat.zero_le _, fun _ _ h => absurd h (Nat.not_lt_zero _)⟩) ?_
  rintro k ⟨hk, hv⟩
  try dsimp only at *
  refine AWP.seq ?_
  refine AWP.seq ?_
  refine AWP.region ?_
  refine AOps.call (o_move _ rfl rfl) ?_
  refine AOps.call (o_move _ rfl rfl) ?_
  refine AOps.call (o_len _ Tryd.underlying43 rfl rfl) ?_
  refine AOps.call (o_bin _ _ rfl rfl (fun _ => rfl) rfl) ?_
  refine AOps.nil ?_
  refine AWP.cond _ rfl (fun h5 => ?_) (fun h5 => ?_)
  · skip
    have hlt : k < l.length := by have hq := of_decide_eq_true h5; omega
    have hel := stpsL_at hlt
    refine AWP.skip ?_
    refine AWP.seq ?_
    refine AWP.block ?_
    refine AWP.seq ?_
    refine AWP.region ?_
    refine AOps.call (o_move _ rfl rfl) ?_
    refine AOps.call (o_move _ rfl rfl) ?_
    refine AOps.call (o_index _ _ Tryd.underlying43 Tryd.sizeOf26 rfl rfl (by omega) hel rfl rfl) ?_
    refine AOps.call (o_fieldRd _ rfl fa26_0 rfl) ?_
    refine AOps.call (o_loadRd _ rfl Tryd.sizeOf3 Tryd.isAgg3 rfl rfl rfl) ?_
    refine AOps.call (o_bin _ _ rfl rfl (fun _ => rfl) rfl) ?_
    refine AOps.call (o_move _ rfl rfl) ?_
    refine AOps.split rfl rfl rfl (fun h11 => ?_) (fun h11 => ?_)
    · skip
      have g1 : ¬ l[k].kind = 1 := by simpa using h11
      refine AOps.go rfl rfl rfl h11 (o_move _ rfl rfl) ?_
      refine AOps.go rfl rfl rfl h11 (o_move _ rfl rfl) ?_
      refine AOps.go rfl rfl rfl h11 (o_index _ _ Tryd.underlying43 Tryd.sizeOf26 rfl rfl (by omega) hel rfl rfl) ?_
      refine AOps.go rfl rfl rfl h11 (o_fieldRd _ rfl fa26_1 rfl) ?_
      refine AOps.go rfl rfl rfl h11 (o_loadRd _ rfl Tryd.sizeOf3 Tryd.isAgg3 rfl rfl rfl) ?_
      refine AOps.go rfl rfl rfl h11 (o_bin _ _ rfl rfl (fun _ => rfl) rfl) ?_
      refine AOps.call (o_pickT _ _ _ rfl h11 rfl rfl) ?_
      refine AOps.call (o_move _ rfl rfl) ?_
      refine AOps.split rfl rfl rfl (fun h17 => ?_) (fun h17 => ?_)
      · skip
        have g2 := of_decide_eq_true h17
        refine AOps.go rfl rfl rfl h17 (o_move _ rfl rfl) ?_
        refine AOps.go rfl rfl rfl h17 (o_move _ rfl rfl) ?_
        refine AOps.go rfl rfl rfl h17 (o_index _ _ Tryd.underlying43 Tryd.sizeOf26 rfl rfl (by omega) hel rfl rfl) ?_
        refine AOps.go rfl rfl rfl h17 (o_fieldRd _ rfl fa26_1 rfl) ?_
        refine AOps.go rfl rfl rfl h17 (o_loadRd _ rfl Tryd.sizeOf3 Tryd.isAgg3 rfl rfl rfl) ?_
        refine AOps.go rfl rfl rfl h17 (o_bin _ _ rfl rfl (fun _ => rfl) rfl) ?_
        refine AOps.call (o_pickT _ _ _ rfl h17 rfl rfl) ?_
        refine AOps.nil ?_
        refine AWP.cond _ rfl (fun h23 => ?_) (fun h23 => ?_)
        · skip
          have hE := lightB_no hlt (by unfold heavyB; rw [decide_eq_false g1, decide_eq_true g2, h23]; rfl)
          refine AWP.seq ?_
          refine AWP.region ?_
          refine AOps.call (o_assign _ rfl rfl) ?_
          refine AOps.nil ?_
          refine AWP.ret ?_
          refine postQ.ret1 Tryd.results30 rfl ?_
          rw [hE]
          rfl
        · skip
          have hbk : heavyB l[k] = false := by unfold heavyB; rw [h23]; simp
          refine AWP.skip ?_
          refine AWP.region ?_
          refine AOps.call (o_move _ rfl rfl) ?_
          refine AOps.call (o_add _ _ rfl rfl ⟨by (try dsimp only); omega, by (try dsimp only); omega⟩ rfl) ?_
          refine AOps.call (o_assign _ rfl rfl) ?_
          refine AOps.nil ?_
          refine ⟨k + 1, ?_, (Weak.mk' rfl ⟨⟨.refl rfl, rfl⟩, ⟨⟨.refl rfl, rfl⟩, trivial⟩⟩ trivial trivial)⟩
          exact ⟨⟨by omega, fun j hj hjk => by
            by_cases h : j < k
            · exact hv j hj h
            · obtain rfl : j = k := by omega
              exact hbk⟩, by omega⟩
      · skip
        have hbk : heavyB l[k] = false := by unfold heavyB; rw [show decide (l[k].much > 3000) = false from h17]; simp
        refine AOps.pass rfl rfl rfl h17 rfl ?_
        refine AOps.pass rfl rfl rfl h17 rfl ?_
        refine AOps.pass rfl rfl rfl h17 rfl ?_
        refine AOps.pass rfl rfl rfl h17 rfl ?_
        refine AOps.pass rfl rfl rfl h17 rfl ?_
        refine AOps.pass rfl rfl rfl h17 rfl ?_
        refine AOps.call (o_pickF _ _ _ rfl h17 rfl rfl) ?_
        refine AOps.nil ?_
        refine AWP.condF rfl ?_
        refine AWP.skip ?_
        refine AWP.region ?_
        refine AOps.call (o_move _ rfl rfl) ?_
        refine AOps.call (o_add _ _ rfl rfl ⟨by (try dsimp only); omega, by (try dsimp only); omega⟩ rfl) ?_
        refine AOps.call (o_assign _ rfl rfl) ?_
        refine AOps.nil ?_
        refine ⟨k + 1, ?_, (Weak.mk' rfl ⟨⟨.refl rfl, rfl⟩, ⟨⟨.refl rfl, rfl⟩, trivial⟩⟩ trivial trivial)⟩
        exact ⟨⟨by omega, fun j hj hjk => by
          by_cases h : j < k
          · exact hv j hj h
          · obtain rfl : j = k := by omega
            exact hbk⟩, by omega⟩
    · skip
      have hbk : heavyB l[k] = false := by have g1 : l[k].kind = 1 := (by simpa using h11); simp [heavyB, g1]
      refine AOps.pass rfl rfl rfl h11 rfl ?_
      refine AOps.pass rfl rfl rfl h11 rfl ?_
      refine AOps.pass rfl rfl rfl h11 rfl ?_
      refine AOps.pass rfl rfl rfl h11 rfl ?_
      refine AOps.pass rfl rfl rfl h11 rfl ?_
      refine AOps.pass rfl rfl rfl h11 rfl ?_
      refine AOps.call (o_pickF _ _ _ rfl h11 rfl rfl) ?_
      refine AOps.call (o_move _ rfl rfl) ?_
      refine AOps.pass rfl rfl rfl rfl rfl ?_
      refine AOps.pass rfl rfl rfl rfl rfl ?_
      refine AOps.pass rfl rfl rfl rfl rfl ?_
      refine AOps.pass rfl rfl rfl rfl rfl ?_
      refine AOps.pass rfl rfl rfl rfl rfl ?_
      refine AOps.pass rfl rfl rfl rfl rfl ?_
      refine AOps.call (o_pickF _ _ _ rfl rfl rfl rfl) ?_
      refine AOps.nil ?_
      refine AWP.condF rfl ?_
      refine AWP.skip ?_
      refine AWP.region ?_
      refine AOps.call (o_move _ rfl rfl) ?_
      refine AOps.call (o_add _ _ rfl rfl ⟨by (try dsimp only); omega, by (try dsimp only); omega⟩ rfl) ?_
      refine AOps.call (o_assign _ rfl rfl) ?_
      refine AOps.nil ?_
      refine ⟨k + 1, ?_, (Weak.mk' rfl ⟨⟨.refl rfl, rfl⟩, ⟨⟨.refl rfl, rfl⟩, trivial⟩⟩ trivial trivial)⟩
      exact ⟨⟨by omega, fun j hj hjk => by
        by_cases h : j < k
        · exact hv j hj h
        · obtain rfl : j = k := by omega
          exact hbk⟩, by omega⟩
  · skip
    have hE := lightB_yes hv (by have hq := of_decide_eq_false h5; omega)
    refine AWP.exit ?_
    refine AWP.seq ?_
    refine AWP.region ?_
    refine AOps.call (o_assign _ rfl rfl) ?_
    refine AOps.nil ?_
    refine AWP.ret ?_
    refine postQ.ret1 Tryd.results30 rfl ?_
    rw [hE]
    rfl

def bigB (p : List Lay) : Bool := if packE p = 0 then decide (watL p > 3000) || decide (coldL p > 3000) else false

set_option maxRecDepth 20000 in
theorem big_s (p : List Lay) : FSpec Tryd.prog 37 [.agg (eK p)] (B (bigB p)) (none) := by
  refine FSpec.of_body Tryd.func37 rfl (leB rfl) fun w0 M0 => ?_
  refine AWP.seq ?_
  refine AWP.region ?_
  refine AOps.call (o_box _ rfl rfl rfl) ?_
  refine AOps.call (o_assign _ rfl rfl) ?_
  refine AOps.nil ?_
  refine AWP.seq ?_
  refine AWP.seq ?_
  refine AWP.region ?_
  refine AOps.call (o_loadRef _ rfl rfl Tryd.sizeOf24 Tryd.isAgg24 rfl rfl rfl) ?_
  refine AOps.call (o_call (rCheck_s p) Tryd.call27 rfl rfl) ?_
  refine AOps.call (o_bin _ _ rfl rfl (fun _ => rfl) rfl) ?_
  refine AOps.nil ?_
  refine AWP.cond _ rfl (fun h5 => ?_) (fun h5 => ?_)
  · skip
    have hp : ¬ packE p = 0 := by simpa using h5
    have hE : bigB p = false := by unfold bigB; rw [if_neg hp]
    refine AWP.seq ?_
    refine AWP.region ?_
    refine AOps.call (o_assign _ rfl rfl) ?_
    refine AOps.nil ?_
    refine AWP.ret ?_
    refine postQ.ret1 Tryd.results37 rfl ?_
    rw [hE]
    first
    | rfl
    | (simp_all [AV.close, AV.close.closeL, B, I]; done)
    | (simp_all [AV.close, AV.close.closeL, B, I]; intros; omega)
  · skip
    have hp : packE p = 0 := by simpa using h5
    have hE : bigB p = (decide (watL p > 3000) || decide (coldL p > 3000)) := by unfold bigB; rw [if_pos hp]
    have e1 : (if packE p = 0 then watL p else 0) = watL p := if_pos hp
    have e2 : (if packE p = 0 then coldL p else 0) = coldL p := if_pos hp
    refine AWP.skip ?_
    refine AWP.seq ?_
    refine AWP.region ?_
    refine AOps.call (o_loadRef _ rfl rfl Tryd.sizeOf24 Tryd.isAgg24 rfl rfl rfl) ?_
    refine AOps.call (o_call (rWater_s p) Tryd.call23 rfl rfl) ?_
    refine AOps.call (o_move _ rfl rfl) ?_
    refine AOps.call (o_extract _ rfl rfl rfl rfl) ?_
    refine AOps.call (o_extract _ rfl rfl rfl rfl) ?_
    refine AOps.call (o_assign _ rfl rfl) ?_
    refine AOps.call (o_assign _ rfl rfl) ?_
    refine AOps.nil ?_
    refine AWP.seq ?_
    refine AWP.region ?_
    refine AOps.call (o_loadRef _ rfl rfl Tryd.sizeOf24 Tryd.isAgg24 rfl rfl rfl) ?_
    refine AOps.call (o_call (rCold_s p) Tryd.call25 rfl rfl) ?_
    refine AOps.call (o_move _ rfl rfl) ?_
    refine AOps.call (o_extract _ rfl rfl rfl rfl) ?_
    refine AOps.call (o_extract _ rfl rfl rfl rfl) ?_
    refine AOps.call (o_assign _ rfl rfl) ?_
    refine AOps.call (o_assign _ rfl rfl) ?_
    refine AOps.nil ?_
    refine AWP.seq ?_
    refine AWP.region ?_
    refine AOps.call (o_move _ rfl rfl) ?_
    refine AOps.call (o_bin _ _ rfl rfl (fun _ => rfl) rfl) ?_
    refine AOps.call (o_move _ rfl rfl) ?_
    refine AOps.split rfl rfl rfl (fun h15 => ?_) (fun h15 => ?_)
    · skip
      refine AOps.go rfl rfl rfl h15 (o_move _ rfl rfl) ?_
      refine AOps.go rfl rfl rfl h15 (o_bin _ _ rfl rfl (fun _ => rfl) rfl) ?_
      refine AOps.call (o_pickF _ _ _ rfl h15 rfl rfl) ?_
      refine AOps.call (o_assign _ rfl rfl) ?_
      refine AOps.nil ?_
      refine AWP.ret ?_
      refine postQ.ret1 Tryd.results37 rfl ?_
      rw [hE]
      first
      | rfl
      | (simp_all [AV.close, AV.close.closeL, B, I]; done)
      | (simp_all [AV.close, AV.close.closeL, B, I]; intros; omega)
    · skip
      refine AOps.pass rfl rfl rfl h15 rfl ?_
      refine AOps.pass rfl rfl rfl h15 rfl ?_
      refine AOps.call (o_pickT _ _ _ rfl h15 rfl rfl) ?_
      refine AOps.call (o_assign _ rfl rfl) ?_
      refine AOps.nil ?_
      refine AWP.ret ?_
      refine postQ.ret1 Tryd.results37 rfl ?_
      rw [hE]
      first
      | rfl
      | (simp_all [AV.close, AV.close.closeL, B, I]; done)
      | (simp_all [AV.close, AV.close.closeL, B, I]; intros; omega)

end Go.Proofs.YtgagfmjpmdgfdaaDoor
