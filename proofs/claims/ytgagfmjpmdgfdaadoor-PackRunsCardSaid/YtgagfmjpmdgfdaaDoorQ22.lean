import Derived.Test.YtgagfmjpmdgfdaaDoorQ21
set_option linter.unusedSimpArgs false
set_option linter.unusedVariables false
namespace Go.Proofs.YtgagfmjpmdgfdaaDoor
open Go.Ab

set_option maxHeartbeats 4000000 in
set_option maxRecDepth 20000 in
theorem rlose_s (l : Lay) (r : List Lay) (more : Int) (hok : colOk (l :: r)) (hr : r.length ≤ 1000) (hm : 0 ≤ more ∧ more ≤ 1) : FSpecW Tryd.prog 93 [.sl (lays (l :: r)), I more] (rowC (losK [] l r 1 more).2.1) ((lays (losK [] l r 1 more).2.1).length) (.int .i64 (losK [] l r 1 more).2.2) := by
  refine FSpecW.of_body Tryd.func93 rfl (leB rfl) fun w0 M0 => ?_
  have hl := hok l (by simp)
  have hf := hl.1
  unfold flo at hf
  have hrf : ∀ x ∈ r, flo x := fun x hx => (hok x (by simp [hx])).1
  have hrl := lays_len r
  refine AWP.seq ?_
  refine AWP.region ?_
  refine AOps.call (o_nil (z := 3) (e := 28) rfl) ?_
  refine AOps.call (o_assign _ rfl rfl) ?_
  refine AOps.nil ?_
  refine AWP.seq ?_
  refine AWP.region ?_
  refine AOps.call (o_move _ rfl rfl) ?_
  refine AOps.call (o_index _ _ Tryd.underlying22 Tryd.sizeOf28 rfl rfl (by omega) (el := eL l) rfl rfl rfl) ?_
  refine AOps.call (o_loadRd _ rfl Tryd.sizeOf28 Tryd.isAgg28 rfl rfl rfl) ?_
  refine AOps.call (o_alloc ze28 rfl rfl) ?_
  refine AOps.cons (o_store _ _ rfl rfl Tryd.sizeOf28 rfl rfl rfl rfl rfl) ?_
  refine AOps.nil ?_
  refine AWP.seq ?_
  refine AWP.region ?_
  refine AOps.call (o_lit Tryd.underlying22 Tryd.sizeOf28 Tryd.zeroValue28 rfl rfl rfl rfl rfl rfl rfl) ?_
  refine AOps.call (o_move _ rfl rfl) ?_
  refine AOps.call (o_sliceE (l := 1) (hh := (lays (l :: r)).length) (rs := lays r) _ _ _ Tryd.underlying22 Tryd.sizeOf28 rfl (boundA_some rfl (by omega) (by omega)) rfl (by simp [lays]) (Nat.le_refl _) lays_z (by simp [lays, List.take_of_length_le]) rfl) ?_
  refine AOps.cons (o_append _ _ Tryd.underlying22 info28 rfl rfl rfl rfl rfl rfl rfl rfl lays_z (fun c h => by cases h) (by unfold Tryd.t28; simp only [List.length_nil]; omega) rfl (List.nil_append _) rfl) ?_
  refine AOps.call (o_assign _ rfl rfl) ?_
  refine AOps.nil ?_
  refine AWP.seq ?_
  refine AWP.region ?_
  refine AOps.call (o_fieldRef _ rfl fa28_0 rfl rfl) ?_
  refine AOps.call (o_loadRef _ rfl rfl Tryd.sizeOf3 Tryd.isAgg3 rfl rfl rfl) ?_
  refine AOps.call (o_sub _ _ rfl rfl ⟨by (try dsimp only); omega, by (try dsimp only); omega⟩ rfl) ?_
  refine AOps.call (o_fieldRef _ rfl fa28_0 rfl rfl) ?_
  refine AOps.cons (o_store _ _ rfl rfl Tryd.sizeOf3 rfl rfl rfl rfl rfl) ?_
  refine AOps.nil ?_
  refine AWP.seq ?_
  refine AWP.region ?_
  refine AOps.call (o_fieldRef _ rfl fa28_1 rfl rfl) ?_
  refine AOps.call (o_loadRef _ rfl rfl Tryd.sizeOf3 Tryd.isAgg3 rfl rfl rfl) ?_
  refine AOps.call (o_move _ rfl rfl) ?_
  refine AOps.call (o_add _ _ rfl rfl ⟨by (try dsimp only); omega, by (try dsimp only); omega⟩ rfl) ?_
  refine AOps.call (o_assign _ rfl rfl) ?_
  refine AOps.nil ?_
  refine AWP.seq ?_
  refine AWP.region ?_
  refine AOps.call (o_move _ rfl rfl) ?_
  refine AOps.call (o_loadRef _ rfl rfl Tryd.sizeOf28 Tryd.isAgg28 rfl rfl rfl) ?_
  refine AOps.call (o_call (rhold_s ⟨l.ice - 1, l.wet, l.cold⟩ ⟨by (try dsimp only); omega, by (try dsimp only); omega⟩) Tryd.call62 rfl rfl) ?_
  refine AOps.call (o_minZ _ _ rfl rfl rfl) ?_
  refine AOps.call (o_fieldRef _ rfl fa28_1 rfl rfl) ?_
  refine AOps.cons (o_store _ _ rfl rfl Tryd.sizeOf3 rfl rfl rfl rfl rfl) ?_
  refine AOps.nil ?_
  refine AWP.seq ?_
  refine AWP.seq ?_
  refine AWP.region ?_
  refine AOps.call (o_fieldRef _ rfl fa28_0 rfl rfl) ?_
  refine AOps.call (o_loadRef _ rfl rfl Tryd.sizeOf3 Tryd.isAgg3 rfl rfl rfl) ?_
  refine AOps.call (o_bin _ _ rfl rfl (fun _ => rfl) rfl) ?_
  refine AOps.nil ?_
  refine AWP.cond _ rfl (fun h26 => ?_) (fun h26 => ?_)
  · skip
    have hz : l.ice - 1 = 0 := by simpa using h26
    have hO : losO 1 more l = (l.wet + more) := by unfold losO; omega
    have hE : losK [] l r 1 more = ([losF 1 more l], (pourL (l.wet + more) r).2, (pourL (l.wet + more) r).1) := by unfold losK; rw [if_pos hz, hO]; rfl
    refine AWP.seq ?_
    refine AWP.region ?_
    refine AOps.call (o_move _ rfl rfl) ?_
    refine AOps.call (o_move _ rfl rfl) ?_
    refine AOps.callW (rflow_s r (l.wet + more) hrf hr ⟨by omega, by omega⟩) Tryd.call92 rfl rfl ?_
    refine AOps.call (o_extract _ rfl rfl rfl rfl) ?_
    refine AOps.call (o_extract _ rfl rfl rfl rfl) ?_
    refine AOps.call (o_assign _ rfl rfl) ?_
    refine AOps.call (o_assign _ rfl rfl) ?_
    refine AOps.nil ?_
    refine AWP.ret ?_
    rw [hE]
    first
    | exact .inl ⟨(35, 0), _, ⟨rfl, rfl, trivial⟩, row_close _⟩
    | exact .inr ⟨(48, 0), lays (⟨l.ice - 1, min (l.wet + more) ((l.ice - 1) / 20), l.cold⟩ :: (pourL (l.wet + more - min (l.wet + more) ((l.ice - 1) / 20)) r).2), 3, 28, ⟨rfl, rfl, trivial⟩, rfl, by omega, rfl, rfl, by simp [lays], lays_z, lays_scs _⟩
  · skip
    have hz : ¬ l.ice - 1 = 0 := by simpa using h26
    have hO : losO 1 more l = (l.wet + more - min (l.wet + more) ((l.ice - 1) / 20)) := by unfold losO; omega
    have hF : losF 1 more l = ⟨l.ice - 1, min (l.wet + more) ((l.ice - 1) / 20), l.cold⟩ := by unfold losF; congr 1; omega
    have hE : losK [] l r 1 more = ([], ⟨l.ice - 1, min (l.wet + more) ((l.ice - 1) / 20), l.cold⟩ :: (pourL (l.wet + more - min (l.wet + more) ((l.ice - 1) / 20)) r).2, (pourL (l.wet + more - min (l.wet + more) ((l.ice - 1) / 20)) r).1) := by unfold losK; rw [if_neg hz, hO, hF]
    refine AWP.skip ?_
    refine AWP.seq ?_
    refine AWP.region ?_
    refine AOps.call (o_move _ rfl rfl) ?_
    refine AOps.call (o_move _ rfl rfl) ?_
    refine AOps.call (o_fieldRef _ rfl fa28_1 rfl rfl) ?_
    refine AOps.call (o_loadRef _ rfl rfl Tryd.sizeOf3 Tryd.isAgg3 rfl rfl rfl) ?_
    refine AOps.call (o_sub _ _ rfl rfl ⟨by (try dsimp only); omega, by (try dsimp only); omega⟩ rfl) ?_
    refine AOps.callW (rflow_s r (l.wet + more - min (l.wet + more) ((l.ice - 1) / 20)) hrf hr ⟨by omega, by omega⟩) Tryd.call92 rfl rfl ?_
    refine AOps.call (o_move _ rfl rfl) ?_
    refine AOps.call (o_extract _ rfl rfl rfl rfl) ?_
    refine AOps.call (o_extract _ rfl rfl rfl rfl) ?_
    refine AOps.call (o_assign _ rfl rfl) ?_
    refine AOps.call (o_assign _ rfl rfl) ?_
    refine AOps.nil ?_
    refine AWP.seq ?_
    refine AWP.region ?_
    refine AOps.weak (Weak.frzP (id := (44, 0)) (t := 7) (z := 3) (es := lays (pourL (l.wet + more - min (l.wet + more) ((l.ice - 1) / 20)) r).2) (cs' := rowC (pourL (l.wet + more - min (l.wet + more) ((l.ice - 1) / 20)) r).2) rfl rfl (row_close _) (fun j c h => h) lays_z rfl) ?_
    refine AOps.call (o_loadRef _ rfl rfl Tryd.sizeOf28 Tryd.isAgg28 rfl rfl rfl) ?_
    refine AOps.call (o_lit Tryd.underlying22 Tryd.sizeOf28 Tryd.zeroValue28 rfl rfl rfl rfl rfl rfl rfl) ?_
    refine AOps.call (o_move _ rfl rfl) ?_
    refine AOps.cons (o_append _ _ Tryd.underlying22 info28 rfl rfl rfl rfl rfl rfl rfl rfl lays_z (fun c h => by simp at h; subst h; rfl) (by unfold Tryd.t28; simp only [List.length_cons, List.length_nil]; rw [lays_len, pourL_len]; omega) rfl (show _ = lays (⟨l.ice - 1, min (l.wet + more) ((l.ice - 1) / 20), l.cold⟩ :: (pourL (l.wet + more - min (l.wet + more) ((l.ice - 1) / 20)) r).2) from rfl) rfl) ?_
    refine AOps.call (o_move _ rfl rfl) ?_
    refine AOps.call (o_assign _ rfl rfl) ?_
    refine AOps.call (o_assign _ rfl rfl) ?_
    refine AOps.nil ?_
    refine AWP.ret ?_
    rw [hE]
    first
    | exact .inl ⟨(35, 0), _, ⟨rfl, rfl, trivial⟩, row_close _⟩
    | exact .inr ⟨(48, 0), lays (⟨l.ice - 1, min (l.wet + more) ((l.ice - 1) / 20), l.cold⟩ :: (pourL (l.wet + more - min (l.wet + more) ((l.ice - 1) / 20)) r).2), 3, 28, ⟨rfl, rfl, trivial⟩, rfl, by omega, rfl, rfl, by simp [lays], lays_z, lays_scs _⟩

end Go.Proofs.YtgagfmjpmdgfdaaDoor
