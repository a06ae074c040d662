import Derived.Test.YtgagfmjpmdgfdaaDoorQ4
set_option linter.unusedSimpArgs false
set_option linter.unusedVariables false
namespace Go.Proofs.YtgagfmjpmdgfdaaDoor
open Go.Ab

theorem frzL_ok : ∀ {ls : List Lay} {much : Int}, (∀ l ∈ ls, flo l) → 0 ≤ much → 0 ≤ (frzL much ls).1 ∧ (frzL much ls).1 ≤ much ∧ (∀ l ∈ (frzL much ls).2, 0 ≤ l.cold ∧ l.cold ≤ 140000) := by
  intro ls
  induction ls with
  | nil => intro much _ h; simp [frzL, h]
  | cons l r ih =>
    intro much h h0
    have h1 := frzF_ok (left := much) (h l (by simp)) h0
    have h2 := ih (much := (frzF much l).1) (fun x hx => h x (by simp [hx])) h1.1
    have h3 := h l (by simp)
    simp only [frzL, List.mem_cons, forall_eq_or_imp]
    exact ⟨h2.1, by omega, ⟨by unfold flo at h3; unfold frzF; simp only []; omega, h2.2.2⟩⟩

set_option maxRecDepth 20000 in
theorem freeze_s (pre ls : List Lay) (much : Int) (hA : (pre ++ ls).length = 64) (hok : ∀ x ∈ ls, flo x) (h0 : 0 ≤ much ∧ much ≤ 4000000000000) : FSpecM Tryd.prog 91 [.ref (1000000, 0) 0, I much] [colC (pre ++ ls) pre.length] (.tup []) none [colC (pre ++ frzK much ls) pre.length] := by
  refine FSpecM.of_body Tryd.func91 rfl (leB rfl) (leB rfl) rfl fun w0 M0 => ?_
  have hl : (pre ++ (frzL much ls).2).length = 64 := by simp [frzL_len]; simpa using hA
  have hq := frzL_ok hok h0.1
  refine AWP.seq ?_
  refine AWP.region ?_
  refine AOps.call (o_move _ rfl rfl) ?_
  refine AOps.call (o_build bu123 rfl rfl rfl) ?_
  refine AOps.call (o_alloc ze123 rfl rfl) ?_
  refine AOps.cons (o_store _ _ rfl rfl Tryd.sizeOf123 rfl rfl rfl rfl rfl) ?_
  refine AOps.nil ?_
  refine AWP.seq ?_
  refine AWP.region ?_
  refine AOps.call (o_move _ rfl rfl) ?_
  refine AOps.call (o_move _ rfl rfl) ?_
  refine AOps.call (o_nilCheck _ rfl rfl) ?_
  refine AOps.call (o_fieldRef _ rfl fa102_1 rfl rfl) ?_
  refine AOps.call (o_loadRefE _ rfl rfl Tryd.sizeOf3 Tryd.isAgg3 (col_top hA) rfl) ?_
  refine AOps.call (o_makeBnd rfl rfl) ?_
  refine AOps.cons (o_callMC [(1000000, 0), (4, 0)] (eachFrost_s pre ls pre.length much _ rfl hA hok ⟨by omega, by omega⟩) Tryd.call100 rfl rfl (lentOf2 (col_close _ _) rfl) rfl rfl rfl) ?_
  refine AOps.nil ?_
  refine AWP.seq ?_
  refine AWP.region ?_
  refine AOps.call (o_move _ rfl rfl) ?_
  refine AOps.cons (o_callMC [(1000000, 0)] (empty_s _ _ hl) Tryd.call94 rfl rfl (lentOf1 (col_close _ _)) rfl rfl rfl) ?_
  refine AOps.call (o_un _ rfl (fun _ => rfl) rfl) ?_
  refine AOps.nil ?_
  refine AWP.cond _ rfl (fun h14 => ?_) (fun h14 => ?_)
  · skip
    have hne : pre.length ≠ 64 := by
      have hq : ¬((pre.length : Nat) : Int) = 64 := by simpa using h14
      omega
    obtain ⟨l, r, hf⟩ := top_cons hl hne
    have hlt : pre.length + (r.length + 1) = 64 := by rw [hf] at hl; simpa using hl
    have hlc := hq.2.2 l (by rw [hf]; simp)
    have hE : frzK much ls = ⟨l.ice, l.wet, l.cold + (frzL much ls).1⟩ :: r := by unfold frzK; rw [hf]; rfl
    rw [hf]
    refine AWP.drawn 17 mixed (by kernel_rfl) ?_
    refine AHead.call (o_move _ rfl rfl) rfl ?_
    refine AHead.call (o_move _ rfl rfl) rfl ?_
    refine AHead.call (o_nilCheck _ rfl rfl) rfl ?_
    refine AHead.call (o_fieldRef _ rfl fa102_1 rfl rfl) rfl ?_
    refine AHead.call (o_loadRefE _ rfl rfl Tryd.sizeOf3 Tryd.isAgg3 (by rw [← hf]; exact col_top hl) rfl) rfl ?_
    refine AHead.call (o_nilCheck _ rfl rfl) rfl ?_
    refine AHead.call (o_fieldRef _ rfl fa102_0 rfl rfl) rfl ?_
    refine AHead.call (o_indexRef (o' := pre.length * 3) _ _ Tryd.underlying100 Tryd.sizeOf28 rfl rfl (by omega) (by omega) (by omega) rfl) rfl ?_
    refine AHead.call (o_fieldRef _ rfl fa28_2 rfl rfl) rfl ?_
    refine AHead.call (o_loadRefE _ rfl rfl Tryd.sizeOf3 Tryd.isAgg3 (c_cold rfl) rfl) rfl ?_
    refine AHead.call (o_fieldRef _ rfl fa123_0 rfl rfl) rfl ?_
    refine AHead.call (o_loadRef _ rfl rfl Tryd.sizeOf3 Tryd.isAgg3 rfl rfl rfl) rfl ?_
    refine AHead.call (o_add _ _ rfl rfl ⟨by (try dsimp only); omega, by (try dsimp only); omega⟩ rfl) rfl ?_
    refine AHead.call (o_nilCheck _ rfl rfl) rfl ?_
    refine AHead.call (o_fieldRef _ rfl fa102_0 rfl rfl) rfl ?_
    refine AHead.call (o_indexRef (o' := pre.length * 3) _ _ Tryd.underlying100 Tryd.sizeOf28 rfl rfl (by omega) (by omega) (by omega) rfl) rfl ?_
    refine AHead.call (o_fieldRef _ rfl fa28_2 rfl rfl) rfl ?_
    refine AHead.nil ?_
    refine AOps.cons (o_storeE _ _ rfl rfl Tryd.sizeOf3 rfl rfl (by rw [c_len]; omega) (c_scold rfl) rfl) ?_
    refine AOps.nil ?_
    exact ⟨⟨[], trivial, rfl⟩, (by rw [hE]; exact col_close _ _), trivial⟩
  · skip
    have hne : pre.length = 64 := by
      have hq : ((pre.length : Nat) : Int) = 64 := by simpa using h14
      omega
    have hf := top_nil hl hne
    have hE : frzK much ls = (frzL much ls).2 := by unfold frzK; rw [hf]; rfl
    refine AWP.skip ?_
    exact ⟨⟨[], trivial, rfl⟩, (by rw [hE]; exact col_close _ _), trivial⟩

end Go.Proofs.YtgagfmjpmdgfdaaDoor
