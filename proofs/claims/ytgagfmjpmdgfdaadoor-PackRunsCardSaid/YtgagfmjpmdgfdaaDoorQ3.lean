import Derived.Test.YtgagfmjpmdgfdaaDoorQ2
set_option linter.unusedSimpArgs false
set_option linter.unusedVariables false
namespace Go.Proofs.YtgagfmjpmdgfdaaDoor
open Go.Ab

theorem losO_top {m : Int} {l : Lay} (h : flo l) (h0 : 0 ≤ m) (h1 : m ≤ l.ice) : losO m m l ≤ 147000 ∧ losO m 0 l ≤ 147000 := by unfold flo losO at *; omega
theorem top_cons {p ls : List Lay} (hl : (p ++ ls).length = 64) (h : p.length ≠ 64) : ∃ l r, ls = l :: r := by
  cases ls with
  | nil => simp at hl; omega
  | cons a b => exact ⟨a, b, rfl⟩
theorem top_nil {p ls : List Lay} (hl : (p ++ ls).length = 64) (h : p.length = 64) : ls = [] := by
  cases ls with
  | nil => rfl
  | cons a b => simp at hl; omega

set_option maxRecDepth 20000 in
theorem melt_s (pre ls : List Lay) (much : Int) (hA : (pre ++ ls).length = 64) (hok : colOk ls) (h0 : 0 ≤ much ∧ much ≤ 4000000000000) : FSpecM Tryd.prog 73 [.ref (1000000, 0) 0, I much] [colC (pre ++ ls) pre.length] (I (melt pre ls much 0).2.2) none [colC ((melt pre ls much 0).1 ++ (melt pre ls much 0).2.1) (melt pre ls much 0).1.length] := by
  refine FSpecM.of_body Tryd.func73 rfl (leB rfl) (leB rfl) rfl fun w0 M0 => ?_
  refine AWP.seq ?_
  refine AWP.region ?_
  refine AOps.call (o_assign _ rfl rfl) ?_
  refine AOps.nil ?_
  refine AWP.seq ?_
  refine AWP.region ?_
  refine AOps.call (o_assign _ rfl rfl) ?_
  refine AOps.nil ?_
  refine AWP.seq ?_
  refine AWP.block ?_
  refine AWP.loop (ι := List Lay × List Lay × Int × Int) (fun i => AS.mk' 57 [(0, .ref (1000000, 0) 0), (1, I i.2.2.1), (5, I i.2.2.2)] [((1000000, 0), colC (i.1 ++ i.2.1) i.1.length)] [] [(1000000, 1)]) (fun i => (i.1 ++ i.2.1).length = 64 ∧ colOk i.2.1 ∧ (0 ≤ i.2.2.1 ∧ i.2.2.1 ≤ much) ∧ 0 ≤ i.2.2.2 ∧ (i.2.2.2 ≤ (64 - i.2.1.length) * 147000 ∨ (i.2.2.1 ≤ 0 ∧ i.2.2.2 ≤ 66 * 147000)) ∧ melt pre ls much 0 = melt i.1 i.2.1 i.2.2.1 i.2.2.2) (fun i => 2 * i.2.1.length + (if 0 < i.2.2.1 then 1 else 0)) (pre, ls, much, 0) (Weak.mk' rfl ⟨⟨.refl rfl, rfl⟩, ⟨⟨.refl rfl, rfl⟩, ⟨⟨.refl rfl, rfl⟩, trivial⟩⟩⟩ ⟨⟨rfl, lowL_sc _ _ (col_scs _ _), rfl⟩, trivial⟩ trivial) (⟨hA, hok, ⟨h0.1, Int.le_refl _⟩, Int.le_refl 0, .inl (by simp at hA ⊢; omega), rfl⟩) ?_
  rintro ⟨pre2, ls2, much2, out2⟩ ⟨hl, hk, hb, ho, ho2, heq⟩
  try dsimp only at *
  refine AWP.seq ?_
  refine AWP.seq ?_
  refine AWP.region ?_
  refine AOps.call (o_move _ rfl rfl) ?_
  refine AOps.call (o_bin _ _ rfl rfl (fun _ => rfl) rfl) ?_
  refine AOps.call (o_move _ rfl rfl) ?_
  refine AOps.split rfl rfl rfl (fun h5 => ?_) (fun h5 => ?_)
  · skip
    have hm : 0 < much2 := of_decide_eq_true h5
    refine AOps.go rfl rfl rfl h5 (o_move _ rfl rfl) ?_
    refine AOps.goS rfl rfl rfl h5 (o_callMC [(1000000, 0)] (empty_s _ _ hl) Tryd.call94 rfl rfl (lentOf1 (col_close _ _)) rfl rfl rfl) ?_
    refine AOps.go rfl rfl rfl h5 (o_un _ rfl (fun _ => rfl) rfl) ?_
    refine AOps.call (o_pickT _ _ _ rfl h5 rfl rfl) ?_
    refine AOps.nil ?_
    refine AWP.cond _ rfl (fun h9 => ?_) (fun h9 => ?_)
    · skip
      have hne : pre2.length ≠ 64 := by
        have hq : ¬((pre2.length : Nat) : Int) = 64 := by simpa using h9
        omega
      obtain ⟨l, r, rfl⟩ := top_cons hl hne
      have hlt : pre2.length + (r.length + 1) = 64 := by simpa using hl
      have hf := (hk l (by simp)).1
      have hic := (hk l (by simp)).2
      have hf0 := hf
      unfold flo at hf0
      have hA2 : ∀ (x : Lay), (pre2 ++ x :: r).length = 64 := fun x => by simp; omega
      have hk2 : colOk (⟨l.ice, l.wet, l.cold - (min much2 l.cold)⟩ :: r) := fun x hx => by
        simp only [List.mem_cons] at hx
        rcases hx with rfl | hx
        · exact ⟨by unfold flo; simp only []; omega, hic⟩
        · exact hk x (by simp [hx])
      have hq := losK_ok (pre := pre2) (ice := (min (much2 - min much2 l.cold) l.ice)) (wet := (min (much2 - min much2 l.cold) l.ice)) hk2 (by omega) (by simp only []; omega) (by omega)
      have hq2 := (losO_top (l := ⟨l.ice, l.wet, l.cold - (min much2 l.cold)⟩) (m := (min (much2 - min much2 l.cold) l.ice)) (hk2 _ (by simp)).1 (by omega) (by simp only []; omega)).1
      have ho3 : 0 ≤ out2 ∧ out2 ≤ 66 * 147000 := by omega
      refine AWP.skip ?_
      refine AWP.block ?_
      refine AWP.seq ?_
      refine AWP.drawn 9 mixed (by kernel_rfl) ?_
      refine AHead.call (o_move _ rfl rfl) rfl ?_
      refine AHead.call (o_move _ rfl rfl) rfl ?_
      refine AHead.call (o_nilCheck _ rfl rfl) rfl ?_
      refine AHead.call (o_fieldRef _ rfl fa102_1 rfl rfl) rfl ?_
      refine AHead.call (o_loadRefE _ rfl rfl Tryd.sizeOf3 Tryd.isAgg3 (col_top hl) rfl) rfl ?_
      refine AHead.call (o_nilCheck _ rfl rfl) rfl ?_
      refine AHead.call (o_fieldRef _ rfl fa102_0 rfl rfl) rfl ?_
      refine AHead.call (o_indexRef (o' := pre2.length * 3) _ _ Tryd.underlying100 Tryd.sizeOf28 rfl rfl (by omega) (by omega) (by omega) rfl) rfl ?_
      refine AHead.call (o_assign _ rfl rfl) rfl ?_
      refine AHead.nil ?_
      refine AOps.nil ?_
      refine AWP.seq ?_
      refine AWP.region ?_
      refine AOps.call (o_move _ rfl rfl) ?_
      refine AOps.call (o_move _ rfl rfl) ?_
      refine AOps.call (o_nilCheck _ rfl rfl) ?_
      refine AOps.call (o_fieldRef _ rfl fa28_2 rfl rfl) ?_
      refine AOps.call (o_loadRefE _ rfl rfl Tryd.sizeOf3 Tryd.isAgg3 (c_cold rfl) rfl) ?_
      refine AOps.call (o_minZ _ _ rfl rfl rfl) ?_
      refine AOps.call (o_assign _ rfl rfl) ?_
      refine AOps.nil ?_
      refine AWP.seq ?_
      refine AWP.region ?_
      refine AOps.call (o_move _ rfl rfl) ?_
      refine AOps.call (o_nilCheck _ rfl rfl) ?_
      refine AOps.call (o_fieldRef _ rfl fa28_2 rfl rfl) ?_
      refine AOps.call (o_loadRefE _ rfl rfl Tryd.sizeOf3 Tryd.isAgg3 (c_cold rfl) rfl) ?_
      refine AOps.call (o_move _ rfl rfl) ?_
      refine AOps.call (o_sub _ _ rfl rfl ⟨by (try dsimp only); omega, by (try dsimp only); omega⟩ rfl) ?_
      refine AOps.call (o_nilCheck _ rfl rfl) ?_
      refine AOps.call (o_fieldRef _ rfl fa28_2 rfl rfl) ?_
      refine AOps.cons (o_storeE _ _ rfl rfl Tryd.sizeOf3 rfl rfl (by rw [c_len]; omega) (c_scold rfl) rfl) ?_
      refine AOps.nil ?_
      refine AWP.seq ?_
      refine AWP.region ?_
      refine AOps.call (o_move _ rfl rfl) ?_
      refine AOps.call (o_move _ rfl rfl) ?_
      refine AOps.call (o_sub _ _ rfl rfl ⟨by (try dsimp only); omega, by (try dsimp only); omega⟩ rfl) ?_
      refine AOps.call (o_assign _ rfl rfl) ?_
      refine AOps.nil ?_
      refine AWP.seq ?_
      refine AWP.region ?_
      refine AOps.call (o_move _ rfl rfl) ?_
      refine AOps.call (o_move _ rfl rfl) ?_
      refine AOps.call (o_nilCheck _ rfl rfl) ?_
      refine AOps.call (o_fieldRef _ rfl fa28_0 rfl rfl) ?_
      refine AOps.call (o_loadRefE _ rfl rfl Tryd.sizeOf3 Tryd.isAgg3 (c_ice rfl) rfl) ?_
      refine AOps.call (o_minZ _ _ rfl rfl rfl) ?_
      refine AOps.call (o_assign _ rfl rfl) ?_
      refine AOps.nil ?_
      refine AWP.seq ?_
      refine AWP.region ?_
      refine AOps.call (o_move _ rfl rfl) ?_
      refine AOps.call (o_move _ rfl rfl) ?_
      refine AOps.call (o_sub _ _ rfl rfl ⟨by (try dsimp only); omega, by (try dsimp only); omega⟩ rfl) ?_
      refine AOps.call (o_assign _ rfl rfl) ?_
      refine AOps.nil ?_
      refine AWP.region ?_
      refine AOps.call (o_move _ rfl rfl) ?_
      refine AOps.call (o_move _ rfl rfl) ?_
      refine AOps.call (o_move _ rfl rfl) ?_
      refine AOps.call (o_move _ rfl rfl) ?_
      refine AOps.cons (o_callMC [(1000000, 0)] (lose_s pre2 r ⟨l.ice, l.wet, l.cold - (min much2 l.cold)⟩ (min (much2 - min much2 l.cold) l.ice) (min (much2 - min much2 l.cold) l.ice) (hA2 _) hk2 ⟨by omega, by simp only []; omega⟩ ⟨by omega, by omega⟩) Tryd.call95 rfl rfl (lentOf1 (col_close _ _)) rfl rfl rfl) ?_
      refine AOps.call (o_add _ _ rfl rfl ⟨by (try dsimp only); omega, by (try dsimp only); omega⟩ rfl) ?_
      refine AOps.call (o_assign _ rfl rfl) ?_
      refine AOps.nil ?_
      refine ⟨((losK pre2 ⟨l.ice, l.wet, l.cold - (min much2 l.cold)⟩ r (min (much2 - min much2 l.cold) l.ice) (min (much2 - min much2 l.cold) l.ice)).1, (losK pre2 ⟨l.ice, l.wet, l.cold - (min much2 l.cold)⟩ r (min (much2 - min much2 l.cold) l.ice) (min (much2 - min much2 l.cold) l.ice)).2.1, much2 - (min much2 l.cold) - (min (much2 - min much2 l.cold) l.ice), out2 + (losK pre2 ⟨l.ice, l.wet, l.cold - (min much2 l.cold)⟩ r (min (much2 - min much2 l.cold) l.ice) (min (much2 - min much2 l.cold) l.ice)).2.2), ?_, (Weak.mk' rfl ⟨⟨.refl rfl, rfl⟩, ⟨⟨.refl rfl, rfl⟩, ⟨⟨.refl rfl, rfl⟩, trivial⟩⟩⟩ ⟨⟨rfl, lowL_sc _ _ (col_scs _ _), rfl⟩, trivial⟩ trivial)⟩
      refine ⟨⟨by simp only [List.length_append]; omega, hq.1, ⟨by simp only []; omega, by simp only []; omega⟩, by simp only []; omega, ?_, by rw [heq, melt_cons hf hic hm]⟩, ?_⟩
      · simp only []
        by_cases hz : l.ice - min (much2 - min much2 l.cold) l.ice = 0
        · left
          have : ((losK pre2 ⟨l.ice, l.wet, l.cold - (min much2 l.cold)⟩ r (min (much2 - min much2 l.cold) l.ice) (min (much2 - min much2 l.cold) l.ice)).2.1).length = r.length := by unfold losK; rw [if_pos hz]; simp [pourL_len]
          rw [this]; simp only [List.length_cons] at ho2; omega
        · right
          simp only [List.length_cons] at ho2; omega
      · simp only [List.length_cons]
        by_cases hz : l.ice - min (much2 - min much2 l.cold) l.ice = 0
        · have : ((losK pre2 ⟨l.ice, l.wet, l.cold - (min much2 l.cold)⟩ r (min (much2 - min much2 l.cold) l.ice) (min (much2 - min much2 l.cold) l.ice)).2.1).length = r.length := by unfold losK; rw [if_pos hz]; simp [pourL_len]
          rw [this, if_pos hm]; split <;> omega
        · have : ((losK pre2 ⟨l.ice, l.wet, l.cold - (min much2 l.cold)⟩ r (min (much2 - min much2 l.cold) l.ice) (min (much2 - min much2 l.cold) l.ice)).2.1).length = r.length + 1 := by unfold losK; rw [if_neg hz]; simp [pourL_len]
          rw [this, if_pos hm, if_neg (by omega)]; omega
    · skip
      have hne : pre2.length = 64 := by
        have hq : ((pre2.length : Nat) : Int) = 64 := by simpa using h9
        omega
      have hend := melt_end (pre := pre2) (ls := ls2) (much := much2) (out := out2) (.inr (top_nil hl hne))
      refine AWP.exit ?_
      refine AWP.seq ?_
      refine AWP.region ?_
      refine AOps.call (o_move _ rfl rfl) ?_
      refine AOps.call (o_assign _ rfl rfl) ?_
      refine AOps.nil ?_
      refine AWP.ret ?_
      have hE := heq.trans hend
      exact ⟨⟨[I _], ⟨rfl, trivial⟩, by rw [hE]; rfl⟩, (by rw [hE]; exact col_close _ _), trivial⟩
  · skip
    have hm : much2 ≤ 0 := by have := of_decide_eq_false h5; omega
    have hend := melt_end (pre := pre2) (ls := ls2) (out := out2) (.inl hm)
    refine AOps.pass rfl rfl rfl h5 rfl ?_
    refine AOps.pass rfl rfl rfl h5 rfl ?_
    refine AOps.pass rfl rfl rfl h5 rfl ?_
    refine AOps.call (o_pickF _ _ _ rfl h5 rfl rfl) ?_
    refine AOps.nil ?_
    refine AWP.condF rfl ?_
    refine AWP.exit ?_
    refine AWP.seq ?_
    refine AWP.region ?_
    refine AOps.call (o_move _ rfl rfl) ?_
    refine AOps.call (o_assign _ rfl rfl) ?_
    refine AOps.nil ?_
    refine AWP.ret ?_
    have hE := heq.trans hend
    exact ⟨⟨[I _], ⟨rfl, trivial⟩, by rw [hE]; rfl⟩, (by rw [hE]; exact col_close _ _), trivial⟩

end Go.Proofs.YtgagfmjpmdgfdaaDoor
