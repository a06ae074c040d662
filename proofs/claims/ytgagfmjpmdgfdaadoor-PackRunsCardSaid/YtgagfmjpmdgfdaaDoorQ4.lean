import Derived.Test.YtgagfmjpmdgfdaaDoorQ3
import Derived.Test.YtgagfmjpmdgfdaaDoorP4
set_option linter.unusedSimpArgs false
set_option linter.unusedVariables false
namespace Go.Proofs.YtgagfmjpmdgfdaaDoor
open Go.Ab

set_option maxRecDepth 20000 in
theorem take_s (pre ls : List Lay) (much : Int) (hA : (pre ++ ls).length = 64) (hok : colOk ls) (h0 : 0 ≤ much ∧ much ≤ 4000000000000) : FSpecM Tryd.prog 86 [.ref (1000000, 0) 0, I much] [colC (pre ++ ls) pre.length] (.tup [I (take pre ls much 0 0).2.2.1, I (take pre ls much 0 0).2.2.2]) none [colC ((take pre ls much 0 0).1 ++ (take pre ls much 0 0).2.1) (take pre ls much 0 0).1.length] := by
  refine FSpecM.of_body Tryd.func86 rfl (leB rfl) (leB rfl) rfl fun w0 M0 => ?_
  refine AWP.seq ?_
  refine AWP.region ?_
  refine AOps.call (o_assign _ rfl rfl) ?_
  refine AOps.call (o_assign _ rfl rfl) ?_
  refine AOps.nil ?_
  refine AWP.seq ?_
  refine AWP.region ?_
  refine AOps.call (o_assign _ rfl rfl) ?_
  refine AOps.call (o_assign _ rfl rfl) ?_
  refine AOps.nil ?_
  refine AWP.seq ?_
  refine AWP.block ?_
  refine AWP.loop (ι := List Lay × List Lay × Int × Int) (fun i => AS.mk' 41 [(0, .ref (1000000, 0) 0), (1, I much), (6, I i.2.2.1), (7, I i.2.2.2)] [((1000000, 0), colC (i.1 ++ i.2.1) i.1.length)] [] [(1000000, 1)]) (fun i => (i.1 ++ i.2.1).length = 64 ∧ colOk i.2.1 ∧ (0 ≤ i.2.2.1 ∧ i.2.2.1 ≤ much) ∧ 0 ≤ i.2.2.2 ∧ (i.2.2.2 ≤ (64 - i.2.1.length) * 147000 ∨ (much ≤ i.2.2.1 ∧ i.2.2.2 ≤ 66 * 147000)) ∧ take pre ls much 0 0 = take i.1 i.2.1 much i.2.2.1 i.2.2.2) (fun i => 2 * i.2.1.length + (if i.2.2.1 < much then 1 else 0)) (pre, ls, 0, 0) (Weak.mk' rfl ⟨⟨.refl rfl, rfl⟩, ⟨⟨.refl rfl, rfl⟩, ⟨⟨.refl rfl, rfl⟩, ⟨⟨.refl rfl, rfl⟩, trivial⟩⟩⟩⟩ ⟨⟨rfl, lowL_sc _ _ (col_scs _ _), rfl⟩, trivial⟩ trivial) (⟨hA, hok, ⟨Int.le_refl 0, h0.1⟩, Int.le_refl 0, .inl (by simp at hA ⊢; omega), rfl⟩) ?_
  rintro ⟨pre2, ls2, tk2, out2⟩ ⟨hl, hk, hb, ho, ho2, heq⟩
  try dsimp only at *
  refine AWP.seq ?_
  refine AWP.seq ?_
  refine AWP.region ?_
  refine AOps.call (o_move _ rfl rfl) ?_
  refine AOps.call (o_move _ rfl rfl) ?_
  refine AOps.call (o_bin _ _ rfl rfl (fun _ => rfl) rfl) ?_
  refine AOps.call (o_move _ rfl rfl) ?_
  refine AOps.split rfl rfl rfl (fun h7 => ?_) (fun h7 => ?_)
  · skip
    have hm : tk2 < much := of_decide_eq_true h7
    refine AOps.go rfl rfl rfl h7 (o_move _ rfl rfl) ?_
    refine AOps.goS rfl rfl rfl h7 (o_callMC [(1000000, 0)] (empty_s _ _ hl) Tryd.call94 rfl rfl (lentOf1 (col_close _ _)) rfl rfl rfl) ?_
    refine AOps.go rfl rfl rfl h7 (o_un _ rfl (fun _ => rfl) rfl) ?_
    refine AOps.call (o_pickT _ _ _ rfl h7 rfl rfl) ?_
    refine AOps.nil ?_
    refine AWP.cond _ rfl (fun h11 => ?_) (fun h11 => ?_)
    · skip
      have hne : pre2.length ≠ 64 := by
        have hq : ¬((pre2.length : Nat) : Int) = 64 := by simpa using h11
        omega
      obtain ⟨l, r, rfl⟩ := top_cons hl hne
      have hlt : pre2.length + (r.length + 1) = 64 := by simpa using hl
      have hf := (hk l (by simp)).1
      have hic := (hk l (by simp)).2
      have hf0 := hf
      unfold flo at hf0
      have hA2 : ∀ (x : Lay), (pre2 ++ x :: r).length = 64 := fun x => by simp; omega
      have hq := losK_ok (pre := pre2) (ice := (min (much - tk2) l.ice)) (wet := 0) hk (by omega) (by omega) (by omega)
      have hq2 := (losO_top (l := l) (m := (min (much - tk2) l.ice)) hf (by omega) (by omega)).2
      have ho3 : 0 ≤ out2 ∧ out2 ≤ 66 * 147000 := by omega
      refine AWP.skip ?_
      refine AWP.block ?_
      refine AWP.seq ?_
      refine AWP.drawn 15 mixed (by kernel_rfl) ?_
      refine AHead.call (o_move _ rfl rfl) rfl ?_
      refine AHead.call (o_move _ rfl rfl) rfl ?_
      refine AHead.call (o_sub _ _ rfl rfl ⟨by (try dsimp only); omega, by (try dsimp only); omega⟩ rfl) rfl ?_
      refine AHead.call (o_move _ rfl rfl) rfl ?_
      refine AHead.call (o_move _ rfl rfl) rfl ?_
      refine AHead.call (o_nilCheck _ rfl rfl) rfl ?_
      refine AHead.call (o_fieldRef _ rfl fa102_1 rfl rfl) rfl ?_
      refine AHead.call (o_loadRefE _ rfl rfl Tryd.sizeOf3 Tryd.isAgg3 (col_top hl) rfl) rfl ?_
      refine AHead.call (o_nilCheck _ rfl rfl) rfl ?_
      refine AHead.call (o_fieldRef _ rfl fa102_0 rfl rfl) rfl ?_
      refine AHead.call (o_indexRef (o' := pre2.length * 3) _ _ Tryd.underlying100 Tryd.sizeOf28 rfl rfl (by omega) (by omega) (by omega) rfl) rfl ?_
      refine AHead.call (o_fieldRef _ rfl fa28_0 rfl rfl) rfl ?_
      refine AHead.call (o_loadRefE _ rfl rfl Tryd.sizeOf3 Tryd.isAgg3 (c_ice rfl) rfl) rfl ?_
      refine AHead.call (o_minZ _ _ rfl rfl rfl) rfl ?_
      refine AHead.call (o_assign _ rfl rfl) rfl ?_
      refine AHead.nil ?_
      refine AOps.nil ?_
      refine AWP.seq ?_
      refine AWP.region ?_
      refine AOps.call (o_move _ rfl rfl) ?_
      refine AOps.call (o_move _ rfl rfl) ?_
      refine AOps.call (o_add _ _ rfl rfl ⟨by (try dsimp only); omega, by (try dsimp only); omega⟩ rfl) ?_
      refine AOps.call (o_assign _ rfl rfl) ?_
      refine AOps.nil ?_
      refine AWP.region ?_
      refine AOps.call (o_move _ rfl rfl) ?_
      refine AOps.call (o_move _ rfl rfl) ?_
      refine AOps.call (o_move _ rfl rfl) ?_
      refine AOps.cons (o_callMC [(1000000, 0)] (lose_s pre2 r l (min (much - tk2) l.ice) 0 (hA2 _) hk ⟨by omega, by omega⟩ ⟨by omega, by omega⟩) Tryd.call95 rfl rfl (lentOf1 (col_close _ _)) rfl rfl rfl) ?_
      refine AOps.call (o_add _ _ rfl rfl ⟨by (try dsimp only); omega, by (try dsimp only); omega⟩ rfl) ?_
      refine AOps.call (o_assign _ rfl rfl) ?_
      refine AOps.nil ?_
      refine ⟨((losK pre2 l r (min (much - tk2) l.ice) 0).1, (losK pre2 l r (min (much - tk2) l.ice) 0).2.1, tk2 + (min (much - tk2) l.ice), out2 + (losK pre2 l r (min (much - tk2) l.ice) 0).2.2), ?_, (Weak.mk' rfl ⟨⟨.refl rfl, rfl⟩, ⟨⟨.refl rfl, rfl⟩, ⟨⟨.refl rfl, rfl⟩, ⟨⟨.refl rfl, rfl⟩, trivial⟩⟩⟩⟩ ⟨⟨rfl, lowL_sc _ _ (col_scs _ _), rfl⟩, trivial⟩ trivial)⟩
      refine ⟨⟨by simp only [List.length_append]; omega, hq.1, ⟨by simp only []; omega, by simp only []; omega⟩, by simp only []; omega, ?_, by rw [heq, take_cons hf hic hm]⟩, ?_⟩
      · simp only []
        by_cases hz : l.ice - min (much - tk2) l.ice = 0
        · left
          have : ((losK pre2 l r (min (much - tk2) l.ice) 0).2.1).length = r.length := by unfold losK; rw [if_pos hz]; simp [pourL_len]
          rw [this]; simp only [List.length_cons] at ho2; omega
        · right
          simp only [List.length_cons] at ho2; omega
      · simp only [List.length_cons]
        by_cases hz : l.ice - min (much - tk2) l.ice = 0
        · have : ((losK pre2 l r (min (much - tk2) l.ice) 0).2.1).length = r.length := by unfold losK; rw [if_pos hz]; simp [pourL_len]
          rw [this, if_pos hm]; split <;> omega
        · have : ((losK pre2 l r (min (much - tk2) l.ice) 0).2.1).length = r.length + 1 := by unfold losK; rw [if_neg hz]; simp [pourL_len]
          rw [this, if_pos hm, if_neg (by omega)]; omega
    · skip
      have hne : pre2.length = 64 := by
        have hq : ((pre2.length : Nat) : Int) = 64 := by simpa using h11
        omega
      have hend := take_end (pre := pre2) (ls := ls2) (much := much) (taken := tk2) (out := out2) (.inr (top_nil hl hne))
      refine AWP.exit ?_
      refine AWP.seq ?_
      refine AWP.region ?_
      refine AOps.call (o_move _ rfl rfl) ?_
      refine AOps.call (o_move _ rfl rfl) ?_
      refine AOps.call (o_assign _ rfl rfl) ?_
      refine AOps.call (o_assign _ rfl rfl) ?_
      refine AOps.nil ?_
      refine AWP.ret ?_
      have hE := heq.trans hend
      exact ⟨⟨[I _, I _], ⟨rfl, rfl, trivial⟩, by rw [hE]; rfl⟩, (by rw [hE]; exact col_close _ _), trivial⟩
  · skip
    have hm : much ≤ tk2 := by have := of_decide_eq_false h7; omega
    have hend := take_end (pre := pre2) (ls := ls2) (out := out2) (.inl hm)
    refine AOps.pass rfl rfl rfl h7 rfl ?_
    refine AOps.pass rfl rfl rfl h7 rfl ?_
    refine AOps.pass rfl rfl rfl h7 rfl ?_
    refine AOps.call (o_pickF _ _ _ rfl h7 rfl rfl) ?_
    refine AOps.nil ?_
    refine AWP.condF rfl ?_
    refine AWP.exit ?_
    refine AWP.seq ?_
    refine AWP.region ?_
    refine AOps.call (o_move _ rfl rfl) ?_
    refine AOps.call (o_move _ rfl rfl) ?_
    refine AOps.call (o_assign _ rfl rfl) ?_
    refine AOps.call (o_assign _ rfl rfl) ?_
    refine AOps.nil ?_
    refine AWP.ret ?_
    have hE := heq.trans hend
    exact ⟨⟨[I _, I _], ⟨rfl, rfl, trivial⟩, by rw [hE]; rfl⟩, (by rw [hE]; exact col_close _ _), trivial⟩

set_option maxRecDepth 20000 in
theorem snow_s (pre ls : List Lay) (much cold : Int) (hA : (pre ++ ls).length = 64) : FSpecM Tryd.prog 89 [.ref (1000000, 0) 0, I much, I cold] [colC (pre ++ ls) pre.length] (I (snwK pre ls much cold).2.2) none [colC ((snwK pre ls much cold).1 ++ (snwK pre ls much cold).2.1) (snwK pre ls much cold).1.length] := by
  refine FSpecM.of_body Tryd.func89 rfl (leB rfl) (leB rfl) rfl fun w0 M0 => ?_
  refine AWP.seq ?_
  refine AWP.region ?_
  refine AOps.call (o_assign _ rfl rfl) ?_
  refine AOps.nil ?_
  refine AWP.seq ?_
  refine AWP.seq ?_
  refine AWP.region ?_
  refine AOps.call (o_move _ rfl rfl) ?_
  refine AOps.call (o_bin _ _ rfl rfl (fun _ => rfl) rfl) ?_
  refine AOps.nil ?_
  refine AWP.cond _ rfl (fun h4 => ?_) (fun h4 => ?_)
  · skip
    have hz : much = 0 := by simpa using h4
    have hE : (snwK pre ls much cold) = (pre, ls, 0) := if_pos hz
    refine AWP.seq ?_
    refine AWP.region ?_
    refine AOps.call (o_assign _ rfl rfl) ?_
    refine AOps.nil ?_
    refine AWP.ret ?_
    exact ⟨⟨[I _], ⟨rfl, trivial⟩, by rw [hE]; rfl⟩, (by rw [hE]; exact col_close _ _), trivial⟩
  · skip
    have hz : ¬ much = 0 := by simpa using h4
    refine AWP.skip ?_
    refine AWP.seq ?_
    refine AWP.seq ?_
    refine AWP.region ?_
    refine AOps.call (o_move _ rfl rfl) ?_
    refine AOps.call (o_nilCheck _ rfl rfl) ?_
    refine AOps.call (o_fieldRef _ rfl fa102_1 rfl rfl) ?_
    refine AOps.call (o_loadRefE _ rfl rfl Tryd.sizeOf3 Tryd.isAgg3 (col_top hA) rfl) ?_
    refine AOps.call (o_bin _ _ rfl rfl (fun _ => rfl) rfl) ?_
    refine AOps.nil ?_
    refine AWP.cond _ rfl (fun h11 => ?_) (fun h11 => ?_)
    · skip
      have hp : pre.length = 0 := by
        have hq : ((pre.length : Nat) : Int) = 0 := by simpa using h11
        omega
      have hE : (snwK pre ls much cold) = (pre, ls, 2) := by unfold snwK; rw [if_neg hz, if_pos hp]
      refine AWP.seq ?_
      refine AWP.region ?_
      refine AOps.call (o_assign _ rfl rfl) ?_
      refine AOps.nil ?_
      refine AWP.ret ?_
      exact ⟨⟨[I _], ⟨rfl, trivial⟩, by rw [hE]; rfl⟩, (by rw [hE]; exact col_close _ _), trivial⟩
    · skip
      have hp : ¬ pre.length = 0 := by
        have hq : ¬((pre.length : Nat) : Int) = 0 := by simpa using h11
        omega
      obtain ⟨P2, x, rfl⟩ : ∃ P2 x, pre = P2 ++ [x] := ⟨pre.dropLast, pre.getLast (by intro h; subst h; exact hp rfl), (List.dropLast_concat_getLast _).symm⟩
      have hE : (snwK (P2 ++ [x]) ls much cold) = (P2, ⟨much, 0, cold⟩ :: ls, 0) := by unfold snwK; rw [if_neg hz, if_neg hp]; simp
      have hA2 : P2.length + 1 + ls.length = 64 := by simp at hA; omega
      have hT : (((P2 ++ [x]).length : Nat) : Int) - 1 = P2.length := by simp
      have hS : splice (colC (P2 ++ [x] ++ ls) ((((P2 ++ [x]).length : Nat) : Int) - 1)) (eL ⟨much, 0, cold⟩) (P2.length * 3) = colC (P2 ++ ⟨much, 0, cold⟩ :: ls) P2.length := by rw [hT, List.append_assoc]; exact c_setL rfl
      refine AWP.skip ?_
      refine AWP.seq ?_
      refine AWP.region ?_
      refine AOps.call (o_move _ rfl rfl) ?_
      refine AOps.call (o_nilCheck _ rfl rfl) ?_
      refine AOps.call (o_fieldRef _ rfl fa102_1 rfl rfl) ?_
      refine AOps.call (o_loadRefE _ rfl rfl Tryd.sizeOf3 Tryd.isAgg3 (col_top hA) rfl) ?_
      refine AOps.call (o_sub _ _ rfl rfl ⟨by (try dsimp only); omega, by (try dsimp only); omega⟩ rfl) ?_
      refine AOps.call (o_nilCheck _ rfl rfl) ?_
      refine AOps.call (o_fieldRef _ rfl fa102_1 rfl rfl) ?_
      refine AOps.cons (o_storeE _ _ rfl rfl Tryd.sizeOf3 rfl rfl (by rw [col_len]; omega) (col_setTop hA) rfl) ?_
      refine AOps.nil ?_
      refine AWP.seq ?_
      refine AWP.drawn 11 mixed (by kernel_rfl) ?_
      refine AHead.call (o_move _ rfl rfl) rfl ?_
      refine AHead.call (o_move _ rfl rfl) rfl ?_
      refine AHead.call (o_nilCheck _ rfl rfl) rfl ?_
      refine AHead.call (o_fieldRef _ rfl fa102_1 rfl rfl) rfl ?_
      refine AHead.call (o_loadRefE _ rfl rfl Tryd.sizeOf3 Tryd.isAgg3 (by rw [hT]; exact col_top hA) rfl) rfl ?_
      refine AHead.call (o_move _ rfl rfl) rfl ?_
      refine AHead.call (o_move _ rfl rfl) rfl ?_
      refine AHead.call (o_build bu28 rfl rfl rfl) rfl ?_
      refine AHead.call (o_nilCheck _ rfl rfl) rfl ?_
      refine AHead.call (o_fieldRef _ rfl fa102_0 rfl rfl) rfl ?_
      refine AHead.call (o_indexRef (o' := P2.length * 3) _ _ Tryd.underlying100 Tryd.sizeOf28 rfl rfl (by omega) (by omega) (by omega) rfl) rfl ?_
      refine AHead.nil ?_
      refine AOps.cons (o_storeE _ _ rfl rfl Tryd.sizeOf28 rfl rfl (by rw [col_len, hA]; omega) hS rfl) ?_
      refine AOps.nil ?_
      refine AWP.seq ?_
      refine AWP.region ?_
      refine AOps.call (o_assign _ rfl rfl) ?_
      refine AOps.nil ?_
      refine AWP.ret ?_
      exact ⟨⟨[I _], ⟨rfl, trivial⟩, by rw [hE]; rfl⟩, (by rw [hE]; exact col_close _ _), trivial⟩

end Go.Proofs.YtgagfmjpmdgfdaaDoor
