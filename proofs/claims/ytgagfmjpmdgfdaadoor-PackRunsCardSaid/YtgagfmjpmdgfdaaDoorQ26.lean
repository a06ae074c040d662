import Derived.Test.YtgagfmjpmdgfdaaDoorQ24
import Derived.Test.YtgagfmjpmdgfdaaDoorX13
import Derived.Test.YtgagfmjpmdgfdaaDoorAcA
set_option linter.unusedSimpArgs false
set_option linter.unusedVariables false
namespace Go.Proofs.YtgagfmjpmdgfdaaDoor
open Go.Ab

set_option maxHeartbeats 4000000 in
set_option maxRecDepth 20000 in
theorem rRun_s (p : List Lay) (l : List Stp) : FSpec Tryd.prog 35 [.agg (eK p), .sl (stpsL l)] (.tup [.agg (eK (runM p l).1), .sl (ints (runM p l).2.1), I (runM p l).2.2]) (none) := by
  refine FSpec.of_body Tryd.func35 rfl (leB rfl) fun w0 M0 => ?_
  have hsl := stpsL_len l
  have hpl := lays_len p
  refine AWP.seq ?_
  refine AWP.region ?_
  refine AOps.call (o_box _ rfl rfl rfl) ?_
  refine AOps.call (o_alloc ze24 rfl rfl) ?_
  refine AOps.call (o_nil (z := 1) (e := 3) rfl) ?_
  refine AOps.call (o_assign _ rfl rfl) ?_
  refine AOps.nil ?_
  refine AWP.seq ?_
  refine AWP.region ?_
  refine AOps.call (o_loadRef _ rfl rfl Tryd.sizeOf24 Tryd.isAgg24 rfl rfl rfl) ?_
  refine AOps.call (o_call (rCheck_s _) Tryd.call27 rfl rfl) ?_
  refine AOps.call (o_assign _ rfl rfl) ?_
  refine AOps.nil ?_
  refine AWP.seq ?_
  refine AWP.seq ?_
  refine AWP.region ?_
  refine AOps.call (o_move _ rfl rfl) ?_
  refine AOps.call (o_bin _ _ rfl rfl (fun _ => rfl) rfl) ?_
  refine AOps.nil ?_
  refine AWP.cond _ rfl (fun h8 => ?_) (fun h8 => ?_)
  · skip
    have hp : ¬ packE p = 0 := by simpa using h8
    have hp20 := packE_20 hp
    have hE : (runM p l) = ([], [], packE p) := by unfold runM; rw [if_neg hp, hp20]
    refine AWP.seq ?_
    refine AWP.region ?_
    refine AOps.call (o_noPack rfl) ?_
    refine AOps.call (o_move _ rfl rfl) ?_
    refine AOps.cons (o_store _ _ rfl rfl Tryd.sizeOf24 rfl rfl rfl rfl rfl) ?_
    refine AOps.call (o_nil (z := 1) (e := 3) rfl) ?_
    refine AOps.call (o_assign _ rfl rfl) ?_
    refine AOps.nil ?_
    refine AWP.ret ?_
    refine postQ.retC2 Tryd.results35 rfl rfl Tryd.sizeOf24 Tryd.isAgg24 rfl rfl rfl ?_
    rw [hE]
    rfl
  · skip
    have hp : packE p = 0 := by simpa using h8
    have hpn := (packE_0.1 hp).1
    refine AWP.skip ?_
    refine AWP.seq ?_
    refine AWP.seq ?_
    refine AWP.region ?_
    refine AOps.call (o_move _ rfl rfl) ?_
    refine AOps.call (o_len _ Tryd.underlying43 rfl rfl) ?_
    refine AOps.call (o_bin _ _ rfl rfl (fun _ => rfl) rfl) ?_
    refine AOps.nil ?_
    refine AWP.cond _ rfl (fun h14 => ?_) (fun h14 => ?_)
    · skip
      have hn : ¬ l.length ≤ 256 := by have hq := of_decide_eq_true h14; omega
      have hE : (runM p l) = ([], [], 2) := by unfold runM; rw [if_pos hp, if_neg hn]
      refine AWP.seq ?_
      refine AWP.region ?_
      refine AOps.call (o_noPack rfl) ?_
      refine AOps.cons (o_store _ _ rfl rfl Tryd.sizeOf24 rfl rfl rfl rfl rfl) ?_
      refine AOps.call (o_nil (z := 1) (e := 3) rfl) ?_
      refine AOps.call (o_assign _ rfl rfl) ?_
      refine AOps.nil ?_
      refine AWP.ret ?_
      refine postQ.retC2 Tryd.results35 rfl rfl Tryd.sizeOf24 Tryd.isAgg24 rfl rfl rfl ?_
      rw [hE]
      rfl
    · skip
      have hn : l.length ≤ 256 := by have hq := of_decide_eq_false h14; omega
      have hE0 : (runM p l) = runL p l := by unfold runM; rw [if_pos hp, if_pos hn]
      refine AWP.skip ?_
      refine AWP.seq ?_
      refine AWP.region ?_
      refine AOps.call (o_nil (z := 1) (e := 3) rfl) ?_
      refine AOps.nil ?_
      refine AWP.seq ?_
      refine AWP.region ?_
      refine AOps.call (o_lit Tryd.underlying22 Tryd.sizeOf28 Tryd.zeroValue28 rfl rfl rfl rfl rfl rfl rfl) ?_
      refine AOps.call (o_fieldRef _ rfl fa24_0 rfl rfl) ?_
      refine AOps.call (o_loadRef _ rfl rfl Tryd.sizeOf22 Tryd.isAgg22 rfl rfl rfl) ?_
      refine AOps.cons (o_append _ _ Tryd.underlying22 info28 rfl rfl rfl rfl rfl rfl rfl rfl lays_z (fun c h => by cases h) (by unfold Tryd.t28; simp only [List.length_nil]; omega) rfl (List.nil_append _) rfl) ?_
      refine AOps.weak (Weak.toSl 26 rfl) ?_
      refine AOps.call (o_build bu24 rfl rfl rfl) ?_
      refine AOps.cons (o_store _ _ rfl rfl Tryd.sizeOf24 rfl rfl rfl rfl rfl) ?_
      refine AOps.nil ?_
      refine AWP.seq ?_
      refine AWP.seq ?_
      refine AWP.region ?_
      refine AOps.call (o_assign _ rfl rfl) ?_
      refine AOps.nil ?_
      refine AWP.block ?_
      refine AWP.loop (ι := Nat) (fun i => AS.mk' 55 [(1, .sl (stpsL l)), (2, .ref (2, 0) 0), (4, .ref (4, 0) 0), (8, .own (8, 0) (ints (runL p (l.take i)).2.1)), (9, I i)] [((2, 0), eK (runL p (l.take i)).1), ((4, 0), [.sc (.slice none 0 0)])] [((8, 0), ((ints (runL p (l.take i)).2.1).length, 1, 3))] [(2, 1), (4, 1), (8, 1)]) (fun i => i ≤ l.length ∧ (runL p (l.take i)).2.2 = 0) (fun i => l.length - i) (0) (Weak.mk' rfl ⟨⟨.refl rfl, rfl⟩, ⟨⟨.refl rfl, rfl⟩, ⟨⟨.refl rfl, rfl⟩, ⟨⟨.refl rfl, rfl⟩, ⟨⟨.refl rfl, rfl⟩, trivial⟩⟩⟩⟩⟩ ⟨⟨rfl, rfl, rfl⟩, ⟨⟨rfl, rfl, rfl⟩, trivial⟩⟩ ⟨⟨rfl, rfl⟩, trivial⟩) (⟨Nat.zero_le _, rfl⟩) ?_
      rintro k ⟨hk, hinv⟩
      try dsimp only at *
      refine AWP.seq ?_
      refine AWP.seq ?_
      refine AWP.region ?_
      refine AOps.call (o_move _ rfl rfl) ?_
      refine AOps.call (o_move _ rfl rfl) ?_
      refine AOps.call (o_len _ Tryd.underlying43 rfl rfl) ?_
      refine AOps.call (o_bin _ _ rfl rfl (fun _ => rfl) rfl) ?_
      refine AOps.nil ?_
      refine AWP.cond _ rfl (fun h28 => ?_) (fun h28 => ?_)
      · skip
        have hlt : k < l.length := by have hq := of_decide_eq_true h28; omega
        have hel := stpsL_at hlt
        have hol : (runL p (l.take k)).2.1.length = k := by rw [(runL_E hp hinv).2, List.length_take]; omega
        refine AWP.skip ?_
        refine AWP.seq ?_
        refine AWP.block ?_
        refine AWP.seq ?_
        refine AWP.drawnT 11 (fun i => Nat.beq i 8 || Nat.beq i 9 || Nat.beq i 12 || Nat.beq i 13) (10, 0) (eK (appM (runL p (l.take k)).1 l[k]).1) mixed (by kernel_rfl) ?_
        refine AHeadT.call (o_loadRef _ rfl rfl Tryd.sizeOf24 Tryd.isAgg24 rfl rfl rfl) rfl rfl rfl ?_
        refine AHeadT.call (o_move _ rfl rfl) rfl rfl rfl ?_
        refine AHeadT.call (o_move _ rfl rfl) rfl rfl rfl ?_
        refine AHeadT.call (o_index _ _ Tryd.underlying43 Tryd.sizeOf26 rfl rfl (by omega) hel rfl rfl) rfl rfl rfl ?_
        refine AHeadT.call (o_loadRd _ rfl Tryd.sizeOf26 Tryd.isAgg26 rfl rfl rfl) rfl rfl rfl ?_
        refine AHeadT.call (o_call (rApply_s (runL p (l.take k)).1 l[k]) Tryd.call32 rfl rfl) rfl rfl rfl ?_
        refine AHeadT.call (o_move _ rfl rfl) rfl rfl rfl ?_
        refine AHeadT.call (o_extract _ rfl rfl rfl rfl) rfl rfl rfl ?_
        refine AHeadT.callL (o_extract _ rfl rfl rfl rfl) rfl rfl ?_
        refine AHeadT.callL (o_extract _ rfl rfl rfl rfl) rfl rfl ?_
        refine AHeadT.call (o_alloc ze24 rfl rfl) rfl rfl rfl ?_
        refine AHeadT.store (ok_storeAny _ _ rfl rfl Tryd.sizeOf24 rfl rfl rfl rfl rfl) rfl ?_
        refine AHeadT.callL (o_assign _ rfl rfl) rfl rfl ?_
        refine AHeadT.callL (o_assign _ rfl rfl) rfl rfl ?_
        refine AHeadT.nil ?_
        refine AWP.seq ?_
        refine AWP.seq ?_
        refine AWP.region ?_
        refine AOps.call (o_move _ rfl rfl) ?_
        refine AOps.call (o_bin _ _ rfl rfl (fun _ => rfl) rfl) ?_
        refine AOps.nil ?_
        refine AWP.cond _ rfl (fun h39 => ?_) (fun h39 => ?_)
        · skip
          have h3 : ¬ (appM (runL p (l.take k)).1 l[k]).2.2 = 0 := by simpa using h39
          have hnx : (runL p (l.take (k + 1))) = ([], [], (appM (runL p (l.take k)).1 l[k]).2.2) := by rw [runL_snoc hlt hinv, if_neg h3]
          have hE : (runM p l) = ([], [], (appM (runL p (l.take k)).1 l[k]).2.2) := by rw [hE0, runL_stop (k := k + 1) (by rw [hnx]; exact h3), hnx]
          refine AWP.seq ?_
          refine AWP.region ?_
          refine AOps.call (o_noPack rfl) ?_
          refine AOps.call (o_move _ rfl rfl) ?_
          refine AOps.cons (o_store _ _ rfl rfl Tryd.sizeOf24 rfl rfl rfl rfl rfl) ?_
          refine AOps.call (o_nil (z := 1) (e := 3) rfl) ?_
          refine AOps.call (o_assign _ rfl rfl) ?_
          refine AOps.nil ?_
          refine AWP.ret ?_
          refine postQ.retC2 Tryd.results35 rfl rfl Tryd.sizeOf24 Tryd.isAgg24 rfl rfl rfl ?_
          rw [hE]
          rfl
        · skip
          have h3 : (appM (runL p (l.take k)).1 l[k]).2.2 = 0 := by simpa using h39
          have hnx : (runL p (l.take (k + 1))) = ((appM (runL p (l.take k)).1 l[k]).1, (runL p (l.take k)).2.1 ++ [(appM (runL p (l.take k)).1 l[k]).2.1], 0) := by rw [runL_snoc hlt hinv, if_pos h3]
          have hout : ints (runL p (l.take k)).2.1 ++ [[I (appM (runL p (l.take k)).1 l[k]).2.1]] = ints ((runL p (l.take k)).2.1 ++ [(appM (runL p (l.take k)).1 l[k]).2.1]) := by unfold ints; rw [List.map_append]; rfl
          refine AWP.skip ?_
          refine AWP.seq ?_
          refine AWP.region ?_
          refine AOps.call (o_loadRef _ rfl rfl Tryd.sizeOf24 Tryd.isAgg24 rfl rfl rfl) ?_
          refine AOps.cons (o_store _ _ rfl rfl Tryd.sizeOf24 rfl rfl rfl rfl rfl) ?_
          refine AOps.nil ?_
          refine AWP.region ?_
          refine AOps.call (o_move _ rfl rfl) ?_
          refine AOps.call (o_move _ rfl rfl) ?_
          refine AOps.call (o_lit Tryd.underlying44 Tryd.sizeOf3 Tryd.zeroValue3 rfl rfl rfl rfl rfl rfl rfl) ?_
          refine AOps.cons (o_append _ _ Tryd.underlying44 info3 rfl rfl rfl rfl rfl rfl rfl rfl (fun c h => by simp at h; subst h; rfl) ints_z (by unfold Tryd.t3; simp only [ints_len, List.length_cons, List.length_nil]; omega) rfl hout rfl) ?_
          refine AOps.call (o_assign _ rfl rfl) ?_
          refine AOps.nil ?_
          refine AWP.region ?_
          refine AOps.call (o_move _ rfl rfl) ?_
          refine AOps.call (o_add _ _ rfl rfl ⟨by (try dsimp only); omega, by (try dsimp only); omega⟩ rfl) ?_
          refine AOps.call (o_assign _ rfl rfl) ?_
          refine AOps.nil ?_
          refine ⟨k + 1, ?_, (Weak.mk' rfl ⟨⟨.refl rfl, rfl⟩, ⟨⟨.refl rfl, rfl⟩, ⟨⟨.refl rfl, rfl⟩, ⟨⟨.refl (by rw [hnx]; rfl), rfl⟩, ⟨⟨.refl rfl, rfl⟩, trivial⟩⟩⟩⟩⟩ ⟨⟨(by rw [hnx]; rfl), rfl, rfl⟩, ⟨⟨rfl, rfl, rfl⟩, trivial⟩⟩ ⟨⟨by rw [hnx]; rfl, rfl⟩, trivial⟩)⟩
          exact ⟨⟨by omega, by rw [hnx]⟩, by omega⟩
      · skip
        have hkl : k = l.length := by have hq := of_decide_eq_false h28; omega
        subst hkl
        have hE : (runM p l) = (((runL p (l.take l.length))).1, ((runL p (l.take l.length))).2.1, 0) := by rw [hE0]; rw [List.take_length] at hinv ⊢; rw [← hinv]
        refine AWP.exit ?_
        refine AWP.seq ?_
        refine AWP.region ?_
        refine AOps.call (o_loadRef _ rfl rfl Tryd.sizeOf24 Tryd.isAgg24 rfl rfl rfl) ?_
        refine AOps.call (o_move _ rfl rfl) ?_
        refine AOps.cons (o_store _ _ rfl rfl Tryd.sizeOf24 rfl rfl rfl rfl rfl) ?_
        refine AOps.call (o_assign _ rfl rfl) ?_
        refine AOps.call (o_assign _ rfl rfl) ?_
        refine AOps.nil ?_
        refine AWP.ret ?_
        refine postQ.retC2 Tryd.results35 rfl rfl Tryd.sizeOf24 Tryd.isAgg24 rfl rfl rfl ?_
        rw [hE]
        rfl

end Go.Proofs.YtgagfmjpmdgfdaaDoor
