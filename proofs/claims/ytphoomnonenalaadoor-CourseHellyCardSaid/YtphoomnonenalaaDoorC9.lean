import Derived.Test.YtphoomnonenalaaDoorC8
set_option linter.unusedSimpArgs false
set_option linter.unusedVariables false
namespace Go.Proofs.YtphoomnonenalaaDoor
open Go.Ab

set_option maxRecDepth 20000 in
theorem checkStake_s (c : Scl) (h : Sht) (k known : Int) : FSpec Tryd.prog 88 [.agg (eS c), .agg (eH h), I k, I known] (I (stakeE c h k known)) (none) := by
  refine FSpec.of_body Tryd.func88 rfl (leB rfl) fun w0 M0 => ?_
  refine AWP.seq ?_
  refine AWP.region ?_
  refine AOps.call (o_box _ rfl rfl rfl) ?_
  refine AOps.call (o_box _ rfl rfl rfl) ?_
  refine AOps.call (o_assign _ rfl rfl) ?_
  refine AOps.nil ?_
  refine AWP.seq ?_
  refine AWP.seq ?_
  refine AWP.region ?_
  refine AOps.call (o_loadRef _ rfl rfl Tryd.sizeOf24 Tryd.isAgg24 rfl rfl rfl) ?_
  refine AOps.call (o_call (CheckScale_s c) Tryd.call19 rfl rfl) ?_
  refine AOps.call (o_assign _ rfl rfl) ?_
  refine AOps.nil ?_
  refine AWP.seq ?_
  refine AWP.region ?_
  refine AOps.call (o_move _ rfl rfl) ?_
  refine AOps.call (o_bin _ _ rfl rfl (fun _ => rfl) rfl) ?_
  refine AOps.nil ?_
  refine AWP.cond _ rfl (fun h7 => ?_) (fun h7 => ?_)
  · skip
    have hz : ¬ scaleE c = 0 := by simpa using h7
    refine AWP.seq ?_
    refine AWP.region ?_
    refine AOps.call (o_move _ rfl rfl) ?_
    refine AOps.call (o_assign _ rfl rfl) ?_
    refine AOps.nil ?_
    refine AWP.ret ?_
    refine postQ.ret1 Tryd.results88 rfl ?_
    unfold stakeE
    simp_all [AV.close, I, stakes_len]
    try (intros; omega)
  · skip
    have hz : scaleE c = 0 := by simpa using h7
    refine AWP.skip ?_
    refine AWP.seq ?_
    refine AWP.seq ?_
    refine AWP.region ?_
    refine AOps.call (o_loadRef _ rfl rfl Tryd.sizeOf54 Tryd.isAgg54 rfl rfl rfl) ?_
    refine AOps.call (o_call (CheckSheet_s h) Tryd.call35 rfl rfl) ?_
    refine AOps.call (o_assign _ rfl rfl) ?_
    refine AOps.nil ?_
    refine AWP.seq ?_
    refine AWP.region ?_
    refine AOps.call (o_move _ rfl rfl) ?_
    refine AOps.call (o_bin _ _ rfl rfl (fun _ => rfl) rfl) ?_
    refine AOps.nil ?_
    refine AWP.cond _ rfl (fun h11 => ?_) (fun h11 => ?_)
    · skip
      have hb : sheetB h = false := by
        cases hh : sheetB h with
        | false => rfl
        | true => rw [hh] at h11; simp at h11
      refine AWP.seq ?_
      refine AWP.region ?_
      refine AOps.call (o_move _ rfl rfl) ?_
      refine AOps.call (o_assign _ rfl rfl) ?_
      refine AOps.nil ?_
      refine AWP.ret ?_
      refine postQ.ret1 Tryd.results88 rfl ?_
      unfold stakeE
      simp_all [AV.close, I, stakes_len]
      try (intros; omega)
    · skip
      have hb : sheetB h = true := by
        cases hh : sheetB h with
        | true => rfl
        | false => rw [hh] at h11; simp at h11
      refine AWP.skip ?_
      refine AWP.seq ?_
      refine AWP.seq ?_
      refine AWP.region ?_
      refine AOps.call (o_fieldRef _ rfl fa24_0 rfl rfl) ?_
      refine AOps.call (o_loadRef _ rfl rfl Tryd.sizeOf3 Tryd.isAgg3 rfl rfl rfl) ?_
      refine AOps.call (o_fieldRef _ rfl fa54_4 rfl rfl) ?_
      refine AOps.call (o_loadRef _ rfl rfl Tryd.sizeOf3 Tryd.isAgg3 rfl rfl rfl) ?_
      refine AOps.call (o_bin _ _ rfl rfl (fun _ => rfl) rfl) ?_
      refine AOps.call (o_move _ rfl rfl) ?_
      refine AOps.split rfl rfl rfl (fun h17 => ?_) (fun h17 => ?_)
      · skip
        refine AOps.go rfl rfl rfl h17 (o_move _ rfl rfl) ?_
        refine AOps.go rfl rfl rfl h17 (o_bin _ _ rfl rfl (fun _ => rfl) rfl) ?_
        refine AOps.call (o_pickF _ _ _ rfl h17 rfl rfl) ?_
        refine AOps.call (o_move _ rfl rfl) ?_
        refine AOps.split rfl rfl rfl (fun h20 => ?_) (fun h20 => ?_)
        · skip
          refine AOps.go rfl rfl rfl h20 (o_move _ rfl rfl) ?_
          refine AOps.go rfl rfl rfl h20 (o_fieldRef _ rfl fa54_8 rfl rfl) ?_
          refine AOps.go rfl rfl rfl h20 (o_loadRef _ rfl rfl Tryd.sizeOf52 Tryd.isAgg52 rfl rfl rfl) ?_
          refine AOps.go rfl rfl rfl h20 (o_len _ Tryd.underlying52 rfl rfl) ?_
          refine AOps.go rfl rfl rfl h20 (o_bin _ _ rfl rfl (fun _ => rfl) rfl) ?_
          refine AOps.call (o_pickF _ _ _ rfl h20 rfl rfl) ?_
          refine AOps.call (o_move _ rfl rfl) ?_
          refine AOps.split rfl rfl rfl (fun h26 => ?_) (fun h26 => ?_)
          · skip
            refine AOps.go rfl rfl rfl h26 (o_move _ rfl rfl) ?_
            refine AOps.go rfl rfl rfl h26 (o_call (isDay_s _) Tryd.call72 rfl rfl) ?_
            refine AOps.go rfl rfl rfl h26 (o_un _ rfl (fun _ => rfl) rfl) ?_
            refine AOps.call (o_pickF _ _ _ rfl h26 rfl rfl) ?_
            refine AOps.nil ?_
            refine AWP.cond _ rfl (fun h30 => ?_) (fun h30 => ?_)
            · skip
              refine AWP.seq ?_
              refine AWP.region ?_
              refine AOps.call (o_assign _ rfl rfl) ?_
              refine AOps.nil ?_
              refine AWP.ret ?_
              refine postQ.ret1 Tryd.results88 rfl ?_
              unfold stakeE
              simp_all [AV.close, I, stakes_len]
              try (intros; omega)
            · skip
              refine AWP.skip ?_
              refine AWP.seq ?_
              refine AWP.region ?_
              refine AOps.call (o_assign _ rfl rfl) ?_
              refine AOps.nil ?_
              refine AWP.ret ?_
              refine postQ.ret1 Tryd.results88 rfl ?_
              unfold stakeE
              simp_all [AV.close, I, stakes_len]
              try (intros; omega)
          · skip
            refine AOps.pass rfl rfl rfl h26 rfl ?_
            refine AOps.pass rfl rfl rfl h26 rfl ?_
            refine AOps.pass rfl rfl rfl h26 rfl ?_
            refine AOps.call (o_pickT _ _ _ rfl h26 rfl rfl) ?_
            refine AOps.nil ?_
            refine AWP.condT rfl ?_
            refine AWP.seq ?_
            refine AWP.region ?_
            refine AOps.call (o_assign _ rfl rfl) ?_
            refine AOps.nil ?_
            refine AWP.ret ?_
            refine postQ.ret1 Tryd.results88 rfl ?_
            unfold stakeE
            simp_all [AV.close, I, stakes_len]
            try (intros; omega)
        · skip
          refine AOps.pass rfl rfl rfl h20 rfl ?_
          refine AOps.pass rfl rfl rfl h20 rfl ?_
          refine AOps.pass rfl rfl rfl h20 rfl ?_
          refine AOps.pass rfl rfl rfl h20 rfl ?_
          refine AOps.pass rfl rfl rfl h20 rfl ?_
          refine AOps.call (o_pickT _ _ _ rfl h20 rfl rfl) ?_
          refine AOps.call (o_move _ rfl rfl) ?_
          refine AOps.pass rfl rfl rfl rfl rfl ?_
          refine AOps.pass rfl rfl rfl rfl rfl ?_
          refine AOps.pass rfl rfl rfl rfl rfl ?_
          refine AOps.call (o_pickT _ _ _ rfl rfl rfl rfl) ?_
          refine AOps.nil ?_
          refine AWP.condT rfl ?_
          refine AWP.seq ?_
          refine AWP.region ?_
          refine AOps.call (o_assign _ rfl rfl) ?_
          refine AOps.nil ?_
          refine AWP.ret ?_
          refine postQ.ret1 Tryd.results88 rfl ?_
          unfold stakeE
          simp_all [AV.close, I, stakes_len]
          try (intros; omega)
      · skip
        refine AOps.pass rfl rfl rfl h17 rfl ?_
        refine AOps.pass rfl rfl rfl h17 rfl ?_
        refine AOps.call (o_pickT _ _ _ rfl h17 rfl rfl) ?_
        refine AOps.call (o_move _ rfl rfl) ?_
        refine AOps.pass rfl rfl rfl rfl rfl ?_
        refine AOps.pass rfl rfl rfl rfl rfl ?_
        refine AOps.pass rfl rfl rfl rfl rfl ?_
        refine AOps.pass rfl rfl rfl rfl rfl ?_
        refine AOps.pass rfl rfl rfl rfl rfl ?_
        refine AOps.call (o_pickT _ _ _ rfl rfl rfl rfl) ?_
        refine AOps.call (o_move _ rfl rfl) ?_
        refine AOps.pass rfl rfl rfl rfl rfl ?_
        refine AOps.pass rfl rfl rfl rfl rfl ?_
        refine AOps.pass rfl rfl rfl rfl rfl ?_
        refine AOps.call (o_pickT _ _ _ rfl rfl rfl rfl) ?_
        refine AOps.nil ?_
        refine AWP.condT rfl ?_
        refine AWP.seq ?_
        refine AWP.region ?_
        refine AOps.call (o_assign _ rfl rfl) ?_
        refine AOps.nil ?_
        refine AWP.ret ?_
        refine postQ.ret1 Tryd.results88 rfl ?_
        unfold stakeE
        simp_all [AV.close, I, stakes_len]
        try (intros; omega)

set_option maxRecDepth 20000 in
theorem possible_s (c : Scl) (h : Sht) (known : Int) (hs : scaleB c = true) (hb : sheetB h = true) : FSpec Tryd.prog 89 [.agg (eS c), .agg (eH h), I known] (.tup [.agg (eP (posR c h known)), I (posE c h known)]) (none) := by
  refine FSpec.of_body Tryd.func89 rfl (leB rfl) fun w0 M0 => ?_
  have hbd := sheetB_bd hb
  refine AWP.seq ?_
  refine AWP.region ?_
  refine AOps.call (o_box _ rfl rfl rfl) ?_
  refine AOps.call (o_box _ rfl rfl rfl) ?_
  refine AOps.call (o_alloc ze40 rfl rfl) ?_
  refine AOps.call (o_assign _ rfl rfl) ?_
  refine AOps.nil ?_
  refine AWP.seq ?_
  refine AWP.region ?_
  refine AOps.call (o_loadRef _ rfl rfl Tryd.sizeOf24 Tryd.isAgg24 rfl rfl rfl) ?_
  refine AOps.call (o_fieldRef _ rfl fa54_7 rfl rfl) ?_
  refine AOps.call (o_loadRef _ rfl rfl Tryd.sizeOf3 Tryd.isAgg3 rfl rfl rfl) ?_
  refine AOps.call (o_fieldRef _ rfl fa54_2 rfl rfl) ?_
  refine AOps.call (o_loadRef _ rfl rfl Tryd.sizeOf3 Tryd.isAgg3 rfl rfl rfl) ?_
  refine AOps.call (o_move _ rfl rfl) ?_
  refine AOps.call (o_call (turn_s c _ _ known hs hbd.2.1 hbd.1) Tryd.call79 rfl rfl) ?_
  refine AOps.call (o_alloc ze40 rfl rfl) ?_
  refine AOps.cons (o_store _ _ rfl rfl Tryd.sizeOf40 rfl rfl rfl rfl rfl) ?_
  refine AOps.nil ?_
  refine AWP.seq ?_
  refine AWP.seq ?_
  refine AWP.region ?_
  refine AOps.call (o_fieldRef _ rfl fa54_8 rfl rfl) ?_
  refine AOps.call (o_loadRef _ rfl rfl Tryd.sizeOf52 Tryd.isAgg52 rfl rfl rfl) ?_
  refine AOps.call (o_len _ Tryd.underlying52 rfl rfl) ?_
  refine AOps.call (o_move _ rfl rfl) ?_
  refine AOps.nil ?_
  refine AWP.block ?_
  refine AWP.loop (ι := Nat) (fun i => AS.mk' 44 [(4, .ref (4, 0) 0), (6, .ref (6, 0) 0), (8, .ref (8, 0) 0), (19, .sl (stakes h.stakes)), (20, I (stakes h.stakes).length), (21, I i)] [((4, 0), eH h), ((6, 0), [I 0, I 0]), ((8, 0), [I (tnS c h.emptyDay h.day known).lo, I (posHi h.empty (tnS c h.emptyDay h.day known).hi (h.stakes.take i))])] [] [(4, 1), (6, 1), (8, 1)]) (fun i => i ≤ h.stakes.length) (fun i => h.stakes.length - i) (0) (Weak.mk' rfl ⟨⟨.refl rfl, rfl⟩, ⟨⟨.refl rfl, rfl⟩, ⟨⟨.refl rfl, rfl⟩, ⟨⟨.refl rfl, rfl⟩, ⟨⟨.refl rfl, rfl⟩, ⟨⟨.refl rfl, rfl⟩, trivial⟩⟩⟩⟩⟩⟩ ⟨⟨rfl, rfl, rfl⟩, ⟨⟨rfl, rfl, rfl⟩, ⟨⟨rfl, rfl, rfl⟩, trivial⟩⟩⟩ trivial) (Nat.zero_le _) ?_
  rintro k hk
  try dsimp only at *
  refine AWP.seq ?_
  refine AWP.region ?_
  refine AOps.call (o_bin _ _ rfl rfl (fun _ => rfl) rfl) ?_
  refine AOps.nil ?_
  refine AWP.seq ?_
  refine AWP.cond _ rfl (fun h18 => ?_) (fun h18 => ?_)
  · skip
    have hlt : k < h.stakes.length := by simpa [stakes] using h18
    have hel := stakes_get hlt
    have hst := stakeB_bd (sheetB_stakes hb _ (List.getElem_mem hlt))
    refine AWP.skip ?_
    refine AWP.seq ?_
    refine AWP.block ?_
    refine AWP.seq ?_
    refine AWP.region ?_
    refine AOps.call (o_index _ _ Tryd.underlying52 Tryd.sizeOf79 rfl rfl (by omega) (by assumption) rfl rfl) ?_
    refine AOps.call (o_loadRd _ rfl Tryd.sizeOf79 Tryd.isAgg79 rfl rfl rfl) ?_
    refine AOps.call (o_alloc ze79 rfl rfl) ?_
    refine AOps.cons (o_store _ _ rfl rfl Tryd.sizeOf79 rfl rfl rfl rfl rfl) ?_
    refine AOps.nil ?_
    refine AWP.region ?_
    refine AOps.call (o_fieldRef _ rfl fa40_1 rfl rfl) ?_
    refine AOps.call (o_loadRef _ rfl rfl Tryd.sizeOf3 Tryd.isAgg3 rfl rfl rfl) ?_
    refine AOps.call (o_fieldRef _ rfl fa79_2 rfl rfl) ?_
    refine AOps.call (o_loadRef _ rfl rfl Tryd.sizeOf3 Tryd.isAgg3 rfl rfl rfl) ?_
    refine AOps.call (o_fieldRef _ rfl fa54_6 rfl rfl) ?_
    refine AOps.call (o_loadRef _ rfl rfl Tryd.sizeOf3 Tryd.isAgg3 rfl rfl rfl) ?_
    refine AOps.call (o_sub _ _ rfl rfl ⟨by (try dsimp only); omega, by (try dsimp only); omega⟩ rfl) ?_
    refine AOps.call (o_lit Tryd.underlying45 Tryd.sizeOf3 Tryd.zeroValue3 rfl rfl rfl rfl rfl rfl rfl) ?_
    refine AOps.call (o_call (ends_s _ [h.stakes[k].full - h.empty] (leB rfl)) Tryd.call126 rfl rfl) ?_
    refine AOps.call (o_field _ rfl fa40_0 rfl rfl rfl) ?_
    refine AOps.call (o_fieldRef _ rfl fa40_1 rfl rfl) ?_
    refine AOps.cons (o_store _ _ rfl rfl Tryd.sizeOf3 rfl rfl rfl rfl rfl) ?_
    refine AOps.nil ?_
    refine AWP.region ?_
    refine AOps.call (o_add _ _ rfl rfl ⟨by (try dsimp only); omega, by (try dsimp only); omega⟩ rfl) ?_
    refine AOps.call (o_move _ rfl rfl) ?_
    refine AOps.nil ?_
    refine ⟨k + 1, ?_, (Weak.mk' rfl ⟨⟨.refl rfl, rfl⟩, ⟨⟨.refl rfl, rfl⟩, ⟨⟨.refl rfl, rfl⟩, ⟨⟨.refl rfl, rfl⟩, ⟨⟨.refl rfl, rfl⟩, ⟨⟨.refl rfl, rfl⟩, trivial⟩⟩⟩⟩⟩⟩ ⟨⟨rfl, rfl, rfl⟩, ⟨⟨rfl, rfl, rfl⟩, ⟨⟨by rw [posHi_take hlt]; rfl, rfl, rfl⟩, trivial⟩⟩⟩ trivial)⟩
    exact ⟨by omega, by omega⟩
  · skip
    have hkl : k = h.stakes.length := by simp [stakes] at h18 hk; omega
    subst hkl
    rw [List.take_length]
    refine AWP.exit ?_
    refine AWP.seq ?_
    refine AWP.seq ?_
    refine AWP.region ?_
    refine AOps.call (o_fieldRef _ rfl fa40_1 rfl rfl) ?_
    refine AOps.call (o_loadRef _ rfl rfl Tryd.sizeOf3 Tryd.isAgg3 rfl rfl rfl) ?_
    refine AOps.call (o_fieldRef _ rfl fa40_0 rfl rfl) ?_
    refine AOps.call (o_loadRef _ rfl rfl Tryd.sizeOf3 Tryd.isAgg3 rfl rfl rfl) ?_
    refine AOps.call (o_bin _ _ rfl rfl (fun _ => rfl) rfl) ?_
    refine AOps.nil ?_
    refine AWP.cond _ rfl (fun h39 => ?_) (fun h39 => ?_)
    · skip
      have hE : posE c h known = 13 := if_pos (of_decide_eq_true h39)
      have hR : posR c h known = ⟨0, 0⟩ := if_neg (by rw [hE]; omega)
      refine AWP.seq ?_
      refine AWP.region ?_
      refine AOps.call (o_build bu40 rfl rfl rfl) ?_
      refine AOps.cons (o_store _ _ rfl rfl Tryd.sizeOf40 rfl rfl rfl rfl rfl) ?_
      refine AOps.call (o_assign _ rfl rfl) ?_
      refine AOps.nil ?_
      refine AWP.ret ?_
      refine postQ.retC1 Tryd.results89 rfl rfl Tryd.sizeOf40 Tryd.isAgg40 rfl rfl ?_
      rw [hE, hR]; rfl
    · skip
      have hE : posE c h known = 0 := if_neg (of_decide_eq_false h39)
      have hR : posR c h known = posS c h known := if_pos hE
      refine AWP.skip ?_
      refine AWP.seq ?_
      refine AWP.region ?_
      refine AOps.call (o_loadRef _ rfl rfl Tryd.sizeOf40 Tryd.isAgg40 rfl rfl rfl) ?_
      refine AOps.cons (o_store _ _ rfl rfl Tryd.sizeOf40 rfl rfl rfl rfl rfl) ?_
      refine AOps.call (o_assign _ rfl rfl) ?_
      refine AOps.nil ?_
      refine AWP.ret ?_
      refine postQ.retC1 Tryd.results89 rfl rfl Tryd.sizeOf40 Tryd.isAgg40 rfl rfl ?_
      rw [hE, hR]; rfl

set_option maxRecDepth 20000 in
theorem core_s (h : Sht) (x : Stk) (t : Spn) (l : List Stk) (hf : Fits h t l) (hx : x ∈ l) : FSpec Tryd.prog 90 [.agg (eH h), .agg (eK x), .agg (eP t)] (.agg (eP (coreS h x t))) (none) := by
  refine FSpec.of_body Tryd.func90 rfl (leB rfl) fun w0 M0 => ?_
  have hbd := sheetB_bd hf.sheet
  have hst := stakeB_bd (hf.st x hx).1
  have h4 := hf.lo
  have h5 := hf.hi
  have h6 := hf.le
  have h7 := hf.hi2
  refine AWP.seq ?_
  refine AWP.region ?_
  refine AOps.call (o_box _ rfl rfl rfl) ?_
  refine AOps.call (o_box _ rfl rfl rfl) ?_
  refine AOps.call (o_box _ rfl rfl rfl) ?_
  refine AOps.call (o_alloc ze40 rfl rfl) ?_
  refine AOps.nil ?_
  refine AWP.seq ?_
  refine AWP.region ?_
  refine AOps.call (o_fieldRef _ rfl fa79_2 rfl rfl) ?_
  refine AOps.call (o_loadRef _ rfl rfl Tryd.sizeOf3 Tryd.isAgg3 rfl rfl rfl) ?_
  refine AOps.call (o_fieldRef _ rfl fa54_6 rfl rfl) ?_
  refine AOps.call (o_loadRef _ rfl rfl Tryd.sizeOf3 Tryd.isAgg3 rfl rfl rfl) ?_
  refine AOps.call (o_sub _ _ rfl rfl ⟨by (try dsimp only); omega, by (try dsimp only); omega⟩ rfl) ?_
  refine AOps.call (o_assign _ rfl rfl) ?_
  refine AOps.nil ?_
  refine AWP.seq ?_
  refine AWP.drawn 15 mixed (by kernel_rfl) ?_
  refine AHead.call (o_move _ rfl rfl) rfl ?_
  refine AHead.call (o_fieldRef _ rfl fa40_1 rfl rfl) rfl ?_
  refine AHead.call (o_loadRef _ rfl rfl Tryd.sizeOf3 Tryd.isAgg3 rfl rfl rfl) rfl ?_
  refine AHead.call (o_sub _ _ rfl rfl ⟨by (try dsimp only); omega, by (try dsimp only); omega⟩ rfl) rfl ?_
  refine AHead.call (o_fieldRef _ rfl fa79_4 rfl rfl) rfl ?_
  refine AHead.call (o_loadRef _ rfl rfl Tryd.sizeOf3 Tryd.isAgg3 rfl rfl rfl) rfl ?_
  refine AHead.call (o_sub _ _ rfl rfl ⟨by (try dsimp only); omega, by (try dsimp only); omega⟩ rfl) rfl ?_
  refine AHead.call (o_lit Tryd.underlying45 Tryd.sizeOf3 Tryd.zeroValue3 rfl rfl rfl rfl rfl rfl rfl) rfl ?_
  refine AHead.call (o_call (ends_s _ [x.full - h.empty - t.hi - x.soil] (leB rfl)) Tryd.call126 rfl rfl) rfl ?_
  refine AHead.call (o_field _ rfl fa40_1 rfl rfl rfl) rfl ?_
  refine AHead.call (o_move _ rfl rfl) rfl ?_
  refine AHead.call (o_fieldRef _ rfl fa40_0 rfl rfl) rfl ?_
  refine AHead.call (o_loadRef _ rfl rfl Tryd.sizeOf3 Tryd.isAgg3 rfl rfl rfl) rfl ?_
  refine AHead.call (o_sub _ _ rfl rfl ⟨by (try dsimp only); omega, by (try dsimp only); omega⟩ rfl) rfl ?_
  refine AHead.call (o_build bu40 rfl rfl rfl) rfl ?_
  refine AHead.nil ?_
  refine AOps.cons (o_store _ _ rfl rfl Tryd.sizeOf40 rfl rfl rfl rfl rfl) ?_
  refine AOps.nil ?_
  refine AWP.ret ?_
  exact postQ.retC Tryd.results90 rfl rfl Tryd.sizeOf40 Tryd.isAgg40 rfl rfl

set_option maxRecDepth 20000 in
theorem Core_s (c : Scl) (h : Sht) (k known : Int) : FSpec Tryd.prog 31 [.agg (eS c), .agg (eH h), I k, I known] (.tup [.agg (eP (corR c h k known)), I (watE c h k known)]) (none) := by
  refine FSpec.of_body Tryd.func31 rfl (leB rfl) fun w0 M0 => ?_
  refine AWP.seq ?_
  refine AWP.region ?_
  refine AOps.call (o_box _ rfl rfl rfl) ?_
  refine AOps.call (o_box _ rfl rfl rfl) ?_
  refine AOps.call (o_alloc ze40 rfl rfl) ?_
  refine AOps.call (o_assign _ rfl rfl) ?_
  refine AOps.nil ?_
  refine AWP.seq ?_
  refine AWP.seq ?_
  refine AWP.region ?_
  refine AOps.call (o_loadRef _ rfl rfl Tryd.sizeOf24 Tryd.isAgg24 rfl rfl rfl) ?_
  refine AOps.call (o_loadRef _ rfl rfl Tryd.sizeOf54 Tryd.isAgg54 rfl rfl rfl) ?_
  refine AOps.call (o_move _ rfl rfl) ?_
  refine AOps.call (o_move _ rfl rfl) ?_
  refine AOps.call (o_call (checkStake_s c h k known) Tryd.call88 rfl rfl) ?_
  refine AOps.call (o_assign _ rfl rfl) ?_
  refine AOps.nil ?_
  refine AWP.seq ?_
  refine AWP.region ?_
  refine AOps.call (o_move _ rfl rfl) ?_
  refine AOps.call (o_bin _ _ rfl rfl (fun _ => rfl) rfl) ?_
  refine AOps.nil ?_
  refine AWP.cond _ rfl (fun h11 => ?_) (fun h11 => ?_)
  · skip
    have hz : ¬ stakeE c h k known = 0 := by simpa using h11
    have hE : watE c h k known = stakeE c h k known := if_neg hz
    have hR : corR c h k known = ⟨0, 0⟩ := if_neg (by rw [hE]; exact hz)
    refine AWP.seq ?_
    refine AWP.region ?_
    refine AOps.call (o_build bu40 rfl rfl rfl) ?_
    refine AOps.call (o_move _ rfl rfl) ?_
    refine AOps.cons (o_store _ _ rfl rfl Tryd.sizeOf40 rfl rfl rfl rfl rfl) ?_
    refine AOps.call (o_assign _ rfl rfl) ?_
    refine AOps.nil ?_
    refine AWP.ret ?_
    refine postQ.retC1 Tryd.results31 rfl rfl Tryd.sizeOf40 Tryd.isAgg40 rfl rfl ?_
    rw [hE, hR]; rfl
  · skip
    have hz : stakeE c h k known = 0 := by simpa using h11
    obtain ⟨hs, hb, hk0, hkl, hdy⟩ := stakeE_0 hz
    have hbd := sheetB_bd hb
    have hel := kOf_get hkl
    refine AWP.skip ?_
    refine AWP.seq ?_
    refine AWP.region ?_
    refine AOps.call (o_loadRef _ rfl rfl Tryd.sizeOf24 Tryd.isAgg24 rfl rfl rfl) ?_
    refine AOps.call (o_loadRef _ rfl rfl Tryd.sizeOf54 Tryd.isAgg54 rfl rfl rfl) ?_
    refine AOps.call (o_move _ rfl rfl) ?_
    refine AOps.call (o_call (possible_s c h known hs hb) Tryd.call89 rfl rfl) ?_
    refine AOps.call (o_move _ rfl rfl) ?_
    refine AOps.call (o_extract _ rfl rfl rfl rfl) ?_
    refine AOps.call (o_extract _ rfl rfl rfl rfl) ?_
    refine AOps.call (o_alloc ze40 rfl rfl) ?_
    refine AOps.cons (o_store _ _ rfl rfl Tryd.sizeOf40 rfl rfl rfl rfl rfl) ?_
    refine AOps.call (o_assign _ rfl rfl) ?_
    refine AOps.nil ?_
    refine AWP.seq ?_
    refine AWP.seq ?_
    refine AWP.region ?_
    refine AOps.call (o_move _ rfl rfl) ?_
    refine AOps.call (o_bin _ _ rfl rfl (fun _ => rfl) rfl) ?_
    refine AOps.nil ?_
    refine AWP.cond _ rfl (fun h21 => ?_) (fun h21 => ?_)
    · skip
      have hp : ¬ posE c h known = 0 := by simpa using h21
      have hE : watE c h k known = posE c h known := if_pos hz
      have hR : corR c h k known = ⟨0, 0⟩ := if_neg (by rw [hE]; exact hp)
      refine AWP.seq ?_
      refine AWP.region ?_
      refine AOps.call (o_build bu40 rfl rfl rfl) ?_
      refine AOps.call (o_move _ rfl rfl) ?_
      refine AOps.cons (o_store _ _ rfl rfl Tryd.sizeOf40 rfl rfl rfl rfl rfl) ?_
      refine AOps.call (o_assign _ rfl rfl) ?_
      refine AOps.nil ?_
      refine AWP.ret ?_
      refine postQ.retC1 Tryd.results31 rfl rfl Tryd.sizeOf40 Tryd.isAgg40 rfl rfl ?_
      rw [hE, hR]; rfl
    · skip
      have hp : posE c h known = 0 := by simpa using h21
      rw [show posR c h known = posS c h known from if_pos hp]
      have hE : watE c h k known = 0 := (if_pos hz).trans hp
      have hR : corR c h k known = coreS h (kOf h k) (posS c h known) := if_pos hE
      refine AWP.skip ?_
      refine AWP.seq ?_
      refine AWP.drawn 8 mixed (by kernel_rfl) ?_
      refine AHead.call (o_loadRef _ rfl rfl Tryd.sizeOf54 Tryd.isAgg54 rfl rfl rfl) rfl ?_
      refine AHead.call (o_fieldRef _ rfl fa54_8 rfl rfl) rfl ?_
      refine AHead.call (o_loadRef _ rfl rfl Tryd.sizeOf52 Tryd.isAgg52 rfl rfl rfl) rfl ?_
      refine AHead.call (o_move _ rfl rfl) rfl ?_
      refine AHead.call (o_index _ _ Tryd.underlying52 Tryd.sizeOf79 rfl rfl (by omega) (by assumption) rfl rfl) rfl ?_
      refine AHead.call (o_loadRd _ rfl Tryd.sizeOf79 Tryd.isAgg79 rfl rfl rfl) rfl ?_
      refine AHead.call (o_loadRef _ rfl rfl Tryd.sizeOf40 Tryd.isAgg40 rfl rfl rfl) rfl ?_
      refine AHead.call (o_call (core_s h (kOf h k) (posS c h known) h.stakes (fits hs hb hp fun _ h => h) (kOf_mem hkl)) Tryd.call90 rfl rfl) rfl ?_
      refine AHead.nil ?_
      refine AOps.cons (o_store _ _ rfl rfl Tryd.sizeOf40 rfl rfl rfl rfl rfl) ?_
      refine AOps.call (o_assign _ rfl rfl) ?_
      refine AOps.nil ?_
      refine AWP.ret ?_
      refine postQ.retC1 Tryd.results31 rfl rfl Tryd.sizeOf40 Tryd.isAgg40 rfl rfl ?_
      rw [hE, hR]; rfl

end Go.Proofs.YtphoomnonenalaaDoor
