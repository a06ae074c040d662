import Derived.Test.YtphoomnonenalaaDoorC3
set_option linter.unusedSimpArgs false
set_option linter.unusedVariables false
namespace Go.Proofs.YtphoomnonenalaaDoor
open Go.Ab

set_option maxRecDepth 20000 in
theorem drift_s (r : Int) (l : List Tst) (d : Int) (hr : 0 ≤ r ∧ r ≤ 1000) (hl : l.length ≤ 1000) (hv : ∀ t ∈ l, testB t = true) (hd : 0 ≤ d ∧ d ≤ 1048576) : FSpec Tryd.prog 76 [I r, .sl (tests l), I d] (.agg (eP ⟨drLo r l d, drHi r l d⟩)) (none) := by
  refine FSpec.of_body Tryd.func76 rfl (leB rfl) fun w0 M0 => ?_
  refine AWP.seq ?_
  refine AWP.region ?_
  refine AOps.call (o_alloc ze40 rfl rfl) ?_
  refine AOps.nil ?_
  refine AWP.seq ?_
  refine AWP.region ?_
  refine AOps.call (o_nil (z := 1) (e := 3) rfl) ?_
  refine AOps.call (o_nil (z := 1) (e := 3) rfl) ?_
  refine AOps.nil ?_
  refine AWP.seq ?_
  refine AWP.seq ?_
  refine AWP.region ?_
  refine AOps.call (o_move _ rfl rfl) ?_
  refine AOps.call (o_len _ Tryd.underlying22 rfl rfl) ?_
  refine AOps.call (o_move _ rfl rfl) ?_
  refine AOps.nil ?_
  refine AWP.block ?_
  refine AWP.loop (ι := Nat × List Int × List Int) (fun i => AS.mk' 45 [(0, I r), (1, .sl (tests l)), (2, I d), (6, .ref (6, 0) 0), (7, .own (7, 0) (ints i.2.1)), (8, .own (8, 0) (ints i.2.2)), (12, .sl (tests l)), (13, I (tests l).length), (14, I i.1)] [((6, 0), [I 0, I 0])] [((7, 0), ((ints i.2.1).length, 1, 3)), ((8, 0), ((ints i.2.2).length, 1, 3))] [(6, 1), (7, 1), (8, 1)]) (fun i => i.1 ≤ l.length ∧ i.2.1 = (l.take i.1).map (fun t => t.lo - r * far t.day d) ∧ i.2.2 = (l.take i.1).map (fun t => t.hi + r * far t.day d)) (fun i => l.length - i.1) (0, [], []) (Weak.mk' rfl ⟨⟨.refl rfl, rfl⟩, ⟨⟨.refl rfl, rfl⟩, ⟨⟨.refl rfl, rfl⟩, ⟨⟨.refl rfl, rfl⟩, ⟨⟨.refl rfl, rfl⟩, ⟨⟨.refl rfl, rfl⟩, ⟨⟨.refl rfl, rfl⟩, ⟨⟨.refl rfl, rfl⟩, ⟨⟨.refl rfl, rfl⟩, trivial⟩⟩⟩⟩⟩⟩⟩⟩⟩ ⟨⟨rfl, rfl, rfl⟩, trivial⟩ ⟨⟨rfl, rfl⟩, ⟨⟨rfl, rfl⟩, trivial⟩⟩) (⟨Nat.zero_le _, by simp, by simp⟩) ?_
  rintro ⟨k, los, his⟩ ⟨hk, hlos, hhis⟩
  try dsimp only at *
  refine AWP.seq ?_
  refine AWP.region ?_
  refine AOps.call (o_bin _ _ rfl rfl (fun _ => rfl) rfl) ?_
  refine AOps.nil ?_
  refine AWP.seq ?_
  refine AWP.cond _ rfl (fun h8 => ?_) (fun h8 => ?_)
  · skip
    have hlt : k < l.length := by simpa [tests] using h8
    have hel := tests_get hlt
    have hb := testB_bd (hv _ (List.getElem_mem hlt))
    have hfb := far_bd (a := l[k].day) (b := d) ⟨hb.1, hb.2.1⟩ hd
    have hmb := mul_bd hr.1 hr.2 hfb.1 hfb.2
    refine AWP.skip ?_
    refine AWP.seq ?_
    refine AWP.block ?_
    refine AWP.seq ?_
    refine AWP.region ?_
    refine AOps.call (o_index _ _ Tryd.underlying22 Tryd.sizeOf26 rfl rfl (by omega) (by assumption) rfl rfl) ?_
    refine AOps.call (o_loadRd _ rfl Tryd.sizeOf26 Tryd.isAgg26 rfl rfl rfl) ?_
    refine AOps.call (o_alloc ze26 rfl rfl) ?_
    refine AOps.cons (o_store _ _ rfl rfl Tryd.sizeOf26 rfl rfl rfl rfl rfl) ?_
    refine AOps.nil ?_
    refine AWP.seq ?_
    refine AWP.region ?_
    refine AOps.call (o_move _ rfl rfl) ?_
    refine AOps.call (o_fieldRef _ rfl fa26_0 rfl rfl) ?_
    refine AOps.call (o_loadRef _ rfl rfl Tryd.sizeOf3 Tryd.isAgg3 rfl rfl rfl) ?_
    refine AOps.call (o_move _ rfl rfl) ?_
    refine AOps.call (o_call (reach_s _ _ _ hr ⟨hb.1, hb.2.1⟩ hd) Tryd.call125 rfl rfl) ?_
    refine AOps.call (o_assign _ rfl rfl) ?_
    refine AOps.nil ?_
    refine AWP.seq ?_
    refine AWP.region ?_
    refine AOps.call (o_move _ rfl rfl) ?_
    refine AOps.call (o_fieldRef _ rfl fa26_2 rfl rfl) ?_
    refine AOps.call (o_loadRef _ rfl rfl Tryd.sizeOf3 Tryd.isAgg3 rfl rfl rfl) ?_
    refine AOps.call (o_move _ rfl rfl) ?_
    refine AOps.call (o_sub _ _ rfl rfl ⟨by (try dsimp only); omega, by (try dsimp only); omega⟩ rfl) ?_
    refine AOps.call (o_lit Tryd.underlying45 Tryd.sizeOf3 Tryd.zeroValue3 rfl rfl rfl rfl rfl rfl rfl) ?_
    refine AOps.cons (o_append _ _ Tryd.underlying45 info3 rfl rfl rfl rfl rfl rfl rfl rfl (fun c hc => by simp at hc; subst hc; rfl) ints_z (by
        have h1 : los.length = k := by rw [hlos, List.length_map, List.length_take]; omega
        rw [ints_len, h1]; simp only [List.length_cons, List.length_nil, Nat.zero_add]; unfold Tryd.t3; simp only []; omega) rfl (ints_snoc los _) rfl) ?_
    refine AOps.call (o_assign _ rfl rfl) ?_
    refine AOps.nil ?_
    refine AWP.region ?_
    refine AOps.call (o_move _ rfl rfl) ?_
    refine AOps.call (o_fieldRef _ rfl fa26_3 rfl rfl) ?_
    refine AOps.call (o_loadRef _ rfl rfl Tryd.sizeOf3 Tryd.isAgg3 rfl rfl rfl) ?_
    refine AOps.call (o_move _ rfl rfl) ?_
    refine AOps.call (o_add _ _ rfl rfl ⟨by (try dsimp only); omega, by (try dsimp only); omega⟩ rfl) ?_
    refine AOps.call (o_lit Tryd.underlying45 Tryd.sizeOf3 Tryd.zeroValue3 rfl rfl rfl rfl rfl rfl rfl) ?_
    refine AOps.cons (o_append _ _ Tryd.underlying45 info3 rfl rfl rfl rfl rfl rfl rfl rfl (fun c hc => by simp at hc; subst hc; rfl) ints_z (by
        have h1 : his.length = k := by rw [hhis, List.length_map, List.length_take]; omega
        rw [ints_len, h1]; simp only [List.length_cons, List.length_nil, Nat.zero_add]; unfold Tryd.t3; simp only []; omega) rfl (ints_snoc his _) rfl) ?_
    refine AOps.call (o_assign _ rfl rfl) ?_
    refine AOps.nil ?_
    refine AWP.region ?_
    refine AOps.call (o_add _ _ rfl rfl ⟨by (try dsimp only); omega, by (try dsimp only); omega⟩ rfl) ?_
    refine AOps.call (o_move _ rfl rfl) ?_
    refine AOps.nil ?_
    refine ⟨(k + 1, _, _), ?_, (Weak.mk' rfl ⟨⟨.refl rfl, rfl⟩, ⟨⟨.refl rfl, rfl⟩, ⟨⟨.refl rfl, rfl⟩, ⟨⟨.refl rfl, rfl⟩, ⟨⟨.refl rfl, rfl⟩, ⟨⟨.refl rfl, rfl⟩, ⟨⟨.refl rfl, rfl⟩, ⟨⟨.refl rfl, rfl⟩, ⟨⟨.refl rfl, rfl⟩, trivial⟩⟩⟩⟩⟩⟩⟩⟩⟩ ⟨⟨rfl, rfl, rfl⟩, trivial⟩ ⟨⟨rfl, rfl⟩, ⟨⟨rfl, rfl⟩, trivial⟩⟩)⟩
    refine ⟨⟨by omega, ?_, ?_⟩, by omega⟩
    · rw [List.take_succ_eq_append_getElem hlt, List.map_append, ← hlos]; rfl
    · rw [List.take_succ_eq_append_getElem hlt, List.map_append, ← hhis]; rfl
  · skip
    have hkl : k = l.length := by simp [tests] at h8 hk; omega
    subst hkl
    rw [List.take_length] at hlos hhis
    have hl1 : los.length ≤ 1000000 := by rw [hlos, List.length_map]; omega
    have hl2 : his.length ≤ 1000000 := by rw [hhis, List.length_map]; omega
    refine AWP.exit ?_
    refine AWP.seq ?_
    refine AWP.region ?_
    refine AOps.call (o_move _ rfl rfl) ?_
    refine AOps.call (o_call (ends_s _ los hl1) Tryd.call126 rfl rfl) ?_
    refine AOps.call (o_field _ rfl fa40_1 rfl rfl rfl) ?_
    refine AOps.call (o_move _ rfl rfl) ?_
    refine AOps.call (o_call (ends_s _ his hl2) Tryd.call126 rfl rfl) ?_
    refine AOps.call (o_field _ rfl fa40_0 rfl rfl rfl) ?_
    refine AOps.call (o_build bu40 rfl rfl rfl) ?_
    refine AOps.cons (o_store _ _ rfl rfl Tryd.sizeOf40 rfl rfl rfl rfl rfl) ?_
    refine AOps.nil ?_
    refine AWP.ret ?_
    refine postQ.retC Tryd.results76 rfl rfl Tryd.sizeOf40 Tryd.isAgg40 rfl ?_
    subst hlos hhis
    rfl

set_option maxRecDepth 20000 in
theorem checkAsked_s (s : Scl) (l : List Int) (hl : l.length ≤ 1000) : FSpec Tryd.prog 75 [.agg (eS s), .sl (ints l)] (I (askE s l)) (none) := by
  refine FSpec.of_body Tryd.func75 rfl (leB rfl) fun w0 M0 => ?_
  refine AWP.seq ?_
  refine AWP.region ?_
  refine AOps.call (o_box _ rfl rfl rfl) ?_
  refine AOps.call (o_assign _ rfl rfl) ?_
  refine AOps.nil ?_
  refine AWP.seq ?_
  refine AWP.seq ?_
  refine AWP.region ?_
  refine AOps.call (o_loadRef _ rfl rfl Tryd.sizeOf24 Tryd.isAgg24 rfl rfl rfl) ?_
  refine AOps.call (o_call (CheckScale_s s) Tryd.call19 rfl rfl) ?_
  refine AOps.call (o_assign _ rfl rfl) ?_
  refine AOps.nil ?_
  refine AWP.seq ?_
  refine AWP.region ?_
  refine AOps.call (o_move _ rfl rfl) ?_
  refine AOps.call (o_bin _ _ rfl rfl (fun _ => rfl) rfl) ?_
  refine AOps.nil ?_
  refine AWP.cond _ rfl (fun h6 => ?_) (fun h6 => ?_)
  · skip
    refine AWP.seq ?_
    refine AWP.region ?_
    refine AOps.call (o_move _ rfl rfl) ?_
    refine AOps.call (o_assign _ rfl rfl) ?_
    refine AOps.nil ?_
    refine AWP.ret ?_
    refine postQ.ret1 Tryd.results75 rfl ?_
    try rw [all_at hlt] at hinv
    unfold askE
    simp_all [AV.close, I]
  · skip
    refine AWP.skip ?_
    refine AWP.seq ?_
    refine AWP.seq ?_
    refine AWP.region ?_
    refine AOps.call (o_move _ rfl rfl) ?_
    refine AOps.call (o_len _ Tryd.underlying45 rfl rfl) ?_
    refine AOps.call (o_move _ rfl rfl) ?_
    refine AOps.nil ?_
    refine AWP.block ?_
    refine AWP.loop (ι := Nat) (fun i => AS.mk' 23 [(2, .ref (2, 0) 0), (13, .sl (ints l)), (14, I (ints l).length), (15, I i)] [((2, 0), eS s)] [] [(2, 1)]) (fun i => i ≤ l.length ∧ l.all dayB = (l.drop i).all dayB) (fun i => l.length - i) (0) (Weak.mk' rfl ⟨⟨.refl rfl, rfl⟩, ⟨⟨.refl rfl, rfl⟩, ⟨⟨.refl rfl, rfl⟩, ⟨⟨.refl rfl, rfl⟩, trivial⟩⟩⟩⟩ ⟨⟨rfl, rfl, rfl⟩, trivial⟩ trivial) (⟨Nat.zero_le _, rfl⟩) ?_
    rintro k ⟨hk, hinv⟩
    try dsimp only at *
    refine AWP.seq ?_
    refine AWP.region ?_
    refine AOps.call (o_bin _ _ rfl rfl (fun _ => rfl) rfl) ?_
    refine AOps.nil ?_
    refine AWP.seq ?_
    refine AWP.cond _ rfl (fun h11 => ?_) (fun h11 => ?_)
    · skip
      have hlt : k < l.length := by simpa [ints] using h11
      have hel := ints_get hlt
      refine AWP.skip ?_
      refine AWP.seq ?_
      refine AWP.block ?_
      refine AWP.seq ?_
      refine AWP.region ?_
      refine AOps.call (o_index _ _ Tryd.underlying45 Tryd.sizeOf3 rfl rfl (by omega) (by assumption) rfl rfl) ?_
      refine AOps.call (o_loadRd _ rfl Tryd.sizeOf3 Tryd.isAgg3 rfl rfl rfl) ?_
      refine AOps.call (o_assign _ rfl rfl) ?_
      refine AOps.nil ?_
      refine AWP.seq ?_
      refine AWP.region ?_
      refine AOps.call (o_move _ rfl rfl) ?_
      refine AOps.call (o_call (isDay_s _) Tryd.call72 rfl rfl) ?_
      refine AOps.call (o_un _ rfl (fun _ => rfl) rfl) ?_
      refine AOps.nil ?_
      refine AWP.cond _ rfl (fun h16 => ?_) (fun h16 => ?_)
      · skip
        refine AWP.seq ?_
        refine AWP.region ?_
        refine AOps.call (o_assign _ rfl rfl) ?_
        refine AOps.nil ?_
        refine AWP.ret ?_
        refine postQ.ret1 Tryd.results75 rfl ?_
        try rw [all_at hlt] at hinv
        unfold askE
        simp_all [AV.close, I]
      · skip
        refine AWP.skip ?_
        refine AWP.region ?_
        refine AOps.call (o_add _ _ rfl rfl ⟨by (try dsimp only); omega, by (try dsimp only); omega⟩ rfl) ?_
        refine AOps.call (o_move _ rfl rfl) ?_
        refine AOps.nil ?_
        refine ⟨k + 1, ?_, (Weak.mk' rfl ⟨⟨.refl rfl, rfl⟩, ⟨⟨.refl rfl, rfl⟩, ⟨⟨.refl rfl, rfl⟩, ⟨⟨.refl rfl, rfl⟩, trivial⟩⟩⟩⟩ ⟨⟨rfl, rfl, rfl⟩, trivial⟩ trivial)⟩
        exact ⟨⟨by omega, by rw [hinv, all_at hlt]; simp_all⟩, by omega⟩
    · skip
      have hkl : k = l.length := by simp [ints] at h11 hk; omega
      subst hkl
      rw [List.drop_length] at hinv
      refine AWP.exit ?_
      refine AWP.seq ?_
      refine AWP.region ?_
      refine AOps.call (o_assign _ rfl rfl) ?_
      refine AOps.nil ?_
      refine AWP.ret ?_
      refine postQ.ret1 Tryd.results75 rfl ?_
      try rw [all_at hlt] at hinv
      unfold askE
      simp_all [AV.close, I]

set_option maxRecDepth 20000 in
theorem Drift_s (s : Scl) (day known : Int) : FSpec Tryd.prog 22 [.agg (eS s), I day, I known] (if askE s [day, known] = 0 then .tup [.agg (eP (drS s day known)), I 0] else .tup [.agg [I 0, I 0], I (askE s [day, known])]) (none) := by
  refine FSpec.of_body Tryd.func22 rfl (leB rfl) fun w0 M0 => ?_
  refine AWP.seq ?_
  refine AWP.region ?_
  refine AOps.call (o_box _ rfl rfl rfl) ?_
  refine AOps.call (o_alloc ze40 rfl rfl) ?_
  refine AOps.call (o_assign _ rfl rfl) ?_
  refine AOps.nil ?_
  refine AWP.seq ?_
  refine AWP.seq ?_
  refine AWP.region ?_
  refine AOps.call (o_loadRef _ rfl rfl Tryd.sizeOf24 Tryd.isAgg24 rfl rfl rfl) ?_
  refine AOps.call (o_move _ rfl rfl) ?_
  refine AOps.call (o_move _ rfl rfl) ?_
  refine AOps.call (o_lit Tryd.underlying45 Tryd.sizeOf3 Tryd.zeroValue3 rfl rfl rfl rfl rfl rfl rfl) ?_
  refine AOps.call (o_call (checkAsked_s s [day, known] (leB rfl)) Tryd.call75 rfl rfl) ?_
  refine AOps.call (o_assign _ rfl rfl) ?_
  refine AOps.nil ?_
  refine AWP.seq ?_
  refine AWP.region ?_
  refine AOps.call (o_move _ rfl rfl) ?_
  refine AOps.call (o_bin _ _ rfl rfl (fun _ => rfl) rfl) ?_
  refine AOps.nil ?_
  refine AWP.cond _ rfl (fun h10 => ?_) (fun h10 => ?_)
  · skip
    have hz : ¬ askE s [day, known] = 0 := by simpa using h10
    refine AWP.seq ?_
    refine AWP.region ?_
    refine AOps.call (o_build bu40 rfl rfl rfl) ?_
    refine AOps.call (o_move _ rfl rfl) ?_
    refine AOps.cons (o_store _ _ rfl rfl Tryd.sizeOf40 rfl rfl rfl rfl rfl) ?_
    refine AOps.call (o_assign _ rfl rfl) ?_
    refine AOps.nil ?_
    refine AWP.ret ?_
    refine postQ.retC1 Tryd.results22 rfl rfl Tryd.sizeOf40 Tryd.isAgg40 rfl rfl ?_
    first
    | (rw [if_pos hz]; rfl)
    | (rw [if_neg hz]; rfl)
  · skip
    have hz : askE s [day, known] = 0 := by simpa using h10
    obtain ⟨hs0, hdd⟩ := askE_0 hz
    have hs := scaleE_0 hs0
    simp only [List.all_cons, List.all_nil, Bool.and_true, Bool.and_eq_true] at hdd
    refine AWP.skip ?_
    refine AWP.seq ?_
    refine AWP.drawn 7 mixed (by kernel_rfl) ?_
    refine AHead.call (o_fieldRef _ rfl fa24_1 rfl rfl) rfl ?_
    refine AHead.call (o_loadRef _ rfl rfl Tryd.sizeOf3 Tryd.isAgg3 rfl rfl rfl) rfl ?_
    refine AHead.call (o_loadRef _ rfl rfl Tryd.sizeOf24 Tryd.isAgg24 rfl rfl rfl) rfl ?_
    refine AHead.call (o_move _ rfl rfl) rfl ?_
    refine AHead.call (o_call (knownTests_s s known (by have := scaleB_len hs; omega)) Tryd.call77 rfl rfl) rfl ?_
    refine AHead.call (o_move _ rfl rfl) rfl ?_
    refine AHead.call (o_call (drift_s s.rate (knownL s known) day (scaleB_rate hs) (by have := scaleB_len hs; have := known_len s known; omega) (fun t ht => scaleB_tests hs t (mem_known ht)) (dayB_bd hdd.1)) Tryd.call76 rfl rfl) rfl ?_
    refine AHead.nil ?_
    refine AOps.cons (o_store _ _ rfl rfl Tryd.sizeOf40 rfl rfl rfl rfl rfl) ?_
    refine AOps.call (o_assign _ rfl rfl) ?_
    refine AOps.nil ?_
    refine AWP.ret ?_
    refine postQ.retC1 Tryd.results22 rfl rfl Tryd.sizeOf40 Tryd.isAgg40 rfl rfl ?_
    first
    | (rw [if_pos hz]; rfl)
    | (rw [if_neg hz]; rfl)

set_option maxRecDepth 20000 in
theorem turn_s (s : Scl) (a b known : Int) (hs : scaleB s = true) (ha : 0 ≤ a ∧ a ≤ 1048576) (hb : 0 ≤ b ∧ b ≤ 1048576) : FSpec Tryd.prog 79 [.agg (eS s), I a, I b, I known] (.agg (eP (tnS s a b known))) (none) := by
  refine FSpec.of_body Tryd.func79 rfl (leB rfl) fun w0 M0 => ?_
  have hla := drS_bd (k := known) hs ha
  have hlb := drS_bd (k := known) hs hb
  have hfb := far_bd ha hb
  have hmb := mul_bd (scaleB_rate hs).1 (scaleB_rate hs).2 hfb.1 hfb.2
  simp only [drS] at hla hlb
  refine AWP.seq ?_
  refine AWP.region ?_
  refine AOps.call (o_box _ rfl rfl rfl) ?_
  refine AOps.call (o_alloc ze40 rfl rfl) ?_
  refine AOps.nil ?_
  refine AWP.seq ?_
  refine AWP.region ?_
  refine AOps.call (o_loadRef _ rfl rfl Tryd.sizeOf24 Tryd.isAgg24 rfl rfl rfl) ?_
  refine AOps.call (o_move _ rfl rfl) ?_
  refine AOps.call (o_call (knownTests_s s known (by have := scaleB_len hs; omega)) Tryd.call77 rfl rfl) ?_
  refine AOps.call (o_assign _ rfl rfl) ?_
  refine AOps.nil ?_
  refine AWP.seq ?_
  refine AWP.drawn 12 mixed (by kernel_rfl) ?_
  refine AHead.call (o_fieldRef _ rfl fa24_1 rfl rfl) rfl ?_
  refine AHead.call (o_loadRef _ rfl rfl Tryd.sizeOf3 Tryd.isAgg3 rfl rfl rfl) rfl ?_
  refine AHead.call (o_move _ rfl rfl) rfl ?_
  refine AHead.call (o_move _ rfl rfl) rfl ?_
  refine AHead.call (o_call (drift_s s.rate (knownL s known) a (scaleB_rate hs) (by have := scaleB_len hs; have := known_len s known; omega) (fun t ht => scaleB_tests hs t (mem_known ht)) ha) Tryd.call76 rfl rfl) rfl ?_
  refine AHead.call (o_fieldRef _ rfl fa24_1 rfl rfl) rfl ?_
  refine AHead.call (o_loadRef _ rfl rfl Tryd.sizeOf3 Tryd.isAgg3 rfl rfl rfl) rfl ?_
  refine AHead.call (o_move _ rfl rfl) rfl ?_
  refine AHead.call (o_move _ rfl rfl) rfl ?_
  refine AHead.call (o_call (drift_s s.rate (knownL s known) b (scaleB_rate hs) (by have := scaleB_len hs; have := known_len s known; omega) (fun t ht => scaleB_tests hs t (mem_known ht)) hb) Tryd.call76 rfl rfl) rfl ?_
  refine AHead.call (o_alloc ze40 rfl rfl) rfl ?_
  refine AHead.call (o_alloc ze40 rfl rfl) rfl ?_
  refine AHead.nil ?_
  refine AOps.cons (o_store _ _ rfl rfl Tryd.sizeOf40 rfl rfl rfl rfl rfl) ?_
  refine AOps.cons (o_store _ _ rfl rfl Tryd.sizeOf40 rfl rfl rfl rfl rfl) ?_
  refine AOps.nil ?_
  refine AWP.seq ?_
  refine AWP.region ?_
  refine AOps.call (o_fieldRef _ rfl fa24_1 rfl rfl) ?_
  refine AOps.call (o_loadRef _ rfl rfl Tryd.sizeOf3 Tryd.isAgg3 rfl rfl rfl) ?_
  refine AOps.call (o_move _ rfl rfl) ?_
  refine AOps.call (o_move _ rfl rfl) ?_
  refine AOps.call (o_call (reach_s _ _ _ (scaleB_rate hs) ha hb) Tryd.call125 rfl rfl) ?_
  refine AOps.call (o_assign _ rfl rfl) ?_
  refine AOps.nil ?_
  refine AWP.seq ?_
  refine AWP.drawn 20 mixed (by kernel_rfl) ?_
  refine AHead.call (o_move _ rfl rfl) rfl ?_
  refine AHead.call (o_neg _ rfl ⟨by (try dsimp only); omega, by (try dsimp only); omega⟩ rfl) rfl ?_
  refine AHead.call (o_fieldRef _ rfl fa40_0 rfl rfl) rfl ?_
  refine AHead.call (o_loadRef _ rfl rfl Tryd.sizeOf3 Tryd.isAgg3 rfl rfl rfl) rfl ?_
  refine AHead.call (o_fieldRef _ rfl fa40_1 rfl rfl) rfl ?_
  refine AHead.call (o_loadRef _ rfl rfl Tryd.sizeOf3 Tryd.isAgg3 rfl rfl rfl) rfl ?_
  refine AHead.call (o_sub _ _ rfl rfl ⟨by (try dsimp only); omega, by (try dsimp only); omega⟩ rfl) rfl ?_
  refine AHead.call (o_lit Tryd.underlying45 Tryd.sizeOf3 Tryd.zeroValue3 rfl rfl rfl rfl rfl rfl rfl) rfl ?_
  refine AHead.call (o_call (ends_s _ [(drS s b known).lo - (drS s a known).hi] (leB rfl)) Tryd.call126 rfl rfl) rfl ?_
  refine AHead.call (o_field _ rfl fa40_1 rfl rfl rfl) rfl ?_
  refine AHead.call (o_move _ rfl rfl) rfl ?_
  refine AHead.call (o_fieldRef _ rfl fa40_1 rfl rfl) rfl ?_
  refine AHead.call (o_loadRef _ rfl rfl Tryd.sizeOf3 Tryd.isAgg3 rfl rfl rfl) rfl ?_
  refine AHead.call (o_fieldRef _ rfl fa40_0 rfl rfl) rfl ?_
  refine AHead.call (o_loadRef _ rfl rfl Tryd.sizeOf3 Tryd.isAgg3 rfl rfl rfl) rfl ?_
  refine AHead.call (o_sub _ _ rfl rfl ⟨by (try dsimp only); omega, by (try dsimp only); omega⟩ rfl) rfl ?_
  refine AHead.call (o_lit Tryd.underlying45 Tryd.sizeOf3 Tryd.zeroValue3 rfl rfl rfl rfl rfl rfl rfl) rfl ?_
  refine AHead.call (o_call (ends_s _ [(drS s b known).hi - (drS s a known).lo] (leB rfl)) Tryd.call126 rfl rfl) rfl ?_
  refine AHead.call (o_field _ rfl fa40_0 rfl rfl rfl) rfl ?_
  refine AHead.call (o_build bu40 rfl rfl rfl) rfl ?_
  refine AHead.nil ?_
  refine AOps.cons (o_store _ _ rfl rfl Tryd.sizeOf40 rfl rfl rfl rfl rfl) ?_
  refine AOps.nil ?_
  refine AWP.ret ?_
  exact postQ.retC Tryd.results79 rfl rfl Tryd.sizeOf40 Tryd.isAgg40 rfl rfl

set_option maxRecDepth 20000 in
theorem Turn_s (s : Scl) (a b known : Int) : FSpec Tryd.prog 24 [.agg (eS s), I a, I b, I known] (if askE s [a, b, known] = 0 then .tup [.agg (eP (tnS s a b known)), I 0] else .tup [.agg [I 0, I 0], I (askE s [a, b, known])]) (none) := by
  refine FSpec.of_body Tryd.func24 rfl (leB rfl) fun w0 M0 => ?_
  refine AWP.seq ?_
  refine AWP.region ?_
  refine AOps.call (o_box _ rfl rfl rfl) ?_
  refine AOps.call (o_alloc ze40 rfl rfl) ?_
  refine AOps.call (o_assign _ rfl rfl) ?_
  refine AOps.nil ?_
  refine AWP.seq ?_
  refine AWP.seq ?_
  refine AWP.region ?_
  refine AOps.call (o_loadRef _ rfl rfl Tryd.sizeOf24 Tryd.isAgg24 rfl rfl rfl) ?_
  refine AOps.call (o_move _ rfl rfl) ?_
  refine AOps.call (o_move _ rfl rfl) ?_
  refine AOps.call (o_move _ rfl rfl) ?_
  refine AOps.call (o_lit Tryd.underlying45 Tryd.sizeOf3 Tryd.zeroValue3 rfl rfl rfl rfl rfl rfl rfl) ?_
  refine AOps.call (o_call (checkAsked_s s [a, b, known] (leB rfl)) Tryd.call75 rfl rfl) ?_
  refine AOps.call (o_assign _ rfl rfl) ?_
  refine AOps.nil ?_
  refine AWP.seq ?_
  refine AWP.region ?_
  refine AOps.call (o_move _ rfl rfl) ?_
  refine AOps.call (o_bin _ _ rfl rfl (fun _ => rfl) rfl) ?_
  refine AOps.nil ?_
  refine AWP.cond _ rfl (fun h11 => ?_) (fun h11 => ?_)
  · skip
    have hz : ¬ askE s [a, b, known] = 0 := by simpa using h11
    refine AWP.seq ?_
    refine AWP.region ?_
    refine AOps.call (o_build bu40 rfl rfl rfl) ?_
    refine AOps.call (o_move _ rfl rfl) ?_
    refine AOps.cons (o_store _ _ rfl rfl Tryd.sizeOf40 rfl rfl rfl rfl rfl) ?_
    refine AOps.call (o_assign _ rfl rfl) ?_
    refine AOps.nil ?_
    refine AWP.ret ?_
    refine postQ.retC1 Tryd.results24 rfl rfl Tryd.sizeOf40 Tryd.isAgg40 rfl rfl ?_
    first
    | (rw [if_pos hz]; rfl)
    | (rw [if_neg hz]; rfl)
  · skip
    have hz : askE s [a, b, known] = 0 := by simpa using h11
    obtain ⟨hs0, hdd⟩ := askE_0 hz
    have hs := scaleE_0 hs0
    simp only [List.all_cons, List.all_nil, Bool.and_true, Bool.and_eq_true] at hdd
    refine AWP.skip ?_
    refine AWP.seq ?_
    refine AWP.region ?_
    refine AOps.call (o_loadRef _ rfl rfl Tryd.sizeOf24 Tryd.isAgg24 rfl rfl rfl) ?_
    refine AOps.call (o_move _ rfl rfl) ?_
    refine AOps.call (o_move _ rfl rfl) ?_
    refine AOps.call (o_move _ rfl rfl) ?_
    refine AOps.call (o_call (turn_s s a b known hs (dayB_bd hdd.1) (dayB_bd hdd.2.1)) Tryd.call79 rfl rfl) ?_
    refine AOps.cons (o_store _ _ rfl rfl Tryd.sizeOf40 rfl rfl rfl rfl rfl) ?_
    refine AOps.call (o_assign _ rfl rfl) ?_
    refine AOps.nil ?_
    refine AWP.ret ?_
    refine postQ.retC1 Tryd.results24 rfl rfl Tryd.sizeOf40 Tryd.isAgg40 rfl rfl ?_
    first
    | (rw [if_pos hz]; rfl)
    | (rw [if_neg hz]; rfl)

end Go.Proofs.YtphoomnonenalaaDoor
