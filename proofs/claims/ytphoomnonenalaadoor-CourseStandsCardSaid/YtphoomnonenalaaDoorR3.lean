import Derived.Test.YtphoomnonenalaaDoorR2
set_option linter.unusedSimpArgs false
set_option linter.unusedVariables false
namespace Go.Proofs.YtphoomnonenalaaDoor
open Go.Ab
theorem drLo_in {s : Scl} {known day : Int} {k : Nat} (h : k < s.tests.length) (hk : s.tests[k].known ≤ known) : drLo s.rate ((s.tests.take (k + 1)).filter fun t => decide (t.known ≤ known)) day = (if s.tests[k].lo - s.rate * far s.tests[k].day day > drLo s.rate ((s.tests.take k).filter fun t => decide (t.known ≤ known)) day then s.tests[k].lo - s.rate * far s.tests[k].day day else drLo s.rate ((s.tests.take k).filter fun t => decide (t.known ≤ known)) day) := by
  rw [known_take h, if_pos hk]; unfold drLo mx; rw [List.map_append, List.foldl_append]; rfl
theorem drHi_in {s : Scl} {known day : Int} {k : Nat} (h : k < s.tests.length) (hk : s.tests[k].known ≤ known) : drHi s.rate ((s.tests.take (k + 1)).filter fun t => decide (t.known ≤ known)) day = (if s.tests[k].hi + s.rate * far s.tests[k].day day < drHi s.rate ((s.tests.take k).filter fun t => decide (t.known ≤ known)) day then s.tests[k].hi + s.rate * far s.tests[k].day day else drHi s.rate ((s.tests.take k).filter fun t => decide (t.known ≤ known)) day) := by
  rw [known_take h, if_pos hk]; unfold drHi mn; rw [List.map_append, List.foldl_append]; rfl
theorem drLo_out {s : Scl} {known day : Int} {k : Nat} (h : k < s.tests.length) (hk : ¬ s.tests[k].known ≤ known) : drLo s.rate ((s.tests.take (k + 1)).filter fun t => decide (t.known ≤ known)) day = drLo s.rate ((s.tests.take k).filter fun t => decide (t.known ≤ known)) day := by
  rw [known_take h, if_neg hk, List.append_nil]
theorem drHi_out {s : Scl} {known day : Int} {k : Nat} (h : k < s.tests.length) (hk : ¬ s.tests[k].known ≤ known) : drHi s.rate ((s.tests.take (k + 1)).filter fun t => decide (t.known ≤ known)) day = drHi s.rate ((s.tests.take k).filter fun t => decide (t.known ≤ known)) day := by
  rw [known_take h, if_neg hk, List.append_nil]

set_option maxRecDepth 20000 in
theorem rdrift_s (s : Scl) (day known : Int) (hs : scaleB s = true) (hd : 0 ≤ day ∧ day ≤ 1048576) : FSpec Tryd.prog 78 [.agg (eS s), I day, I known] (.agg (eP (drS s day known))) (none) := by
  refine FSpec.of_body Tryd.func78 rfl (leB rfl) fun w0 M0 => ?_
  have hr := scaleB_rate hs
  have htl := tests_len s.tests
  have hsl := scaleB_len hs
  refine AWP.seq ?_
  refine AWP.region ?_
  refine AOps.call (o_box _ rfl rfl rfl) ?_
  refine AOps.call (o_alloc ze40 rfl rfl) ?_
  refine AOps.nil ?_
  refine AWP.seq ?_
  refine AWP.region ?_
  refine AOps.call (o_build bu40 rfl rfl rfl) ?_
  refine AOps.call (o_alloc ze40 rfl rfl) ?_
  refine AOps.cons (o_store _ _ rfl rfl Tryd.sizeOf40 rfl rfl rfl rfl rfl) ?_
  refine AOps.nil ?_
  refine AWP.seq ?_
  refine AWP.seq ?_
  refine AWP.region ?_
  refine AOps.call (o_assign _ rfl rfl) ?_
  refine AOps.nil ?_
  refine AWP.block ?_
  refine AWP.loop (ι := Nat) (fun i => AS.mk' 52 [(1, I day), (2, I known), (3, .ref (3, 0) 0), (6, .ref (6, 0) 0), (7, .ref (7, 0) 0), (8, I i)] [((3, 0), eS s), ((6, 0), [I 0, I 0]), ((7, 0), [I (drLo s.rate ((s.tests.take i).filter fun t => decide (t.known ≤ known)) day), I (drHi s.rate ((s.tests.take i).filter fun t => decide (t.known ≤ known)) day)])] [] [(3, 1), (6, 1), (7, 1)]) (fun i => i ≤ s.tests.length) (fun i => s.tests.length - i) (0) (Weak.mk' rfl ⟨⟨.refl rfl, rfl⟩, ⟨⟨.refl rfl, rfl⟩, ⟨⟨.refl rfl, rfl⟩, ⟨⟨.refl rfl, rfl⟩, ⟨⟨.refl rfl, rfl⟩, ⟨⟨.refl rfl, rfl⟩, trivial⟩⟩⟩⟩⟩⟩ ⟨⟨rfl, rfl, rfl⟩, ⟨⟨rfl, rfl, rfl⟩, ⟨⟨rfl, rfl, rfl⟩, trivial⟩⟩⟩ trivial) (Nat.zero_le _) ?_
  rintro k hk
  try dsimp only at *
  refine AWP.seq ?_
  refine AWP.seq ?_
  refine AWP.region ?_
  refine AOps.call (o_move _ rfl rfl) ?_
  refine AOps.call (o_fieldRef _ rfl fa24_2 rfl rfl) ?_
  refine AOps.call (o_loadRef _ rfl rfl Tryd.sizeOf22 Tryd.isAgg22 rfl rfl rfl) ?_
  refine AOps.call (o_len _ Tryd.underlying22 rfl rfl) ?_
  refine AOps.call (o_bin _ _ rfl rfl (fun _ => rfl) rfl) ?_
  refine AOps.nil ?_
  refine AWP.cond _ rfl (fun h10 => ?_) (fun h10 => ?_)
  · skip
    have hlt : k < s.tests.length := by simpa [tests] using h10
    have hel := tests_get hlt
    have htb := testB_bd (scaleB_tests hs _ (List.getElem_mem hlt))
    have hfb := far_bd (a := s.tests[k].day) (b := day) ⟨htb.1, htb.2.1⟩ hd
    have hmb := mul_bd hr.1 hr.2 hfb.1 hfb.2
    refine AWP.skip ?_
    refine AWP.seq ?_
    refine AWP.block ?_
    refine AWP.seq ?_
    refine AWP.region ?_
    refine AOps.call (o_fieldRef _ rfl fa24_2 rfl rfl) ?_
    refine AOps.call (o_loadRef _ rfl rfl Tryd.sizeOf22 Tryd.isAgg22 rfl rfl rfl) ?_
    refine AOps.call (o_move _ rfl rfl) ?_
    refine AOps.call (o_index _ _ Tryd.underlying22 Tryd.sizeOf26 rfl rfl (by omega) (by assumption) rfl rfl) ?_
    refine AOps.call (o_loadRd _ rfl Tryd.sizeOf26 Tryd.isAgg26 rfl rfl rfl) ?_
    refine AOps.call (o_alloc ze26 rfl rfl) ?_
    refine AOps.cons (o_store _ _ rfl rfl Tryd.sizeOf26 rfl rfl rfl rfl rfl) ?_
    refine AOps.nil ?_
    refine AWP.seq ?_
    refine AWP.seq ?_
    refine AWP.region ?_
    refine AOps.call (o_fieldRef _ rfl fa26_1 rfl rfl) ?_
    refine AOps.call (o_loadRef _ rfl rfl Tryd.sizeOf3 Tryd.isAgg3 rfl rfl rfl) ?_
    refine AOps.call (o_move _ rfl rfl) ?_
    refine AOps.call (o_bin _ _ rfl rfl (fun _ => rfl) rfl) ?_
    refine AOps.nil ?_
    refine AWP.cond _ rfl (fun h20 => ?_) (fun h20 => ?_)
    · skip
      have hkn : ¬ s.tests[k].known ≤ known := by simpa using h20
      refine AWP.exit ?_
      refine AWP.region ?_
      refine AOps.call (o_move _ rfl rfl) ?_
      refine AOps.call (o_add _ _ rfl rfl ⟨by (try dsimp only); omega, by (try dsimp only); omega⟩ rfl) ?_
      refine AOps.call (o_assign _ rfl rfl) ?_
      refine AOps.nil ?_
      refine ⟨k + 1, ?_, (Weak.mk' rfl ⟨⟨.refl rfl, rfl⟩, ⟨⟨.refl rfl, rfl⟩, ⟨⟨.refl rfl, rfl⟩, ⟨⟨.refl rfl, rfl⟩, ⟨⟨.refl rfl, rfl⟩, ⟨⟨.refl rfl, rfl⟩, trivial⟩⟩⟩⟩⟩⟩ ⟨⟨rfl, rfl, rfl⟩, ⟨⟨rfl, rfl, rfl⟩, ⟨⟨(by first | (rw [drLo_in hlt hkn, drHi_in hlt hkn]; rfl) | (rw [drLo_out hlt hkn, drHi_out hlt hkn]; rfl)), rfl, rfl⟩, trivial⟩⟩⟩ trivial)⟩
      exact ⟨by omega, by omega⟩
    · skip
      have hkn : s.tests[k].known ≤ known := by simpa using h20
      refine AWP.skip ?_
      refine AWP.seq ?_
      refine AWP.drawn 8 mixed (by kernel_rfl) ?_
      refine AHead.call (o_fieldRef _ rfl fa24_1 rfl rfl) rfl ?_
      refine AHead.call (o_loadRef _ rfl rfl Tryd.sizeOf3 Tryd.isAgg3 rfl rfl rfl) rfl ?_
      refine AHead.call (o_fieldRef _ rfl fa26_0 rfl rfl) rfl ?_
      refine AHead.call (o_loadRef _ rfl rfl Tryd.sizeOf3 Tryd.isAgg3 rfl rfl rfl) rfl ?_
      refine AHead.call (o_move _ rfl rfl) rfl ?_
      refine AHead.call (o_call (rfar_s s.tests[k].day day ⟨htb.1, htb.2.1⟩ hd) Tryd.call87 rfl rfl) rfl ?_
      refine AHead.call (o_mul _ _ rfl rfl ⟨by (try dsimp only); omega, by (try dsimp only); omega⟩ rfl) rfl ?_
      refine AHead.call (o_assign _ rfl rfl) rfl ?_
      refine AHead.nil ?_
      refine AOps.nil ?_
      refine AWP.seq ?_
      refine AWP.region ?_
      refine AOps.call (o_fieldRef _ rfl fa40_0 rfl rfl) ?_
      refine AOps.call (o_loadRef _ rfl rfl Tryd.sizeOf3 Tryd.isAgg3 rfl rfl rfl) ?_
      refine AOps.call (o_fieldRef _ rfl fa26_2 rfl rfl) ?_
      refine AOps.call (o_loadRef _ rfl rfl Tryd.sizeOf3 Tryd.isAgg3 rfl rfl rfl) ?_
      refine AOps.call (o_move _ rfl rfl) ?_
      refine AOps.call (o_sub _ _ rfl rfl ⟨by (try dsimp only); omega, by (try dsimp only); omega⟩ rfl) ?_
      refine AOps.call (o_maxI _ _ rfl rfl rfl) ?_
      refine AOps.call (o_fieldRef _ rfl fa40_0 rfl rfl) ?_
      refine AOps.cons (o_store _ _ rfl rfl Tryd.sizeOf3 rfl rfl rfl rfl rfl) ?_
      refine AOps.nil ?_
      refine AWP.region ?_
      refine AOps.call (o_fieldRef _ rfl fa40_1 rfl rfl) ?_
      refine AOps.call (o_loadRef _ rfl rfl Tryd.sizeOf3 Tryd.isAgg3 rfl rfl rfl) ?_
      refine AOps.call (o_fieldRef _ rfl fa26_3 rfl rfl) ?_
      refine AOps.call (o_loadRef _ rfl rfl Tryd.sizeOf3 Tryd.isAgg3 rfl rfl rfl) ?_
      refine AOps.call (o_move _ rfl rfl) ?_
      refine AOps.call (o_add _ _ rfl rfl ⟨by (try dsimp only); omega, by (try dsimp only); omega⟩ rfl) ?_
      refine AOps.call (o_minI _ _ rfl rfl rfl) ?_
      refine AOps.call (o_fieldRef _ rfl fa40_1 rfl rfl) ?_
      refine AOps.cons (o_store _ _ rfl rfl Tryd.sizeOf3 rfl rfl rfl rfl rfl) ?_
      refine AOps.nil ?_
      refine AWP.region ?_
      refine AOps.call (o_move _ rfl rfl) ?_
      refine AOps.call (o_add _ _ rfl rfl ⟨by (try dsimp only); omega, by (try dsimp only); omega⟩ rfl) ?_
      refine AOps.call (o_assign _ rfl rfl) ?_
      refine AOps.nil ?_
      refine ⟨k + 1, ?_, (Weak.mk' rfl ⟨⟨.refl rfl, rfl⟩, ⟨⟨.refl rfl, rfl⟩, ⟨⟨.refl rfl, rfl⟩, ⟨⟨.refl rfl, rfl⟩, ⟨⟨.refl rfl, rfl⟩, ⟨⟨.refl rfl, rfl⟩, trivial⟩⟩⟩⟩⟩⟩ ⟨⟨rfl, rfl, rfl⟩, ⟨⟨rfl, rfl, rfl⟩, ⟨⟨(by first | (rw [drLo_in hlt hkn, drHi_in hlt hkn]; rfl) | (rw [drLo_out hlt hkn, drHi_out hlt hkn]; rfl)), rfl, rfl⟩, trivial⟩⟩⟩ trivial)⟩
      exact ⟨by omega, by omega⟩
  · skip
    have hkl : k = s.tests.length := by simp [tests] at h10 hk; omega
    subst hkl
    rw [List.take_length]
    refine AWP.exit ?_
    refine AWP.seq ?_
    refine AWP.region ?_
    refine AOps.call (o_loadRef _ rfl rfl Tryd.sizeOf40 Tryd.isAgg40 rfl rfl rfl) ?_
    refine AOps.cons (o_store _ _ rfl rfl Tryd.sizeOf40 rfl rfl rfl rfl rfl) ?_
    refine AOps.nil ?_
    refine AWP.ret ?_
    exact postQ.retC Tryd.results78 rfl rfl Tryd.sizeOf40 Tryd.isAgg40 rfl rfl

set_option maxRecDepth 20000 in
theorem rDrift_s (s : Scl) (day known : Int) : FSpec Tryd.prog 23 [.agg (eS s), I day, I known] (if askE s [day, known] = 0 then .tup [.agg (eP (drS s day known)), I 0] else .tup [.agg [I 0, I 0], I (askE s [day, known])]) (none) := by
  refine FSpec.of_body Tryd.func23 rfl (leB rfl) fun w0 M0 => ?_
  refine AWP.seq ?_
  refine AWP.region ?_
  refine AOps.call (o_box _ rfl rfl rfl) ?_
  refine AOps.call (o_alloc ze40 rfl rfl) ?_
  refine AOps.call (o_assign _ rfl rfl) ?_
  refine AOps.nil ?_
  refine AWP.seq ?_
  refine AWP.region ?_
  refine AOps.call (o_loadRef _ rfl rfl Tryd.sizeOf24 Tryd.isAgg24 rfl rfl rfl) ?_
  refine AOps.call (o_call (rCheckScale_s s) Tryd.call20 rfl rfl) ?_
  refine AOps.call (o_assign _ rfl rfl) ?_
  refine AOps.nil ?_
  refine AWP.seq ?_
  refine AWP.seq ?_
  refine AWP.region ?_
  refine AOps.call (o_move _ rfl rfl) ?_
  refine AOps.call (o_bin _ _ rfl rfl (fun _ => rfl) rfl) ?_
  refine AOps.nil ?_
  refine AWP.cond _ rfl (fun h7 => ?_) (fun h7 => ?_)
  · skip
    have hz : ¬ scaleE s = 0 := by simpa using h7
    have hE : askE s [day, known] = scaleE s := if_neg hz
    refine AWP.seq ?_
    refine AWP.region ?_
    refine AOps.call (o_build bu40 rfl rfl rfl) ?_
    refine AOps.call (o_move _ rfl rfl) ?_
    refine AOps.cons (o_store _ _ rfl rfl Tryd.sizeOf40 rfl rfl rfl rfl rfl) ?_
    refine AOps.call (o_assign _ rfl rfl) ?_
    refine AOps.nil ?_
    refine AWP.ret ?_
    refine postQ.retC1 Tryd.results23 rfl rfl Tryd.sizeOf40 Tryd.isAgg40 rfl rfl ?_
    first
    | (rw [if_pos hE]; rfl)
    | (rw [if_neg (by rw [hE]; first | exact hz | omega), hE]; rfl)
  · skip
    have hz : scaleE s = 0 := by simpa using h7
    have hs := scaleE_0 hz
    refine AWP.skip ?_
    refine AWP.seq ?_
    refine AWP.region ?_
    refine AOps.call (o_move _ rfl rfl) ?_
    refine AOps.call (o_call (rDay_s day) Tryd.call74 rfl rfl) ?_
    refine AOps.call (o_assign _ rfl rfl) ?_
    refine AOps.nil ?_
    refine AWP.seq ?_
    refine AWP.region ?_
    refine AOps.call (o_move _ rfl rfl) ?_
    refine AOps.call (o_call (rDay_s known) Tryd.call74 rfl rfl) ?_
    refine AOps.call (o_assign _ rfl rfl) ?_
    refine AOps.nil ?_
    refine AWP.seq ?_
    refine AWP.seq ?_
    refine AWP.region ?_
    refine AOps.call (o_move _ rfl rfl) ?_
    refine AOps.call (o_un _ rfl (fun _ => rfl) rfl) ?_
    refine AOps.call (o_move _ rfl rfl) ?_
    refine AOps.split rfl rfl rfl (fun h14 => ?_) (fun h14 => ?_)
    · skip
      refine AOps.go rfl rfl rfl h14 (o_move _ rfl rfl) ?_
      refine AOps.go rfl rfl rfl h14 (o_un _ rfl (fun _ => rfl) rfl) ?_
      refine AOps.call (o_pickF _ _ _ rfl h14 rfl rfl) ?_
      refine AOps.nil ?_
      refine AWP.cond _ rfl (fun h16 => ?_) (fun h16 => ?_)
      · skip
        have hAll : ([day, known] : List Int).all dayB = false := by simp_all
        have hE : askE s [day, known] = 1 := by unfold askE; rw [if_pos hz, hAll]; rfl
        refine AWP.seq ?_
        refine AWP.region ?_
        refine AOps.call (o_build bu40 rfl rfl rfl) ?_
        refine AOps.cons (o_store _ _ rfl rfl Tryd.sizeOf40 rfl rfl rfl rfl rfl) ?_
        refine AOps.call (o_assign _ rfl rfl) ?_
        refine AOps.nil ?_
        refine AWP.ret ?_
        refine postQ.retC1 Tryd.results23 rfl rfl Tryd.sizeOf40 Tryd.isAgg40 rfl rfl ?_
        first
        | (rw [if_pos hE]; rfl)
        | (rw [if_neg (by rw [hE]; first | exact hz | omega), hE]; rfl)
      · skip
        have hAll : ([day, known] : List Int).all dayB = true := by simp_all
        have hA : dayB day = true := by simp_all
        have hE : askE s [day, known] = 0 := by unfold askE; rw [if_pos hz, hAll]; rfl
        refine AWP.skip ?_
        refine AWP.seq ?_
        refine AWP.region ?_
        refine AOps.call (o_loadRef _ rfl rfl Tryd.sizeOf24 Tryd.isAgg24 rfl rfl rfl) ?_
        refine AOps.call (o_move _ rfl rfl) ?_
        refine AOps.call (o_move _ rfl rfl) ?_
        refine AOps.call (o_call (rdrift_s s day known hs (dayB_bd hA)) Tryd.call78 rfl rfl) ?_
        refine AOps.cons (o_store _ _ rfl rfl Tryd.sizeOf40 rfl rfl rfl rfl rfl) ?_
        refine AOps.call (o_assign _ rfl rfl) ?_
        refine AOps.nil ?_
        refine AWP.ret ?_
        refine postQ.retC1 Tryd.results23 rfl rfl Tryd.sizeOf40 Tryd.isAgg40 rfl rfl ?_
        first
        | (rw [if_pos hE]; rfl)
        | (rw [if_neg (by rw [hE]; first | exact hz | omega), hE]; rfl)
    · skip
      refine AOps.pass rfl rfl rfl h14 rfl ?_
      refine AOps.pass rfl rfl rfl h14 rfl ?_
      refine AOps.call (o_pickT _ _ _ rfl h14 rfl rfl) ?_
      refine AOps.nil ?_
      refine AWP.condT rfl ?_
      have hAll : ([day, known] : List Int).all dayB = false := by simp_all
      have hE : askE s [day, known] = 1 := by unfold askE; rw [if_pos hz, hAll]; rfl
      refine AWP.seq ?_
      refine AWP.region ?_
      refine AOps.call (o_build bu40 rfl rfl rfl) ?_
      refine AOps.cons (o_store _ _ rfl rfl Tryd.sizeOf40 rfl rfl rfl rfl rfl) ?_
      refine AOps.call (o_assign _ rfl rfl) ?_
      refine AOps.nil ?_
      refine AWP.ret ?_
      refine postQ.retC1 Tryd.results23 rfl rfl Tryd.sizeOf40 Tryd.isAgg40 rfl rfl ?_
      first
      | (rw [if_pos hE]; rfl)
      | (rw [if_neg (by rw [hE]; first | exact hz | omega), hE]; rfl)

set_option maxRecDepth 20000 in
theorem rturn_s (s : Scl) (a b known : Int) (hs : scaleB s = true) (ha : 0 ≤ a ∧ a ≤ 1048576) (hb : 0 ≤ b ∧ b ≤ 1048576) : FSpec Tryd.prog 80 [.agg (eS s), I a, I b, I known] (.agg (eP (tnS s a b known))) (none) := by
  refine FSpec.of_body Tryd.func80 rfl (leB rfl) fun w0 M0 => ?_
  have hr := scaleB_rate hs
  have h1 := drS_bd (k := known) hs ha
  have h2 := drS_bd (k := known) hs hb
  have hfb := far_bd ha hb
  have hmb := mul_bd hr.1 hr.2 hfb.1 hfb.2
  refine AWP.seq ?_
  refine AWP.region ?_
  refine AOps.call (o_box _ rfl rfl rfl) ?_
  refine AOps.call (o_alloc ze40 rfl rfl) ?_
  refine AOps.nil ?_
  refine AWP.seq ?_
  refine AWP.region ?_
  refine AOps.call (o_loadRef _ rfl rfl Tryd.sizeOf24 Tryd.isAgg24 rfl rfl rfl) ?_
  refine AOps.call (o_move _ rfl rfl) ?_
  refine AOps.call (o_move _ rfl rfl) ?_
  refine AOps.call (o_call (rdrift_s s a known hs ha) Tryd.call78 rfl rfl) ?_
  refine AOps.call (o_alloc ze40 rfl rfl) ?_
  refine AOps.cons (o_store _ _ rfl rfl Tryd.sizeOf40 rfl rfl rfl rfl rfl) ?_
  refine AOps.nil ?_
  refine AWP.seq ?_
  refine AWP.region ?_
  refine AOps.call (o_loadRef _ rfl rfl Tryd.sizeOf24 Tryd.isAgg24 rfl rfl rfl) ?_
  refine AOps.call (o_move _ rfl rfl) ?_
  refine AOps.call (o_move _ rfl rfl) ?_
  refine AOps.call (o_call (rdrift_s s b known hs hb) Tryd.call78 rfl rfl) ?_
  refine AOps.call (o_alloc ze40 rfl rfl) ?_
  refine AOps.cons (o_store _ _ rfl rfl Tryd.sizeOf40 rfl rfl rfl rfl rfl) ?_
  refine AOps.nil ?_
  refine AWP.seq ?_
  refine AWP.drawn 7 mixed (by kernel_rfl) ?_
  refine AHead.call (o_fieldRef _ rfl fa24_1 rfl rfl) rfl ?_
  refine AHead.call (o_loadRef _ rfl rfl Tryd.sizeOf3 Tryd.isAgg3 rfl rfl rfl) rfl ?_
  refine AHead.call (o_move _ rfl rfl) rfl ?_
  refine AHead.call (o_move _ rfl rfl) rfl ?_
  refine AHead.call (o_call (rfar_s a b ha hb) Tryd.call87 rfl rfl) rfl ?_
  refine AHead.call (o_mul _ _ rfl rfl ⟨by (try dsimp only); omega, by (try dsimp only); omega⟩ rfl) rfl ?_
  refine AHead.call (o_assign _ rfl rfl) rfl ?_
  refine AHead.nil ?_
  refine AOps.nil ?_
  refine AWP.seq ?_
  refine AWP.region ?_
  refine AOps.call (o_move _ rfl rfl) ?_
  refine AOps.call (o_neg _ rfl ⟨by (try dsimp only); omega, by (try dsimp only); omega⟩ rfl) ?_
  refine AOps.call (o_fieldRef _ rfl fa40_0 rfl rfl) ?_
  refine AOps.call (o_loadRef _ rfl rfl Tryd.sizeOf3 Tryd.isAgg3 rfl rfl rfl) ?_
  refine AOps.call (o_fieldRef _ rfl fa40_1 rfl rfl) ?_
  refine AOps.call (o_loadRef _ rfl rfl Tryd.sizeOf3 Tryd.isAgg3 rfl rfl rfl) ?_
  refine AOps.call (o_sub _ _ rfl rfl ⟨by (try dsimp only); omega, by (try dsimp only); omega⟩ rfl) ?_
  refine AOps.call (o_maxI _ _ rfl rfl rfl) ?_
  refine AOps.call (o_move _ rfl rfl) ?_
  refine AOps.call (o_fieldRef _ rfl fa40_1 rfl rfl) ?_
  refine AOps.call (o_loadRef _ rfl rfl Tryd.sizeOf3 Tryd.isAgg3 rfl rfl rfl) ?_
  refine AOps.call (o_fieldRef _ rfl fa40_0 rfl rfl) ?_
  refine AOps.call (o_loadRef _ rfl rfl Tryd.sizeOf3 Tryd.isAgg3 rfl rfl rfl) ?_
  refine AOps.call (o_sub _ _ rfl rfl ⟨by (try dsimp only); omega, by (try dsimp only); omega⟩ rfl) ?_
  refine AOps.call (o_minI _ _ rfl rfl rfl) ?_
  refine AOps.call (o_build bu40 rfl rfl rfl) ?_
  refine AOps.cons (o_store _ _ rfl rfl Tryd.sizeOf40 rfl rfl rfl rfl rfl) ?_
  refine AOps.nil ?_
  refine AWP.ret ?_
  exact postQ.retC Tryd.results80 rfl rfl Tryd.sizeOf40 Tryd.isAgg40 rfl rfl

set_option maxRecDepth 20000 in
theorem rTurn_s (s : Scl) (a b known : Int) : FSpec Tryd.prog 25 [.agg (eS s), I a, I b, I known] (if askE s [a, b, known] = 0 then .tup [.agg (eP (tnS s a b known)), I 0] else .tup [.agg [I 0, I 0], I (askE s [a, b, known])]) (none) := by
  refine FSpec.of_body Tryd.func25 rfl (leB rfl) fun w0 M0 => ?_
  refine AWP.seq ?_
  refine AWP.region ?_
  refine AOps.call (o_box _ rfl rfl rfl) ?_
  refine AOps.call (o_alloc ze40 rfl rfl) ?_
  refine AOps.call (o_assign _ rfl rfl) ?_
  refine AOps.nil ?_
  refine AWP.seq ?_
  refine AWP.region ?_
  refine AOps.call (o_loadRef _ rfl rfl Tryd.sizeOf24 Tryd.isAgg24 rfl rfl rfl) ?_
  refine AOps.call (o_call (rCheckScale_s s) Tryd.call20 rfl rfl) ?_
  refine AOps.call (o_assign _ rfl rfl) ?_
  refine AOps.nil ?_
  refine AWP.seq ?_
  refine AWP.seq ?_
  refine AWP.region ?_
  refine AOps.call (o_move _ rfl rfl) ?_
  refine AOps.call (o_bin _ _ rfl rfl (fun _ => rfl) rfl) ?_
  refine AOps.nil ?_
  refine AWP.cond _ rfl (fun h7 => ?_) (fun h7 => ?_)
  · skip
    have hz : ¬ scaleE s = 0 := by simpa using h7
    have hE : askE s [a, b, known] = scaleE s := if_neg hz
    refine AWP.seq ?_
    refine AWP.region ?_
    refine AOps.call (o_build bu40 rfl rfl rfl) ?_
    refine AOps.call (o_move _ rfl rfl) ?_
    refine AOps.cons (o_store _ _ rfl rfl Tryd.sizeOf40 rfl rfl rfl rfl rfl) ?_
    refine AOps.call (o_assign _ rfl rfl) ?_
    refine AOps.nil ?_
    refine AWP.ret ?_
    refine postQ.retC1 Tryd.results25 rfl rfl Tryd.sizeOf40 Tryd.isAgg40 rfl rfl ?_
    first
    | (rw [if_pos hE]; rfl)
    | (rw [if_neg (by rw [hE]; first | exact hz | omega), hE]; rfl)
  · skip
    have hz : scaleE s = 0 := by simpa using h7
    have hs := scaleE_0 hz
    refine AWP.skip ?_
    refine AWP.seq ?_
    refine AWP.region ?_
    refine AOps.call (o_move _ rfl rfl) ?_
    refine AOps.call (o_call (rDay_s a) Tryd.call74 rfl rfl) ?_
    refine AOps.call (o_assign _ rfl rfl) ?_
    refine AOps.nil ?_
    refine AWP.seq ?_
    refine AWP.region ?_
    refine AOps.call (o_move _ rfl rfl) ?_
    refine AOps.call (o_call (rDay_s b) Tryd.call74 rfl rfl) ?_
    refine AOps.call (o_assign _ rfl rfl) ?_
    refine AOps.nil ?_
    refine AWP.seq ?_
    refine AWP.region ?_
    refine AOps.call (o_move _ rfl rfl) ?_
    refine AOps.call (o_call (rDay_s known) Tryd.call74 rfl rfl) ?_
    refine AOps.call (o_assign _ rfl rfl) ?_
    refine AOps.nil ?_
    refine AWP.seq ?_
    refine AWP.seq ?_
    refine AWP.region ?_
    refine AOps.call (o_move _ rfl rfl) ?_
    refine AOps.call (o_un _ rfl (fun _ => rfl) rfl) ?_
    refine AOps.call (o_move _ rfl rfl) ?_
    refine AOps.split rfl rfl rfl (fun h16 => ?_) (fun h16 => ?_)
    · skip
      refine AOps.go rfl rfl rfl h16 (o_move _ rfl rfl) ?_
      refine AOps.go rfl rfl rfl h16 (o_un _ rfl (fun _ => rfl) rfl) ?_
      refine AOps.call (o_pickF _ _ _ rfl h16 rfl rfl) ?_
      refine AOps.call (o_move _ rfl rfl) ?_
      refine AOps.split rfl rfl rfl (fun h18 => ?_) (fun h18 => ?_)
      · skip
        refine AOps.go rfl rfl rfl h18 (o_move _ rfl rfl) ?_
        refine AOps.go rfl rfl rfl h18 (o_un _ rfl (fun _ => rfl) rfl) ?_
        refine AOps.call (o_pickF _ _ _ rfl h18 rfl rfl) ?_
        refine AOps.nil ?_
        refine AWP.cond _ rfl (fun h20 => ?_) (fun h20 => ?_)
        · skip
          have hAll : ([a, b, known] : List Int).all dayB = false := by simp_all
          have hE : askE s [a, b, known] = 1 := by unfold askE; rw [if_pos hz, hAll]; rfl
          refine AWP.seq ?_
          refine AWP.region ?_
          refine AOps.call (o_build bu40 rfl rfl rfl) ?_
          refine AOps.cons (o_store _ _ rfl rfl Tryd.sizeOf40 rfl rfl rfl rfl rfl) ?_
          refine AOps.call (o_assign _ rfl rfl) ?_
          refine AOps.nil ?_
          refine AWP.ret ?_
          refine postQ.retC1 Tryd.results25 rfl rfl Tryd.sizeOf40 Tryd.isAgg40 rfl rfl ?_
          first
          | (rw [if_pos hE]; rfl)
          | (rw [if_neg (by rw [hE]; first | exact hz | omega), hE]; rfl)
        · skip
          have hAll : ([a, b, known] : List Int).all dayB = true := by simp_all
          have hA : dayB a = true := by simp_all
          have hB : dayB b = true := by simp_all
          have hE : askE s [a, b, known] = 0 := by unfold askE; rw [if_pos hz, hAll]; rfl
          refine AWP.skip ?_
          refine AWP.seq ?_
          refine AWP.region ?_
          refine AOps.call (o_loadRef _ rfl rfl Tryd.sizeOf24 Tryd.isAgg24 rfl rfl rfl) ?_
          refine AOps.call (o_move _ rfl rfl) ?_
          refine AOps.call (o_move _ rfl rfl) ?_
          refine AOps.call (o_move _ rfl rfl) ?_
          refine AOps.call (o_call (rturn_s s a b known hs (dayB_bd hA) (dayB_bd hB)) Tryd.call80 rfl rfl) ?_
          refine AOps.cons (o_store _ _ rfl rfl Tryd.sizeOf40 rfl rfl rfl rfl rfl) ?_
          refine AOps.call (o_assign _ rfl rfl) ?_
          refine AOps.nil ?_
          refine AWP.ret ?_
          refine postQ.retC1 Tryd.results25 rfl rfl Tryd.sizeOf40 Tryd.isAgg40 rfl rfl ?_
          first
          | (rw [if_pos hE]; rfl)
          | (rw [if_neg (by rw [hE]; first | exact hz | omega), hE]; rfl)
      · skip
        refine AOps.pass rfl rfl rfl h18 rfl ?_
        refine AOps.pass rfl rfl rfl h18 rfl ?_
        refine AOps.call (o_pickT _ _ _ rfl h18 rfl rfl) ?_
        refine AOps.nil ?_
        refine AWP.condT rfl ?_
        have hAll : ([a, b, known] : List Int).all dayB = false := by simp_all
        have hE : askE s [a, b, known] = 1 := by unfold askE; rw [if_pos hz, hAll]; rfl
        refine AWP.seq ?_
        refine AWP.region ?_
        refine AOps.call (o_build bu40 rfl rfl rfl) ?_
        refine AOps.cons (o_store _ _ rfl rfl Tryd.sizeOf40 rfl rfl rfl rfl rfl) ?_
        refine AOps.call (o_assign _ rfl rfl) ?_
        refine AOps.nil ?_
        refine AWP.ret ?_
        refine postQ.retC1 Tryd.results25 rfl rfl Tryd.sizeOf40 Tryd.isAgg40 rfl rfl ?_
        first
        | (rw [if_pos hE]; rfl)
        | (rw [if_neg (by rw [hE]; first | exact hz | omega), hE]; rfl)
    · skip
      refine AOps.pass rfl rfl rfl h16 rfl ?_
      refine AOps.pass rfl rfl rfl h16 rfl ?_
      refine AOps.call (o_pickT _ _ _ rfl h16 rfl rfl) ?_
      refine AOps.call (o_move _ rfl rfl) ?_
      refine AOps.pass rfl rfl rfl rfl rfl ?_
      refine AOps.pass rfl rfl rfl rfl rfl ?_
      refine AOps.call (o_pickT _ _ _ rfl rfl rfl rfl) ?_
      refine AOps.nil ?_
      refine AWP.condT rfl ?_
      have hAll : ([a, b, known] : List Int).all dayB = false := by simp_all
      have hE : askE s [a, b, known] = 1 := by unfold askE; rw [if_pos hz, hAll]; rfl
      refine AWP.seq ?_
      refine AWP.region ?_
      refine AOps.call (o_build bu40 rfl rfl rfl) ?_
      refine AOps.cons (o_store _ _ rfl rfl Tryd.sizeOf40 rfl rfl rfl rfl rfl) ?_
      refine AOps.call (o_assign _ rfl rfl) ?_
      refine AOps.nil ?_
      refine AWP.ret ?_
      refine postQ.retC1 Tryd.results25 rfl rfl Tryd.sizeOf40 Tryd.isAgg40 rfl rfl ?_
      first
      | (rw [if_pos hE]; rfl)
      | (rw [if_neg (by rw [hE]; first | exact hz | omega), hE]; rfl)

end Go.Proofs.YtphoomnonenalaaDoor
