import Derived.Test.YtphoomnonenalaaGreatDoorR2
set_option linter.unusedSimpArgs false
set_option linter.unusedVariables false
namespace Go.Proofs.YtphoomnonenalaaGreatDoor
open Go.Ab
theorem drLo_in {s : Scl} {known day : Int} {k : Nat} (h : k < s.tests.length) (hk : s.tests[k].known ≤ known) : drLo s.rate ((s.tests.take (k + 1)).filter fun t => decide (t.known ≤ known)) day = (if s.tests[k].lo - s.rate * far s.tests[k].day day > drLo s.rate ((s.tests.take k).filter fun t => decide (t.known ≤ known)) day then s.tests[k].lo - s.rate * far s.tests[k].day day else drLo s.rate ((s.tests.take k).filter fun t => decide (t.known ≤ known)) day) := by
  rw [known_take h, if_pos hk]; unfold drLo mx; rw [List.map_append, List.foldl_append]; rfl
theorem drHi_in {s : Scl} {known day : Int} {k : Nat} (h : k < s.tests.length) (hk : s.tests[k].known ≤ known) : drHi s.rate ((s.tests.take (k + 1)).filter fun t => decide (t.known ≤ known)) day = (if s.tests[k].hi + s.rate * far s.tests[k].day day < drHi s.rate ((s.tests.take k).filter fun t => decide (t.known ≤ known)) day then s.tests[k].hi + s.rate * far s.tests[k].day day else drHi s.rate ((s.tests.take k).filter fun t => decide (t.known ≤ known)) day) := by
  rw [known_take h, if_pos hk]; unfold drHi mn; rw [List.map_append, List.foldl_append]; rfl
theorem drLo_out {s : Scl} {known day : Int} {k : Nat} (h : k < s.tests.length) (hk : ¬ s.tests[k].known ≤ known) : drLo s.rate ((s.tests.take (k + 1)).filter fun t => decide (t.known ≤ known)) day = drLo s.rate ((s.tests.take k).filter fun t => decide (t.known ≤ known)) day := by
  rw [known_take h, if_neg hk, List.append_nil]
theorem drHi_out {s : Scl} {known day : Int} {k : Nat} (h : k < s.tests.length) (hk : ¬ s.tests[k].known ≤ known) : drHi s.rate ((s.tests.take (k + 1)).filter fun t => decide (t.known ≤ known)) day = drHi s.rate ((s.tests.take k).filter fun t => decide (t.known ≤ known)) day := by
  rw [known_take h, if_neg hk, List.append_nil]

set_option maxRecDepth 20000 in
theorem rdrift_s (s : Scl) (day known : Int) (hs : scaleB s = true) (hd : 0 ≤ day ∧ day ≤ 1048576) : FSpec Tryz.prog 120 [.agg (eS s), I day, I known] (.agg (eP (drS s day known))) (none) := by
  refine FSpec.of_body Tryz.func120 rfl (leB rfl) fun w0 M0 => ?_
  have hr := scaleB_rate hs
  have htl := tests_len s.tests
  have hsl := scaleB_len hs
  refine AWP.seq ?_
  refine AWP.region ?_
  refine AOps.call (o_box _ rfl rfl rfl) ?_
  refine AOps.call (o_alloc ze51 rfl rfl) ?_
  refine AOps.nil ?_
  refine AWP.seq ?_
  refine AWP.region ?_
  refine AOps.call (o_build bu51 rfl rfl rfl) ?_
  refine AOps.call (o_alloc ze51 rfl rfl) ?_
  refine AOps.cons (o_store _ _ rfl rfl Tryz.sizeOf51 rfl rfl rfl rfl rfl) ?_
  refine AOps.nil ?_
  refine AWP.seq ?_
  refine AWP.seq ?_
  refine AWP.region ?_
  refine AOps.call (o_assign _ rfl rfl) ?_
  refine AOps.nil ?_
  refine AWP.block ?_
  refine AWP.loop (ι := Nat) (fun i => AS.mk' 52 [(1, I day), (2, I known), (3, .ref (3, 0) 0), (6, .ref (6, 0) 0), (7, .ref (7, 0) 0), (8, I i)] [((3, 0), eS s), ((6, 0), [I 0, I 0]), ((7, 0), [I (drLo s.rate ((s.tests.take i).filter fun t => decide (t.known ≤ known)) day), I (drHi s.rate ((s.tests.take i).filter fun t => decide (t.known ≤ known)) day)])] [] [(3, 1), (6, 1), (7, 1)]) (fun i => i ≤ s.tests.length) (fun i => s.tests.length - i) (0) (Weak.mk' rfl ⟨⟨.refl rfl, rfl⟩, ⟨⟨.refl rfl, rfl⟩, ⟨⟨.refl rfl, rfl⟩, ⟨⟨.refl rfl, rfl⟩, ⟨⟨.refl rfl, rfl⟩, ⟨⟨.refl rfl, rfl⟩, trivial⟩⟩⟩⟩⟩⟩ ⟨⟨rfl, rfl, rfl⟩, ⟨⟨rfl, rfl, rfl⟩, ⟨⟨rfl, rfl, rfl⟩, trivial⟩⟩⟩ trivial) (Nat.zero_le _) ?_
  rintro k hk
  try dsimp only at *
  refine AWP.seq ?_
  refine AWP.seq ?_
  refine AWP.region ?_
  refine AOps.call (o_move _ rfl rfl) ?_
  refine AOps.call (o_fieldRef _ rfl fa24_2 rfl rfl) ?_
  refine AOps.call (o_loadRef _ rfl rfl Tryz.sizeOf22 Tryz.isAgg22 rfl rfl rfl) ?_
  refine AOps.call (o_len _ Tryz.underlying22 rfl rfl) ?_
  refine AOps.call (o_bin _ _ rfl rfl (fun _ => rfl) rfl) ?_
  refine AOps.nil ?_
  refine AWP.cond _ rfl (fun h10 => ?_) (fun h10 => ?_)
  · skip
    have hlt : k < s.tests.length := by simpa [tests] using h10
    have hel := tests_get hlt
    have htb := testB_bd (scaleB_tests hs _ (List.getElem_mem hlt))
    have hfb := far_bd (a := s.tests[k].day) (b := day) ⟨htb.1, htb.2.1⟩ hd
    have hmb := mul_bd hr.1 hr.2 hfb.1 hfb.2
    refine AWP.skip ?_
    refine AWP.seq ?_
    refine AWP.block ?_
    refine AWP.seq ?_
    refine AWP.region ?_
    refine AOps.call (o_fieldRef _ rfl fa24_2 rfl rfl) ?_
    refine AOps.call (o_loadRef _ rfl rfl Tryz.sizeOf22 Tryz.isAgg22 rfl rfl rfl) ?_
    refine AOps.call (o_move _ rfl rfl) ?_
    refine AOps.call (o_index _ _ Tryz.underlying22 Tryz.sizeOf37 rfl rfl (by omega) (by assumption) rfl rfl) ?_
    refine AOps.call (o_loadRd _ rfl Tryz.sizeOf37 Tryz.isAgg37 rfl rfl rfl) ?_
    refine AOps.call (o_alloc ze37 rfl rfl) ?_
    refine AOps.cons (o_store _ _ rfl rfl Tryz.sizeOf37 rfl rfl rfl rfl rfl) ?_
    refine AOps.nil ?_
    refine AWP.seq ?_
    refine AWP.seq ?_
    refine AWP.region ?_
    refine AOps.call (o_fieldRef _ rfl fa37_1 rfl rfl) ?_
    refine AOps.call (o_loadRef _ rfl rfl Tryz.sizeOf3 Tryz.isAgg3 rfl rfl rfl) ?_
    refine AOps.call (o_move _ rfl rfl) ?_
    refine AOps.call (o_bin _ _ rfl rfl (fun _ => rfl) rfl) ?_
    refine AOps.nil ?_
    refine AWP.cond _ rfl (fun h20 => ?_) (fun h20 => ?_)
    · skip
      have hkn : ¬ s.tests[k].known ≤ known := by simpa using h20
      refine AWP.exit ?_
      refine AWP.region ?_
      refine AOps.call (o_move _ rfl rfl) ?_
      refine AOps.call (o_add _ _ rfl rfl ⟨by (try dsimp only); omega, by (try dsimp only); omega⟩ rfl) ?_
      refine AOps.call (o_assign _ rfl rfl) ?_
      refine AOps.nil ?_
      refine ⟨k + 1, ?_, (Weak.mk' rfl ⟨⟨.refl rfl, rfl⟩, ⟨⟨.refl rfl, rfl⟩, ⟨⟨.refl rfl, rfl⟩, ⟨⟨.refl rfl, rfl⟩, ⟨⟨.refl rfl, rfl⟩, ⟨⟨.refl rfl, rfl⟩, trivial⟩⟩⟩⟩⟩⟩ ⟨⟨rfl, rfl, rfl⟩, ⟨⟨rfl, rfl, rfl⟩, ⟨⟨(by first | (rw [drLo_in hlt hkn, drHi_in hlt hkn]; rfl) | (rw [drLo_out hlt hkn, drHi_out hlt hkn]; rfl)), rfl, rfl⟩, trivial⟩⟩⟩ trivial)⟩
      exact ⟨by omega, by omega⟩
    · skip
      have hkn : s.tests[k].known ≤ known := by simpa using h20
      refine AWP.skip ?_
      refine AWP.seq ?_
      refine AWP.drawn 8 mixed (by kernel_rfl) ?_
      refine AHead.call (o_fieldRef _ rfl fa24_1 rfl rfl) rfl ?_
      refine AHead.call (o_loadRef _ rfl rfl Tryz.sizeOf3 Tryz.isAgg3 rfl rfl rfl) rfl ?_
      refine AHead.call (o_fieldRef _ rfl fa37_0 rfl rfl) rfl ?_
      refine AHead.call (o_loadRef _ rfl rfl Tryz.sizeOf3 Tryz.isAgg3 rfl rfl rfl) rfl ?_
      refine AHead.call (o_move _ rfl rfl) rfl ?_
      refine AHead.call (o_call (rfar_s s.tests[k].day day ⟨htb.1, htb.2.1⟩ hd) Tryz.call119 rfl rfl) rfl ?_
      refine AHead.call (o_mul _ _ rfl rfl ⟨by (try dsimp only); omega, by (try dsimp only); omega⟩ rfl) rfl ?_
      refine AHead.call (o_assign _ rfl rfl) rfl ?_
      refine AHead.nil ?_
      refine AOps.nil ?_
      refine AWP.seq ?_
      refine AWP.region ?_
      refine AOps.call (o_fieldRef _ rfl fa51_0 rfl rfl) ?_
      refine AOps.call (o_loadRef _ rfl rfl Tryz.sizeOf3 Tryz.isAgg3 rfl rfl rfl) ?_
      refine AOps.call (o_fieldRef _ rfl fa37_2 rfl rfl) ?_
      refine AOps.call (o_loadRef _ rfl rfl Tryz.sizeOf3 Tryz.isAgg3 rfl rfl rfl) ?_
      refine AOps.call (o_move _ rfl rfl) ?_
      refine AOps.call (o_sub _ _ rfl rfl ⟨by (try dsimp only); omega, by (try dsimp only); omega⟩ rfl) ?_
      refine AOps.call (o_maxI _ _ rfl rfl rfl) ?_
      refine AOps.call (o_fieldRef _ rfl fa51_0 rfl rfl) ?_
      refine AOps.cons (o_store _ _ rfl rfl Tryz.sizeOf3 rfl rfl rfl rfl rfl) ?_
      refine AOps.nil ?_
      refine AWP.region ?_
      refine AOps.call (o_fieldRef _ rfl fa51_1 rfl rfl) ?_
      refine AOps.call (o_loadRef _ rfl rfl Tryz.sizeOf3 Tryz.isAgg3 rfl rfl rfl) ?_
      refine AOps.call (o_fieldRef _ rfl fa37_3 rfl rfl) ?_
      refine AOps.call (o_loadRef _ rfl rfl Tryz.sizeOf3 Tryz.isAgg3 rfl rfl rfl) ?_
      refine AOps.call (o_move _ rfl rfl) ?_
      refine AOps.call (o_add _ _ rfl rfl ⟨by (try dsimp only); omega, by (try dsimp only); omega⟩ rfl) ?_
      refine AOps.call (o_minI _ _ rfl rfl rfl) ?_
      refine AOps.call (o_fieldRef _ rfl fa51_1 rfl rfl) ?_
      refine AOps.cons (o_store _ _ rfl rfl Tryz.sizeOf3 rfl rfl rfl rfl rfl) ?_
      refine AOps.nil ?_
      refine AWP.region ?_
      refine AOps.call (o_move _ rfl rfl) ?_
      refine AOps.call (o_add _ _ rfl rfl ⟨by (try dsimp only); omega, by (try dsimp only); omega⟩ rfl) ?_
      refine AOps.call (o_assign _ rfl rfl) ?_
      refine AOps.nil ?_
      refine ⟨k + 1, ?_, (Weak.mk' rfl ⟨⟨.refl rfl, rfl⟩, ⟨⟨.refl rfl, rfl⟩, ⟨⟨.refl rfl, rfl⟩, ⟨⟨.refl rfl, rfl⟩, ⟨⟨.refl rfl, rfl⟩, ⟨⟨.refl rfl, rfl⟩, trivial⟩⟩⟩⟩⟩⟩ ⟨⟨rfl, rfl, rfl⟩, ⟨⟨rfl, rfl, rfl⟩, ⟨⟨(by first | (rw [drLo_in hlt hkn, drHi_in hlt hkn]; rfl) | (rw [drLo_out hlt hkn, drHi_out hlt hkn]; rfl)), rfl, rfl⟩, trivial⟩⟩⟩ trivial)⟩
      exact ⟨by omega, by omega⟩
  · skip
    have hkl : k = s.tests.length := by simp [tests] at h10 hk; omega
    subst hkl
    rw [List.take_length]
    refine AWP.exit ?_
    refine AWP.seq ?_
    refine AWP.region ?_
    refine AOps.call (o_loadRef _ rfl rfl Tryz.sizeOf51 Tryz.isAgg51 rfl rfl rfl) ?_
    refine AOps.cons (o_store _ _ rfl rfl Tryz.sizeOf51 rfl rfl rfl rfl rfl) ?_
    refine AOps.nil ?_
    refine AWP.ret ?_
    exact postQ.retC Tryz.results120 rfl rfl Tryz.sizeOf51 Tryz.isAgg51 rfl rfl

set_option maxRecDepth 20000 in
theorem rturn_s (s : Scl) (a b known : Int) (hs : scaleB s = true) (ha : 0 ≤ a ∧ a ≤ 1048576) (hb : 0 ≤ b ∧ b ≤ 1048576) : FSpec Tryz.prog 108 [.agg (eS s), I a, I b, I known] (.agg (eP (tnS s a b known))) (none) := by
  refine FSpec.of_body Tryz.func108 rfl (leB rfl) fun w0 M0 => ?_
  have hr := scaleB_rate hs
  have h1 := drS_bd (k := known) hs ha
  have h2 := drS_bd (k := known) hs hb
  have hfb := far_bd ha hb
  have hmb := mul_bd hr.1 hr.2 hfb.1 hfb.2
  refine AWP.seq ?_
  refine AWP.region ?_
  refine AOps.call (o_box _ rfl rfl rfl) ?_
  refine AOps.call (o_alloc ze51 rfl rfl) ?_
  refine AOps.nil ?_
  refine AWP.seq ?_
  refine AWP.region ?_
  refine AOps.call (o_loadRef _ rfl rfl Tryz.sizeOf24 Tryz.isAgg24 rfl rfl rfl) ?_
  refine AOps.call (o_move _ rfl rfl) ?_
  refine AOps.call (o_move _ rfl rfl) ?_
  refine AOps.call (o_call (rdrift_s s a known hs ha) Tryz.call120 rfl rfl) ?_
  refine AOps.call (o_alloc ze51 rfl rfl) ?_
  refine AOps.cons (o_store _ _ rfl rfl Tryz.sizeOf51 rfl rfl rfl rfl rfl) ?_
  refine AOps.nil ?_
  refine AWP.seq ?_
  refine AWP.region ?_
  refine AOps.call (o_loadRef _ rfl rfl Tryz.sizeOf24 Tryz.isAgg24 rfl rfl rfl) ?_
  refine AOps.call (o_move _ rfl rfl) ?_
  refine AOps.call (o_move _ rfl rfl) ?_
  refine AOps.call (o_call (rdrift_s s b known hs hb) Tryz.call120 rfl rfl) ?_
  refine AOps.call (o_alloc ze51 rfl rfl) ?_
  refine AOps.cons (o_store _ _ rfl rfl Tryz.sizeOf51 rfl rfl rfl rfl rfl) ?_
  refine AOps.nil ?_
  refine AWP.seq ?_
  refine AWP.drawn 7 mixed (by kernel_rfl) ?_
  refine AHead.call (o_fieldRef _ rfl fa24_1 rfl rfl) rfl ?_
  refine AHead.call (o_loadRef _ rfl rfl Tryz.sizeOf3 Tryz.isAgg3 rfl rfl rfl) rfl ?_
  refine AHead.call (o_move _ rfl rfl) rfl ?_
  refine AHead.call (o_move _ rfl rfl) rfl ?_
  refine AHead.call (o_call (rfar_s a b ha hb) Tryz.call119 rfl rfl) rfl ?_
  refine AHead.call (o_mul _ _ rfl rfl ⟨by (try dsimp only); omega, by (try dsimp only); omega⟩ rfl) rfl ?_
  refine AHead.call (o_assign _ rfl rfl) rfl ?_
  refine AHead.nil ?_
  refine AOps.nil ?_
  refine AWP.seq ?_
  refine AWP.region ?_
  refine AOps.call (o_move _ rfl rfl) ?_
  refine AOps.call (o_neg _ rfl ⟨by (try dsimp only); omega, by (try dsimp only); omega⟩ rfl) ?_
  refine AOps.call (o_fieldRef _ rfl fa51_0 rfl rfl) ?_
  refine AOps.call (o_loadRef _ rfl rfl Tryz.sizeOf3 Tryz.isAgg3 rfl rfl rfl) ?_
  refine AOps.call (o_fieldRef _ rfl fa51_1 rfl rfl) ?_
  refine AOps.call (o_loadRef _ rfl rfl Tryz.sizeOf3 Tryz.isAgg3 rfl rfl rfl) ?_
  refine AOps.call (o_sub _ _ rfl rfl ⟨by (try dsimp only); omega, by (try dsimp only); omega⟩ rfl) ?_
  refine AOps.call (o_maxI _ _ rfl rfl rfl) ?_
  refine AOps.call (o_move _ rfl rfl) ?_
  refine AOps.call (o_fieldRef _ rfl fa51_1 rfl rfl) ?_
  refine AOps.call (o_loadRef _ rfl rfl Tryz.sizeOf3 Tryz.isAgg3 rfl rfl rfl) ?_
  refine AOps.call (o_fieldRef _ rfl fa51_0 rfl rfl) ?_
  refine AOps.call (o_loadRef _ rfl rfl Tryz.sizeOf3 Tryz.isAgg3 rfl rfl rfl) ?_
  refine AOps.call (o_sub _ _ rfl rfl ⟨by (try dsimp only); omega, by (try dsimp only); omega⟩ rfl) ?_
  refine AOps.call (o_minI _ _ rfl rfl rfl) ?_
  refine AOps.call (o_build bu51 rfl rfl rfl) ?_
  refine AOps.cons (o_store _ _ rfl rfl Tryz.sizeOf51 rfl rfl rfl rfl rfl) ?_
  refine AOps.nil ?_
  refine AWP.ret ?_
  exact postQ.retC Tryz.results108 rfl rfl Tryz.sizeOf51 Tryz.isAgg51 rfl rfl

end Go.Proofs.YtphoomnonenalaaGreatDoor
