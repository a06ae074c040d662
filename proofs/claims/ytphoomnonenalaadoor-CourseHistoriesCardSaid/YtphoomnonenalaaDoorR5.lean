import Derived.Test.YtphoomnonenalaaDoorR4
set_option linter.unusedSimpArgs false
set_option linter.unusedVariables false
namespace Go.Proofs.YtphoomnonenalaaDoor
open Go.Ab
def extN (s : Scl) (known : Int) (days grams : List Int) (d : Int) (j : Nat) : Int := mn (drS s d known).hi (((days.zip grams).take j).map fun p => p.2 + s.rate * far d p.1)
theorem extN_succ {s : Scl} {known d : Int} {days grams : List Int} {j : Nat} (h1 : j < days.length) (h2 : j < grams.length) : extN s known days grams d (j + 1) = (if grams[j] + s.rate * far d days[j] < extN s known days grams d j then grams[j] + s.rate * far d days[j] else extN s known days grams d j) := by
  unfold extN
  rw [List.take_succ_eq_append_getElem (by simp; omega), List.map_append, mn_app]
  simp only [List.map_cons, List.map_nil, List.getElem_zip]
  exact mn1 _ _
theorem extN_end {s : Scl} {known d : Int} {days grams : List Int} (he : days.length = grams.length) : extN s known days grams d days.length = drHi s.rate (pinL s known days grams) d := by
  unfold extN
  rw [pinHi, List.take_of_length_le (by simp; omega)]
  rfl
theorem map_take_snoc {α β : Type} (f : α → β) {l : List α} {k : Nat} (h : k < l.length) : (l.take k).map f ++ [f l[k]] = (l.take (k + 1)).map f := by
  rw [List.take_succ_eq_append_getElem h, List.map_append]; rfl

set_option maxRecDepth 20000 in
theorem rExtend_s (s : Scl) (known : Int) (days grams more : List Int) : FSpec Tryd.prog 29 [.agg (eS s), I known, .sl (ints days), .sl (ints grams), .sl (ints more)] (if givenE s known days grams = 0 then (if daysB more then (if pinB s known days grams then .tup [.sl (ints (extL s known days grams more)), B true, I 0] else .tup [.sl [], B false, I 0]) else .tup [.sl [], B false, I 1]) else .tup [.sl [], B false, I (givenE s known days grams)]) (none) := by
  refine FSpec.of_body Tryd.func29 rfl (leB rfl) fun w0 M0 => ?_
  have h1 := ints_len days
  have h2 := ints_len grams
  have h3 := ints_len more
  refine AWP.seq ?_
  refine AWP.region ?_
  refine AOps.call (o_box _ rfl rfl rfl) ?_
  refine AOps.call (o_nil (z := 1) (e := 3) rfl) ?_
  refine AOps.call (o_assign _ rfl rfl) ?_
  refine AOps.call (o_assign _ rfl rfl) ?_
  refine AOps.nil ?_
  refine AWP.seq ?_
  refine AWP.region ?_
  refine AOps.call (o_loadRef _ rfl rfl Tryd.sizeOf24 Tryd.isAgg24 rfl rfl rfl) ?_
  refine AOps.call (o_move _ rfl rfl) ?_
  refine AOps.call (o_move _ rfl rfl) ?_
  refine AOps.call (o_move _ rfl rfl) ?_
  refine AOps.call (o_call (rgiven_s s known days grams) Tryd.call83 rfl rfl) ?_
  refine AOps.call (o_assign _ rfl rfl) ?_
  refine AOps.nil ?_
  refine AWP.seq ?_
  refine AWP.seq ?_
  refine AWP.region ?_
  refine AOps.call (o_move _ rfl rfl) ?_
  refine AOps.call (o_bin _ _ rfl rfl (fun _ => rfl) rfl) ?_
  refine AOps.nil ?_
  refine AWP.cond _ rfl (fun h10 => ?_) (fun h10 => ?_)
  · skip
    have hz : ¬ givenE s known days grams = 0 := by simpa using h10
    refine AWP.seq ?_
    refine AWP.region ?_
    refine AOps.call (o_move _ rfl rfl) ?_
    refine AOps.call (o_nil (z := 1) (e := 3) rfl) ?_
    refine AOps.call (o_assign _ rfl rfl) ?_
    refine AOps.call (o_assign _ rfl rfl) ?_
    refine AOps.nil ?_
    refine AWP.ret ?_
    refine postQ.ret3 Tryd.results29 rfl rfl rfl ?_
    first
    | (rw [if_neg hz]; rfl)
    | (rw [if_pos hz, hm]; rfl)
    | (rw [if_pos hz, hm, hp]; rfl)
  · skip
    have hz : givenE s known days grams = 0 := by simpa using h10
    obtain ⟨hz1, hz2, hz3⟩ := givenE_0 hz
    obtain ⟨hs0, hdd⟩ := askE_0 hz1
    have hs := scaleE_0 hs0
    have hr := scaleB_rate hs
    have hdl := daysB_len hz3
    refine AWP.skip ?_
    refine AWP.seq ?_
    refine AWP.region ?_
    refine AOps.call (o_move _ rfl rfl) ?_
    refine AOps.call (o_call (rRising_s more) Tryd.call86 rfl rfl) ?_
    refine AOps.call (o_assign _ rfl rfl) ?_
    refine AOps.nil ?_
    refine AWP.seq ?_
    refine AWP.seq ?_
    refine AWP.region ?_
    refine AOps.call (o_move _ rfl rfl) ?_
    refine AOps.call (o_un _ rfl (fun _ => rfl) rfl) ?_
    refine AOps.nil ?_
    refine AWP.cond _ rfl (fun h15 => ?_) (fun h15 => ?_)
    · skip
      have hm : daysB more = false := by simpa using h15
      refine AWP.seq ?_
      refine AWP.region ?_
      refine AOps.call (o_nil (z := 1) (e := 3) rfl) ?_
      refine AOps.call (o_assign _ rfl rfl) ?_
      refine AOps.call (o_assign _ rfl rfl) ?_
      refine AOps.nil ?_
      refine AWP.ret ?_
      refine postQ.ret3 Tryd.results29 rfl rfl rfl ?_
      first
      | (rw [if_neg hz]; rfl)
      | (rw [if_pos hz, hm]; rfl)
      | (rw [if_pos hz, hm, hp]; rfl)
    · skip
      have hm : daysB more = true := by simpa using h15
      have hml := daysB_len hm
      refine AWP.skip ?_
      refine AWP.seq ?_
      refine AWP.region ?_
      refine AOps.call (o_loadRef _ rfl rfl Tryd.sizeOf24 Tryd.isAgg24 rfl rfl rfl) ?_
      refine AOps.call (o_move _ rfl rfl) ?_
      refine AOps.call (o_move _ rfl rfl) ?_
      refine AOps.call (o_move _ rfl rfl) ?_
      refine AOps.call (o_call (rhistory_s s known days grams hs0 hz3 hz2) Tryd.call84 rfl rfl) ?_
      refine AOps.call (o_assign _ rfl rfl) ?_
      refine AOps.nil ?_
      refine AWP.seq ?_
      refine AWP.seq ?_
      refine AWP.region ?_
      refine AOps.call (o_move _ rfl rfl) ?_
      refine AOps.call (o_un _ rfl (fun _ => rfl) rfl) ?_
      refine AOps.nil ?_
      refine AWP.cond _ rfl (fun h24 => ?_) (fun h24 => ?_)
      · skip
        have hp : pinB s known days grams = false := by simpa using h24
        refine AWP.seq ?_
        refine AWP.region ?_
        refine AOps.call (o_nil (z := 1) (e := 3) rfl) ?_
        refine AOps.call (o_assign _ rfl rfl) ?_
        refine AOps.call (o_assign _ rfl rfl) ?_
        refine AOps.nil ?_
        refine AWP.ret ?_
        refine postQ.ret3 Tryd.results29 rfl rfl rfl ?_
        first
        | (rw [if_neg hz]; rfl)
        | (rw [if_pos hz, hm]; rfl)
        | (rw [if_pos hz, hm, hp]; rfl)
      · skip
        have hp : pinB s known days grams = true := by simpa using h24
        have hga : grams.all driftB = true := by unfold pinB at hp; rw [Bool.and_eq_true] at hp; exact hp.1
        refine AWP.skip ?_
        refine AWP.seq ?_
        refine AWP.region ?_
        refine AOps.call (o_nil (z := 1) (e := 3) rfl) ?_
        refine AOps.nil ?_
        refine AWP.seq ?_
        refine AWP.seq ?_
        refine AWP.region ?_
        refine AOps.call (o_assign _ rfl rfl) ?_
        refine AOps.nil ?_
        refine AWP.block ?_
        refine AWP.loop (ι := Nat) (fun i => AS.mk' 84 [(1, I known), (2, .sl (ints days)), (3, .sl (ints grams)), (4, .sl (ints more)), (5, .ref (5, 0) 0), (15, .own (15, 0) (ints ((more.take i).map (fun d => drHi s.rate (pinL s known days grams) d)))), (16, I i)] [((5, 0), eS s)] [((15, 0), ((ints ((more.take i).map (fun d => drHi s.rate (pinL s known days grams) d))).length, 1, 3))] [(5, 1), (15, 1), (17, 0)]) (fun i => i ≤ more.length) (fun i => more.length - i) (0) (Weak.mk' rfl ⟨⟨.refl rfl, rfl⟩, ⟨⟨.refl rfl, rfl⟩, ⟨⟨.refl rfl, rfl⟩, ⟨⟨.refl rfl, rfl⟩, ⟨⟨.refl rfl, rfl⟩, ⟨⟨.refl rfl, rfl⟩, ⟨⟨.refl rfl, rfl⟩, trivial⟩⟩⟩⟩⟩⟩⟩ ⟨⟨rfl, rfl, rfl⟩, trivial⟩ ⟨⟨rfl, rfl⟩, trivial⟩) (Nat.zero_le _) ?_
        rintro k hk
        try dsimp only at *
        refine AWP.seq ?_
        refine AWP.seq ?_
        refine AWP.region ?_
        refine AOps.call (o_move _ rfl rfl) ?_
        refine AOps.call (o_move _ rfl rfl) ?_
        refine AOps.call (o_len _ Tryd.underlying45 rfl rfl) ?_
        refine AOps.call (o_bin _ _ rfl rfl (fun _ => rfl) rfl) ?_
        refine AOps.nil ?_
        refine AWP.cond _ rfl (fun h32 => ?_) (fun h32 => ?_)
        · skip
          have hlt : k < more.length := by simpa [ints] using h32
          have hel := ints_get hlt
          refine AWP.skip ?_
          refine AWP.seq ?_
          refine AWP.block ?_
          refine AWP.seq ?_
          refine AWP.drawn 8 mixed (by kernel_rfl) ?_
          refine AHead.call (o_loadRef _ rfl rfl Tryd.sizeOf24 Tryd.isAgg24 rfl rfl rfl) rfl ?_
          refine AHead.call (o_move _ rfl rfl) rfl ?_
          refine AHead.call (o_move _ rfl rfl) rfl ?_
          refine AHead.call (o_index _ _ Tryd.underlying45 Tryd.sizeOf3 rfl rfl (by omega) hel rfl rfl) rfl ?_
          refine AHead.call (o_loadRd _ rfl Tryd.sizeOf3 Tryd.isAgg3 rfl rfl rfl) rfl ?_
          refine AHead.call (o_move _ rfl rfl) rfl ?_
          refine AHead.call (o_call (rdrift_s s more[k] known hs (daysB_bd hm _ (List.getElem_mem hlt))) Tryd.call78 rfl rfl) rfl ?_
          refine AHead.call (o_alloc ze40 rfl rfl) rfl ?_
          refine AHead.nil ?_
          refine AOps.cons (o_store _ _ rfl rfl Tryd.sizeOf40 rfl rfl rfl rfl rfl) ?_
          refine AOps.nil ?_
          refine AWP.seq ?_
          refine AWP.region ?_
          refine AOps.call (o_fieldRef _ rfl fa40_1 rfl rfl) ?_
          refine AOps.call (o_loadRef _ rfl rfl Tryd.sizeOf3 Tryd.isAgg3 rfl rfl rfl) ?_
          refine AOps.call (o_assign _ rfl rfl) ?_
          refine AOps.nil ?_
          refine AWP.seq ?_
          refine AWP.seq ?_
          refine AWP.region ?_
          refine AOps.call (o_assign _ rfl rfl) ?_
          refine AOps.nil ?_
          refine AWP.block ?_
          refine AWP.loop (ι := Nat) (fun j => AS.mk' 84 [(1, I known), (2, .sl (ints days)), (3, .sl (ints grams)), (4, .sl (ints more)), (5, .ref (5, 0) 0), (15, .own (15, 0) (ints ((more.take k).map (fun d => drHi s.rate (pinL s known days grams) d)))), (16, I k), (18, I (extN s known days grams more[k] j)), (19, I j)] [((5, 0), eS s)] [((15, 0), ((ints ((more.take k).map (fun d => drHi s.rate (pinL s known days grams) d))).length, 1, 3))] [(5, 1), (15, 1)]) (fun j => j ≤ days.length) (fun j => days.length - j) (0) (Weak.mk' rfl ⟨⟨.refl rfl, rfl⟩, ⟨⟨.refl rfl, rfl⟩, ⟨⟨.refl rfl, rfl⟩, ⟨⟨.refl rfl, rfl⟩, ⟨⟨.refl rfl, rfl⟩, ⟨⟨.refl rfl, rfl⟩, ⟨⟨.refl rfl, rfl⟩, ⟨⟨.refl rfl, rfl⟩, ⟨⟨.refl rfl, rfl⟩, trivial⟩⟩⟩⟩⟩⟩⟩⟩⟩ ⟨⟨rfl, rfl, rfl⟩, trivial⟩ ⟨⟨rfl, rfl⟩, trivial⟩) (Nat.zero_le _) ?_
          rintro j hj
          try dsimp only at *
          refine AWP.seq ?_
          refine AWP.seq ?_
          refine AWP.region ?_
          refine AOps.call (o_move _ rfl rfl) ?_
          refine AOps.call (o_move _ rfl rfl) ?_
          refine AOps.call (o_len _ Tryd.underlying45 rfl rfl) ?_
          refine AOps.call (o_bin _ _ rfl rfl (fun _ => rfl) rfl) ?_
          refine AOps.nil ?_
          refine AWP.cond _ rfl (fun h46 => ?_) (fun h46 => ?_)
          · skip
            have hjlt : j < days.length := by simpa [ints] using h46
            have hjlt2 : j < grams.length := by omega
            have hjel := ints_get hjlt
            have hjel2 := ints_get hjlt2
            have hgj := driftB_bd (List.all_eq_true.1 hga _ (List.getElem_mem hjlt2))
            have hfb := far_bd (daysB_bd hm _ (List.getElem_mem hlt)) (daysB_bd hz3 _ (List.getElem_mem hjlt))
            have hmb := mul_bd hr.1 hr.2 hfb.1 hfb.2
            refine AWP.skip ?_
            refine AWP.seq ?_
            refine AWP.block ?_
            refine AWP.drawn 19 mixed (by kernel_rfl) ?_
            refine AHead.call (o_move _ rfl rfl) rfl ?_
            refine AHead.call (o_move _ rfl rfl) rfl ?_
            refine AHead.call (o_move _ rfl rfl) rfl ?_
            refine AHead.call (o_index _ _ Tryd.underlying45 Tryd.sizeOf3 rfl rfl (by omega) hjel2 rfl rfl) rfl ?_
            refine AHead.call (o_loadRd _ rfl Tryd.sizeOf3 Tryd.isAgg3 rfl rfl rfl) rfl ?_
            refine AHead.call (o_fieldRef _ rfl fa24_1 rfl rfl) rfl ?_
            refine AHead.call (o_loadRef _ rfl rfl Tryd.sizeOf3 Tryd.isAgg3 rfl rfl rfl) rfl ?_
            refine AHead.call (o_move _ rfl rfl) rfl ?_
            refine AHead.call (o_move _ rfl rfl) rfl ?_
            refine AHead.call (o_index _ _ Tryd.underlying45 Tryd.sizeOf3 rfl rfl (by omega) hel rfl rfl) rfl ?_
            refine AHead.call (o_loadRd _ rfl Tryd.sizeOf3 Tryd.isAgg3 rfl rfl rfl) rfl ?_
            refine AHead.call (o_move _ rfl rfl) rfl ?_
            refine AHead.call (o_move _ rfl rfl) rfl ?_
            refine AHead.call (o_index _ _ Tryd.underlying45 Tryd.sizeOf3 rfl rfl (by omega) hjel rfl rfl) rfl ?_
            refine AHead.call (o_loadRd _ rfl Tryd.sizeOf3 Tryd.isAgg3 rfl rfl rfl) rfl ?_
            refine AHead.call (o_call (rfar_s more[k] days[j] (daysB_bd hm _ (List.getElem_mem hlt)) (daysB_bd hz3 _ (List.getElem_mem hjlt))) Tryd.call87 rfl rfl) rfl ?_
            refine AHead.call (o_mul _ _ rfl rfl ⟨by (try dsimp only); omega, by (try dsimp only); omega⟩ rfl) rfl ?_
            refine AHead.call (o_add _ _ rfl rfl ⟨by (try dsimp only); omega, by (try dsimp only); omega⟩ rfl) rfl ?_
            refine AHead.call (o_minI _ _ rfl rfl rfl) rfl ?_
            refine AHead.nil ?_
            refine AOps.call (o_assign _ rfl rfl) ?_
            refine AOps.nil ?_
            refine AWP.region ?_
            refine AOps.call (o_move _ rfl rfl) ?_
            refine AOps.call (o_add _ _ rfl rfl ⟨by (try dsimp only); omega, by (try dsimp only); omega⟩ rfl) ?_
            refine AOps.call (o_assign _ rfl rfl) ?_
            refine AOps.nil ?_
            refine ⟨j + 1, ?_, (Weak.mk' rfl ⟨⟨.refl rfl, rfl⟩, ⟨⟨.refl rfl, rfl⟩, ⟨⟨.refl rfl, rfl⟩, ⟨⟨.refl rfl, rfl⟩, ⟨⟨.refl rfl, rfl⟩, ⟨⟨.refl rfl, rfl⟩, ⟨⟨.refl rfl, rfl⟩, ⟨⟨.refl (congrArg I (extN_succ hjlt hjlt2).symm), rfl⟩, ⟨⟨.refl rfl, rfl⟩, trivial⟩⟩⟩⟩⟩⟩⟩⟩⟩ ⟨⟨rfl, rfl, rfl⟩, trivial⟩ ⟨⟨rfl, rfl⟩, trivial⟩)⟩
            exact ⟨by omega, by omega⟩
          · skip
            have hjl : j = days.length := by simp [ints] at h46 hj; omega
            have hN : extN s known days grams more[k] j = drHi s.rate (pinL s known days grams) more[k] := by rw [hjl]; exact extN_end hz2
            refine AWP.exit ?_
            refine AWP.region ?_
            refine AOps.call (o_move _ rfl rfl) ?_
            refine AOps.call (o_move _ rfl rfl) ?_
            refine AOps.call (o_lit Tryd.underlying45 Tryd.sizeOf3 Tryd.zeroValue3 rfl rfl rfl rfl rfl rfl rfl) ?_
            refine AOps.cons (o_append (rs := ints ((more.take (k + 1)).map (fun d => drHi s.rate (pinL s known days grams) d))) _ _ Tryd.underlying45 info3 rfl rfl rfl rfl rfl rfl rfl rfl (fun c hc => by simp at hc; subst hc; rfl) ints_z (by
                rw [ints_len, List.length_map, List.length_take]; simp only [List.length_cons, List.length_nil, Nat.zero_add]; unfold Tryd.t3; simp only []; omega) rfl (by rw [hN]; exact (ints_snoc _ _).trans (congrArg ints (map_take_snoc _ hlt))) rfl) ?_
            refine AOps.call (o_assign _ rfl rfl) ?_
            refine AOps.nil ?_
            refine AWP.region ?_
            refine AOps.call (o_move _ rfl rfl) ?_
            refine AOps.call (o_add _ _ rfl rfl ⟨by (try dsimp only); omega, by (try dsimp only); omega⟩ rfl) ?_
            refine AOps.call (o_assign _ rfl rfl) ?_
            refine AOps.nil ?_
            refine ⟨k + 1, ?_, (Weak.mk' rfl ⟨⟨.refl rfl, rfl⟩, ⟨⟨.refl rfl, rfl⟩, ⟨⟨.refl rfl, rfl⟩, ⟨⟨.refl rfl, rfl⟩, ⟨⟨.refl rfl, rfl⟩, ⟨⟨.refl rfl, rfl⟩, ⟨⟨.refl rfl, rfl⟩, trivial⟩⟩⟩⟩⟩⟩⟩ ⟨⟨rfl, rfl, rfl⟩, trivial⟩ ⟨⟨rfl, rfl⟩, trivial⟩)⟩
            exact ⟨by omega, by omega⟩
        · skip
          have hkl : k = more.length := by simp [ints] at h32 hk; omega
          subst hkl
          rw [List.take_length]
          refine AWP.exit ?_
          refine AWP.seq ?_
          refine AWP.region ?_
          refine AOps.call (o_move _ rfl rfl) ?_
          refine AOps.call (o_assign _ rfl rfl) ?_
          refine AOps.call (o_assign _ rfl rfl) ?_
          refine AOps.call (o_assign _ rfl rfl) ?_
          refine AOps.nil ?_
          refine AWP.ret ?_
          refine postQ.ret3 Tryd.results29 rfl rfl rfl ?_
          first
          | (rw [if_neg hz]; rfl)
          | (rw [if_pos hz, hm]; rfl)
          | (rw [if_pos hz, hm, hp]; rfl)

end Go.Proofs.YtphoomnonenalaaDoor
