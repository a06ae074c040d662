import Derived.Test.YtphoomnonenalaaDoorC5
set_option linter.unusedSimpArgs false
set_option linter.unusedVariables false
namespace Go.Proofs.YtphoomnonenalaaDoor
open Go.Ab
theorem pins_snoc {s : Scl} {known : Int} {days grams : List Int} {k : Nat} (h : k < days.length) (h2 : k < grams.length) :
    tests (knownL s known ++ pins (days.take k) (grams.take k)) ++ [eT ⟨days[k], 0, grams[k], grams[k]⟩] = tests (knownL s known ++ pins (days.take (k + 1)) (grams.take (k + 1))) := by
  rw [tests_snoc, List.append_assoc, ← pins_at h h2]
theorem prevI_at {a : Int} {l : List Int} {k : Nat} (h : k < l.length) : prevI a l (k + 1) = l[k] := by
  simp [prevI, h]

set_option maxRecDepth 20000 in
theorem increasing_s (l : List Int) (m : Int) (hl : l.length ≤ 1000000) : FSpec Tryd.prog 114 [.sl (ints l), I m] (B (incB m (-1) l)) (none) := by
  refine FSpec.of_body Tryd.func114 rfl (leB rfl) fun w0 M0 => ?_
  refine AWP.seq ?_
  refine AWP.region ?_
  refine AOps.call (o_assign _ rfl rfl) ?_
  refine AOps.nil ?_
  refine AWP.seq ?_
  refine AWP.region ?_
  refine AOps.call (o_assign _ rfl rfl) ?_
  refine AOps.nil ?_
  refine AWP.seq ?_
  refine AWP.seq ?_
  refine AWP.region ?_
  refine AOps.call (o_move _ rfl rfl) ?_
  refine AOps.call (o_len _ Tryd.underlying45 rfl rfl) ?_
  refine AOps.call (o_move _ rfl rfl) ?_
  refine AOps.nil ?_
  refine AWP.block ?_
  refine AWP.loop (ι := Nat) (fun i => AS.mk' 24 [(1, I m), (5, I (prevI (-1) l i)), (8, .sl (ints l)), (9, I (ints l).length), (10, I i)] [] [] []) (fun i => i ≤ l.length ∧ incB m (-1) l = incB m (prevI (-1) l i) (l.drop i)) (fun i => l.length - i) (0) (Weak.mk' rfl ⟨⟨.refl rfl, rfl⟩, ⟨⟨.refl rfl, rfl⟩, ⟨⟨.refl rfl, rfl⟩, ⟨⟨.refl rfl, rfl⟩, ⟨⟨.refl rfl, rfl⟩, trivial⟩⟩⟩⟩⟩ trivial trivial) (⟨Nat.zero_le _, rfl⟩) ?_
  rintro k ⟨hk, hinv⟩
  try dsimp only at *
  refine AWP.seq ?_
  refine AWP.region ?_
  refine AOps.call (o_bin _ _ rfl rfl (fun _ => rfl) rfl) ?_
  refine AOps.nil ?_
  refine AWP.seq ?_
  refine AWP.cond _ rfl (fun h6 => ?_) (fun h6 => ?_)
  · skip
    have hlt : k < l.length := by simpa [ints] using h6
    have hel := ints_get hlt
    refine AWP.skip ?_
    refine AWP.seq ?_
    refine AWP.block ?_
    refine AWP.seq ?_
    refine AWP.region ?_
    refine AOps.call (o_index _ _ Tryd.underlying45 Tryd.sizeOf3 rfl rfl (by omega) (by assumption) rfl rfl) ?_
    refine AOps.call (o_loadRd _ rfl Tryd.sizeOf3 Tryd.isAgg3 rfl rfl rfl) ?_
    refine AOps.call (o_assign _ rfl rfl) ?_
    refine AOps.nil ?_
    refine AWP.seq ?_
    refine AWP.seq ?_
    refine AWP.region ?_
    refine AOps.call (o_move _ rfl rfl) ?_
    refine AOps.call (o_move _ rfl rfl) ?_
    refine AOps.call (o_bin _ _ rfl rfl (fun _ => rfl) rfl) ?_
    refine AOps.call (o_move _ rfl rfl) ?_
    refine AOps.split rfl rfl rfl (fun h10 => ?_) (fun h10 => ?_)
    · skip
      refine AOps.go rfl rfl rfl h10 (o_move _ rfl rfl) ?_
      refine AOps.go rfl rfl rfl h10 (o_move _ rfl rfl) ?_
      refine AOps.go rfl rfl rfl h10 (o_bin _ _ rfl rfl (fun _ => rfl) rfl) ?_
      refine AOps.call (o_pickF _ _ _ rfl h10 rfl rfl) ?_
      refine AOps.nil ?_
      refine AWP.cond _ rfl (fun h13 => ?_) (fun h13 => ?_)
      · skip
        refine AWP.seq ?_
        refine AWP.region ?_
        refine AOps.call (o_assign _ rfl rfl) ?_
        refine AOps.nil ?_
        refine AWP.ret ?_
        refine postQ.ret1 Tryd.results114 rfl ?_
        try rw [inc_at hlt] at hinv
        simp_all [AV.close, B, incB]
      · skip
        refine AWP.skip ?_
        refine AWP.region ?_
        refine AOps.call (o_move _ rfl rfl) ?_
        refine AOps.call (o_assign _ rfl rfl) ?_
        refine AOps.nil ?_
        refine AWP.region ?_
        refine AOps.call (o_add _ _ rfl rfl ⟨by (try dsimp only); omega, by (try dsimp only); omega⟩ rfl) ?_
        refine AOps.call (o_move _ rfl rfl) ?_
        refine AOps.nil ?_
        refine ⟨k + 1, ?_, (Weak.mk' rfl ⟨⟨.refl rfl, rfl⟩, ⟨⟨.refl (by rw [prevI_at hlt]; rfl), rfl⟩, ⟨⟨.refl rfl, rfl⟩, ⟨⟨.refl rfl, rfl⟩, ⟨⟨.refl rfl, rfl⟩, trivial⟩⟩⟩⟩⟩ trivial trivial)⟩
        exact ⟨⟨by omega, by rw [hinv, inc_at hlt]; simp_all⟩, by omega⟩
    · skip
      refine AOps.pass rfl rfl rfl h10 rfl ?_
      refine AOps.pass rfl rfl rfl h10 rfl ?_
      refine AOps.pass rfl rfl rfl h10 rfl ?_
      refine AOps.call (o_pickT _ _ _ rfl h10 rfl rfl) ?_
      refine AOps.nil ?_
      refine AWP.condT rfl ?_
      refine AWP.seq ?_
      refine AWP.region ?_
      refine AOps.call (o_assign _ rfl rfl) ?_
      refine AOps.nil ?_
      refine AWP.ret ?_
      refine postQ.ret1 Tryd.results114 rfl ?_
      try rw [inc_at hlt] at hinv
      simp_all [AV.close, B, incB]
  · skip
    have hkl : k = l.length := by simp [ints] at h6 hk; omega
    subst hkl
    rw [List.drop_length] at hinv
    refine AWP.exit ?_
    refine AWP.seq ?_
    refine AWP.region ?_
    refine AOps.call (o_assign _ rfl rfl) ?_
    refine AOps.nil ?_
    refine AWP.ret ?_
    refine postQ.ret1 Tryd.results114 rfl ?_
    try rw [inc_at hlt] at hinv
    simp_all [AV.close, B, incB]

set_option maxRecDepth 20000 in
theorem fewDays_s (l : List Int) : FSpec Tryd.prog 85 [.sl (ints l)] (B (daysB l)) (none) := by
  refine FSpec.of_body Tryd.func85 rfl (leB rfl) fun w0 M0 => ?_
  refine AWP.seq ?_
  refine AWP.region ?_
  refine AOps.call (o_assign _ rfl rfl) ?_
  refine AOps.nil ?_
  refine AWP.seq ?_
  refine AWP.region ?_
  refine AOps.call (o_move _ rfl rfl) ?_
  refine AOps.call (o_len _ Tryd.underlying45 rfl rfl) ?_
  refine AOps.call (o_bin _ _ rfl rfl (fun _ => rfl) rfl) ?_
  refine AOps.call (o_move _ rfl rfl) ?_
  refine AOps.split rfl rfl rfl (fun h4 => ?_) (fun h4 => ?_)
  · skip
    have hl : l.length ≤ 1000000 := by simp [ints_len] at h4; omega
    refine AOps.go rfl rfl rfl h4 (o_move _ rfl rfl) ?_
    refine AOps.go rfl rfl rfl h4 (o_call (increasing_s l 1048576 hl) Tryd.call114 rfl rfl) ?_
    refine AOps.call (o_pickT _ _ _ rfl h4 rfl rfl) ?_
    refine AOps.call (o_assign _ rfl rfl) ?_
    refine AOps.nil ?_
    refine AWP.ret ?_
    refine postQ.ret1 Tryd.results85 rfl ?_
    unfold daysB
    simp_all [AV.close, B, ints_len]
    try (intros; omega)
  · skip
    refine AOps.pass rfl rfl rfl h4 rfl ?_
    refine AOps.pass rfl rfl rfl h4 rfl ?_
    refine AOps.call (o_pickF _ _ _ rfl h4 rfl rfl) ?_
    refine AOps.call (o_assign _ rfl rfl) ?_
    refine AOps.nil ?_
    refine AWP.ret ?_
    refine postQ.ret1 Tryd.results85 rfl ?_
    unfold daysB
    simp_all [AV.close, B, ints_len]
    try (intros; omega)

set_option maxRecDepth 20000 in
theorem checkGiven_s (s : Scl) (known : Int) (days grams : List Int) : FSpec Tryd.prog 81 [.agg (eS s), I known, .sl (ints days), .sl (ints grams)] (I (givenE s known days grams)) (none) := by
  refine FSpec.of_body Tryd.func81 rfl (leB rfl) fun w0 M0 => ?_
  refine AWP.seq ?_
  refine AWP.region ?_
  refine AOps.call (o_box _ rfl rfl rfl) ?_
  refine AOps.call (o_assign _ rfl rfl) ?_
  refine AOps.nil ?_
  refine AWP.seq ?_
  refine AWP.seq ?_
  refine AWP.region ?_
  refine AOps.call (o_loadRef _ rfl rfl Tryd.sizeOf24 Tryd.isAgg24 rfl rfl rfl) ?_
  refine AOps.call (o_move _ rfl rfl) ?_
  refine AOps.call (o_lit Tryd.underlying45 Tryd.sizeOf3 Tryd.zeroValue3 rfl rfl rfl rfl rfl rfl rfl) ?_
  refine AOps.call (o_call (checkAsked_s s [known] (leB rfl)) Tryd.call75 rfl rfl) ?_
  refine AOps.call (o_assign _ rfl rfl) ?_
  refine AOps.nil ?_
  refine AWP.seq ?_
  refine AWP.region ?_
  refine AOps.call (o_move _ rfl rfl) ?_
  refine AOps.call (o_bin _ _ rfl rfl (fun _ => rfl) rfl) ?_
  refine AOps.nil ?_
  refine AWP.cond _ rfl (fun h8 => ?_) (fun h8 => ?_)
  · skip
    have hz : ¬ askE s [known] = 0 := by simpa using h8
    refine AWP.seq ?_
    refine AWP.region ?_
    refine AOps.call (o_move _ rfl rfl) ?_
    refine AOps.call (o_assign _ rfl rfl) ?_
    refine AOps.nil ?_
    refine AWP.ret ?_
    refine postQ.ret1 Tryd.results81 rfl ?_
    unfold givenE
    simp_all [AV.close, I, ints_len]
    try omega
  · skip
    have hz : askE s [known] = 0 := by simpa using h8
    refine AWP.skip ?_
    refine AWP.seq ?_
    refine AWP.seq ?_
    refine AWP.region ?_
    refine AOps.call (o_move _ rfl rfl) ?_
    refine AOps.call (o_len _ Tryd.underlying45 rfl rfl) ?_
    refine AOps.call (o_move _ rfl rfl) ?_
    refine AOps.call (o_len _ Tryd.underlying45 rfl rfl) ?_
    refine AOps.call (o_bin _ _ rfl rfl (fun _ => rfl) rfl) ?_
    refine AOps.call (o_move _ rfl rfl) ?_
    refine AOps.split rfl rfl rfl (fun h14 => ?_) (fun h14 => ?_)
    · skip
      refine AOps.go rfl rfl rfl h14 (o_move _ rfl rfl) ?_
      refine AOps.go rfl rfl rfl h14 (o_call (fewDays_s days) Tryd.call85 rfl rfl) ?_
      refine AOps.go rfl rfl rfl h14 (o_un _ rfl (fun _ => rfl) rfl) ?_
      refine AOps.call (o_pickF _ _ _ rfl h14 rfl rfl) ?_
      refine AOps.nil ?_
      refine AWP.cond _ rfl (fun h18 => ?_) (fun h18 => ?_)
      · skip
        refine AWP.seq ?_
        refine AWP.region ?_
        refine AOps.call (o_assign _ rfl rfl) ?_
        refine AOps.nil ?_
        refine AWP.ret ?_
        refine postQ.ret1 Tryd.results81 rfl ?_
        unfold givenE
        simp_all [AV.close, I, ints_len]
        try omega
      · skip
        refine AWP.skip ?_
        refine AWP.seq ?_
        refine AWP.region ?_
        refine AOps.call (o_assign _ rfl rfl) ?_
        refine AOps.nil ?_
        refine AWP.ret ?_
        refine postQ.ret1 Tryd.results81 rfl ?_
        unfold givenE
        simp_all [AV.close, I, ints_len]
        try omega
    · skip
      refine AOps.pass rfl rfl rfl h14 rfl ?_
      refine AOps.pass rfl rfl rfl h14 rfl ?_
      refine AOps.pass rfl rfl rfl h14 rfl ?_
      refine AOps.call (o_pickT _ _ _ rfl h14 rfl rfl) ?_
      refine AOps.nil ?_
      refine AWP.condT rfl ?_
      refine AWP.seq ?_
      refine AWP.region ?_
      refine AOps.call (o_assign _ rfl rfl) ?_
      refine AOps.nil ?_
      refine AWP.ret ?_
      refine postQ.ret1 Tryd.results81 rfl ?_
      unfold givenE
      simp_all [AV.close, I, ints_len]
      try omega

set_option maxRecDepth 20000 in
theorem pinned_s (s : Scl) (known : Int) (days grams : List Int) (hs : scaleB s = true) (hd : daysB days = true) (he : days.length = grams.length) : FSpec Tryd.prog 82 [.agg (eS s), I known, .sl (ints days), .sl (ints grams)] (if grams.all driftB then .tup [.sl (tests (pinL s known days grams)), B (pairs s.rate (pinL s known days grams) 0).isNone] else .tup [.sl [], B false]) (none) := by
  refine FSpec.of_body Tryd.func82 rfl (leB rfl) fun w0 M0 => ?_
  have hd64 := daysB_len hd
  have hs64 := scaleB_len hs
  have hkl64 := known_len s known
  refine AWP.seq ?_
  refine AWP.region ?_
  refine AOps.call (o_box _ rfl rfl rfl) ?_
  refine AOps.call (o_nil (z := 4) (e := 26) rfl) ?_
  refine AOps.call (o_assign _ rfl rfl) ?_
  refine AOps.nil ?_
  refine AWP.seq ?_
  refine AWP.region ?_
  refine AOps.call (o_loadRef _ rfl rfl Tryd.sizeOf24 Tryd.isAgg24 rfl rfl rfl) ?_
  refine AOps.call (o_move _ rfl rfl) ?_
  refine AOps.call (o_call (knownTests_s s known (by omega)) Tryd.call77 rfl rfl) ?_
  refine AOps.call (o_assign _ rfl rfl) ?_
  refine AOps.nil ?_
  refine AWP.seq ?_
  refine AWP.seq ?_
  refine AWP.region ?_
  refine AOps.call (o_move _ rfl rfl) ?_
  refine AOps.call (o_len _ Tryd.underlying45 rfl rfl) ?_
  refine AOps.call (o_move _ rfl rfl) ?_
  refine AOps.nil ?_
  refine AWP.block ?_
  have hkn : tests (knownL s known) = tests (knownL s known ++ pins (days.take 0) (grams.take 0)) := by simp [pins]
  rw [hkn]
  refine AWP.loop (ι := Nat) (fun i => AS.mk' 55 [(1, I known), (2, .sl (ints days)), (3, .sl (ints grams)), (4, .ref (4, 0) 0), (10, .own (17, 0) (tests (knownL s known ++ pins (days.take i) (grams.take i)))), (18, .sl (ints days)), (19, I (ints days).length), (20, I i)] [((4, 0), eS s)] [((17, 0), ((tests (knownL s known ++ pins (days.take i) (grams.take i))).length, 4, 26))] [(4, 1), (17, 1)]) (fun i => i ≤ days.length ∧ grams.all driftB = (grams.drop i).all driftB) (fun i => days.length - i) (0) (Weak.mk' rfl ⟨⟨.refl rfl, rfl⟩, ⟨⟨.refl rfl, rfl⟩, ⟨⟨.refl rfl, rfl⟩, ⟨⟨.refl rfl, rfl⟩, ⟨⟨.refl rfl, rfl⟩, ⟨⟨.refl rfl, rfl⟩, ⟨⟨.refl rfl, rfl⟩, ⟨⟨.refl rfl, rfl⟩, trivial⟩⟩⟩⟩⟩⟩⟩⟩ ⟨⟨rfl, rfl, rfl⟩, trivial⟩ ⟨⟨rfl, rfl⟩, trivial⟩) (⟨Nat.zero_le _, rfl⟩) ?_
  rintro k ⟨hk, hinv⟩
  try dsimp only at *
  refine AWP.seq ?_
  refine AWP.region ?_
  refine AOps.call (o_bin _ _ rfl rfl (fun _ => rfl) rfl) ?_
  refine AOps.nil ?_
  refine AWP.seq ?_
  refine AWP.cond _ rfl (fun h10 => ?_) (fun h10 => ?_)
  · skip
    have hlt : k < days.length := by simpa [ints] using h10
    have hel := ints_get hlt
    have hlg : k < grams.length := by omega
    have helg := ints_get hlg
    refine AWP.skip ?_
    refine AWP.seq ?_
    refine AWP.block ?_
    refine AWP.seq ?_
    refine AWP.region ?_
    refine AOps.call (o_move _ rfl rfl) ?_
    refine AOps.call (o_index _ _ Tryd.underlying45 Tryd.sizeOf3 rfl rfl (by omega) (by assumption) rfl rfl) ?_
    refine AOps.call (o_loadRd _ rfl Tryd.sizeOf3 Tryd.isAgg3 rfl rfl rfl) ?_
    refine AOps.call (o_assign _ rfl rfl) ?_
    refine AOps.call (o_assign _ rfl rfl) ?_
    refine AOps.nil ?_
    refine AWP.seq ?_
    refine AWP.seq ?_
    refine AWP.region ?_
    refine AOps.call (o_move _ rfl rfl) ?_
    refine AOps.call (o_move _ rfl rfl) ?_
    refine AOps.call (o_index _ _ Tryd.underlying45 Tryd.sizeOf3 rfl rfl (by omega) helg rfl rfl) ?_
    refine AOps.call (o_loadRd _ rfl Tryd.sizeOf3 Tryd.isAgg3 rfl rfl rfl) ?_
    refine AOps.call (o_call (isDrift_s grams[k]) Tryd.call73 rfl rfl) ?_
    refine AOps.call (o_un _ rfl (fun _ => rfl) rfl) ?_
    refine AOps.nil ?_
    refine AWP.cond _ rfl (fun h18 => ?_) (fun h18 => ?_)
    · skip
      have hgk : grams.all driftB = false := by rw [hinv, alld_at hlg]; simp_all
      refine AWP.seq ?_
      refine AWP.region ?_
      refine AOps.call (o_nil (z := 4) (e := 26) rfl) ?_
      refine AOps.call (o_assign _ rfl rfl) ?_
      refine AOps.nil ?_
      refine AWP.ret ?_
      refine postQ.ret2 Tryd.results82 rfl rfl ?_
      first
      | (rw [hgk]; rfl)
      | (rw [if_pos hg, hcase]; simp [AV.close, AV.close.closeL, B, pinL])
    · skip
      have hgk : driftB grams[k] = true := by simpa using h18
      refine AWP.skip ?_
      refine AWP.drawn 12 mixed (by kernel_rfl) ?_
      refine AHead.call (o_move _ rfl rfl) rfl ?_
      refine AHead.call (o_move _ rfl rfl) rfl ?_
      refine AHead.call (o_move _ rfl rfl) rfl ?_
      refine AHead.call (o_move _ rfl rfl) rfl ?_
      refine AHead.call (o_index _ _ Tryd.underlying45 Tryd.sizeOf3 rfl rfl (by omega) helg rfl rfl) rfl ?_
      refine AHead.call (o_loadRd _ rfl Tryd.sizeOf3 Tryd.isAgg3 rfl rfl rfl) rfl ?_
      refine AHead.call (o_move _ rfl rfl) rfl ?_
      refine AHead.call (o_move _ rfl rfl) rfl ?_
      refine AHead.call (o_index _ _ Tryd.underlying45 Tryd.sizeOf3 rfl rfl (by omega) helg rfl rfl) rfl ?_
      refine AHead.call (o_loadRd _ rfl Tryd.sizeOf3 Tryd.isAgg3 rfl rfl rfl) rfl ?_
      refine AHead.call (o_build bu26 rfl rfl rfl) rfl ?_
      refine AHead.call (o_lit Tryd.underlying22 Tryd.sizeOf26 Tryd.zeroValue26 rfl rfl rfl rfl rfl rfl rfl) rfl ?_
      refine AHead.nil ?_
      refine AOps.cons (o_append _ _ Tryd.underlying22 info26 rfl rfl rfl rfl rfl rfl rfl rfl (fun c hc => by simp at hc; subst hc; rfl) tests_z (by
          have h1 := @pins_len (days.take k) (grams.take k)
          rw [List.length_take] at h1
          rw [tests_len, List.length_append]; simp only [List.length_cons, List.length_nil, Nat.zero_add]; unfold Tryd.t26; simp only []; omega) rfl (pins_snoc hlt hlg) rfl) ?_
      refine AOps.call (o_assign _ rfl rfl) ?_
      refine AOps.nil ?_
      refine AWP.region ?_
      refine AOps.call (o_add _ _ rfl rfl ⟨by (try dsimp only); omega, by (try dsimp only); omega⟩ rfl) ?_
      refine AOps.call (o_move _ rfl rfl) ?_
      refine AOps.nil ?_
      refine ⟨k + 1, ?_, (Weak.mk' rfl ⟨⟨.refl rfl, rfl⟩, ⟨⟨.refl rfl, rfl⟩, ⟨⟨.refl rfl, rfl⟩, ⟨⟨.refl rfl, rfl⟩, ⟨⟨.refl rfl, rfl⟩, ⟨⟨.refl rfl, rfl⟩, ⟨⟨.refl rfl, rfl⟩, ⟨⟨.refl rfl, rfl⟩, trivial⟩⟩⟩⟩⟩⟩⟩⟩ ⟨⟨rfl, rfl, rfl⟩, trivial⟩ ⟨⟨rfl, rfl⟩, trivial⟩)⟩
      exact ⟨⟨by omega, by rw [hinv, alld_at hlg]; simp_all⟩, by omega⟩
  · skip
    have hkl : k = days.length := by simp [ints] at h10 hk; omega
    subst hkl
    have hg : grams.all driftB = true := by rw [hinv, he, List.drop_length]; rfl
    have htk : pins (days.take days.length) (grams.take days.length) = pins days grams := by rw [List.take_length, he, List.take_length]
    have hpl := @pinL_len s known days grams hs hd
    have FA0 := firstApart_s s.rate (pinL s known days grams) (scaleB_rate hs) (by omega) (pinL_ok hs hd hg)
    obtain ⟨i, j, is, FA, hcase⟩ : ∃ (i j : Int) (is : Bool), FSpec Tryd.prog 67 [I s.rate, .sl (tests (pinL s known days grams))] (.tup [.agg [I i, I j], B is]) none ∧ (is = !(pairs s.rate (pinL s known days grams) 0).isNone) := by
      cases hp : pairs s.rate (pinL s known days grams) 0 with
      | none => rw [hp] at FA0; exact ⟨0, 0, false, FA0, rfl⟩
      | some q => obtain ⟨a, b⟩ := q; rw [hp] at FA0; exact ⟨a, b, true, FA0, rfl⟩
    rw [htk]
    refine AWP.exit ?_
    refine AWP.seq ?_
    refine AWP.region ?_
    refine AOps.call (o_fieldRef _ rfl fa24_1 rfl rfl) ?_
    refine AOps.call (o_loadRef _ rfl rfl Tryd.sizeOf3 Tryd.isAgg3 rfl rfl rfl) ?_
    refine AOps.call (o_move _ rfl rfl) ?_
    refine AOps.call (o_call (FA) Tryd.call67 rfl rfl) ?_
    refine AOps.call (o_move _ rfl rfl) ?_
    refine AOps.call (o_extract _ rfl rfl rfl rfl) ?_
    refine AOps.call (o_extract _ rfl rfl rfl rfl) ?_
    refine AOps.call (o_alloc ze28 rfl rfl) ?_
    refine AOps.cons (o_store _ _ rfl rfl Tryd.sizeOf28 rfl rfl rfl rfl rfl) ?_
    refine AOps.call (o_assign _ rfl rfl) ?_
    refine AOps.nil ?_
    refine AWP.seq ?_
    refine AWP.region ?_
    refine AOps.call (o_move _ rfl rfl) ?_
    refine AOps.call (o_move _ rfl rfl) ?_
    refine AOps.call (o_un _ rfl (fun _ => rfl) rfl) ?_
    refine AOps.call (o_assign _ rfl rfl) ?_
    refine AOps.call (o_assign _ rfl rfl) ?_
    refine AOps.nil ?_
    refine AWP.ret ?_
    refine postQ.ret2 Tryd.results82 rfl rfl ?_
    first
    | (rw [hgk]; rfl)
    | (rw [if_pos hg, hcase]; simp [AV.close, AV.close.closeL, B, pinL])

end Go.Proofs.YtphoomnonenalaaDoor
