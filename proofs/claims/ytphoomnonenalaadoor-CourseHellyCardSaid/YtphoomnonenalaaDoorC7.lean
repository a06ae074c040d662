import Derived.Test.YtphoomnonenalaaDoorC6
set_option linter.unusedSimpArgs false
set_option linter.unusedVariables false
namespace Go.Proofs.YtphoomnonenalaaDoor
open Go.Ab
theorem lowL_sc (gen : Nat → Nat) : ∀ (l : List AV), (∀ x ∈ l, ∃ v, x = .sc v) → AV.low.lowL gen l = true := by
  intro l
  induction l with
  | nil => intro _; rfl
  | cons a l ih =>
    intro h
    obtain ⟨v, rfl⟩ := h a List.mem_cons_self
    simp only [AV.low.lowL, AV.low, Bool.true_and]
    exact ih fun x hx => h x (List.mem_cons_of_mem _ hx)
theorem lowL_fill (gen : Nat → Nat) {α : Type} (f : α → Int) (l : List α) (n : Nat) (u : Int) : AV.low.lowL gen (l.map (fun d => I (f d)) ++ List.replicate n (I u)) = true := by
  refine lowL_sc gen _ fun x hx => ?_
  rcases List.mem_append.1 hx with h | h
  · obtain ⟨a, _, rfl⟩ := List.mem_map.1 h; exact ⟨_, rfl⟩
  · rw [(List.mem_replicate.1 h).2]; exact ⟨_, rfl⟩

set_option maxRecDepth 20000 in
theorem History_s (s : Scl) (known : Int) (days grams : List Int) : FSpec Tryd.prog 26 [.agg (eS s), I known, .sl (ints days), .sl (ints grams)] (if givenE s known days grams = 0 then .tup [B (pinB s known days grams), I 0] else .tup [B false, I (givenE s known days grams)]) (none) := by
  refine FSpec.of_body Tryd.func26 rfl (leB rfl) fun w0 M0 => ?_
  have PI0 := fun hs hd he => pinned_s s known days grams hs hd he
  have PI : scaleB s = true → daysB days = true → days.length = grams.length → ∃ l, FSpec Tryd.prog 82 [.agg (eS s), I known, .sl (ints days), .sl (ints grams)] (.tup [.sl (tests l), B (pinB s known days grams)]) none ∧ (pinB s known days grams = true → l = pinL s known days grams ∧ grams.all driftB = true) := fun hs hd he => by
    have h := PI0 hs hd he
    cases hg : grams.all driftB with
    | true => rw [if_pos hg] at h; exact ⟨_, by unfold pinB; rw [hg]; exact h, fun _ => ⟨rfl, rfl⟩⟩
    | false => rw [hg] at h; exact ⟨[], by unfold pinB; rw [hg]; exact h, fun hh => by unfold pinB at hh; rw [hg] at hh; cases hh⟩
  refine AWP.seq ?_
  refine AWP.region ?_
  refine AOps.call (o_box _ rfl rfl rfl) ?_
  refine AOps.call (o_assign _ rfl rfl) ?_
  refine AOps.call (o_assign _ rfl rfl) ?_
  refine AOps.nil ?_
  refine AWP.seq ?_
  refine AWP.seq ?_
  refine AWP.region ?_
  refine AOps.call (o_loadRef _ rfl rfl Tryd.sizeOf24 Tryd.isAgg24 rfl rfl rfl) ?_
  refine AOps.call (o_move _ rfl rfl) ?_
  refine AOps.call (o_move _ rfl rfl) ?_
  refine AOps.call (o_move _ rfl rfl) ?_
  refine AOps.call (o_call (checkGiven_s s known days grams) Tryd.call81 rfl rfl) ?_
  refine AOps.call (o_assign _ rfl rfl) ?_
  refine AOps.nil ?_
  refine AWP.seq ?_
  refine AWP.region ?_
  refine AOps.call (o_move _ rfl rfl) ?_
  refine AOps.call (o_bin _ _ rfl rfl (fun _ => rfl) rfl) ?_
  refine AOps.nil ?_
  refine AWP.cond _ rfl (fun h9 => ?_) (fun h9 => ?_)
  · skip
    have hz : ¬ givenE s known days grams = 0 := by simpa using h9
    refine AWP.seq ?_
    refine AWP.region ?_
    refine AOps.call (o_move _ rfl rfl) ?_
    refine AOps.call (o_assign _ rfl rfl) ?_
    refine AOps.call (o_assign _ rfl rfl) ?_
    refine AOps.nil ?_
    refine AWP.ret ?_
    refine postQ.ret2 Tryd.results26 rfl rfl ?_
    first
    | (rw [if_pos hz]; rfl)
    | (rw [if_neg hz]; rfl)
  · skip
    have hz : givenE s known days grams = 0 := by simpa using h9
    obtain ⟨hz1, hz2, hz3⟩ := givenE_0 hz
    obtain ⟨hs0, hdd⟩ := askE_0 hz1
    have hs := scaleE_0 hs0
    obtain ⟨lp, PI, hlp⟩ := PI hs hz3 hz2
    refine AWP.skip ?_
    refine AWP.seq ?_
    refine AWP.region ?_
    refine AOps.call (o_loadRef _ rfl rfl Tryd.sizeOf24 Tryd.isAgg24 rfl rfl rfl) ?_
    refine AOps.call (o_move _ rfl rfl) ?_
    refine AOps.call (o_move _ rfl rfl) ?_
    refine AOps.call (o_move _ rfl rfl) ?_
    refine AOps.call (o_call (PI) Tryd.call82 rfl rfl) ?_
    refine AOps.call (o_move _ rfl rfl) ?_
    refine AOps.call (o_extract _ rfl rfl rfl rfl) ?_
    refine AOps.call (o_extract _ rfl rfl rfl rfl) ?_
    refine AOps.call (o_assign _ rfl rfl) ?_
    refine AOps.call (o_assign _ rfl rfl) ?_
    refine AOps.nil ?_
    refine AWP.seq ?_
    refine AWP.region ?_
    refine AOps.call (o_move _ rfl rfl) ?_
    refine AOps.call (o_assign _ rfl rfl) ?_
    refine AOps.call (o_assign _ rfl rfl) ?_
    refine AOps.nil ?_
    refine AWP.ret ?_
    refine postQ.ret2 Tryd.results26 rfl rfl ?_
    first
    | (rw [if_pos hz]; rfl)
    | (rw [if_neg hz]; rfl)

set_option maxRecDepth 20000 in
theorem Extend_s (s : Scl) (known : Int) (days grams more : List Int) : FSpec Tryd.prog 28 [.agg (eS s), I known, .sl (ints days), .sl (ints grams), .sl (ints more)] (if givenE s known days grams = 0 then (if daysB more then (if pinB s known days grams then .tup [.sl (ints (extL s known days grams more)), B true, I 0] else .tup [.sl [], B false, I 0]) else .tup [.sl [], B false, I 1]) else .tup [.sl [], B false, I (givenE s known days grams)]) (none) := by
  refine FSpec.of_body Tryd.func28 rfl (leB rfl) fun w0 M0 => ?_
  have PI0 := fun hs hd he => pinned_s s known days grams hs hd he
  have PI : scaleB s = true → daysB days = true → days.length = grams.length → ∃ l, FSpec Tryd.prog 82 [.agg (eS s), I known, .sl (ints days), .sl (ints grams)] (.tup [.sl (tests l), B (pinB s known days grams)]) none ∧ (pinB s known days grams = true → l = pinL s known days grams ∧ grams.all driftB = true) := fun hs hd he => by
    have h := PI0 hs hd he
    cases hg : grams.all driftB with
    | true => rw [if_pos hg] at h; exact ⟨_, by unfold pinB; rw [hg]; exact h, fun _ => ⟨rfl, rfl⟩⟩
    | false => rw [hg] at h; exact ⟨[], by unfold pinB; rw [hg]; exact h, fun hh => by unfold pinB at hh; rw [hg] at hh; cases hh⟩
  refine AWP.seq ?_
  refine AWP.region ?_
  refine AOps.call (o_box _ rfl rfl rfl) ?_
  refine AOps.call (o_nil (z := 1) (e := 3) rfl) ?_
  refine AOps.call (o_assign _ rfl rfl) ?_
  refine AOps.call (o_assign _ rfl rfl) ?_
  refine AOps.nil ?_
  refine AWP.seq ?_
  refine AWP.seq ?_
  refine AWP.region ?_
  refine AOps.call (o_loadRef _ rfl rfl Tryd.sizeOf24 Tryd.isAgg24 rfl rfl rfl) ?_
  refine AOps.call (o_move _ rfl rfl) ?_
  refine AOps.call (o_move _ rfl rfl) ?_
  refine AOps.call (o_move _ rfl rfl) ?_
  refine AOps.call (o_call (checkGiven_s s known days grams) Tryd.call81 rfl rfl) ?_
  refine AOps.call (o_assign _ rfl rfl) ?_
  refine AOps.nil ?_
  refine AWP.seq ?_
  refine AWP.region ?_
  refine AOps.call (o_move _ rfl rfl) ?_
  refine AOps.call (o_bin _ _ rfl rfl (fun _ => rfl) rfl) ?_
  refine AOps.nil ?_
  refine AWP.cond _ rfl (fun h10 => ?_) (fun h10 => ?_)
  · skip
    have hz : ¬ givenE s known days grams = 0 := by simpa using h10
    refine AWP.seq ?_
    refine AWP.region ?_
    refine AOps.call (o_move _ rfl rfl) ?_
    refine AOps.call (o_nil (z := 1) (e := 3) rfl) ?_
    refine AOps.call (o_assign _ rfl rfl) ?_
    refine AOps.call (o_assign _ rfl rfl) ?_
    refine AOps.nil ?_
    refine AWP.ret ?_
    refine postQ.ret3 Tryd.results28 rfl rfl rfl ?_
    first
    | (rw [if_neg hz]; rfl)
    | (rw [if_pos hz, hm]; rfl)
    | (rw [if_pos hz, hm, hp]; rfl)
  · skip
    have hz : givenE s known days grams = 0 := by simpa using h10
    obtain ⟨hz1, hz2, hz3⟩ := givenE_0 hz
    obtain ⟨hs0, hdd⟩ := askE_0 hz1
    have hs := scaleE_0 hs0
    obtain ⟨lp, PI, hlp⟩ := PI hs hz3 hz2
    refine AWP.skip ?_
    refine AWP.seq ?_
    refine AWP.seq ?_
    refine AWP.region ?_
    refine AOps.call (o_move _ rfl rfl) ?_
    refine AOps.call (o_call (fewDays_s more) Tryd.call85 rfl rfl) ?_
    refine AOps.call (o_un _ rfl (fun _ => rfl) rfl) ?_
    refine AOps.nil ?_
    refine AWP.cond _ rfl (fun h15 => ?_) (fun h15 => ?_)
    · skip
      have hm : daysB more = false := by simpa using h15
      refine AWP.seq ?_
      refine AWP.region ?_
      refine AOps.call (o_nil (z := 1) (e := 3) rfl) ?_
      refine AOps.call (o_assign _ rfl rfl) ?_
      refine AOps.call (o_assign _ rfl rfl) ?_
      refine AOps.nil ?_
      refine AWP.ret ?_
      refine postQ.ret3 Tryd.results28 rfl rfl rfl ?_
      first
      | (rw [if_neg hz]; rfl)
      | (rw [if_pos hz, hm]; rfl)
      | (rw [if_pos hz, hm, hp]; rfl)
    · skip
      have hm : daysB more = true := by simpa using h15
      have hml := daysB_len hm
      have hil := ints_len more
      refine AWP.skip ?_
      refine AWP.seq ?_
      refine AWP.region ?_
      refine AOps.call (o_loadRef _ rfl rfl Tryd.sizeOf24 Tryd.isAgg24 rfl rfl rfl) ?_
      refine AOps.call (o_move _ rfl rfl) ?_
      refine AOps.call (o_move _ rfl rfl) ?_
      refine AOps.call (o_move _ rfl rfl) ?_
      refine AOps.call (o_call (PI) Tryd.call82 rfl rfl) ?_
      refine AOps.call (o_move _ rfl rfl) ?_
      refine AOps.call (o_extract _ rfl rfl rfl rfl) ?_
      refine AOps.call (o_extract _ rfl rfl rfl rfl) ?_
      refine AOps.call (o_assign _ rfl rfl) ?_
      refine AOps.call (o_assign _ rfl rfl) ?_
      refine AOps.nil ?_
      refine AWP.seq ?_
      refine AWP.seq ?_
      refine AWP.region ?_
      refine AOps.call (o_move _ rfl rfl) ?_
      refine AOps.call (o_un _ rfl (fun _ => rfl) rfl) ?_
      refine AOps.nil ?_
      refine AWP.cond _ rfl (fun h26 => ?_) (fun h26 => ?_)
      · skip
        have hp : pinB s known days grams = false := by simpa using h26
        refine AWP.seq ?_
        refine AWP.region ?_
        refine AOps.call (o_nil (z := 1) (e := 3) rfl) ?_
        refine AOps.call (o_assign _ rfl rfl) ?_
        refine AOps.call (o_assign _ rfl rfl) ?_
        refine AOps.nil ?_
        refine AWP.ret ?_
        refine postQ.ret3 Tryd.results28 rfl rfl rfl ?_
        first
        | (rw [if_neg hz]; rfl)
        | (rw [if_pos hz, hm]; rfl)
        | (rw [if_pos hz, hm, hp]; rfl)
      · skip
        have hp : pinB s known days grams = true := by simpa using h26
        obtain ⟨hlp, hg⟩ := hlp hp
        subst hlp
        have hpl := @pinL_len s known days grams hs hz3
        refine AWP.skip ?_
        refine AWP.seq ?_
        refine AWP.region ?_
        refine AOps.call (o_move _ rfl rfl) ?_
        refine AOps.call (o_len _ Tryd.underlying45 rfl rfl) ?_
        refine AOps.mkarr (n := more.length) (zs := [.int .i64 0]) (cs := (more.take 0).map (fun d => I (drHi s.rate (pinL s known days grams) d)) ++ List.replicate (more.length - 0) (I 0)) _ _ Tryd.underlying45 info3 rfl rfl rfl rfl rfl rfl rfl rfl rfl (by rw [ints_len]) (by omega) rfl rfl (by simp [flat_rep1, I]) ?_
        refine AOps.call (o_assign _ rfl rfl) ?_
        refine AOps.nil ?_
        refine AWP.seq ?_
        refine AWP.seq ?_
        refine AWP.region ?_
        refine AOps.call (o_move _ rfl rfl) ?_
        refine AOps.call (o_len _ Tryd.underlying45 rfl rfl) ?_
        refine AOps.call (o_move _ rfl rfl) ?_
        refine AOps.nil ?_
        refine AWP.block ?_
        refine AWP.loop (ι := Nat) (fun i => AS.mk' 61 [(4, .sl (ints more)), (5, .ref (5, 0) 0), (14, .sl (tests (pinL s known days grams))), (16, .arr (42, 0) 0 more.length more.length), (43, .sl (ints more)), (44, I (ints more).length), (45, I i)] [((5, 0), eS s), ((42, 0), (more.take i).map (fun d => I (drHi s.rate (pinL s known days grams) d)) ++ List.replicate (more.length - i) (I 0))] [] [(5, 1), (42, 1)]) (fun i => i ≤ more.length) (fun i => more.length - i) (0) (Weak.mk' rfl ⟨⟨.refl rfl, rfl⟩, ⟨⟨.refl rfl, rfl⟩, ⟨⟨.refl rfl, rfl⟩, ⟨⟨.refl rfl, rfl⟩, ⟨⟨.refl rfl, rfl⟩, ⟨⟨.refl rfl, rfl⟩, ⟨⟨.refl rfl, rfl⟩, trivial⟩⟩⟩⟩⟩⟩⟩ ⟨⟨rfl, rfl, rfl⟩, ⟨⟨rfl, lowL_fill _ _ _ _ _, rfl⟩, trivial⟩⟩ trivial) (Nat.zero_le _) ?_
        rintro k hk
        try dsimp only at *
        refine AWP.seq ?_
        refine AWP.region ?_
        refine AOps.call (o_bin _ _ rfl rfl (fun _ => rfl) rfl) ?_
        refine AOps.nil ?_
        refine AWP.seq ?_
        refine AWP.cond _ rfl (fun h36 => ?_) (fun h36 => ?_)
        · skip
          have hlt : k < more.length := by simpa [ints] using h36
          have hel := ints_get hlt
          refine AWP.skip ?_
          refine AWP.seq ?_
          refine AWP.block ?_
          refine AWP.seq ?_
          refine AWP.region ?_
          refine AOps.call (o_move _ rfl rfl) ?_
          refine AOps.call (o_index _ _ Tryd.underlying45 Tryd.sizeOf3 rfl rfl (by omega) (by assumption) rfl rfl) ?_
          refine AOps.call (o_loadRd _ rfl Tryd.sizeOf3 Tryd.isAgg3 rfl rfl rfl) ?_
          refine AOps.call (o_assign _ rfl rfl) ?_
          refine AOps.call (o_assign _ rfl rfl) ?_
          refine AOps.nil ?_
          refine AWP.region ?_
          refine AOps.call (o_move _ rfl rfl) ?_
          refine AOps.call (o_move _ rfl rfl) ?_
          refine AOps.call (o_fieldRef _ rfl fa24_1 rfl rfl) ?_
          refine AOps.call (o_loadRef _ rfl rfl Tryd.sizeOf3 Tryd.isAgg3 rfl rfl rfl) ?_
          refine AOps.call (o_move _ rfl rfl) ?_
          refine AOps.call (o_move _ rfl rfl) ?_
          refine AOps.call (o_call (drift_s s.rate (pinL s known days grams) more[k] (scaleB_rate hs) (by omega) (pinL_ok hs hz3 hg) (daysB_bd hm _ (List.getElem_mem hlt))) Tryd.call76 rfl rfl) ?_
          refine AOps.call (o_field _ rfl fa40_1 rfl rfl rfl) ?_
          refine AOps.call (o_indexArr (o := k) _ _ Tryd.underlying45 Tryd.sizeOf3 rfl rfl (by omega) (by omega) (by simp) rfl) ?_
          refine AOps.cons (o_storeE _ _ rfl rfl Tryd.sizeOf3 rfl rfl (by simp; omega) (fill_at _ _ _ hlt) rfl) ?_
          refine AOps.nil ?_
          refine AWP.region ?_
          refine AOps.call (o_add _ _ rfl rfl ⟨by (try dsimp only); omega, by (try dsimp only); omega⟩ rfl) ?_
          refine AOps.call (o_move _ rfl rfl) ?_
          refine AOps.nil ?_
          refine ⟨k + 1, ?_, (Weak.mk' rfl ⟨⟨.refl rfl, rfl⟩, ⟨⟨.refl rfl, rfl⟩, ⟨⟨.refl rfl, rfl⟩, ⟨⟨.refl rfl, rfl⟩, ⟨⟨.refl rfl, rfl⟩, ⟨⟨.refl rfl, rfl⟩, ⟨⟨.refl rfl, rfl⟩, trivial⟩⟩⟩⟩⟩⟩⟩ ⟨⟨rfl, rfl, rfl⟩, ⟨⟨rfl, lowL_fill _ _ _ _ _, rfl⟩, trivial⟩⟩ trivial)⟩
          exact ⟨by omega, by omega⟩
        · skip
          have hkl : k = more.length := by simp [ints] at h36 hk; omega
          subst hkl
          refine AWP.weak (Weak.frz (id := (42, 0)) (t := 16) (z := 1) (es := ints (extL s known days grams more)) (cs' := more.map (fun d => I (drHi s.rate (pinL s known days grams) d))) rfl rfl (by rw [List.take_length, Nat.sub_self, List.replicate_zero, List.append_nil]; exact closeL_sc _ _) (by unfold ints extL; rw [flat1, List.map_map]; rfl) ints_z (by rw [ints_len]; unfold extL; rw [List.length_map])) ?_
          refine AWP.exit ?_
          refine AWP.seq ?_
          refine AWP.region ?_
          refine AOps.call (o_move _ rfl rfl) ?_
          refine AOps.call (o_assign _ rfl rfl) ?_
          refine AOps.call (o_assign _ rfl rfl) ?_
          refine AOps.call (o_assign _ rfl rfl) ?_
          refine AOps.nil ?_
          refine AWP.ret ?_
          refine postQ.ret3 Tryd.results28 rfl rfl rfl ?_
          first
          | (rw [if_neg hz]; rfl)
          | (rw [if_pos hz, hm]; rfl)
          | (rw [if_pos hz, hm, hp]; rfl)

end Go.Proofs.YtphoomnonenalaaDoor
