import Derived.Test.YtphoomnonenalaaDoorR3
import Derived.Test.YtphoomnonenalaaDoorM4
set_option linter.unusedSimpArgs false
set_option linter.unusedVariables false
namespace Go.Proofs.YtphoomnonenalaaDoor
open Go.Ab
def okI (s : Scl) (known : Int) (days grams : List Int) (i : Nat) : Prop := ∀ (h1 : i < days.length) (h2 : i < grams.length), inDr s known days[i] grams[i] ∧ ∀ (j : Nat) (hj : j < i), ok2 s.rate days[i] grams[i] (days[j]'(by omega)) (grams[j]'(by omega))

set_option maxRecDepth 20000 in
theorem rRising_s (l : List Int) : FSpec Tryd.prog 86 [.sl (ints l)] (B (daysB l)) (none) := by
  refine FSpec.of_body Tryd.func86 rfl (leB rfl) fun w0 M0 => ?_
  have hil := ints_len l
  refine AWP.seq ?_
  refine AWP.region ?_
  refine AOps.call (o_assign _ rfl rfl) ?_
  refine AOps.nil ?_
  refine AWP.seq ?_
  refine AWP.seq ?_
  refine AWP.region ?_
  refine AOps.call (o_move _ rfl rfl) ?_
  refine AOps.call (o_len _ Tryd.underlying45 rfl rfl) ?_
  refine AOps.call (o_bin _ _ rfl rfl (fun _ => rfl) rfl) ?_
  refine AOps.nil ?_
  refine AWP.cond _ rfl (fun h4 => ?_) (fun h4 => ?_)
  · skip
    have hd : daysB l = false := by unfold daysB; rw [show decide ((l.length : Int) ≤ 64) = false by simp [ints_len] at h4; simp; omega]; rfl
    refine AWP.seq ?_
    refine AWP.region ?_
    refine AOps.call (o_assign _ rfl rfl) ?_
    refine AOps.nil ?_
    refine AWP.ret ?_
    refine postQ.ret1 Tryd.results86 rfl ?_
    rw [hd]; rfl
  · skip
    have hl64 : l.length ≤ 64 := by simp [ints_len] at h4; omega
    have hd0 : daysB l = incB 1048576 (-1) l := by unfold daysB; rw [show decide ((l.length : Int) ≤ 64) = true by simp; omega]; rfl
    refine AWP.skip ?_
    refine AWP.seq ?_
    refine AWP.seq ?_
    refine AWP.region ?_
    refine AOps.call (o_assign _ rfl rfl) ?_
    refine AOps.nil ?_
    refine AWP.block ?_
    refine AWP.loop (ι := Nat) (fun i => AS.mk' 37 [(0, .sl (ints l)), (3, I i)] [] [] []) (fun i => i ≤ l.length ∧ incB 1048576 (-1) l = incB 1048576 (prevI (-1) l i) (l.drop i) ∧ -1 ≤ prevI (-1) l i) (fun i => l.length - i) (0) (Weak.mk' rfl ⟨⟨.refl rfl, rfl⟩, ⟨⟨.refl rfl, rfl⟩, trivial⟩⟩ trivial trivial) (⟨Nat.zero_le _, rfl, Int.le_refl _⟩) ?_
    rintro k ⟨hk, hinv, hpv⟩
    try dsimp only at *
    refine AWP.seq ?_
    refine AWP.seq ?_
    refine AWP.region ?_
    refine AOps.call (o_move _ rfl rfl) ?_
    refine AOps.call (o_move _ rfl rfl) ?_
    refine AOps.call (o_len _ Tryd.underlying45 rfl rfl) ?_
    refine AOps.call (o_bin _ _ rfl rfl (fun _ => rfl) rfl) ?_
    refine AOps.nil ?_
    refine AWP.cond _ rfl (fun h9 => ?_) (fun h9 => ?_)
    · skip
      have hlt : k < l.length := by simpa [ints] using h9
      have hel := ints_get hlt
      refine AWP.skip ?_
      refine AWP.seq ?_
      refine AWP.block ?_
      refine AWP.seq ?_
      refine AWP.region ?_
      refine AOps.call (o_move _ rfl rfl) ?_
      refine AOps.call (o_move _ rfl rfl) ?_
      refine AOps.call (o_index _ _ Tryd.underlying45 Tryd.sizeOf3 rfl rfl (by omega) (by assumption) rfl rfl) ?_
      refine AOps.call (o_loadRd _ rfl Tryd.sizeOf3 Tryd.isAgg3 rfl rfl rfl) ?_
      refine AOps.call (o_call (rDay_s l[k]) Tryd.call74 rfl rfl) ?_
      refine AOps.call (o_assign _ rfl rfl) ?_
      refine AOps.nil ?_
      refine AWP.seq ?_
      refine AWP.drawn 18 mixed (by kernel_rfl) ?_
      refine AHead.call (o_move _ rfl rfl) rfl ?_
      refine AHead.call (o_un _ rfl (fun _ => rfl) rfl) rfl ?_
      refine AHead.call (o_move _ rfl rfl) rfl ?_
      refine AHead.split rfl rfl rfl (fun h15 => ?_) (fun h15 => ?_)
      · skip
        refine AHead.go rfl rfl rfl h15 (o_move _ rfl rfl) rfl ?_
        refine AHead.go rfl rfl rfl h15 (o_bin _ _ rfl rfl (fun _ => rfl) rfl) rfl ?_
        refine AHead.go rfl rfl rfl h15 (o_move _ rfl rfl) rfl ?_
        refine AHead.split rfl rfl rfl (fun h17 => ?_) (fun h17 => ?_)
        · skip
          have hk0 : 0 < k := by simp at h17; omega
          have hlt1 : k - 1 < l.length := by omega
          have hpe : prevI (-1) l k = l[k - 1] := by
            have := prevI_at (a := -1) hlt1
            rwa [show k - 1 + 1 = k by omega] at this
          have hel1 : (ints l)[((k : Int) - 1).toNat]? = some [I l[k - 1]] := by
            have := ints_get hlt1
            rwa [show (((k - 1 : Nat)) : Int) = (k : Int) - 1 by omega] at this
          refine AHead.go rfl rfl rfl h17 (o_move _ rfl rfl) rfl ?_
          refine AHead.go rfl rfl rfl h17 (o_move _ rfl rfl) rfl ?_
          refine AHead.go rfl rfl rfl h17 (o_index _ _ Tryd.underlying45 Tryd.sizeOf3 rfl rfl (by omega) hel rfl rfl) rfl ?_
          refine AHead.go rfl rfl rfl h17 (o_loadRd _ rfl Tryd.sizeOf3 Tryd.isAgg3 rfl rfl rfl) rfl ?_
          refine AHead.go rfl rfl rfl h17 (o_move _ rfl rfl) rfl ?_
          refine AHead.go rfl rfl rfl h17 (o_move _ rfl rfl) rfl ?_
          refine AHead.go rfl rfl rfl h17 (o_sub _ _ rfl rfl ⟨by (try dsimp only); omega, by (try dsimp only); omega⟩ rfl) rfl ?_
          refine AHead.go rfl rfl rfl h17 (o_index _ _ Tryd.underlying45 Tryd.sizeOf3 rfl rfl (by omega) hel1 rfl rfl) rfl ?_
          refine AHead.go rfl rfl rfl h17 (o_loadRd _ rfl Tryd.sizeOf3 Tryd.isAgg3 rfl rfl rfl) rfl ?_
          refine AHead.go rfl rfl rfl h17 (o_bin _ _ rfl rfl (fun _ => rfl) rfl) rfl ?_
          refine AHead.go rfl rfl rfl h15 (o_pickT _ _ _ rfl h17 rfl rfl) rfl ?_
          refine AHead.call (o_pickF _ _ _ rfl h15 rfl rfl) rfl ?_
          refine AHead.nil ?_
          refine AOps.nil ?_
          refine AWP.cond _ rfl (fun h26 => ?_) (fun h26 => ?_)
          · skip
            have hB : (decide (l[k] ≤ prevI (-1) l k) || decide (l[k] > 1048576)) = true := by
              unfold dayB at *
              rw [Bool.eq_iff_iff]
              simp only [Bool.not_false, Bool.not_true, Bool.or_eq_true, Bool.and_eq_true, Bool.not_eq_true', Bool.or_eq_false_iff, Bool.and_eq_false_iff, Bool.not_eq_false', decide_eq_true_eq, decide_eq_false_iff_not, Bool.false_eq_true, iff_true, iff_false] at *
              omega
            have hd : daysB l = false := by rw [hd0, hinv, inc_at hlt, hB]; rfl
            refine AWP.seq ?_
            refine AWP.region ?_
            refine AOps.call (o_assign _ rfl rfl) ?_
            refine AOps.nil ?_
            refine AWP.ret ?_
            refine postQ.ret1 Tryd.results86 rfl ?_
            rw [hd]; rfl
          · skip
            have hB : (decide (l[k] ≤ prevI (-1) l k) || decide (l[k] > 1048576)) = false := by
              unfold dayB at *
              rw [Bool.eq_iff_iff]
              simp only [Bool.not_false, Bool.not_true, Bool.or_eq_true, Bool.and_eq_true, Bool.not_eq_true', Bool.or_eq_false_iff, Bool.and_eq_false_iff, Bool.not_eq_false', decide_eq_true_eq, decide_eq_false_iff_not, Bool.false_eq_true, iff_true, iff_false] at *
              omega
            refine AWP.skip ?_
            refine AWP.region ?_
            refine AOps.call (o_move _ rfl rfl) ?_
            refine AOps.call (o_add _ _ rfl rfl ⟨by (try dsimp only); omega, by (try dsimp only); omega⟩ rfl) ?_
            refine AOps.call (o_assign _ rfl rfl) ?_
            refine AOps.nil ?_
            refine ⟨k + 1, ?_, (Weak.mk' rfl ⟨⟨.refl rfl, rfl⟩, ⟨⟨.refl rfl, rfl⟩, trivial⟩⟩ trivial trivial)⟩
            exact ⟨⟨by omega, by rw [hinv, inc_at hlt, hB]; rfl, by rw [prevI_at hlt]; (rw [Bool.or_eq_false_iff, decide_eq_false_iff_not, decide_eq_false_iff_not] at hB; omega)⟩, by omega⟩
        · skip
          have hk0 : k = 0 := by simp at h17; omega
          have hpe : prevI (-1) l k = -1 := by subst hk0; rfl
          refine AHead.pass rfl rfl rfl h17 rfl ?_
          refine AHead.pass rfl rfl rfl h17 rfl ?_
          refine AHead.pass rfl rfl rfl h17 rfl ?_
          refine AHead.pass rfl rfl rfl h17 rfl ?_
          refine AHead.pass rfl rfl rfl h17 rfl ?_
          refine AHead.pass rfl rfl rfl h17 rfl ?_
          refine AHead.pass rfl rfl rfl h17 rfl ?_
          refine AHead.pass rfl rfl rfl h17 rfl ?_
          refine AHead.pass rfl rfl rfl h17 rfl ?_
          refine AHead.pass rfl rfl rfl h17 rfl ?_
          refine AHead.go rfl rfl rfl h15 (o_pickF _ _ _ rfl h17 rfl rfl) rfl ?_
          refine AHead.call (o_pickF _ _ _ rfl h15 rfl rfl) rfl ?_
          refine AHead.nil ?_
          refine AOps.nil ?_
          refine AWP.condF rfl ?_
          have hB : (decide (l[k] ≤ prevI (-1) l k) || decide (l[k] > 1048576)) = false := by
            unfold dayB at *
            rw [Bool.eq_iff_iff]
            simp only [Bool.not_false, Bool.not_true, Bool.or_eq_true, Bool.and_eq_true, Bool.not_eq_true', Bool.or_eq_false_iff, Bool.and_eq_false_iff, Bool.not_eq_false', decide_eq_true_eq, decide_eq_false_iff_not, Bool.false_eq_true, iff_true, iff_false] at *
            omega
          refine AWP.skip ?_
          refine AWP.region ?_
          refine AOps.call (o_move _ rfl rfl) ?_
          refine AOps.call (o_add _ _ rfl rfl ⟨by (try dsimp only); omega, by (try dsimp only); omega⟩ rfl) ?_
          refine AOps.call (o_assign _ rfl rfl) ?_
          refine AOps.nil ?_
          refine ⟨k + 1, ?_, (Weak.mk' rfl ⟨⟨.refl rfl, rfl⟩, ⟨⟨.refl rfl, rfl⟩, trivial⟩⟩ trivial trivial)⟩
          exact ⟨⟨by omega, by rw [hinv, inc_at hlt, hB]; rfl, by rw [prevI_at hlt]; (rw [Bool.or_eq_false_iff, decide_eq_false_iff_not, decide_eq_false_iff_not] at hB; omega)⟩, by omega⟩
      · skip
        refine AHead.pass rfl rfl rfl h15 rfl ?_
        refine AHead.pass rfl rfl rfl h15 rfl ?_
        refine AHead.pass rfl rfl rfl h15 rfl ?_
        refine AHead.passU rfl rfl rfl rfl ?_
        refine AHead.passU rfl rfl rfl rfl ?_
        refine AHead.passU rfl rfl rfl rfl ?_
        refine AHead.passU rfl rfl rfl rfl ?_
        refine AHead.passU rfl rfl rfl rfl ?_
        refine AHead.passU rfl rfl rfl rfl ?_
        refine AHead.passU rfl rfl rfl rfl ?_
        refine AHead.passU rfl rfl rfl rfl ?_
        refine AHead.passU rfl rfl rfl rfl ?_
        refine AHead.passU rfl rfl rfl rfl ?_
        refine AHead.pass rfl rfl rfl h15 rfl ?_
        refine AHead.call (o_pickT _ _ _ rfl h15 rfl rfl) rfl ?_
        refine AHead.nil ?_
        refine AOps.nil ?_
        refine AWP.condT rfl ?_
        have hB : (decide (l[k] ≤ prevI (-1) l k) || decide (l[k] > 1048576)) = true := by
          unfold dayB at *
          rw [Bool.eq_iff_iff]
          simp only [Bool.not_false, Bool.not_true, Bool.or_eq_true, Bool.and_eq_true, Bool.not_eq_true', Bool.or_eq_false_iff, Bool.and_eq_false_iff, Bool.not_eq_false', decide_eq_true_eq, decide_eq_false_iff_not, Bool.false_eq_true, iff_true, iff_false] at *
          omega
        have hd : daysB l = false := by rw [hd0, hinv, inc_at hlt, hB]; rfl
        refine AWP.seq ?_
        refine AWP.region ?_
        refine AOps.call (o_assign _ rfl rfl) ?_
        refine AOps.nil ?_
        refine AWP.ret ?_
        refine postQ.ret1 Tryd.results86 rfl ?_
        rw [hd]; rfl
    · skip
      have hkl : k = l.length := by simp [ints] at h9 hk; omega
      subst hkl
      have hd : daysB l = true := by rw [hd0, hinv, List.drop_length]; rfl
      refine AWP.exit ?_
      refine AWP.seq ?_
      refine AWP.region ?_
      refine AOps.call (o_assign _ rfl rfl) ?_
      refine AOps.nil ?_
      refine AWP.ret ?_
      refine postQ.ret1 Tryd.results86 rfl ?_
      rw [hd]; rfl

set_option maxRecDepth 20000 in
theorem rgiven_s (s : Scl) (known : Int) (days grams : List Int) : FSpec Tryd.prog 83 [.agg (eS s), I known, .sl (ints days), .sl (ints grams)] (I (givenE s known days grams)) (none) := by
  refine FSpec.of_body Tryd.func83 rfl (leB rfl) fun w0 M0 => ?_
  have h1 := ints_len days
  have h2 := ints_len grams
  refine AWP.seq ?_
  refine AWP.region ?_
  refine AOps.call (o_box _ rfl rfl rfl) ?_
  refine AOps.call (o_assign _ rfl rfl) ?_
  refine AOps.nil ?_
  refine AWP.seq ?_
  refine AWP.region ?_
  refine AOps.call (o_loadRef _ rfl rfl Tryd.sizeOf24 Tryd.isAgg24 rfl rfl rfl) ?_
  refine AOps.call (o_call (rCheckScale_s s) Tryd.call20 rfl rfl) ?_
  refine AOps.call (o_assign _ rfl rfl) ?_
  refine AOps.nil ?_
  refine AWP.seq ?_
  refine AWP.seq ?_
  refine AWP.region ?_
  refine AOps.call (o_move _ rfl rfl) ?_
  refine AOps.call (o_bin _ _ rfl rfl (fun _ => rfl) rfl) ?_
  refine AOps.nil ?_
  refine AWP.cond _ rfl (fun h6 => ?_) (fun h6 => ?_)
  · skip
    have hz : ¬ scaleE s = 0 := by simpa using h6
    have hA : askE s [known] = scaleE s := if_neg hz
    have hE : givenE s known days grams = scaleE s := by unfold givenE; rw [hA]; exact if_neg hz
    refine AWP.seq ?_
    refine AWP.region ?_
    refine AOps.call (o_move _ rfl rfl) ?_
    refine AOps.call (o_assign _ rfl rfl) ?_
    refine AOps.nil ?_
    refine AWP.ret ?_
    refine postQ.ret1 Tryd.results83 rfl ?_
    first
    | (rw [hE]; done)
    | (unfold givenE; rw [hA]; simp_all [AV.close, I]; try (intros; omega))
  · skip
    have hz : scaleE s = 0 := by simpa using h6
    have hA : askE s [known] = if dayB known = true then 0 else 1 := by unfold askE; rw [if_pos hz]; simp
    refine AWP.skip ?_
    refine AWP.seq ?_
    refine AWP.region ?_
    refine AOps.call (o_move _ rfl rfl) ?_
    refine AOps.call (o_call (rDay_s known) Tryd.call74 rfl rfl) ?_
    refine AOps.call (o_assign _ rfl rfl) ?_
    refine AOps.nil ?_
    refine AWP.seq ?_
    refine AWP.region ?_
    refine AOps.call (o_move _ rfl rfl) ?_
    refine AOps.call (o_call (rRising_s days) Tryd.call86 rfl rfl) ?_
    refine AOps.call (o_assign _ rfl rfl) ?_
    refine AOps.nil ?_
    refine AWP.seq ?_
    refine AWP.seq ?_
    refine AWP.region ?_
    refine AOps.call (o_move _ rfl rfl) ?_
    refine AOps.call (o_un _ rfl (fun _ => rfl) rfl) ?_
    refine AOps.call (o_move _ rfl rfl) ?_
    refine AOps.split rfl rfl rfl (fun h12 => ?_) (fun h12 => ?_)
    · skip
      refine AOps.go rfl rfl rfl h12 (o_move _ rfl rfl) ?_
      refine AOps.go rfl rfl rfl h12 (o_un _ rfl (fun _ => rfl) rfl) ?_
      refine AOps.call (o_pickF _ _ _ rfl h12 rfl rfl) ?_
      refine AOps.call (o_move _ rfl rfl) ?_
      refine AOps.split rfl rfl rfl (fun h14 => ?_) (fun h14 => ?_)
      · skip
        refine AOps.go rfl rfl rfl h14 (o_move _ rfl rfl) ?_
        refine AOps.go rfl rfl rfl h14 (o_len _ Tryd.underlying45 rfl rfl) ?_
        refine AOps.go rfl rfl rfl h14 (o_move _ rfl rfl) ?_
        refine AOps.go rfl rfl rfl h14 (o_len _ Tryd.underlying45 rfl rfl) ?_
        refine AOps.go rfl rfl rfl h14 (o_bin _ _ rfl rfl (fun _ => rfl) rfl) ?_
        refine AOps.call (o_pickF _ _ _ rfl h14 rfl rfl) ?_
        refine AOps.nil ?_
        refine AWP.cond _ rfl (fun h20 => ?_) (fun h20 => ?_)
        · skip
          refine AWP.seq ?_
          refine AWP.region ?_
          refine AOps.call (o_assign _ rfl rfl) ?_
          refine AOps.nil ?_
          refine AWP.ret ?_
          refine postQ.ret1 Tryd.results83 rfl ?_
          first
          | (rw [hE]; done)
          | (unfold givenE; rw [hA]; simp_all [AV.close, I]; try (intros; omega))
        · skip
          refine AWP.skip ?_
          refine AWP.seq ?_
          refine AWP.region ?_
          refine AOps.call (o_assign _ rfl rfl) ?_
          refine AOps.nil ?_
          refine AWP.ret ?_
          refine postQ.ret1 Tryd.results83 rfl ?_
          first
          | (rw [hE]; done)
          | (unfold givenE; rw [hA]; simp_all [AV.close, I]; try (intros; omega))
      · skip
        refine AOps.pass rfl rfl rfl h14 rfl ?_
        refine AOps.pass rfl rfl rfl h14 rfl ?_
        refine AOps.pass rfl rfl rfl h14 rfl ?_
        refine AOps.pass rfl rfl rfl h14 rfl ?_
        refine AOps.pass rfl rfl rfl h14 rfl ?_
        refine AOps.call (o_pickT _ _ _ rfl h14 rfl rfl) ?_
        refine AOps.nil ?_
        refine AWP.condT rfl ?_
        refine AWP.seq ?_
        refine AWP.region ?_
        refine AOps.call (o_assign _ rfl rfl) ?_
        refine AOps.nil ?_
        refine AWP.ret ?_
        refine postQ.ret1 Tryd.results83 rfl ?_
        first
        | (rw [hE]; done)
        | (unfold givenE; rw [hA]; simp_all [AV.close, I]; try (intros; omega))
    · skip
      refine AOps.pass rfl rfl rfl h12 rfl ?_
      refine AOps.pass rfl rfl rfl h12 rfl ?_
      refine AOps.call (o_pickT _ _ _ rfl h12 rfl rfl) ?_
      refine AOps.call (o_move _ rfl rfl) ?_
      refine AOps.pass rfl rfl rfl rfl rfl ?_
      refine AOps.pass rfl rfl rfl rfl rfl ?_
      refine AOps.pass rfl rfl rfl rfl rfl ?_
      refine AOps.pass rfl rfl rfl rfl rfl ?_
      refine AOps.pass rfl rfl rfl rfl rfl ?_
      refine AOps.call (o_pickT _ _ _ rfl rfl rfl rfl) ?_
      refine AOps.nil ?_
      refine AWP.condT rfl ?_
      refine AWP.seq ?_
      refine AWP.region ?_
      refine AOps.call (o_assign _ rfl rfl) ?_
      refine AOps.nil ?_
      refine AWP.ret ?_
      refine postQ.ret1 Tryd.results83 rfl ?_
      first
      | (rw [hE]; done)
      | (unfold givenE; rw [hA]; simp_all [AV.close, I]; try (intros; omega))

set_option maxRecDepth 20000 in
theorem rhistory_s (s : Scl) (known : Int) (days grams : List Int) (hz : scaleE s = 0) (hd : daysB days = true) (he : days.length = grams.length) : FSpec Tryd.prog 84 [.agg (eS s), I known, .sl (ints days), .sl (ints grams)] (B (pinB s known days grams)) (none) := by
  refine FSpec.of_body Tryd.func84 rfl (leB rfl) fun w0 M0 => ?_
  have h1 := ints_len days
  have h2 := ints_len grams
  have hs := scaleE_0 hz
  have hr := scaleB_rate hs
  have hdl := daysB_len hd
  refine AWP.seq ?_
  refine AWP.region ?_
  refine AOps.call (o_box _ rfl rfl rfl) ?_
  refine AOps.call (o_assign _ rfl rfl) ?_
  refine AOps.nil ?_
  refine AWP.seq ?_
  refine AWP.seq ?_
  refine AWP.region ?_
  refine AOps.call (o_assign _ rfl rfl) ?_
  refine AOps.nil ?_
  refine AWP.block ?_
  refine AWP.loop (ι := Nat) (fun i => AS.mk' 83 [(1, I known), (2, .sl (ints days)), (3, .sl (ints grams)), (4, .ref (4, 0) 0), (9, I i)] [((4, 0), eS s)] [] [(4, 1), (10, 0)]) (fun i => i ≤ days.length ∧ ∀ i', i' < i → okI s known days grams i') (fun i => days.length - i) (0) (Weak.mk' rfl ⟨⟨.refl rfl, rfl⟩, ⟨⟨.refl rfl, rfl⟩, ⟨⟨.refl rfl, rfl⟩, ⟨⟨.refl rfl, rfl⟩, ⟨⟨.refl rfl, rfl⟩, trivial⟩⟩⟩⟩⟩ ⟨⟨rfl, rfl, rfl⟩, trivial⟩ trivial) (⟨Nat.zero_le _, fun _ h => absurd h (Nat.not_lt_zero _)⟩) ?_
  rintro k ⟨hk, hinv⟩
  try dsimp only at *
  refine AWP.seq ?_
  refine AWP.seq ?_
  refine AWP.region ?_
  refine AOps.call (o_move _ rfl rfl) ?_
  refine AOps.call (o_move _ rfl rfl) ?_
  refine AOps.call (o_len _ Tryd.underlying45 rfl rfl) ?_
  refine AOps.call (o_bin _ _ rfl rfl (fun _ => rfl) rfl) ?_
  refine AOps.nil ?_
  refine AWP.cond _ rfl (fun h6 => ?_) (fun h6 => ?_)
  · skip
    have hlt : k < days.length := by simpa [ints] using h6
    have hlt2 : k < grams.length := by omega
    have hel := ints_get hlt
    have hel2 := ints_get hlt2
    refine AWP.skip ?_
    refine AWP.seq ?_
    refine AWP.block ?_
    refine AWP.seq ?_
    refine AWP.drawn 8 mixed (by kernel_rfl) ?_
    refine AHead.call (o_loadRef _ rfl rfl Tryd.sizeOf24 Tryd.isAgg24 rfl rfl rfl) rfl ?_
    refine AHead.call (o_move _ rfl rfl) rfl ?_
    refine AHead.call (o_move _ rfl rfl) rfl ?_
    refine AHead.call (o_index _ _ Tryd.underlying45 Tryd.sizeOf3 rfl rfl (by omega) hel rfl rfl) rfl ?_
    refine AHead.call (o_loadRd _ rfl Tryd.sizeOf3 Tryd.isAgg3 rfl rfl rfl) rfl ?_
    refine AHead.call (o_move _ rfl rfl) rfl ?_
    refine AHead.call (o_call (rdrift_s s days[k] known hs (daysB_bd hd _ (List.getElem_mem hlt))) Tryd.call78 rfl rfl) rfl ?_
    refine AHead.call (o_alloc ze40 rfl rfl) rfl ?_
    refine AHead.nil ?_
    refine AOps.cons (o_store _ _ rfl rfl Tryd.sizeOf40 rfl rfl rfl rfl rfl) ?_
    refine AOps.nil ?_
    refine AWP.seq ?_
    refine AWP.seq ?_
    refine AWP.drawn 16 mixed (by kernel_rfl) ?_
    refine AHead.call (o_move _ rfl rfl) rfl ?_
    refine AHead.call (o_move _ rfl rfl) rfl ?_
    refine AHead.call (o_index _ _ Tryd.underlying45 Tryd.sizeOf3 rfl rfl (by omega) hel2 rfl rfl) rfl ?_
    refine AHead.call (o_loadRd _ rfl Tryd.sizeOf3 Tryd.isAgg3 rfl rfl rfl) rfl ?_
    refine AHead.call (o_fieldRef _ rfl fa40_0 rfl rfl) rfl ?_
    refine AHead.call (o_loadRef _ rfl rfl Tryd.sizeOf3 Tryd.isAgg3 rfl rfl rfl) rfl ?_
    refine AHead.call (o_bin _ _ rfl rfl (fun _ => rfl) rfl) rfl ?_
    refine AHead.call (o_move _ rfl rfl) rfl ?_
    refine AHead.split rfl rfl rfl (fun h20 => ?_) (fun h20 => ?_)
    · skip
      refine AHead.go rfl rfl rfl h20 (o_move _ rfl rfl) rfl ?_
      refine AHead.go rfl rfl rfl h20 (o_move _ rfl rfl) rfl ?_
      refine AHead.go rfl rfl rfl h20 (o_index _ _ Tryd.underlying45 Tryd.sizeOf3 rfl rfl (by omega) hel2 rfl rfl) rfl ?_
      refine AHead.go rfl rfl rfl h20 (o_loadRd _ rfl Tryd.sizeOf3 Tryd.isAgg3 rfl rfl rfl) rfl ?_
      refine AHead.go rfl rfl rfl h20 (o_fieldRef _ rfl fa40_1 rfl rfl) rfl ?_
      refine AHead.go rfl rfl rfl h20 (o_loadRef _ rfl rfl Tryd.sizeOf3 Tryd.isAgg3 rfl rfl rfl) rfl ?_
      refine AHead.go rfl rfl rfl h20 (o_bin _ _ rfl rfl (fun _ => rfl) rfl) rfl ?_
      refine AHead.call (o_pickF _ _ _ rfl h20 rfl rfl) rfl ?_
      refine AHead.nil ?_
      refine AOps.nil ?_
      refine AWP.cond _ rfl (fun h27 => ?_) (fun h27 => ?_)
      · skip
        have hin : ¬ ((drS s days[k] known).lo ≤ grams[k] ∧ grams[k] ≤ (drS s days[k] known).hi) := by simp_all <;> omega
        have hp : pinB s known days grams = false := by
          cases hq : pinB s known days grams with
          | false => rfl
          | true => exact absurd ((pin_iff hz he).1 hq k hlt hlt2).1 hin
        refine AWP.seq ?_
        refine AWP.region ?_
        refine AOps.call (o_assign _ rfl rfl) ?_
        refine AOps.nil ?_
        refine AWP.ret ?_
        refine postQ.ret1 Tryd.results84 rfl ?_
        rw [hp]; rfl
      · skip
        have hin : (drS s days[k] known).lo ≤ grams[k] ∧ grams[k] ≤ (drS s days[k] known).hi := by simp_all <;> omega
        have hgb := (inDr_iff.1 hin).1
        refine AWP.skip ?_
        refine AWP.seq ?_
        refine AWP.region ?_
        refine AOps.call (o_assign _ rfl rfl) ?_
        refine AOps.nil ?_
        refine AWP.block ?_
        refine AWP.loop (ι := Nat) (fun i => AS.mk' 83 [(1, I known), (2, .sl (ints days)), (3, .sl (ints grams)), (4, .ref (4, 0) 0), (9, I k), (11, I i)] [((4, 0), eS s)] [] [(4, 1)]) (fun i => i ≤ k ∧ ∀ j' (h1 : j' < i) (h2 : j' < days.length) (h3 : j' < grams.length), ok2 s.rate days[k] grams[k] days[j'] grams[j']) (fun i => k - i) (0) (Weak.mk' rfl ⟨⟨.refl rfl, rfl⟩, ⟨⟨.refl rfl, rfl⟩, ⟨⟨.refl rfl, rfl⟩, ⟨⟨.refl rfl, rfl⟩, ⟨⟨.refl rfl, rfl⟩, ⟨⟨.refl rfl, rfl⟩, trivial⟩⟩⟩⟩⟩⟩ ⟨⟨rfl, rfl, rfl⟩, trivial⟩ trivial) (⟨Nat.zero_le _, fun _ h => absurd h (Nat.not_lt_zero _)⟩) ?_
        rintro j ⟨hj, hjnv⟩
        try dsimp only at *
        refine AWP.seq ?_
        refine AWP.seq ?_
        refine AWP.region ?_
        refine AOps.call (o_move _ rfl rfl) ?_
        refine AOps.call (o_move _ rfl rfl) ?_
        refine AOps.call (o_bin _ _ rfl rfl (fun _ => rfl) rfl) ?_
        refine AOps.nil ?_
        refine AWP.cond _ rfl (fun h30 => ?_) (fun h30 => ?_)
        · skip
          have hjk : j < k := by simpa using h30
          have hjlt : j < days.length := by omega
          have hjlt2 : j < grams.length := by omega
          have hjel := ints_get hjlt
          have hjel2 := ints_get hjlt2
          have hgj := (inDr_iff.1 (hinv j hjk hjlt hjlt2).1).1
          have hfb := far_bd (daysB_bd hd _ (List.getElem_mem hlt)) (daysB_bd hd _ (List.getElem_mem hjlt))
          have hmb := mul_bd hr.1 hr.2 hfb.1 hfb.2
          refine AWP.skip ?_
          refine AWP.seq ?_
          refine AWP.block ?_
          refine AWP.seq ?_
          refine AWP.drawn 13 mixed (by kernel_rfl) ?_
          refine AHead.call (o_fieldRef _ rfl fa24_1 rfl rfl) rfl ?_
          refine AHead.call (o_loadRef _ rfl rfl Tryd.sizeOf3 Tryd.isAgg3 rfl rfl rfl) rfl ?_
          refine AHead.call (o_move _ rfl rfl) rfl ?_
          refine AHead.call (o_move _ rfl rfl) rfl ?_
          refine AHead.call (o_index _ _ Tryd.underlying45 Tryd.sizeOf3 rfl rfl (by omega) hel rfl rfl) rfl ?_
          refine AHead.call (o_loadRd _ rfl Tryd.sizeOf3 Tryd.isAgg3 rfl rfl rfl) rfl ?_
          refine AHead.call (o_move _ rfl rfl) rfl ?_
          refine AHead.call (o_move _ rfl rfl) rfl ?_
          refine AHead.call (o_index _ _ Tryd.underlying45 Tryd.sizeOf3 rfl rfl (by omega) hjel rfl rfl) rfl ?_
          refine AHead.call (o_loadRd _ rfl Tryd.sizeOf3 Tryd.isAgg3 rfl rfl rfl) rfl ?_
          refine AHead.call (o_call (rfar_s days[k] days[j] (daysB_bd hd _ (List.getElem_mem hlt)) (daysB_bd hd _ (List.getElem_mem hjlt))) Tryd.call87 rfl rfl) rfl ?_
          refine AHead.call (o_mul _ _ rfl rfl ⟨by (try dsimp only); omega, by (try dsimp only); omega⟩ rfl) rfl ?_
          refine AHead.call (o_assign _ rfl rfl) rfl ?_
          refine AHead.nil ?_
          refine AOps.nil ?_
          refine AWP.seq ?_
          refine AWP.drawn 24 mixed (by kernel_rfl) ?_
          refine AHead.call (o_move _ rfl rfl) rfl ?_
          refine AHead.call (o_move _ rfl rfl) rfl ?_
          refine AHead.call (o_index _ _ Tryd.underlying45 Tryd.sizeOf3 rfl rfl (by omega) hel2 rfl rfl) rfl ?_
          refine AHead.call (o_loadRd _ rfl Tryd.sizeOf3 Tryd.isAgg3 rfl rfl rfl) rfl ?_
          refine AHead.call (o_move _ rfl rfl) rfl ?_
          refine AHead.call (o_move _ rfl rfl) rfl ?_
          refine AHead.call (o_index _ _ Tryd.underlying45 Tryd.sizeOf3 rfl rfl (by omega) hjel2 rfl rfl) rfl ?_
          refine AHead.call (o_loadRd _ rfl Tryd.sizeOf3 Tryd.isAgg3 rfl rfl rfl) rfl ?_
          refine AHead.call (o_sub _ _ rfl rfl ⟨by (try dsimp only); omega, by (try dsimp only); omega⟩ rfl) rfl ?_
          refine AHead.call (o_move _ rfl rfl) rfl ?_
          refine AHead.call (o_bin _ _ rfl rfl (fun _ => rfl) rfl) rfl ?_
          refine AHead.call (o_move _ rfl rfl) rfl ?_
          refine AHead.split rfl rfl rfl (fun h49 => ?_) (fun h49 => ?_)
          · skip
            refine AHead.go rfl rfl rfl h49 (o_move _ rfl rfl) rfl ?_
            refine AHead.go rfl rfl rfl h49 (o_move _ rfl rfl) rfl ?_
            refine AHead.go rfl rfl rfl h49 (o_index _ _ Tryd.underlying45 Tryd.sizeOf3 rfl rfl (by omega) hjel2 rfl rfl) rfl ?_
            refine AHead.go rfl rfl rfl h49 (o_loadRd _ rfl Tryd.sizeOf3 Tryd.isAgg3 rfl rfl rfl) rfl ?_
            refine AHead.go rfl rfl rfl h49 (o_move _ rfl rfl) rfl ?_
            refine AHead.go rfl rfl rfl h49 (o_move _ rfl rfl) rfl ?_
            refine AHead.go rfl rfl rfl h49 (o_index _ _ Tryd.underlying45 Tryd.sizeOf3 rfl rfl (by omega) hel2 rfl rfl) rfl ?_
            refine AHead.go rfl rfl rfl h49 (o_loadRd _ rfl Tryd.sizeOf3 Tryd.isAgg3 rfl rfl rfl) rfl ?_
            refine AHead.go rfl rfl rfl h49 (o_sub _ _ rfl rfl ⟨by (try dsimp only); omega, by (try dsimp only); omega⟩ rfl) rfl ?_
            refine AHead.go rfl rfl rfl h49 (o_move _ rfl rfl) rfl ?_
            refine AHead.go rfl rfl rfl h49 (o_bin _ _ rfl rfl (fun _ => rfl) rfl) rfl ?_
            refine AHead.call (o_pickF _ _ _ rfl h49 rfl rfl) rfl ?_
            refine AHead.nil ?_
            refine AOps.nil ?_
            refine AWP.cond _ rfl (fun h58 => ?_) (fun h58 => ?_)
            · skip
              have hno : ¬ ok2 s.rate days[k] grams[k] days[j] grams[j] := by unfold ok2; simp_all <;> omega
              have hp : pinB s known days grams = false := by
                cases hq : pinB s known days grams with
                | false => rfl
                | true => exact absurd (((pin_iff hz he).1 hq k hlt hlt2).2 j hjk) hno
              refine AWP.seq ?_
              refine AWP.region ?_
              refine AOps.call (o_assign _ rfl rfl) ?_
              refine AOps.nil ?_
              refine AWP.ret ?_
              refine postQ.ret1 Tryd.results84 rfl ?_
              rw [hp]; rfl
            · skip
              have hno : ok2 s.rate days[k] grams[k] days[j] grams[j] := by unfold ok2; simp_all <;> omega
              refine AWP.skip ?_
              refine AWP.region ?_
              refine AOps.call (o_move _ rfl rfl) ?_
              refine AOps.call (o_add _ _ rfl rfl ⟨by (try dsimp only); omega, by (try dsimp only); omega⟩ rfl) ?_
              refine AOps.call (o_assign _ rfl rfl) ?_
              refine AOps.nil ?_
              refine ⟨j + 1, ?_, (Weak.mk' rfl ⟨⟨.refl rfl, rfl⟩, ⟨⟨.refl rfl, rfl⟩, ⟨⟨.refl rfl, rfl⟩, ⟨⟨.refl rfl, rfl⟩, ⟨⟨.refl rfl, rfl⟩, ⟨⟨.refl rfl, rfl⟩, trivial⟩⟩⟩⟩⟩⟩ ⟨⟨rfl, rfl, rfl⟩, trivial⟩ trivial)⟩
              exact ⟨⟨by omega, fun j' h1 h2 h3 => by rcases Nat.lt_succ_iff_lt_or_eq.1 h1 with h | h; exact hjnv j' h h2 h3; subst h; exact hno⟩, by omega⟩
          · skip
            refine AHead.pass rfl rfl rfl h49 rfl ?_
            refine AHead.pass rfl rfl rfl h49 rfl ?_
            refine AHead.pass rfl rfl rfl h49 rfl ?_
            refine AHead.pass rfl rfl rfl h49 rfl ?_
            refine AHead.pass rfl rfl rfl h49 rfl ?_
            refine AHead.pass rfl rfl rfl h49 rfl ?_
            refine AHead.pass rfl rfl rfl h49 rfl ?_
            refine AHead.pass rfl rfl rfl h49 rfl ?_
            refine AHead.pass rfl rfl rfl h49 rfl ?_
            refine AHead.pass rfl rfl rfl h49 rfl ?_
            refine AHead.pass rfl rfl rfl h49 rfl ?_
            refine AHead.call (o_pickT _ _ _ rfl h49 rfl rfl) rfl ?_
            refine AHead.nil ?_
            refine AOps.nil ?_
            refine AWP.condT rfl ?_
            have hno : ¬ ok2 s.rate days[k] grams[k] days[j] grams[j] := by unfold ok2; simp_all <;> omega
            have hp : pinB s known days grams = false := by
              cases hq : pinB s known days grams with
              | false => rfl
              | true => exact absurd (((pin_iff hz he).1 hq k hlt hlt2).2 j hjk) hno
            refine AWP.seq ?_
            refine AWP.region ?_
            refine AOps.call (o_assign _ rfl rfl) ?_
            refine AOps.nil ?_
            refine AWP.ret ?_
            refine postQ.ret1 Tryd.results84 rfl ?_
            rw [hp]; rfl
        · skip
          have hjl : j = k := by simp at h30; omega
          have hok : okI s known days grams k := fun h1 h2 => ⟨hin, fun j' hj' => hjnv j' (by omega) (by omega) (by omega)⟩
          refine AWP.exit ?_
          refine AWP.region ?_
          refine AOps.call (o_move _ rfl rfl) ?_
          refine AOps.call (o_add _ _ rfl rfl ⟨by (try dsimp only); omega, by (try dsimp only); omega⟩ rfl) ?_
          refine AOps.call (o_assign _ rfl rfl) ?_
          refine AOps.nil ?_
          refine ⟨k + 1, ?_, (Weak.mk' rfl ⟨⟨.refl rfl, rfl⟩, ⟨⟨.refl rfl, rfl⟩, ⟨⟨.refl rfl, rfl⟩, ⟨⟨.refl rfl, rfl⟩, ⟨⟨.refl rfl, rfl⟩, trivial⟩⟩⟩⟩⟩ ⟨⟨rfl, rfl, rfl⟩, trivial⟩ trivial)⟩
          exact ⟨⟨by omega, fun i' hi => by rcases Nat.lt_succ_iff_lt_or_eq.1 hi with h | h; exact hinv i' h; subst h; exact hok⟩, by omega⟩
    · skip
      refine AHead.pass rfl rfl rfl h20 rfl ?_
      refine AHead.pass rfl rfl rfl h20 rfl ?_
      refine AHead.pass rfl rfl rfl h20 rfl ?_
      refine AHead.pass rfl rfl rfl h20 rfl ?_
      refine AHead.pass rfl rfl rfl h20 rfl ?_
      refine AHead.pass rfl rfl rfl h20 rfl ?_
      refine AHead.pass rfl rfl rfl h20 rfl ?_
      refine AHead.call (o_pickT _ _ _ rfl h20 rfl rfl) rfl ?_
      refine AHead.nil ?_
      refine AOps.nil ?_
      refine AWP.condT rfl ?_
      have hin : ¬ ((drS s days[k] known).lo ≤ grams[k] ∧ grams[k] ≤ (drS s days[k] known).hi) := by simp_all <;> omega
      have hp : pinB s known days grams = false := by
        cases hq : pinB s known days grams with
        | false => rfl
        | true => exact absurd ((pin_iff hz he).1 hq k hlt hlt2).1 hin
      refine AWP.seq ?_
      refine AWP.region ?_
      refine AOps.call (o_assign _ rfl rfl) ?_
      refine AOps.nil ?_
      refine AWP.ret ?_
      refine postQ.ret1 Tryd.results84 rfl ?_
      rw [hp]; rfl
  · skip
    have hkl : k = days.length := by simp [ints] at h6 hk; omega
    subst hkl
    have hp : pinB s known days grams = true := (pin_iff hz he).2 fun i h1 h2 => hinv i h1 h1 h2
    refine AWP.exit ?_
    refine AWP.seq ?_
    refine AWP.region ?_
    refine AOps.call (o_assign _ rfl rfl) ?_
    refine AOps.nil ?_
    refine AWP.ret ?_
    refine postQ.ret1 Tryd.results84 rfl ?_
    rw [hp]; rfl

set_option maxRecDepth 20000 in
theorem rHistory_s (s : Scl) (known : Int) (days grams : List Int) : FSpec Tryd.prog 27 [.agg (eS s), I known, .sl (ints days), .sl (ints grams)] (if givenE s known days grams = 0 then .tup [B (pinB s known days grams), I 0] else .tup [B false, I (givenE s known days grams)]) (none) := by
  refine FSpec.of_body Tryd.func27 rfl (leB rfl) fun w0 M0 => ?_
  refine AWP.seq ?_
  refine AWP.region ?_
  refine AOps.call (o_box _ rfl rfl rfl) ?_
  refine AOps.call (o_assign _ rfl rfl) ?_
  refine AOps.call (o_assign _ rfl rfl) ?_
  refine AOps.nil ?_
  refine AWP.seq ?_
  refine AWP.region ?_
  refine AOps.call (o_loadRef _ rfl rfl Tryd.sizeOf24 Tryd.isAgg24 rfl rfl rfl) ?_
  refine AOps.call (o_move _ rfl rfl) ?_
  refine AOps.call (o_move _ rfl rfl) ?_
  refine AOps.call (o_move _ rfl rfl) ?_
  refine AOps.call (o_call (rgiven_s s known days grams) Tryd.call83 rfl rfl) ?_
  refine AOps.call (o_assign _ rfl rfl) ?_
  refine AOps.nil ?_
  refine AWP.seq ?_
  refine AWP.seq ?_
  refine AWP.region ?_
  refine AOps.call (o_move _ rfl rfl) ?_
  refine AOps.call (o_bin _ _ rfl rfl (fun _ => rfl) rfl) ?_
  refine AOps.nil ?_
  refine AWP.cond _ rfl (fun h9 => ?_) (fun h9 => ?_)
  · skip
    have hz : ¬ givenE s known days grams = 0 := by simpa using h9
    refine AWP.seq ?_
    refine AWP.region ?_
    refine AOps.call (o_move _ rfl rfl) ?_
    refine AOps.call (o_assign _ rfl rfl) ?_
    refine AOps.call (o_assign _ rfl rfl) ?_
    refine AOps.nil ?_
    refine AWP.ret ?_
    refine postQ.ret2 Tryd.results27 rfl rfl ?_
    first
    | (rw [if_pos hz]; rfl)
    | (rw [if_neg hz]; rfl)
  · skip
    have hz : givenE s known days grams = 0 := by simpa using h9
    obtain ⟨hz1, hz2, hz3⟩ := givenE_0 hz
    obtain ⟨hs0, hdd⟩ := askE_0 hz1
    have hs := scaleE_0 hs0
    refine AWP.skip ?_
    refine AWP.seq ?_
    refine AWP.region ?_
    refine AOps.call (o_loadRef _ rfl rfl Tryd.sizeOf24 Tryd.isAgg24 rfl rfl rfl) ?_
    refine AOps.call (o_move _ rfl rfl) ?_
    refine AOps.call (o_move _ rfl rfl) ?_
    refine AOps.call (o_move _ rfl rfl) ?_
    refine AOps.call (o_call (rhistory_s s known days grams hs0 hz3 hz2) Tryd.call84 rfl rfl) ?_
    refine AOps.call (o_assign _ rfl rfl) ?_
    refine AOps.call (o_assign _ rfl rfl) ?_
    refine AOps.nil ?_
    refine AWP.ret ?_
    refine postQ.ret2 Tryd.results27 rfl rfl ?_
    first
    | (rw [if_pos hz]; rfl)
    | (rw [if_neg hz]; rfl)

end Go.Proofs.YtphoomnonenalaaDoor
