import Derived.Test.YtphoomnonenalaaDoorM11
import Derived.Test.YtphoomnonenalaaDoorC24
import Derived.Test.YtphoomnonenalaaDoorL5a
set_option linter.unusedSimpArgs false
set_option linter.unusedVariables false
namespace Go.Proofs.YtphoomnonenalaaDoor
open Go.Ab

theorem ints_one {l : List Int} {i : Nat} (h : i < l.length) : ((ints l).drop ((i : Nat) : Int).toNat).take (i + 1 - ((i : Nat) : Int).toNat) = ints [l[i]] := by
  rw [show ((i : Nat) : Int).toNat = i by omega, show i + 1 - i = 1 by omega, List.drop_eq_getElem_cons (by rw [ints_len]; exact h)]
  simp [ints]
theorem pin_nil {s : Scl} {k : Int} (h : scaleE s = 0) : pinB s k [] [] = true := (pin_iff h rfl).2 fun i h1 => by simp at h1
theorem all0 {b : Bool} {f : Nat → Bool} : (b && (List.range 0).all f) = b := by simp
theorem all_next {b : Bool} {f : Nat → Bool} {k : Nat} : (b && (List.range (k + 1)).all f) = ((b && (List.range k).all f) && f k) := by
  rw [List.range_succ, List.all_append, ← Bool.and_assoc]; simp
theorem helly_holds {s : Scl} {k fr : Int} {days grams : List Int} (hz : scaleE s = 0) (hd : daysB days = true) (hp : pinB s k days grams = true) (hf : 0 ≤ fr ∧ fr ≤ 1048512) :
    HoldsH ⟨s.no, s.rate, knownL s k⟩ fr (extL s k days grams (moreL fr 64)) := by
  have hs := scaleE_0 hz
  have hr := scaleB_rate hs
  have hg : grams.all driftB = true := by unfold pinB at hp; rw [Bool.and_eq_true] at hp; exact hp.1
  have hok := pinL_ok (known := k) hs hd hg
  have hget : ∀ (i : Nat) (h : i < (extL s k days grams (moreL fr 64)).length), (extL s k days grams (moreL fr 64))[i] = drHi s.rate (pinL s k days grams) (fr + i) := fun i h => by
    simp only [extL, List.getElem_map]; rw [moreL_get]
  refine ⟨fun i h => ?_, fun i h => ?_, fun t ht => ?_, fun t ht i h he => ?_⟩
  · rw [hget]; exact ⟨drHi_bd hr.1 hok, drHi_top.1⟩
  · rw [hget, hget]
    have h1 := drHi_lip (l := pinL s k days grams) (a := fr + ((i + 1 : Nat) : Int)) (b := fr + (i : Int)) hr.1
    have h2 := drHi_lip (l := pinL s k days grams) (a := fr + (i : Int)) (b := fr + ((i + 1 : Nat) : Int)) hr.1
    rw [show far (fr + ((i + 1 : Nat) : Int)) (fr + (i : Int)) = 1 by unfold far; split <;> omega, Int.mul_one] at h1
    rw [show far (fr + (i : Int)) (fr + ((i + 1 : Nat) : Int)) = 1 by unfold far; split <;> omega, Int.mul_one] at h2
    dsimp only
    omega
  · have h1 := scaleB_tests hs t (mem_known ht)
    unfold testB at h1
    simp only [Bool.and_eq_true] at h1
    exact dayB_bd h1.1.1.1.1
  · rw [hget]
    have h1 := hi_test (t := t) hs hd hp (by unfold pinL; exact List.mem_append.2 (.inl ht))
    rw [show fr + (i : Int) = t.day by omega]
    exact h1
theorem helly_pin {s : Scl} {k fr : Int} {days grams : List Int} (hz : scaleE s = 0) (hd : daysB days = true) (he : days.length = grams.length) (hp : pinB s k days grams = true) {i : Nat} (h1 : i < days.length) (h2 : i < grams.length) :
    drHi s.rate (pinL s k days grams) days[i] = grams[i] := by
  have hm : (⟨days[i], 0, grams[i], grams[i]⟩ : Tst) ∈ pinL s k days grams := by
    unfold pinL
    refine List.mem_append.2 (.inr ?_)
    rw [← pins_get (by rw [pins_len' he]; exact h1) h1 h2]
    exact List.getElem_mem _
  have := hi_test (scaleE_0 hz) hd hp hm
  dsimp only at this
  omega

set_option maxRecDepth 20000 in
theorem CourseHelly_a (s : Scl) (dy : Int) (days grams : List Int) (fr : Int) (hz : ¬ givenE s dy days grams = 0) : FSpecG Tryd.prog TAB 7 [.agg (eS s), I dy, .sl (ints days), .sl (ints grams), I fr] (B true) (none) := by
  refine FSpecG.of_body tab_stable Tryd.func7 rfl (leB rfl) fun w0 M0 hG => ?_
  have hA := History_s s dy days grams
  rw [if_neg hz] at hA
  generalize givenE s dy days grams = e at *
  refine AWP.seq ?_
  refine AWP.region ?_
  refine AOps.call (o_box _ rfl rfl rfl) ?_
  refine AOps.call (o_assign _ rfl rfl) ?_
  refine AOps.nil ?_
  refine AWP.seq ?_
  refine AWP.seq ?_
  refine AWP.region ?_
  refine AOps.call (o_callG (sane_s) hG Tryd.call12 rfl rfl) ?_
  refine AOps.call (o_un _ rfl (fun _ => rfl) rfl) ?_
  refine AOps.nil ?_
  refine AWP.cond _ rfl (fun h4 => ?_) (fun h4 => ?_)
  · skip
    refine AWP.seq ?_
    refine AWP.region ?_
    refine AOps.call (o_assign _ rfl rfl) ?_
    refine AOps.nil ?_
    refine AWP.ret ?_
    first
    | exact postQ.ret1 Tryd.results7 rfl rfl
    | (exfalso; simp at *; done)
    | (exfalso; simp_all; done)
    | (refine postQ.ret1 Tryd.results7 rfl ?_; simp [AV.close, B]; done)
  · skip
    refine AWP.skip ?_
    refine AWP.seq ?_
    refine AWP.seq ?_
    refine AWP.region ?_
    refine AOps.weak (Weak.frzv (id := (5, 0)) (t := 5) rfl rfl rfl) ?_
    refine AOps.call (o_fieldRd _ rfl fa24_2 rfl) ?_
    refine AOps.call (o_loadRd _ rfl Tryd.sizeOf22 Tryd.isAgg22 rfl rfl rfl) ?_
    refine AOps.call (o_len _ Tryd.underlying22 rfl rfl) ?_
    refine AOps.call (o_bin _ _ rfl rfl (fun _ => rfl) rfl) ?_
    refine AOps.call (o_move _ rfl rfl) ?_
    refine AOps.split rfl rfl rfl (fun h9 => ?_) (fun h9 => ?_)
    · skip
      refine AOps.go rfl rfl rfl h9 (o_move _ rfl rfl) ?_
      refine AOps.go rfl rfl rfl h9 (o_len _ Tryd.underlying45 rfl rfl) ?_
      refine AOps.go rfl rfl rfl h9 (o_bin _ _ rfl rfl (fun _ => rfl) rfl) ?_
      refine AOps.call (o_pickF _ _ _ rfl h9 rfl rfl) ?_
      refine AOps.nil ?_
      refine AWP.cond _ rfl (fun h13 => ?_) (fun h13 => ?_)
      · skip
        refine AWP.seq ?_
        refine AWP.region ?_
        refine AOps.call (o_assign _ rfl rfl) ?_
        refine AOps.nil ?_
        refine AWP.ret ?_
        first
        | exact postQ.ret1 Tryd.results7 rfl rfl
        | (exfalso; simp at *; done)
        | (exfalso; simp_all; done)
        | (refine postQ.ret1 Tryd.results7 rfl ?_; simp [AV.close, B]; done)
      · skip
        refine AWP.skip ?_
        refine AWP.seq ?_
        refine AWP.region ?_
        refine AOps.call (o_loadRd _ rfl Tryd.sizeOf24 Tryd.isAgg24 rfl rfl rfl) ?_
        refine AOps.call (o_move _ rfl rfl) ?_
        refine AOps.call (o_move _ rfl rfl) ?_
        refine AOps.call (o_move _ rfl rfl) ?_
        refine AOps.call (o_call (hA) Tryd.call26 rfl rfl) ?_
        refine AOps.call (o_move _ rfl rfl) ?_
        refine AOps.call (o_extract _ rfl rfl rfl rfl) ?_
        refine AOps.call (o_extract _ rfl rfl rfl rfl) ?_
        refine AOps.call (o_assign _ rfl rfl) ?_
        refine AOps.call (o_assign _ rfl rfl) ?_
        refine AOps.nil ?_
        refine AWP.seq ?_
        refine AWP.seq ?_
        refine AWP.region ?_
        refine AOps.call (o_move _ rfl rfl) ?_
        refine AOps.call (o_bin _ _ rfl rfl (fun _ => rfl) rfl) ?_
        refine AOps.nil ?_
        refine AWP.cond _ rfl (fun h22 => ?_) (fun h22 => ?_)
        · skip
          refine AWP.seq ?_
          refine AWP.region ?_
          refine AOps.call (o_move _ rfl rfl) ?_
          refine AOps.call (o_un _ rfl (fun _ => rfl) rfl) ?_
          refine AOps.call (o_assign _ rfl rfl) ?_
          refine AOps.nil ?_
          refine AWP.ret ?_
          first
          | exact postQ.ret1 Tryd.results7 rfl rfl
          | (exfalso; simp at *; done)
          | (exfalso; simp_all; done)
          | (refine postQ.ret1 Tryd.results7 rfl ?_; simp [AV.close, B]; done)
        · skip
          exfalso
          have hh := h22
          simp at hh
          exact hz hh
    · skip
      refine AOps.pass rfl rfl rfl h9 rfl ?_
      refine AOps.pass rfl rfl rfl h9 rfl ?_
      refine AOps.pass rfl rfl rfl h9 rfl ?_
      refine AOps.call (o_pickT _ _ _ rfl h9 rfl rfl) ?_
      refine AOps.nil ?_
      refine AWP.condT rfl ?_
      refine AWP.seq ?_
      refine AWP.region ?_
      refine AOps.call (o_assign _ rfl rfl) ?_
      refine AOps.nil ?_
      refine AWP.ret ?_
      first
      | exact postQ.ret1 Tryd.results7 rfl rfl
      | (exfalso; simp at *; done)
      | (exfalso; simp_all; done)
      | (refine postQ.ret1 Tryd.results7 rfl ?_; simp [AV.close, B]; done)

set_option maxHeartbeats 8000000 in
set_option maxRecDepth 20000 in
theorem CourseHelly_b (s : Scl) (dy : Int) (days grams : List Int) (fr : Int) (hz : givenE s dy days grams = 0) (hne : 0 < days.length) : FSpecG Tryd.prog TAB 7 [.agg (eS s), I dy, .sl (ints days), .sl (ints grams), I fr] (B true) (none) := by
  refine FSpecG.of_body tab_stable Tryd.func7 rfl (leB rfl) fun w0 M0 hG => ?_
  obtain ⟨hask, he, hd⟩ := givenE_0 hz
  obtain ⟨hz0, hdyb⟩ := askE_0 hask
  simp only [List.all_cons, List.all_nil, Bool.and_true] at hdyb
  have hs := scaleE_0 hz0
  have hA := History_s s dy days grams
  rw [if_pos hz] at hA
  have hil := ints_len days
  have hig := ints_len grams
  have hdl := daysB_len hd
  have hdb := daysB_bd hd
  have hpw := daysB_pw hd
  refine AWP.seq ?_
  refine AWP.region ?_
  refine AOps.call (o_box _ rfl rfl rfl) ?_
  refine AOps.call (o_assign _ rfl rfl) ?_
  refine AOps.nil ?_
  refine AWP.seq ?_
  refine AWP.seq ?_
  refine AWP.region ?_
  refine AOps.call (o_callG (sane_s) hG Tryd.call12 rfl rfl) ?_
  refine AOps.call (o_un _ rfl (fun _ => rfl) rfl) ?_
  refine AOps.nil ?_
  refine AWP.cond _ rfl (fun h4 => ?_) (fun h4 => ?_)
  · skip
    refine AWP.seq ?_
    refine AWP.region ?_
    refine AOps.call (o_assign _ rfl rfl) ?_
    refine AOps.nil ?_
    refine AWP.ret ?_
    first
    | exact postQ.ret1 Tryd.results7 rfl rfl
    | (refine postQ.ret1 Tryd.results7 rfl ?_; rw [hPi]; simp [AV.close, B]; done)
    | (exfalso; simp at *; done)
    | (refine postQ.ret1 Tryd.results7 rfl ?_; simp [AV.close, B]; done)
    | (refine postQ.ret1 Tryd.results7 rfl ?_; simp_all [AV.close, B]; done)
  · skip
    refine AWP.skip ?_
    refine AWP.seq ?_
    refine AWP.seq ?_
    refine AWP.region ?_
    refine AOps.weak (Weak.frzv (id := (5, 0)) (t := 5) rfl rfl rfl) ?_
    refine AOps.call (o_fieldRd _ rfl fa24_2 rfl) ?_
    refine AOps.call (o_loadRd _ rfl Tryd.sizeOf22 Tryd.isAgg22 rfl rfl rfl) ?_
    refine AOps.call (o_len _ Tryd.underlying22 rfl rfl) ?_
    refine AOps.call (o_bin _ _ rfl rfl (fun _ => rfl) rfl) ?_
    refine AOps.call (o_move _ rfl rfl) ?_
    refine AOps.split rfl rfl rfl (fun h9 => ?_) (fun h9 => ?_)
    · skip
      have h100 : s.tests.length ≤ 100 := by have hq := of_decide_eq_false h9; rw [tests_len] at hq; omega
      refine AOps.go rfl rfl rfl h9 (o_move _ rfl rfl) ?_
      refine AOps.go rfl rfl rfl h9 (o_len _ Tryd.underlying45 rfl rfl) ?_
      refine AOps.go rfl rfl rfl h9 (o_bin _ _ rfl rfl (fun _ => rfl) rfl) ?_
      refine AOps.call (o_pickF _ _ _ rfl h9 rfl rfl) ?_
      refine AOps.nil ?_
      refine AWP.cond _ rfl (fun h13 => ?_) (fun h13 => ?_)
      · skip
        refine AWP.seq ?_
        refine AWP.region ?_
        refine AOps.call (o_assign _ rfl rfl) ?_
        refine AOps.nil ?_
        refine AWP.ret ?_
        first
        | exact postQ.ret1 Tryd.results7 rfl rfl
        | (refine postQ.ret1 Tryd.results7 rfl ?_; rw [hPi]; simp [AV.close, B]; done)
        | (exfalso; simp at *; done)
        | (refine postQ.ret1 Tryd.results7 rfl ?_; simp [AV.close, B]; done)
        | (refine postQ.ret1 Tryd.results7 rfl ?_; simp_all [AV.close, B]; done)
      · skip
        have hd8 : days.length ≤ 8 := by have hq := of_decide_eq_false h13; rw [ints_len] at hq; omega
        refine AWP.skip ?_
        refine AWP.seq ?_
        refine AWP.region ?_
        refine AOps.call (o_loadRd _ rfl Tryd.sizeOf24 Tryd.isAgg24 rfl rfl rfl) ?_
        refine AOps.call (o_move _ rfl rfl) ?_
        refine AOps.call (o_move _ rfl rfl) ?_
        refine AOps.call (o_move _ rfl rfl) ?_
        refine AOps.call (o_call (hA) Tryd.call26 rfl rfl) ?_
        refine AOps.call (o_move _ rfl rfl) ?_
        refine AOps.call (o_extract _ rfl rfl rfl rfl) ?_
        refine AOps.call (o_extract _ rfl rfl rfl rfl) ?_
        refine AOps.call (o_assign _ rfl rfl) ?_
        refine AOps.call (o_assign _ rfl rfl) ?_
        refine AOps.nil ?_
        refine AWP.seq ?_
        refine AWP.seq ?_
        refine AWP.region ?_
        refine AOps.call (o_move _ rfl rfl) ?_
        refine AOps.call (o_bin _ _ rfl rfl (fun _ => rfl) rfl) ?_
        refine AOps.nil ?_
        refine AWP.cond _ rfl (fun h22 => ?_) (fun h22 => ?_)
        · skip
          exfalso
          have hh := h22
          first
          | (simp at hh; done)
          | (simp at hh; omega)
        · skip
          refine AWP.skip ?_
          refine AWP.seq ?_
          refine AWP.region ?_
          refine AOps.call (o_assign _ rfl rfl) ?_
          refine AOps.nil ?_
          refine AWP.seq ?_
          refine AWP.seq ?_
          refine AWP.region ?_
          refine AOps.call (o_move _ rfl rfl) ?_
          refine AOps.call (o_len _ Tryd.underlying45 rfl rfl) ?_
          refine AOps.call (o_move _ rfl rfl) ?_
          refine AOps.nil ?_
          refine AWP.block ?_
          refine AWP.loop (ι := Nat) (fun i => AS.mk' 257 [(1, I dy), (2, .sl (ints days)), (3, .sl (ints grams)), (4, I fr), (5, .rd (eS s)), (11, B (pinB s dy days grams)), (13, B (pinB s dy (days.take i) (grams.take i))), (56, .sl (ints days)), (57, I (ints days).length), (58, I i)] [] [] []) (fun i => i ≤ days.length) (fun i => days.length - i) (0) (Weak.mk' rfl ⟨⟨.refl rfl, rfl⟩, ⟨⟨.refl rfl, rfl⟩, ⟨⟨.refl rfl, rfl⟩, ⟨⟨.refl rfl, rfl⟩, ⟨⟨.refl rfl, rfl⟩, ⟨⟨.refl rfl, rfl⟩, ⟨⟨.refl (by rw [List.take_zero, List.take_zero, pin_nil hz0]; rfl), rfl⟩, ⟨⟨.refl rfl, rfl⟩, ⟨⟨.refl rfl, rfl⟩, ⟨⟨.refl rfl, rfl⟩, trivial⟩⟩⟩⟩⟩⟩⟩⟩⟩⟩ trivial trivial) (Nat.zero_le _) ?_
          rintro k hk
          try dsimp only at *
          refine AWP.seq ?_
          refine AWP.region ?_
          refine AOps.call (o_bin _ _ rfl rfl (fun _ => rfl) rfl) ?_
          refine AOps.nil ?_
          refine AWP.seq ?_
          refine AWP.cond _ rfl (fun h27 => ?_) (fun h27 => ?_)
          · skip
            have hlt : k < days.length := by have hq := of_decide_eq_true h27; omega
            have hlg : k < grams.length := by omega
            have hel := ints_at hlt
            have helg := ints_at hlg
            have hbk := hdb _ (List.getElem_mem hlt)
            have hOne := History_s s dy [days[k]] [grams[k]]
            rw [if_pos (givenE_ok (grams := [grams[k]]) hz0 hdyb (daysB1 hbk) rfl)] at hOne
            have hstep1 := pin_step (k := dy) hz0 he hlt hlg
            refine AWP.skip ?_
            refine AWP.seq ?_
            refine AWP.block ?_
            refine AWP.seq ?_
            refine AWP.region ?_
            refine AOps.call (o_move _ rfl rfl) ?_
            refine AOps.call (o_assign _ rfl rfl) ?_
            refine AOps.nil ?_
            refine AWP.seq ?_
            refine AWP.seq ?_
            refine AWP.region ?_
            refine AOps.call (o_move _ rfl rfl) ?_
            refine AOps.call (o_move _ rfl rfl) ?_
            refine AOps.nil ?_
            refine AWP.block ?_
            refine AWP.loop (ι := Nat) (fun i => AS.mk' 257 [(1, I dy), (2, .sl (ints days)), (3, .sl (ints grams)), (4, I fr), (5, .rd (eS s)), (11, B (pinB s dy days grams)), (13, B (pinB s dy (days.take k) (grams.take k) && (List.range i).all (fun j => pinB s dy [days.getD j 0, days[k]] [grams.getD j 0, grams[k]]))), (14, I k), (56, .sl (ints days)), (57, I (ints days).length), (58, I k), (61, I k), (62, I i)] [] [] []) (fun i => i ≤ k) (fun i => k - i) (0) (Weak.mk' rfl ⟨⟨.refl rfl, rfl⟩, ⟨⟨.refl rfl, rfl⟩, ⟨⟨.refl rfl, rfl⟩, ⟨⟨.refl rfl, rfl⟩, ⟨⟨.refl rfl, rfl⟩, ⟨⟨.refl rfl, rfl⟩, ⟨⟨.refl (by rw [all0]; rfl), rfl⟩, ⟨⟨.refl rfl, rfl⟩, ⟨⟨.refl rfl, rfl⟩, ⟨⟨.refl rfl, rfl⟩, ⟨⟨.refl rfl, rfl⟩, ⟨⟨.refl rfl, rfl⟩, ⟨⟨.refl rfl, rfl⟩, trivial⟩⟩⟩⟩⟩⟩⟩⟩⟩⟩⟩⟩⟩ trivial trivial) (Nat.zero_le _) ?_
            rintro j hj
            try dsimp only at *
            refine AWP.seq ?_
            refine AWP.region ?_
            refine AOps.call (o_bin _ _ rfl rfl (fun _ => rfl) rfl) ?_
            refine AOps.nil ?_
            refine AWP.seq ?_
            refine AWP.cond _ rfl (fun h30 => ?_) (fun h30 => ?_)
            · skip
              have hjk : j < k := by have hq := of_decide_eq_true h30; omega
              have hjl : j < days.length := by omega
              have hjg : j < grams.length := by omega
              have hel2 := ints_at hjl
              have helg2 := ints_at hjg
              have hgd : days.getD j 0 = days[j] := by simp [hjl]
              have hgg : grams.getD j 0 = grams[j] := by simp [hjg]
              have hPair := History_s s dy [days[j], days[k]] [grams[j], grams[k]]
              rw [if_pos (givenE_ok (grams := [grams[j], grams[k]]) hz0 hdyb (daysB2 (hdb _ (List.getElem_mem hjl)) hbk (List.pairwise_iff_getElem.1 hpw _ _ hjl hlt hjk)) rfl)] at hPair
              refine AWP.skip ?_
              refine AWP.seq ?_
              refine AWP.block ?_
              refine AWP.seq ?_
              refine AWP.region ?_
              refine AOps.call (o_move _ rfl rfl) ?_
              refine AOps.call (o_assign _ rfl rfl) ?_
              refine AOps.nil ?_
              refine AWP.seq ?_
              refine AWP.drawn 26 mixed (by kernel_rfl) ?_
              refine AHead.call (o_loadRd _ rfl Tryd.sizeOf24 Tryd.isAgg24 rfl rfl rfl) rfl ?_
              refine AHead.call (o_move _ rfl rfl) rfl ?_
              refine AHead.call (o_move _ rfl rfl) rfl ?_
              refine AHead.call (o_move _ rfl rfl) rfl ?_
              refine AHead.call (o_index _ _ Tryd.underlying45 Tryd.sizeOf3 rfl rfl (by omega) hel2 rfl rfl) rfl ?_
              refine AHead.call (o_loadRd _ rfl Tryd.sizeOf3 Tryd.isAgg3 rfl rfl rfl) rfl ?_
              refine AHead.call (o_move _ rfl rfl) rfl ?_
              refine AHead.call (o_move _ rfl rfl) rfl ?_
              refine AHead.call (o_index _ _ Tryd.underlying45 Tryd.sizeOf3 rfl rfl (by omega) hel rfl rfl) rfl ?_
              refine AHead.call (o_loadRd _ rfl Tryd.sizeOf3 Tryd.isAgg3 rfl rfl rfl) rfl ?_
              refine AHead.call (o_lit Tryd.underlying45 Tryd.sizeOf3 Tryd.zeroValue3 rfl rfl rfl rfl rfl rfl rfl) rfl ?_
              refine AHead.call (o_move _ rfl rfl) rfl ?_
              refine AHead.call (o_move _ rfl rfl) rfl ?_
              refine AHead.call (o_index _ _ Tryd.underlying45 Tryd.sizeOf3 rfl rfl (by omega) helg2 rfl rfl) rfl ?_
              refine AHead.call (o_loadRd _ rfl Tryd.sizeOf3 Tryd.isAgg3 rfl rfl rfl) rfl ?_
              refine AHead.call (o_move _ rfl rfl) rfl ?_
              refine AHead.call (o_move _ rfl rfl) rfl ?_
              refine AHead.call (o_index _ _ Tryd.underlying45 Tryd.sizeOf3 rfl rfl (by omega) helg rfl rfl) rfl ?_
              refine AHead.call (o_loadRd _ rfl Tryd.sizeOf3 Tryd.isAgg3 rfl rfl rfl) rfl ?_
              refine AHead.call (o_lit Tryd.underlying45 Tryd.sizeOf3 Tryd.zeroValue3 rfl rfl rfl rfl rfl rfl rfl) rfl ?_
              refine AHead.call (o_call (hPair) Tryd.call26 rfl rfl) rfl ?_
              refine AHead.call (o_move _ rfl rfl) rfl ?_
              refine AHead.call (o_extract _ rfl rfl rfl rfl) rfl ?_
              refine AHead.call (o_extract _ rfl rfl rfl rfl) rfl ?_
              refine AHead.call (o_assign _ rfl rfl) rfl ?_
              refine AHead.call (o_assign _ rfl rfl) rfl ?_
              refine AHead.nil ?_
              refine AOps.nil ?_
              refine AWP.seq ?_
              refine AWP.seq ?_
              refine AWP.region ?_
              refine AOps.call (o_move _ rfl rfl) ?_
              refine AOps.call (o_bin _ _ rfl rfl (fun _ => rfl) rfl) ?_
              refine AOps.nil ?_
              refine AWP.cond _ rfl (fun h51 => ?_) (fun h51 => ?_)
              · skip
                exfalso
                have hh := h51
                first
                | (simp at hh; done)
                | (simp at hh; omega)
              · skip
                refine AWP.skip ?_
                refine AWP.region ?_
                refine AOps.call (o_move _ rfl rfl) ?_
                refine AOps.call (o_move _ rfl rfl) ?_
                refine AOps.split rfl rfl rfl (fun h53 => ?_) (fun h53 => ?_)
                · skip
                  have hcur := h53
                  refine AOps.go rfl rfl rfl h53 (o_move _ rfl rfl) ?_
                  refine AOps.call (o_pickT _ _ _ rfl h53 rfl rfl) ?_
                  refine AOps.call (o_assign _ rfl rfl) ?_
                  refine AOps.nil ?_
                  refine AWP.region ?_
                  refine AOps.call (o_add _ _ rfl rfl ⟨by (try dsimp only); omega, by (try dsimp only); omega⟩ rfl) ?_
                  refine AOps.call (o_move _ rfl rfl) ?_
                  refine AOps.nil ?_
                  refine ⟨j + 1, ?_, (Weak.mk' rfl ⟨⟨.refl rfl, rfl⟩, ⟨⟨.refl rfl, rfl⟩, ⟨⟨.refl rfl, rfl⟩, ⟨⟨.refl rfl, rfl⟩, ⟨⟨.refl rfl, rfl⟩, ⟨⟨.refl rfl, rfl⟩, ⟨⟨.refl (by rw [all_next, hcur, hgd, hgg]; rfl), rfl⟩, ⟨⟨.refl rfl, rfl⟩, ⟨⟨.refl rfl, rfl⟩, ⟨⟨.refl rfl, rfl⟩, ⟨⟨.refl rfl, rfl⟩, ⟨⟨.refl rfl, rfl⟩, ⟨⟨.refl rfl, rfl⟩, trivial⟩⟩⟩⟩⟩⟩⟩⟩⟩⟩⟩⟩⟩ trivial trivial)⟩
                  exact ⟨by omega, by omega⟩
                · skip
                  have hcur := h53
                  refine AOps.pass rfl rfl rfl h53 rfl ?_
                  refine AOps.call (o_pickF _ _ _ rfl h53 rfl rfl) ?_
                  refine AOps.call (o_assign _ rfl rfl) ?_
                  refine AOps.nil ?_
                  refine AWP.region ?_
                  refine AOps.call (o_add _ _ rfl rfl ⟨by (try dsimp only); omega, by (try dsimp only); omega⟩ rfl) ?_
                  refine AOps.call (o_move _ rfl rfl) ?_
                  refine AOps.nil ?_
                  refine ⟨j + 1, ?_, (Weak.mk' rfl ⟨⟨.refl rfl, rfl⟩, ⟨⟨.refl rfl, rfl⟩, ⟨⟨.refl rfl, rfl⟩, ⟨⟨.refl rfl, rfl⟩, ⟨⟨.refl rfl, rfl⟩, ⟨⟨.refl rfl, rfl⟩, ⟨⟨.refl (by rw [all_next, hcur, hgd, hgg]; rfl), rfl⟩, ⟨⟨.refl rfl, rfl⟩, ⟨⟨.refl rfl, rfl⟩, ⟨⟨.refl rfl, rfl⟩, ⟨⟨.refl rfl, rfl⟩, ⟨⟨.refl rfl, rfl⟩, ⟨⟨.refl rfl, rfl⟩, trivial⟩⟩⟩⟩⟩⟩⟩⟩⟩⟩⟩⟩⟩ trivial trivial)⟩
                  exact ⟨by omega, by omega⟩
            · skip
              obtain rfl : k = j := by have hq := of_decide_eq_false h30; omega
              refine AWP.exit ?_
              refine AWP.seq ?_
              refine AWP.drawn 18 mixed (by kernel_rfl) ?_
              refine AHead.call (o_loadRd _ rfl Tryd.sizeOf24 Tryd.isAgg24 rfl rfl rfl) rfl ?_
              refine AHead.call (o_move _ rfl rfl) rfl ?_
              refine AHead.call (o_move _ rfl rfl) rfl ?_
              refine AHead.call (o_move _ rfl rfl) rfl ?_
              refine AHead.call (o_move _ rfl rfl) rfl ?_
              refine AHead.call (o_add _ _ rfl rfl ⟨by (try dsimp only); omega, by (try dsimp only); omega⟩ rfl) rfl ?_
              refine AHead.call (o_sliceE _ _ _ Tryd.underlying45 Tryd.sizeOf3 rfl (boundA_some rfl (by omega) rfl) (boundA_some rfl (by omega) (by omega : _ = k + 1)) (by omega) (by omega) ints_z (ints_one hlt) rfl) rfl ?_
              refine AHead.call (o_move _ rfl rfl) rfl ?_
              refine AHead.call (o_move _ rfl rfl) rfl ?_
              refine AHead.call (o_move _ rfl rfl) rfl ?_
              refine AHead.call (o_add _ _ rfl rfl ⟨by (try dsimp only); omega, by (try dsimp only); omega⟩ rfl) rfl ?_
              refine AHead.call (o_sliceE _ _ _ Tryd.underlying45 Tryd.sizeOf3 rfl (boundA_some rfl (by omega) rfl) (boundA_some rfl (by omega) (by omega : _ = k + 1)) (by omega) (by omega) ints_z (ints_one hlg) rfl) rfl ?_
              refine AHead.call (o_call (hOne) Tryd.call26 rfl rfl) rfl ?_
              refine AHead.call (o_move _ rfl rfl) rfl ?_
              refine AHead.call (o_extract _ rfl rfl rfl rfl) rfl ?_
              refine AHead.call (o_extract _ rfl rfl rfl rfl) rfl ?_
              refine AHead.call (o_assign _ rfl rfl) rfl ?_
              refine AHead.call (o_assign _ rfl rfl) rfl ?_
              refine AHead.nil ?_
              refine AOps.nil ?_
              refine AWP.seq ?_
              refine AWP.seq ?_
              refine AWP.region ?_
              refine AOps.call (o_move _ rfl rfl) ?_
              refine AOps.call (o_bin _ _ rfl rfl (fun _ => rfl) rfl) ?_
              refine AOps.nil ?_
              refine AWP.cond _ rfl (fun h68 => ?_) (fun h68 => ?_)
              · skip
                exfalso
                have hh := h68
                first
                | (simp at hh; done)
                | (simp at hh; omega)
              · skip
                refine AWP.skip ?_
                refine AWP.region ?_
                refine AOps.call (o_move _ rfl rfl) ?_
                refine AOps.call (o_move _ rfl rfl) ?_
                refine AOps.split rfl rfl rfl (fun h70 => ?_) (fun h70 => ?_)
                · skip
                  have hcur1 := h70
                  refine AOps.go rfl rfl rfl h70 (o_move _ rfl rfl) ?_
                  refine AOps.call (o_pickT _ _ _ rfl h70 rfl rfl) ?_
                  refine AOps.call (o_assign _ rfl rfl) ?_
                  refine AOps.nil ?_
                  refine AWP.region ?_
                  refine AOps.call (o_add _ _ rfl rfl ⟨by (try dsimp only); omega, by (try dsimp only); omega⟩ rfl) ?_
                  refine AOps.call (o_move _ rfl rfl) ?_
                  refine AOps.nil ?_
                  refine ⟨k + 1, ?_, (Weak.mk' rfl ⟨⟨.refl rfl, rfl⟩, ⟨⟨.refl rfl, rfl⟩, ⟨⟨.refl rfl, rfl⟩, ⟨⟨.refl rfl, rfl⟩, ⟨⟨.refl rfl, rfl⟩, ⟨⟨.refl rfl, rfl⟩, ⟨⟨.refl (by rw [hstep1, hcur1]; rfl), rfl⟩, ⟨⟨.refl rfl, rfl⟩, ⟨⟨.refl rfl, rfl⟩, ⟨⟨.refl rfl, rfl⟩, trivial⟩⟩⟩⟩⟩⟩⟩⟩⟩⟩ trivial trivial)⟩
                  exact ⟨by omega, by omega⟩
                · skip
                  have hcur1 := h70
                  refine AOps.pass rfl rfl rfl h70 rfl ?_
                  refine AOps.call (o_pickF _ _ _ rfl h70 rfl rfl) ?_
                  refine AOps.call (o_assign _ rfl rfl) ?_
                  refine AOps.nil ?_
                  refine AWP.region ?_
                  refine AOps.call (o_add _ _ rfl rfl ⟨by (try dsimp only); omega, by (try dsimp only); omega⟩ rfl) ?_
                  refine AOps.call (o_move _ rfl rfl) ?_
                  refine AOps.nil ?_
                  refine ⟨k + 1, ?_, (Weak.mk' rfl ⟨⟨.refl rfl, rfl⟩, ⟨⟨.refl rfl, rfl⟩, ⟨⟨.refl rfl, rfl⟩, ⟨⟨.refl rfl, rfl⟩, ⟨⟨.refl rfl, rfl⟩, ⟨⟨.refl rfl, rfl⟩, ⟨⟨.refl (by rw [hstep1, hcur1]; rfl), rfl⟩, ⟨⟨.refl rfl, rfl⟩, ⟨⟨.refl rfl, rfl⟩, ⟨⟨.refl rfl, rfl⟩, trivial⟩⟩⟩⟩⟩⟩⟩⟩⟩⟩ trivial trivial)⟩
                  exact ⟨by omega, by omega⟩
          · skip
            have hke : k = days.length := by have hq := of_decide_eq_false h27; omega
            have hPi : pinB s dy (days.take k) (grams.take k) = pinB s dy days grams := by rw [hke, List.take_length, he, List.take_length]
            refine AWP.exit ?_
            refine AWP.seq ?_
            refine AWP.seq ?_
            refine AWP.region ?_
            refine AOps.call (o_move _ rfl rfl) ?_
            refine AOps.call (o_move _ rfl rfl) ?_
            refine AOps.call (o_bin _ _ rfl rfl (fun _ => rfl) rfl) ?_
            refine AOps.call (o_move _ rfl rfl) ?_
            refine AOps.split rfl rfl rfl (fun h75 => ?_) (fun h75 => ?_)
            · skip
              refine AOps.go rfl rfl rfl h75 (o_move _ rfl rfl) ?_
              refine AOps.go rfl rfl rfl h75 (o_bin _ _ rfl rfl (fun _ => rfl) rfl) ?_
              refine AOps.call (o_pickF _ _ _ rfl h75 rfl rfl) ?_
              refine AOps.call (o_move _ rfl rfl) ?_
              refine AOps.split rfl rfl rfl (fun h78 => ?_) (fun h78 => ?_)
              · skip
                have hf0 := of_decide_eq_false h78
                refine AOps.go rfl rfl rfl h78 (o_move _ rfl rfl) ?_
                refine AOps.go rfl rfl rfl h78 (o_bin _ _ rfl rfl (fun _ => rfl) rfl) ?_
                refine AOps.call (o_pickF _ _ _ rfl h78 rfl rfl) ?_
                refine AOps.nil ?_
                refine AWP.cond _ rfl (fun h81 => ?_) (fun h81 => ?_)
                · skip
                  refine AWP.seq ?_
                  refine AWP.region ?_
                  refine AOps.call (o_move _ rfl rfl) ?_
                  refine AOps.call (o_move _ rfl rfl) ?_
                  refine AOps.call (o_bin _ _ rfl rfl (fun _ => rfl) rfl) ?_
                  refine AOps.call (o_assign _ rfl rfl) ?_
                  refine AOps.nil ?_
                  refine AWP.ret ?_
                  first
                  | exact postQ.ret1 Tryd.results7 rfl rfl
                  | (refine postQ.ret1 Tryd.results7 rfl ?_; rw [hPi]; simp [AV.close, B]; done)
                  | (exfalso; simp at *; done)
                  | (refine postQ.ret1 Tryd.results7 rfl ?_; simp [AV.close, B]; done)
                  | (refine postQ.ret1 Tryd.results7 rfl ?_; simp_all [AV.close, B]; done)
                · skip
                  have hf1 := of_decide_eq_false h81
                  have hfr : 0 ≤ fr ∧ fr ≤ 1048512 := ⟨by omega, by omega⟩
                  refine AWP.skip ?_
                  refine AWP.seq ?_
                  refine AWP.region ?_
                  refine AOps.call (o_nil (z := 1) (e := 3) rfl) ?_
                  refine AOps.nil ?_
                  refine AWP.seq ?_
                  refine AWP.seq ?_
                  refine AWP.region ?_
                  refine AOps.call (o_move _ rfl rfl) ?_
                  refine AOps.nil ?_
                  refine AWP.block ?_
                  refine AWP.loop (ι := Nat × List Int) (fun i => AS.mk' 257 [(1, I dy), (2, .sl (ints days)), (3, .sl (ints grams)), (4, I fr), (5, .rd (eS s)), (11, B (pinB s dy days grams)), (20, .own (20, 0) (ints i.2)), (133, I i.1)] [] [((20, 0), ((ints i.2).length, 1, 3))] [(20, 1)]) (fun i => i.1 ≤ 64 ∧ i.2 = moreL fr i.1) (fun i => 64 - i.1) (0, []) (Weak.mk' rfl ⟨⟨.refl rfl, rfl⟩, ⟨⟨.refl rfl, rfl⟩, ⟨⟨.refl rfl, rfl⟩, ⟨⟨.refl rfl, rfl⟩, ⟨⟨.refl rfl, rfl⟩, ⟨⟨.refl rfl, rfl⟩, ⟨⟨.refl rfl, rfl⟩, ⟨⟨.refl rfl, rfl⟩, trivial⟩⟩⟩⟩⟩⟩⟩⟩ trivial ⟨⟨rfl, rfl⟩, trivial⟩) (⟨Nat.zero_le _, rfl⟩) ?_
                  rintro ⟨j, acc⟩ ⟨hj, hacc⟩
                  try dsimp only at *
                  refine AWP.seq ?_
                  refine AWP.region ?_
                  refine AOps.call (o_bin _ _ rfl rfl (fun _ => rfl) rfl) ?_
                  refine AOps.nil ?_
                  refine AWP.seq ?_
                  refine AWP.cond _ rfl (fun h87 => ?_) (fun h87 => ?_)
                  · skip
                    have hj64 : j < 64 := by have hq := of_decide_eq_true h87; omega
                    have hal : acc.length = j := by rw [hacc]; exact moreL_len _ _
                    refine AWP.skip ?_
                    refine AWP.seq ?_
                    refine AWP.block ?_
                    refine AWP.seq ?_
                    refine AWP.region ?_
                    refine AOps.call (o_move _ rfl rfl) ?_
                    refine AOps.call (o_assign _ rfl rfl) ?_
                    refine AOps.nil ?_
                    refine AWP.region ?_
                    refine AOps.call (o_move _ rfl rfl) ?_
                    refine AOps.call (o_move _ rfl rfl) ?_
                    refine AOps.call (o_move _ rfl rfl) ?_
                    refine AOps.call (o_add _ _ rfl rfl ⟨by (try dsimp only); omega, by (try dsimp only); omega⟩ rfl) ?_
                    refine AOps.call (o_lit Tryd.underlying45 Tryd.sizeOf3 Tryd.zeroValue3 rfl rfl rfl rfl rfl rfl rfl) ?_
                    refine AOps.cons (o_append _ _ Tryd.underlying45 info3 rfl rfl rfl rfl rfl rfl rfl rfl (fun c hc => by simp at hc; subst hc; rfl) ints_z (by
                        rw [ints_len]; simp only [List.length_cons, List.length_nil, Nat.zero_add]; unfold Tryd.t3; simp only []; omega) rfl (ints_snoc acc _) rfl) ?_
                    refine AOps.call (o_assign _ rfl rfl) ?_
                    refine AOps.nil ?_
                    refine AWP.region ?_
                    refine AOps.call (o_add _ _ rfl rfl ⟨by (try dsimp only); omega, by (try dsimp only); omega⟩ rfl) ?_
                    refine AOps.call (o_move _ rfl rfl) ?_
                    refine AOps.nil ?_
                    refine ⟨(j + 1, _), ?_, (Weak.mk' rfl ⟨⟨.refl rfl, rfl⟩, ⟨⟨.refl rfl, rfl⟩, ⟨⟨.refl rfl, rfl⟩, ⟨⟨.refl rfl, rfl⟩, ⟨⟨.refl rfl, rfl⟩, ⟨⟨.refl rfl, rfl⟩, ⟨⟨.refl rfl, rfl⟩, ⟨⟨.refl rfl, rfl⟩, trivial⟩⟩⟩⟩⟩⟩⟩⟩ trivial ⟨⟨rfl, rfl⟩, trivial⟩)⟩
                    refine ⟨⟨by simp only []; omega, ?_⟩, by simp only []; omega⟩
                    rw [moreL_succ, ← hacc]
                  · skip
                    obtain rfl : j = 64 := by have hq := of_decide_eq_false h87; omega
                    obtain ⟨ext, hE, hx1, hx0⟩ : ∃ ext : List Int, FSpec Tryd.prog 28 [.agg (eS s), I dy, .sl (ints days), .sl (ints grams), .sl (ints acc)] (.tup [.sl (ints ext), B (pinB s dy days grams), I 0]) none ∧ (pinB s dy days grams = true → ext = extL s dy days grams acc) ∧ (pinB s dy days grams = false → ext = []) := by
                      have h1 := Extend_s s dy days grams acc
                      rw [if_pos hz, if_pos (by rw [hacc]; exact moreL_days hfr)] at h1
                      cases hp : pinB s dy days grams with
                      | true => rw [hp] at h1; exact ⟨_, h1, fun _ => rfl, (fun h => by cases h)⟩
                      | false => rw [hp] at h1; exact ⟨[], h1, (fun h => by cases h), fun _ => rfl⟩
                    refine AWP.exit ?_
                    refine AWP.seq ?_
                    refine AWP.region ?_
                    refine AOps.call (o_loadRd _ rfl Tryd.sizeOf24 Tryd.isAgg24 rfl rfl rfl) ?_
                    refine AOps.call (o_move _ rfl rfl) ?_
                    refine AOps.call (o_move _ rfl rfl) ?_
                    refine AOps.call (o_move _ rfl rfl) ?_
                    refine AOps.call (o_move _ rfl rfl) ?_
                    refine AOps.call (o_call (hE) Tryd.call28 rfl rfl) ?_
                    refine AOps.call (o_move _ rfl rfl) ?_
                    refine AOps.call (o_extract _ rfl rfl rfl rfl) ?_
                    refine AOps.call (o_extract _ rfl rfl rfl rfl) ?_
                    refine AOps.call (o_extract _ rfl rfl rfl rfl) ?_
                    refine AOps.call (o_assign _ rfl rfl) ?_
                    refine AOps.call (o_assign _ rfl rfl) ?_
                    refine AOps.call (o_assign _ rfl rfl) ?_
                    refine AOps.nil ?_
                    refine AWP.seq ?_
                    refine AWP.seq ?_
                    refine AWP.region ?_
                    refine AOps.call (o_move _ rfl rfl) ?_
                    refine AOps.call (o_bin _ _ rfl rfl (fun _ => rfl) rfl) ?_
                    refine AOps.call (o_move _ rfl rfl) ?_
                    refine AOps.split rfl rfl rfl (fun h102 => ?_) (fun h102 => ?_)
                    · skip
                      refine AOps.go rfl rfl rfl h102 (o_move _ rfl rfl) ?_
                      refine AOps.go rfl rfl rfl h102 (o_move _ rfl rfl) ?_
                      refine AOps.go rfl rfl rfl h102 (o_bin _ _ rfl rfl (fun _ => rfl) rfl) ?_
                      refine AOps.call (o_pickF _ _ _ rfl h102 rfl rfl) ?_
                      refine AOps.nil ?_
                      refine AWP.cond _ rfl (fun h104 => ?_) (fun h104 => ?_)
                      · skip
                        exfalso
                        have hh := h104
                        simp at hh
                      · skip
                        refine AWP.skip ?_
                        refine AWP.seq ?_
                        refine AWP.seq ?_
                        refine AWP.region ?_
                        refine AOps.call (o_move _ rfl rfl) ?_
                        refine AOps.call (o_un _ rfl (fun _ => rfl) rfl) ?_
                        refine AOps.nil ?_
                        refine AWP.cond _ rfl (fun h106 => ?_) (fun h106 => ?_)
                        · skip
                          have hP : pinB s dy days grams = false := by simpa using h106
                          obtain rfl := hx0 hP
                          refine AWP.seq ?_
                          refine AWP.region ?_
                          refine AOps.call (o_move _ rfl rfl) ?_
                          refine AOps.call (o_len _ Tryd.underlying45 rfl rfl) ?_
                          refine AOps.call (o_bin _ _ rfl rfl (fun _ => rfl) rfl) ?_
                          refine AOps.call (o_assign _ rfl rfl) ?_
                          refine AOps.nil ?_
                          refine AWP.ret ?_
                          first
                          | exact postQ.ret1 Tryd.results7 rfl rfl
                          | (refine postQ.ret1 Tryd.results7 rfl ?_; rw [hPi]; simp [AV.close, B]; done)
                          | (exfalso; simp at *; done)
                          | (refine postQ.ret1 Tryd.results7 rfl ?_; simp [AV.close, B]; done)
                          | (refine postQ.ret1 Tryd.results7 rfl ?_; simp_all [AV.close, B]; done)
                        · skip
                          have hP : pinB s dy days grams = true := by
                            have hh := h106
                            simpa using hh
                          have hext := hx1 hP
                          rw [hacc] at hext
                          have hextl : ext.length = 64 := by rw [hext]; unfold extL; rw [List.length_map, moreL_len]
                          have hextg : ∀ (i : Nat) (h : i < ext.length), ext[i] = drHi s.rate (pinL s dy days grams) (fr + (i : Int)) := fun i h => by subst hext; simp only [extL, List.getElem_map]; rw [moreL_get]
                          have hKn := known_s s dy (by omega)
                          have hHo := holds_s ⟨s.no, s.rate, knownL s dy⟩ fr ext (by omega) ⟨by omega, by omega⟩ (by rw [hext]; exact helly_holds hz0 hd hP hfr) (Nat.le_trans (known_len s dy) (by omega))
                          refine AWP.skip ?_
                          refine AWP.seq ?_
                          refine AWP.seq ?_
                          refine AWP.region ?_
                          refine AOps.call (o_move _ rfl rfl) ?_
                          refine AOps.call (o_len _ Tryd.underlying45 rfl rfl) ?_
                          refine AOps.call (o_bin _ _ rfl rfl (fun _ => rfl) rfl) ?_
                          refine AOps.call (o_move _ rfl rfl) ?_
                          refine AOps.split rfl rfl rfl (fun h111 => ?_) (fun h111 => ?_)
                          · skip
                            refine AOps.go rfl rfl rfl h111 (o_loadRd _ rfl Tryd.sizeOf24 Tryd.isAgg24 rfl rfl rfl) ?_
                            refine AOps.go rfl rfl rfl h111 (o_move _ rfl rfl) ?_
                            refine AOps.go rfl rfl rfl h111 (o_call (hKn) Tryd.call38 rfl rfl) ?_
                            refine AOps.go rfl rfl rfl h111 (o_move _ rfl rfl) ?_
                            refine AOps.go rfl rfl rfl h111 (o_move _ rfl rfl) ?_
                            refine AOps.go rfl rfl rfl h111 (o_call (hHo) Tryd.call37 rfl rfl) ?_
                            refine AOps.go rfl rfl rfl h111 (o_un _ rfl (fun _ => rfl) rfl) ?_
                            refine AOps.call (o_pickF _ _ _ rfl h111 rfl rfl) ?_
                            refine AOps.nil ?_
                            refine AWP.cond _ rfl (fun h118 => ?_) (fun h118 => ?_)
                            · skip
                              exfalso
                              have hh := h118
                              first
                              | (simp at hh; done)
                              | (simp at hh; omega)
                            · skip
                              refine AWP.skip ?_
                              refine AWP.seq ?_
                              refine AWP.seq ?_
                              refine AWP.region ?_
                              refine AOps.call (o_move _ rfl rfl) ?_
                              refine AOps.call (o_len _ Tryd.underlying45 rfl rfl) ?_
                              refine AOps.call (o_move _ rfl rfl) ?_
                              refine AOps.nil ?_
                              refine AWP.block ?_
                              refine AWP.loop (ι := Nat) (fun i => AS.mk' 257 [(1, I dy), (2, .sl (ints days)), (3, .sl (ints grams)), (4, I fr), (5, .rd (eS s)), (11, B (pinB s dy days grams)), (20, .sl (ints acc)), (22, .sl (ints ext)), (177, .sl (ints days)), (178, I (ints days).length), (179, I i)] [] [] []) (fun i => i ≤ days.length) (fun i => days.length - i) (0) (Weak.mk' rfl ⟨⟨.refl rfl, rfl⟩, ⟨⟨.refl rfl, rfl⟩, ⟨⟨.refl rfl, rfl⟩, ⟨⟨.refl rfl, rfl⟩, ⟨⟨.refl rfl, rfl⟩, ⟨⟨.refl rfl, rfl⟩, ⟨⟨.sl rfl, rfl⟩, ⟨⟨.refl rfl, rfl⟩, ⟨⟨.refl rfl, rfl⟩, ⟨⟨.refl rfl, rfl⟩, ⟨⟨.refl rfl, rfl⟩, trivial⟩⟩⟩⟩⟩⟩⟩⟩⟩⟩⟩ trivial trivial) (Nat.zero_le _) ?_
                              rintro k hk
                              try dsimp only at *
                              refine AWP.seq ?_
                              refine AWP.region ?_
                              refine AOps.call (o_bin _ _ rfl rfl (fun _ => rfl) rfl) ?_
                              refine AOps.nil ?_
                              refine AWP.seq ?_
                              refine AWP.cond _ rfl (fun h123 => ?_) (fun h123 => ?_)
                              · skip
                                have hlt : k < days.length := by have hq := of_decide_eq_true h123; omega
                                have hel := ints_at hlt
                                have hbk := hdb _ (List.getElem_mem hlt)
                                refine AWP.skip ?_
                                refine AWP.seq ?_
                                refine AWP.block ?_
                                refine AWP.seq ?_
                                refine AWP.region ?_
                                refine AOps.call (o_move _ rfl rfl) ?_
                                refine AOps.call (o_index _ _ Tryd.underlying45 Tryd.sizeOf3 rfl rfl (by omega) hel rfl rfl) ?_
                                refine AOps.call (o_loadRd _ rfl Tryd.sizeOf3 Tryd.isAgg3 rfl rfl rfl) ?_
                                refine AOps.call (o_assign _ rfl rfl) ?_
                                refine AOps.call (o_assign _ rfl rfl) ?_
                                refine AOps.nil ?_
                                refine AWP.seq ?_
                                refine AWP.region ?_
                                refine AOps.call (o_move _ rfl rfl) ?_
                                refine AOps.call (o_move _ rfl rfl) ?_
                                refine AOps.call (o_sub _ _ rfl rfl ⟨by (try dsimp only); omega, by (try dsimp only); omega⟩ rfl) ?_
                                refine AOps.call (o_assign _ rfl rfl) ?_
                                refine AOps.nil ?_
                                refine AWP.seq ?_
                                refine AWP.drawn 17 mixed (by kernel_rfl) ?_
                                refine AHead.call (o_move _ rfl rfl) rfl ?_
                                refine AHead.call (o_bin _ _ rfl rfl (fun _ => rfl) rfl) rfl ?_
                                refine AHead.call (o_move _ rfl rfl) rfl ?_
                                refine AHead.split rfl rfl rfl (fun h129 => ?_) (fun h129 => ?_)
                                · skip
                                  have hk0 := of_decide_eq_true h129
                                  refine AHead.go rfl rfl rfl h129 (o_move _ rfl rfl) rfl ?_
                                  refine AHead.go rfl rfl rfl h129 (o_bin _ _ rfl rfl (fun _ => rfl) rfl) rfl ?_
                                  refine AHead.call (o_pickT _ _ _ rfl h129 rfl rfl) rfl ?_
                                  refine AHead.call (o_move _ rfl rfl) rfl ?_
                                  refine AHead.split rfl rfl rfl (fun h131 => ?_) (fun h131 => ?_)
                                  · skip
                                    have hk1 := of_decide_eq_true h131
                                    have hxl : (days[k] - fr).toNat < ext.length := by rw [hextl]; omega
                                    have helx := ints_atI hxl
                                    have hixl := ints_len ext
                                    have hlg : k < grams.length := by omega
                                    have helg := ints_at hlg
                                    have hpin := helly_pin hz0 hd he hP hlt hlg (fr := fr)
                                    have hexk : ext[(days[k] - fr).toNat] = grams[k] := by rw [hextg, show fr + (((days[k] - fr).toNat : Nat) : Int) = days[k] by omega]; exact hpin
                                    refine AHead.go rfl rfl rfl h131 (o_move _ rfl rfl) rfl ?_
                                    refine AHead.go rfl rfl rfl h131 (o_move _ rfl rfl) rfl ?_
                                    refine AHead.go rfl rfl rfl h131 (o_index _ _ Tryd.underlying45 Tryd.sizeOf3 rfl rfl (by omega) helx rfl rfl) rfl ?_
                                    refine AHead.go rfl rfl rfl h131 (o_loadRd _ rfl Tryd.sizeOf3 Tryd.isAgg3 rfl rfl rfl) rfl ?_
                                    refine AHead.go rfl rfl rfl h131 (o_move _ rfl rfl) rfl ?_
                                    refine AHead.go rfl rfl rfl h131 (o_move _ rfl rfl) rfl ?_
                                    refine AHead.go rfl rfl rfl h131 (o_index _ _ Tryd.underlying45 Tryd.sizeOf3 rfl rfl (by omega) helg rfl rfl) rfl ?_
                                    refine AHead.go rfl rfl rfl h131 (o_loadRd _ rfl Tryd.sizeOf3 Tryd.isAgg3 rfl rfl rfl) rfl ?_
                                    refine AHead.go rfl rfl rfl h131 (o_bin _ _ rfl rfl (fun _ => rfl) rfl) rfl ?_
                                    refine AHead.call (o_pickT _ _ _ rfl h131 rfl rfl) rfl ?_
                                    refine AHead.nil ?_
                                    refine AOps.nil ?_
                                    refine AWP.cond _ rfl (fun h138 => ?_) (fun h138 => ?_)
                                    · skip
                                      exfalso
                                      have hh := h138
                                      rw [hexk] at hh
                                      simp at hh
                                    · skip
                                      refine AWP.skip ?_
                                      refine AWP.region ?_
                                      refine AOps.call (o_add _ _ rfl rfl ⟨by (try dsimp only); omega, by (try dsimp only); omega⟩ rfl) ?_
                                      refine AOps.call (o_move _ rfl rfl) ?_
                                      refine AOps.nil ?_
                                      refine ⟨k + 1, ?_, (Weak.mk' rfl ⟨⟨.refl rfl, rfl⟩, ⟨⟨.refl rfl, rfl⟩, ⟨⟨.refl rfl, rfl⟩, ⟨⟨.refl rfl, rfl⟩, ⟨⟨.refl rfl, rfl⟩, ⟨⟨.refl rfl, rfl⟩, ⟨⟨.refl rfl, rfl⟩, ⟨⟨.refl rfl, rfl⟩, ⟨⟨.refl rfl, rfl⟩, ⟨⟨.refl rfl, rfl⟩, ⟨⟨.refl rfl, rfl⟩, trivial⟩⟩⟩⟩⟩⟩⟩⟩⟩⟩⟩ trivial trivial)⟩
                                      exact ⟨by omega, by omega⟩
                                  · skip
                                    refine AHead.pass rfl rfl rfl h131 rfl ?_
                                    refine AHead.pass rfl rfl rfl h131 rfl ?_
                                    refine AHead.pass rfl rfl rfl h131 rfl ?_
                                    refine AHead.pass rfl rfl rfl h131 rfl ?_
                                    refine AHead.pass rfl rfl rfl h131 rfl ?_
                                    refine AHead.pass rfl rfl rfl h131 rfl ?_
                                    refine AHead.pass rfl rfl rfl h131 rfl ?_
                                    refine AHead.pass rfl rfl rfl h131 rfl ?_
                                    refine AHead.pass rfl rfl rfl h131 rfl ?_
                                    refine AHead.call (o_pickF _ _ _ rfl h131 rfl rfl) rfl ?_
                                    refine AHead.nil ?_
                                    refine AOps.nil ?_
                                    refine AWP.condF rfl ?_
                                    refine AWP.skip ?_
                                    refine AWP.region ?_
                                    refine AOps.call (o_add _ _ rfl rfl ⟨by (try dsimp only); omega, by (try dsimp only); omega⟩ rfl) ?_
                                    refine AOps.call (o_move _ rfl rfl) ?_
                                    refine AOps.nil ?_
                                    refine ⟨k + 1, ?_, (Weak.mk' rfl ⟨⟨.refl rfl, rfl⟩, ⟨⟨.refl rfl, rfl⟩, ⟨⟨.refl rfl, rfl⟩, ⟨⟨.refl rfl, rfl⟩, ⟨⟨.refl rfl, rfl⟩, ⟨⟨.refl rfl, rfl⟩, ⟨⟨.refl rfl, rfl⟩, ⟨⟨.refl rfl, rfl⟩, ⟨⟨.refl rfl, rfl⟩, ⟨⟨.refl rfl, rfl⟩, ⟨⟨.refl rfl, rfl⟩, trivial⟩⟩⟩⟩⟩⟩⟩⟩⟩⟩⟩ trivial trivial)⟩
                                    exact ⟨by omega, by omega⟩
                                · skip
                                  refine AHead.pass rfl rfl rfl h129 rfl ?_
                                  refine AHead.pass rfl rfl rfl h129 rfl ?_
                                  refine AHead.call (o_pickF _ _ _ rfl h129 rfl rfl) rfl ?_
                                  refine AHead.call (o_move _ rfl rfl) rfl ?_
                                  refine AHead.pass rfl rfl rfl rfl rfl ?_
                                  refine AHead.pass rfl rfl rfl rfl rfl ?_
                                  refine AHead.pass rfl rfl rfl rfl rfl ?_
                                  refine AHead.pass rfl rfl rfl rfl rfl ?_
                                  refine AHead.pass rfl rfl rfl rfl rfl ?_
                                  refine AHead.pass rfl rfl rfl rfl rfl ?_
                                  refine AHead.pass rfl rfl rfl rfl rfl ?_
                                  refine AHead.pass rfl rfl rfl rfl rfl ?_
                                  refine AHead.pass rfl rfl rfl rfl rfl ?_
                                  refine AHead.call (o_pickF _ _ _ rfl rfl rfl rfl) rfl ?_
                                  refine AHead.nil ?_
                                  refine AOps.nil ?_
                                  refine AWP.condF rfl ?_
                                  refine AWP.skip ?_
                                  refine AWP.region ?_
                                  refine AOps.call (o_add _ _ rfl rfl ⟨by (try dsimp only); omega, by (try dsimp only); omega⟩ rfl) ?_
                                  refine AOps.call (o_move _ rfl rfl) ?_
                                  refine AOps.nil ?_
                                  refine ⟨k + 1, ?_, (Weak.mk' rfl ⟨⟨.refl rfl, rfl⟩, ⟨⟨.refl rfl, rfl⟩, ⟨⟨.refl rfl, rfl⟩, ⟨⟨.refl rfl, rfl⟩, ⟨⟨.refl rfl, rfl⟩, ⟨⟨.refl rfl, rfl⟩, ⟨⟨.refl rfl, rfl⟩, ⟨⟨.refl rfl, rfl⟩, ⟨⟨.refl rfl, rfl⟩, ⟨⟨.refl rfl, rfl⟩, ⟨⟨.refl rfl, rfl⟩, trivial⟩⟩⟩⟩⟩⟩⟩⟩⟩⟩⟩ trivial trivial)⟩
                                  exact ⟨by omega, by omega⟩
                              · skip
                                refine AWP.exit ?_
                                refine AWP.seq ?_
                                refine AWP.seq ?_
                                refine AWP.region ?_
                                refine AOps.call (o_lit Tryd.underlying45 Tryd.sizeOf3 Tryd.zeroValue3 rfl rfl rfl rfl rfl rfl rfl) ?_
                                refine AOps.call (o_len _ Tryd.underlying45 rfl rfl) ?_
                                refine AOps.call (o_move _ rfl rfl) ?_
                                refine AOps.nil ?_
                                refine AWP.block ?_
                                refine AWP.loop (ι := Nat) (fun i => AS.mk' 257 [(1, I dy), (2, .sl (ints days)), (3, .sl (ints grams)), (4, I fr), (5, .rd (eS s)), (11, B (pinB s dy days grams)), (20, .sl (ints acc)), (22, .sl (ints ext)), (205, .sl (ints [0, 20, 63])), (206, I 3), (207, I i)] [] [] []) (fun i => i ≤ 3) (fun i => 3 - i) (0) (Weak.mk' rfl ⟨⟨.refl rfl, rfl⟩, ⟨⟨.refl rfl, rfl⟩, ⟨⟨.refl rfl, rfl⟩, ⟨⟨.refl rfl, rfl⟩, ⟨⟨.refl rfl, rfl⟩, ⟨⟨.refl rfl, rfl⟩, ⟨⟨.refl rfl, rfl⟩, ⟨⟨.refl rfl, rfl⟩, ⟨⟨.sl rfl, rfl⟩, ⟨⟨.refl rfl, rfl⟩, ⟨⟨.refl rfl, rfl⟩, trivial⟩⟩⟩⟩⟩⟩⟩⟩⟩⟩⟩ trivial trivial) (Nat.zero_le _) ?_
                                rintro k hk
                                try dsimp only at *
                                refine AWP.seq ?_
                                refine AWP.region ?_
                                refine AOps.call (o_bin _ _ rfl rfl (fun _ => rfl) rfl) ?_
                                refine AOps.nil ?_
                                refine AWP.seq ?_
                                refine AWP.cond _ rfl (fun h146 => ?_) (fun h146 => ?_)
                                · skip
                                  have hk3 : k < 3 := by have hq := of_decide_eq_true h146; omega
                                  obtain ⟨c, hc64, hck⟩ : ∃ c : Nat, c < 64 ∧ (ints [0, 20, 63])[((k : Nat) : Int).toNat]? = some [I (c : Int)] := by
                                    match k, hk3 with
                                    | 0, _ => exact ⟨0, by omega, rfl⟩
                                    | 1, _ => exact ⟨20, by omega, rfl⟩
                                    | 2, _ => exact ⟨63, by omega, rfl⟩
                                  have hal : acc.length = 64 := by rw [hacc]; exact moreL_len _ _
                                  have hila := ints_len acc
                                  have hile := ints_len ext
                                  have hca : c < acc.length := by omega
                                  have helc : (ints acc)[((c : Nat) : Int).toNat]? = some [I (fr + (c : Int))] := by rw [ints_at hca]; subst hacc; rw [moreL_get]
                                  have hce : c < ext.length := by omega
                                  have hele : (ints ext)[((c : Nat) : Int).toNat]? = some [I (drHi s.rate (pinL s dy days grams) (fr + (c : Int)))] := by rw [ints_at hce, hextg]
                                  have hub := (drHi_top (r := s.rate) (d := fr + (c : Int)) (l := pinL s dy days grams)).1
                                  have hlb := drHi_bd (r := s.rate) (d := fr + (c : Int)) (scaleB_rate hs).1 (pinL_ok (known := dy) hs hd (by have hh := hP; unfold pinB at hh; rw [Bool.and_eq_true] at hh; exact hh.1))
                                  refine AWP.skip ?_
                                  refine AWP.seq ?_
                                  refine AWP.block ?_
                                  refine AWP.seq ?_
                                  refine AWP.region ?_
                                  refine AOps.call (o_index _ _ Tryd.underlying45 Tryd.sizeOf3 rfl rfl (by first | omega | (simp; done) | (simp; omega)) hck rfl rfl) ?_
                                  refine AOps.call (o_loadRd _ rfl Tryd.sizeOf3 Tryd.isAgg3 rfl rfl rfl) ?_
                                  refine AOps.call (o_assign _ rfl rfl) ?_
                                  refine AOps.nil ?_
                                  refine AWP.seq ?_
                                  refine AWP.seq ?_
                                  refine AWP.region ?_
                                  refine AOps.call (o_move _ rfl rfl) ?_
                                  refine AOps.call (o_move _ rfl rfl) ?_
                                  refine AOps.call (o_move _ rfl rfl) ?_
                                  refine AOps.call (o_index _ _ Tryd.underlying45 Tryd.sizeOf3 rfl rfl (by omega) helc rfl rfl) ?_
                                  refine AOps.call (o_loadRd _ rfl Tryd.sizeOf3 Tryd.isAgg3 rfl rfl rfl) ?_
                                  refine AOps.call (o_call (Contains_s days (fr + (c : Int)) (by omega)) Tryd.call39 rfl rfl) ?_
                                  refine AOps.nil ?_
                                  refine AWP.cond _ rfl (fun h153 => ?_) (fun h153 => ?_)
                                  · skip
                                    refine AWP.exit ?_
                                    refine AWP.region ?_
                                    refine AOps.call (o_add _ _ rfl rfl ⟨by (try dsimp only); omega, by (try dsimp only); omega⟩ rfl) ?_
                                    refine AOps.call (o_move _ rfl rfl) ?_
                                    refine AOps.nil ?_
                                    refine ⟨k + 1, ?_, (Weak.mk' rfl ⟨⟨.refl rfl, rfl⟩, ⟨⟨.refl rfl, rfl⟩, ⟨⟨.refl rfl, rfl⟩, ⟨⟨.refl rfl, rfl⟩, ⟨⟨.refl rfl, rfl⟩, ⟨⟨.refl rfl, rfl⟩, ⟨⟨.refl rfl, rfl⟩, ⟨⟨.refl rfl, rfl⟩, ⟨⟨.refl rfl, rfl⟩, ⟨⟨.refl rfl, rfl⟩, ⟨⟨.refl rfl, rfl⟩, trivial⟩⟩⟩⟩⟩⟩⟩⟩⟩⟩⟩ trivial trivial)⟩
                                    exact ⟨by omega, by omega⟩
                                  · skip
                                    have hnc : days.contains (fr + (c : Int)) = false := h153
                                    have hat : days.countP (· < fr + (c : Int)) ≤ days.length := List.countP_le_length
                                    have hdi := daysB_ins (x := fr + (c : Int)) hd (by omega) ⟨by omega, by omega⟩ hnc
                                    have hG := History_s s dy (insL days (days.countP (· < fr + (c : Int))) (fr + (c : Int))) (insL grams (days.countP (· < fr + (c : Int))) (drHi s.rate (pinL s dy days grams) (fr + (c : Int)) + 1))
                                    rw [if_pos (givenE_ok (grams := insL grams _ (drHi s.rate (pinL s dy days grams) (fr + (c : Int)) + 1)) hz0 hdyb hdi (by rw [insL_len, insL_len, he])), no_greater hs he hdi] at hG
                                    refine AWP.skip ?_
                                    refine AWP.seq ?_
                                    refine AWP.region ?_
                                    refine AOps.call (o_move _ rfl rfl) ?_
                                    refine AOps.call (o_move _ rfl rfl) ?_
                                    refine AOps.call (o_move _ rfl rfl) ?_
                                    refine AOps.call (o_index _ _ Tryd.underlying45 Tryd.sizeOf3 rfl rfl (by omega) helc rfl rfl) ?_
                                    refine AOps.call (o_loadRd _ rfl Tryd.sizeOf3 Tryd.isAgg3 rfl rfl rfl) ?_
                                    refine AOps.call (o_call (BinarySearch_s days (fr + (c : Int)) hpw (by omega)) Tryd.call40 rfl rfl) ?_
                                    refine AOps.call (o_move _ rfl rfl) ?_
                                    refine AOps.call (o_extract _ rfl rfl rfl rfl) ?_
                                    refine AOps.call (o_extract _ rfl rfl rfl rfl) ?_
                                    refine AOps.call (o_assign _ rfl rfl) ?_
                                    refine AOps.call (o_assign _ rfl rfl) ?_
                                    refine AOps.nil ?_
                                    refine AWP.seq ?_
                                    refine AWP.drawnP 27 [(10, (230, 0)), (20, (239, 0))] mixed (by kernel_rfl) (by kernel_rfl) ?_
                                    refine AHeadP.call (o_loadRd _ rfl Tryd.sizeOf24 Tryd.isAgg24 rfl rfl rfl) rfl rfl rfl ?_
                                    refine AHeadP.call (o_move _ rfl rfl) rfl rfl rfl ?_
                                    refine AHeadP.call (o_move _ rfl rfl) rfl rfl rfl ?_
                                    refine AHeadP.call (o_callVar (Clone42_v days (by omega) hne) Tryd.call42 rfl rfl) rfl rfl rfl ?_
                                    refine AHeadP.call (o_move _ rfl rfl) rfl rfl rfl ?_
                                    refine AHeadP.call (o_move _ rfl rfl) rfl rfl rfl ?_
                                    refine AHeadP.call (o_move _ rfl rfl) rfl rfl rfl ?_
                                    refine AHeadP.call (o_index _ _ Tryd.underlying45 Tryd.sizeOf3 rfl rfl (by omega) helc rfl rfl) rfl rfl rfl ?_
                                    refine AHeadP.call (o_loadRd _ rfl Tryd.sizeOf3 Tryd.isAgg3 rfl rfl rfl) rfl rfl rfl ?_
                                    refine AHeadP.call (o_litA Tryd.underlying45 Tryd.sizeOf3 Tryd.zeroValue3 rfl rfl rfl rfl rfl rfl rfl rfl) rfl rfl rfl ?_
                                    refine AHeadP.spend (o_callD (230, 0) (236, 0) (.tmp 230) (.tmp 236) (by decide) (Insert41_s days _ (fr + (c : Int)) hne (by omega) hat) Tryd.call41 rfl rfl rfl rfl rfl (by exact closeL_self _ (sc_self (ints_scs days))) rfl rfl) rfl rfl ?_
                                    refine AHeadP.call (o_move _ rfl rfl) rfl rfl rfl ?_
                                    refine AHeadP.call (o_callVar (Clone42_v grams (by omega) (by omega)) Tryd.call42 rfl rfl) rfl rfl rfl ?_
                                    refine AHeadP.call (o_move _ rfl rfl) rfl rfl rfl ?_
                                    refine AHeadP.call (o_move _ rfl rfl) rfl rfl rfl ?_
                                    refine AHeadP.call (o_move _ rfl rfl) rfl rfl rfl ?_
                                    refine AHeadP.call (o_index _ _ Tryd.underlying45 Tryd.sizeOf3 rfl rfl (by omega) hele rfl rfl) rfl rfl rfl ?_
                                    refine AHeadP.call (o_loadRd _ rfl Tryd.sizeOf3 Tryd.isAgg3 rfl rfl rfl) rfl rfl rfl ?_
                                    refine AHeadP.call (o_add _ _ rfl rfl ⟨by (try dsimp only); omega, by (try dsimp only); omega⟩ rfl) rfl rfl rfl ?_
                                    refine AHeadP.call (o_litA Tryd.underlying45 Tryd.sizeOf3 Tryd.zeroValue3 rfl rfl rfl rfl rfl rfl rfl rfl) rfl rfl rfl ?_
                                    refine AHeadP.spend (o_callD (239, 0) (246, 0) (.tmp 239) (.tmp 246) (by decide) (Insert41_s grams _ (drHi s.rate (pinL s dy days grams) (fr + (c : Int)) + 1) (by omega) (by omega) (by omega)) Tryd.call41 rfl rfl rfl rfl rfl (by exact closeL_self _ (sc_self (ints_scs grams))) rfl rfl) rfl rfl ?_
                                    refine AHeadP.call (o_call (hG) Tryd.call26 rfl rfl) rfl rfl rfl ?_
                                    refine AHeadP.call (o_move _ rfl rfl) rfl rfl rfl ?_
                                    refine AHeadP.call (o_extract _ rfl rfl rfl rfl) rfl rfl rfl ?_
                                    refine AHeadP.call (o_extract _ rfl rfl rfl rfl) rfl rfl rfl ?_
                                    refine AHeadP.call (o_assign _ rfl rfl) rfl rfl rfl ?_
                                    refine AHeadP.call (o_assign _ rfl rfl) rfl rfl rfl ?_
                                    refine AHeadP.nil ?_
                                    refine AOps.nil ?_
                                    refine AWP.seq ?_
                                    refine AWP.region ?_
                                    refine AOps.call (o_move _ rfl rfl) ?_
                                    refine AOps.call (o_bin _ _ rfl rfl (fun _ => rfl) rfl) ?_
                                    refine AOps.call (o_move _ rfl rfl) ?_
                                    refine AOps.split rfl rfl rfl (fun h180 => ?_) (fun h180 => ?_)
                                    · skip
                                      refine AOps.go rfl rfl rfl h180 (o_move _ rfl rfl) ?_
                                      refine AOps.call (o_pickF _ _ _ rfl h180 rfl rfl) ?_
                                      refine AOps.nil ?_
                                      refine AWP.cond _ rfl (fun h181 => ?_) (fun h181 => ?_)
                                      · skip
                                        exfalso
                                        have hh := h181
                                        first
                                        | (simp at hh; done)
                                        | (simp at hh; omega)
                                      · skip
                                        refine AWP.skip ?_
                                        refine AWP.region ?_
                                        refine AOps.call (o_add _ _ rfl rfl ⟨by (try dsimp only); omega, by (try dsimp only); omega⟩ rfl) ?_
                                        refine AOps.call (o_move _ rfl rfl) ?_
                                        refine AOps.nil ?_
                                        refine ⟨k + 1, ?_, (Weak.mk' rfl ⟨⟨.refl rfl, rfl⟩, ⟨⟨.refl rfl, rfl⟩, ⟨⟨.refl rfl, rfl⟩, ⟨⟨.refl rfl, rfl⟩, ⟨⟨.refl rfl, rfl⟩, ⟨⟨.refl rfl, rfl⟩, ⟨⟨.refl rfl, rfl⟩, ⟨⟨.refl rfl, rfl⟩, ⟨⟨.refl rfl, rfl⟩, ⟨⟨.refl rfl, rfl⟩, ⟨⟨.refl rfl, rfl⟩, trivial⟩⟩⟩⟩⟩⟩⟩⟩⟩⟩⟩ trivial trivial)⟩
                                        exact ⟨by omega, by omega⟩
                                    · skip
                                      exfalso
                                      have hh := h180
                                      first
                                      | (simp at hh; done)
                                      | (simp at hh; omega)
                                · skip
                                  refine AWP.exit ?_
                                  refine AWP.seq ?_
                                  refine AWP.region ?_
                                  refine AOps.call (o_assign _ rfl rfl) ?_
                                  refine AOps.nil ?_
                                  refine AWP.ret ?_
                                  first
                                  | exact postQ.ret1 Tryd.results7 rfl rfl
                                  | (refine postQ.ret1 Tryd.results7 rfl ?_; rw [hPi]; simp [AV.close, B]; done)
                                  | (exfalso; simp at *; done)
                                  | (refine postQ.ret1 Tryd.results7 rfl ?_; simp [AV.close, B]; done)
                                  | (refine postQ.ret1 Tryd.results7 rfl ?_; simp_all [AV.close, B]; done)
                          · skip
                            exfalso
                            have hh := h111
                            rw [ints_len, hextl] at hh
                            simp at hh
                    · skip
                      exfalso
                      have hh := h102
                      first
                      | (simp at hh; done)
                      | (simp at hh; omega)
              · skip
                refine AOps.pass rfl rfl rfl h78 rfl ?_
                refine AOps.pass rfl rfl rfl h78 rfl ?_
                refine AOps.call (o_pickT _ _ _ rfl h78 rfl rfl) ?_
                refine AOps.nil ?_
                refine AWP.condT rfl ?_
                refine AWP.seq ?_
                refine AWP.region ?_
                refine AOps.call (o_move _ rfl rfl) ?_
                refine AOps.call (o_move _ rfl rfl) ?_
                refine AOps.call (o_bin _ _ rfl rfl (fun _ => rfl) rfl) ?_
                refine AOps.call (o_assign _ rfl rfl) ?_
                refine AOps.nil ?_
                refine AWP.ret ?_
                first
                | exact postQ.ret1 Tryd.results7 rfl rfl
                | (refine postQ.ret1 Tryd.results7 rfl ?_; rw [hPi]; simp [AV.close, B]; done)
                | (exfalso; simp at *; done)
                | (refine postQ.ret1 Tryd.results7 rfl ?_; simp [AV.close, B]; done)
                | (refine postQ.ret1 Tryd.results7 rfl ?_; simp_all [AV.close, B]; done)
            · skip
              exfalso
              have hh := h75
              rw [hPi] at hh
              simp at hh
    · skip
      refine AOps.pass rfl rfl rfl h9 rfl ?_
      refine AOps.pass rfl rfl rfl h9 rfl ?_
      refine AOps.pass rfl rfl rfl h9 rfl ?_
      refine AOps.call (o_pickT _ _ _ rfl h9 rfl rfl) ?_
      refine AOps.nil ?_
      refine AWP.condT rfl ?_
      refine AWP.seq ?_
      refine AWP.region ?_
      refine AOps.call (o_assign _ rfl rfl) ?_
      refine AOps.nil ?_
      refine AWP.ret ?_
      first
      | exact postQ.ret1 Tryd.results7 rfl rfl
      | (refine postQ.ret1 Tryd.results7 rfl ?_; rw [hPi]; simp [AV.close, B]; done)
      | (exfalso; simp at *; done)
      | (refine postQ.ret1 Tryd.results7 rfl ?_; simp [AV.close, B]; done)
      | (refine postQ.ret1 Tryd.results7 rfl ?_; simp_all [AV.close, B]; done)

set_option maxHeartbeats 8000000 in
set_option maxRecDepth 20000 in
theorem CourseHelly_c (s : Scl) (dy : Int) (days grams : List Int) (fr : Int) (hz : givenE s dy days grams = 0) (hne : days = []) (hgr : grams = []) : FSpecG Tryd.prog TAB 7 [.agg (eS s), I dy, .sl (ints days), .sl (ints grams), I fr] (B true) (none) := by
  refine FSpecG.of_body tab_stable Tryd.func7 rfl (leB rfl) fun w0 M0 hG => ?_
  obtain ⟨hask, he, hd⟩ := givenE_0 hz
  obtain ⟨hz0, hdyb⟩ := askE_0 hask
  simp only [List.all_cons, List.all_nil, Bool.and_true] at hdyb
  have hs := scaleE_0 hz0
  have hA := History_s s dy days grams
  rw [if_pos hz] at hA
  have hil := ints_len days
  have hig := ints_len grams
  have hdl := daysB_len hd
  have hdb := daysB_bd hd
  have hpw := daysB_pw hd
  refine AWP.seq ?_
  refine AWP.region ?_
  refine AOps.call (o_box _ rfl rfl rfl) ?_
  refine AOps.call (o_assign _ rfl rfl) ?_
  refine AOps.nil ?_
  refine AWP.seq ?_
  refine AWP.seq ?_
  refine AWP.region ?_
  refine AOps.call (o_callG (sane_s) hG Tryd.call12 rfl rfl) ?_
  refine AOps.call (o_un _ rfl (fun _ => rfl) rfl) ?_
  refine AOps.nil ?_
  refine AWP.cond _ rfl (fun h4 => ?_) (fun h4 => ?_)
  · skip
    refine AWP.seq ?_
    refine AWP.region ?_
    refine AOps.call (o_assign _ rfl rfl) ?_
    refine AOps.nil ?_
    refine AWP.ret ?_
    first
    | exact postQ.ret1 Tryd.results7 rfl rfl
    | (refine postQ.ret1 Tryd.results7 rfl ?_; rw [hPi]; simp [AV.close, B]; done)
    | (exfalso; simp at *; done)
    | (refine postQ.ret1 Tryd.results7 rfl ?_; simp [AV.close, B]; done)
    | (refine postQ.ret1 Tryd.results7 rfl ?_; simp_all [AV.close, B]; done)
  · skip
    refine AWP.skip ?_
    refine AWP.seq ?_
    refine AWP.seq ?_
    refine AWP.region ?_
    refine AOps.weak (Weak.frzv (id := (5, 0)) (t := 5) rfl rfl rfl) ?_
    refine AOps.call (o_fieldRd _ rfl fa24_2 rfl) ?_
    refine AOps.call (o_loadRd _ rfl Tryd.sizeOf22 Tryd.isAgg22 rfl rfl rfl) ?_
    refine AOps.call (o_len _ Tryd.underlying22 rfl rfl) ?_
    refine AOps.call (o_bin _ _ rfl rfl (fun _ => rfl) rfl) ?_
    refine AOps.call (o_move _ rfl rfl) ?_
    refine AOps.split rfl rfl rfl (fun h9 => ?_) (fun h9 => ?_)
    · skip
      have h100 : s.tests.length ≤ 100 := by have hq := of_decide_eq_false h9; rw [tests_len] at hq; omega
      refine AOps.go rfl rfl rfl h9 (o_move _ rfl rfl) ?_
      refine AOps.go rfl rfl rfl h9 (o_len _ Tryd.underlying45 rfl rfl) ?_
      refine AOps.go rfl rfl rfl h9 (o_bin _ _ rfl rfl (fun _ => rfl) rfl) ?_
      refine AOps.call (o_pickF _ _ _ rfl h9 rfl rfl) ?_
      refine AOps.nil ?_
      refine AWP.cond _ rfl (fun h13 => ?_) (fun h13 => ?_)
      · skip
        refine AWP.seq ?_
        refine AWP.region ?_
        refine AOps.call (o_assign _ rfl rfl) ?_
        refine AOps.nil ?_
        refine AWP.ret ?_
        first
        | exact postQ.ret1 Tryd.results7 rfl rfl
        | (refine postQ.ret1 Tryd.results7 rfl ?_; rw [hPi]; simp [AV.close, B]; done)
        | (exfalso; simp at *; done)
        | (refine postQ.ret1 Tryd.results7 rfl ?_; simp [AV.close, B]; done)
        | (refine postQ.ret1 Tryd.results7 rfl ?_; simp_all [AV.close, B]; done)
      · skip
        have hd8 : days.length ≤ 8 := by have hq := of_decide_eq_false h13; rw [ints_len] at hq; omega
        refine AWP.skip ?_
        refine AWP.seq ?_
        refine AWP.region ?_
        refine AOps.call (o_loadRd _ rfl Tryd.sizeOf24 Tryd.isAgg24 rfl rfl rfl) ?_
        refine AOps.call (o_move _ rfl rfl) ?_
        refine AOps.call (o_move _ rfl rfl) ?_
        refine AOps.call (o_move _ rfl rfl) ?_
        refine AOps.call (o_call (hA) Tryd.call26 rfl rfl) ?_
        refine AOps.call (o_move _ rfl rfl) ?_
        refine AOps.call (o_extract _ rfl rfl rfl rfl) ?_
        refine AOps.call (o_extract _ rfl rfl rfl rfl) ?_
        refine AOps.call (o_assign _ rfl rfl) ?_
        refine AOps.call (o_assign _ rfl rfl) ?_
        refine AOps.nil ?_
        refine AWP.seq ?_
        refine AWP.seq ?_
        refine AWP.region ?_
        refine AOps.call (o_move _ rfl rfl) ?_
        refine AOps.call (o_bin _ _ rfl rfl (fun _ => rfl) rfl) ?_
        refine AOps.nil ?_
        refine AWP.cond _ rfl (fun h22 => ?_) (fun h22 => ?_)
        · skip
          exfalso
          have hh := h22
          first
          | (simp at hh; done)
          | (simp at hh; omega)
        · skip
          refine AWP.skip ?_
          refine AWP.seq ?_
          refine AWP.region ?_
          refine AOps.call (o_assign _ rfl rfl) ?_
          refine AOps.nil ?_
          refine AWP.seq ?_
          refine AWP.seq ?_
          refine AWP.region ?_
          refine AOps.call (o_move _ rfl rfl) ?_
          refine AOps.call (o_len _ Tryd.underlying45 rfl rfl) ?_
          refine AOps.call (o_move _ rfl rfl) ?_
          refine AOps.nil ?_
          refine AWP.block ?_
          refine AWP.loop (ι := Nat) (fun i => AS.mk' 257 [(1, I dy), (2, .sl (ints days)), (3, .sl (ints grams)), (4, I fr), (5, .rd (eS s)), (11, B (pinB s dy days grams)), (13, B (pinB s dy (days.take i) (grams.take i))), (56, .sl (ints days)), (57, I (ints days).length), (58, I i)] [] [] []) (fun i => i ≤ days.length) (fun i => days.length - i) (0) (Weak.mk' rfl ⟨⟨.refl rfl, rfl⟩, ⟨⟨.refl rfl, rfl⟩, ⟨⟨.refl rfl, rfl⟩, ⟨⟨.refl rfl, rfl⟩, ⟨⟨.refl rfl, rfl⟩, ⟨⟨.refl rfl, rfl⟩, ⟨⟨.refl (by rw [List.take_zero, List.take_zero, pin_nil hz0]; rfl), rfl⟩, ⟨⟨.refl rfl, rfl⟩, ⟨⟨.refl rfl, rfl⟩, ⟨⟨.refl rfl, rfl⟩, trivial⟩⟩⟩⟩⟩⟩⟩⟩⟩⟩ trivial trivial) (Nat.zero_le _) ?_
          rintro k hk
          try dsimp only at *
          refine AWP.seq ?_
          refine AWP.region ?_
          refine AOps.call (o_bin _ _ rfl rfl (fun _ => rfl) rfl) ?_
          refine AOps.nil ?_
          refine AWP.seq ?_
          refine AWP.cond _ rfl (fun h27 => ?_) (fun h27 => ?_)
          · skip
            have hlt : k < days.length := by have hq := of_decide_eq_true h27; omega
            have hlg : k < grams.length := by omega
            have hel := ints_at hlt
            have helg := ints_at hlg
            have hbk := hdb _ (List.getElem_mem hlt)
            have hOne := History_s s dy [days[k]] [grams[k]]
            rw [if_pos (givenE_ok (grams := [grams[k]]) hz0 hdyb (daysB1 hbk) rfl)] at hOne
            have hstep1 := pin_step (k := dy) hz0 he hlt hlg
            refine AWP.skip ?_
            refine AWP.seq ?_
            refine AWP.block ?_
            refine AWP.seq ?_
            refine AWP.region ?_
            refine AOps.call (o_move _ rfl rfl) ?_
            refine AOps.call (o_assign _ rfl rfl) ?_
            refine AOps.nil ?_
            refine AWP.seq ?_
            refine AWP.seq ?_
            refine AWP.region ?_
            refine AOps.call (o_move _ rfl rfl) ?_
            refine AOps.call (o_move _ rfl rfl) ?_
            refine AOps.nil ?_
            refine AWP.block ?_
            refine AWP.loop (ι := Nat) (fun i => AS.mk' 257 [(1, I dy), (2, .sl (ints days)), (3, .sl (ints grams)), (4, I fr), (5, .rd (eS s)), (11, B (pinB s dy days grams)), (13, B (pinB s dy (days.take k) (grams.take k) && (List.range i).all (fun j => pinB s dy [days.getD j 0, days[k]] [grams.getD j 0, grams[k]]))), (14, I k), (56, .sl (ints days)), (57, I (ints days).length), (58, I k), (61, I k), (62, I i)] [] [] []) (fun i => i ≤ k) (fun i => k - i) (0) (Weak.mk' rfl ⟨⟨.refl rfl, rfl⟩, ⟨⟨.refl rfl, rfl⟩, ⟨⟨.refl rfl, rfl⟩, ⟨⟨.refl rfl, rfl⟩, ⟨⟨.refl rfl, rfl⟩, ⟨⟨.refl rfl, rfl⟩, ⟨⟨.refl (by rw [all0]; rfl), rfl⟩, ⟨⟨.refl rfl, rfl⟩, ⟨⟨.refl rfl, rfl⟩, ⟨⟨.refl rfl, rfl⟩, ⟨⟨.refl rfl, rfl⟩, ⟨⟨.refl rfl, rfl⟩, ⟨⟨.refl rfl, rfl⟩, trivial⟩⟩⟩⟩⟩⟩⟩⟩⟩⟩⟩⟩⟩ trivial trivial) (Nat.zero_le _) ?_
            rintro j hj
            try dsimp only at *
            refine AWP.seq ?_
            refine AWP.region ?_
            refine AOps.call (o_bin _ _ rfl rfl (fun _ => rfl) rfl) ?_
            refine AOps.nil ?_
            refine AWP.seq ?_
            refine AWP.cond _ rfl (fun h30 => ?_) (fun h30 => ?_)
            · skip
              have hjk : j < k := by have hq := of_decide_eq_true h30; omega
              have hjl : j < days.length := by omega
              have hjg : j < grams.length := by omega
              have hel2 := ints_at hjl
              have helg2 := ints_at hjg
              have hgd : days.getD j 0 = days[j] := by simp [hjl]
              have hgg : grams.getD j 0 = grams[j] := by simp [hjg]
              have hPair := History_s s dy [days[j], days[k]] [grams[j], grams[k]]
              rw [if_pos (givenE_ok (grams := [grams[j], grams[k]]) hz0 hdyb (daysB2 (hdb _ (List.getElem_mem hjl)) hbk (List.pairwise_iff_getElem.1 hpw _ _ hjl hlt hjk)) rfl)] at hPair
              refine AWP.skip ?_
              refine AWP.seq ?_
              refine AWP.block ?_
              refine AWP.seq ?_
              refine AWP.region ?_
              refine AOps.call (o_move _ rfl rfl) ?_
              refine AOps.call (o_assign _ rfl rfl) ?_
              refine AOps.nil ?_
              refine AWP.seq ?_
              refine AWP.drawn 26 mixed (by kernel_rfl) ?_
              refine AHead.call (o_loadRd _ rfl Tryd.sizeOf24 Tryd.isAgg24 rfl rfl rfl) rfl ?_
              refine AHead.call (o_move _ rfl rfl) rfl ?_
              refine AHead.call (o_move _ rfl rfl) rfl ?_
              refine AHead.call (o_move _ rfl rfl) rfl ?_
              refine AHead.call (o_index _ _ Tryd.underlying45 Tryd.sizeOf3 rfl rfl (by omega) hel2 rfl rfl) rfl ?_
              refine AHead.call (o_loadRd _ rfl Tryd.sizeOf3 Tryd.isAgg3 rfl rfl rfl) rfl ?_
              refine AHead.call (o_move _ rfl rfl) rfl ?_
              refine AHead.call (o_move _ rfl rfl) rfl ?_
              refine AHead.call (o_index _ _ Tryd.underlying45 Tryd.sizeOf3 rfl rfl (by omega) hel rfl rfl) rfl ?_
              refine AHead.call (o_loadRd _ rfl Tryd.sizeOf3 Tryd.isAgg3 rfl rfl rfl) rfl ?_
              refine AHead.call (o_lit Tryd.underlying45 Tryd.sizeOf3 Tryd.zeroValue3 rfl rfl rfl rfl rfl rfl rfl) rfl ?_
              refine AHead.call (o_move _ rfl rfl) rfl ?_
              refine AHead.call (o_move _ rfl rfl) rfl ?_
              refine AHead.call (o_index _ _ Tryd.underlying45 Tryd.sizeOf3 rfl rfl (by omega) helg2 rfl rfl) rfl ?_
              refine AHead.call (o_loadRd _ rfl Tryd.sizeOf3 Tryd.isAgg3 rfl rfl rfl) rfl ?_
              refine AHead.call (o_move _ rfl rfl) rfl ?_
              refine AHead.call (o_move _ rfl rfl) rfl ?_
              refine AHead.call (o_index _ _ Tryd.underlying45 Tryd.sizeOf3 rfl rfl (by omega) helg rfl rfl) rfl ?_
              refine AHead.call (o_loadRd _ rfl Tryd.sizeOf3 Tryd.isAgg3 rfl rfl rfl) rfl ?_
              refine AHead.call (o_lit Tryd.underlying45 Tryd.sizeOf3 Tryd.zeroValue3 rfl rfl rfl rfl rfl rfl rfl) rfl ?_
              refine AHead.call (o_call (hPair) Tryd.call26 rfl rfl) rfl ?_
              refine AHead.call (o_move _ rfl rfl) rfl ?_
              refine AHead.call (o_extract _ rfl rfl rfl rfl) rfl ?_
              refine AHead.call (o_extract _ rfl rfl rfl rfl) rfl ?_
              refine AHead.call (o_assign _ rfl rfl) rfl ?_
              refine AHead.call (o_assign _ rfl rfl) rfl ?_
              refine AHead.nil ?_
              refine AOps.nil ?_
              refine AWP.seq ?_
              refine AWP.seq ?_
              refine AWP.region ?_
              refine AOps.call (o_move _ rfl rfl) ?_
              refine AOps.call (o_bin _ _ rfl rfl (fun _ => rfl) rfl) ?_
              refine AOps.nil ?_
              refine AWP.cond _ rfl (fun h51 => ?_) (fun h51 => ?_)
              · skip
                exfalso
                have hh := h51
                first
                | (simp at hh; done)
                | (simp at hh; omega)
              · skip
                refine AWP.skip ?_
                refine AWP.region ?_
                refine AOps.call (o_move _ rfl rfl) ?_
                refine AOps.call (o_move _ rfl rfl) ?_
                refine AOps.split rfl rfl rfl (fun h53 => ?_) (fun h53 => ?_)
                · skip
                  have hcur := h53
                  refine AOps.go rfl rfl rfl h53 (o_move _ rfl rfl) ?_
                  refine AOps.call (o_pickT _ _ _ rfl h53 rfl rfl) ?_
                  refine AOps.call (o_assign _ rfl rfl) ?_
                  refine AOps.nil ?_
                  refine AWP.region ?_
                  refine AOps.call (o_add _ _ rfl rfl ⟨by (try dsimp only); omega, by (try dsimp only); omega⟩ rfl) ?_
                  refine AOps.call (o_move _ rfl rfl) ?_
                  refine AOps.nil ?_
                  refine ⟨j + 1, ?_, (Weak.mk' rfl ⟨⟨.refl rfl, rfl⟩, ⟨⟨.refl rfl, rfl⟩, ⟨⟨.refl rfl, rfl⟩, ⟨⟨.refl rfl, rfl⟩, ⟨⟨.refl rfl, rfl⟩, ⟨⟨.refl rfl, rfl⟩, ⟨⟨.refl (by rw [all_next, hcur, hgd, hgg]; rfl), rfl⟩, ⟨⟨.refl rfl, rfl⟩, ⟨⟨.refl rfl, rfl⟩, ⟨⟨.refl rfl, rfl⟩, ⟨⟨.refl rfl, rfl⟩, ⟨⟨.refl rfl, rfl⟩, ⟨⟨.refl rfl, rfl⟩, trivial⟩⟩⟩⟩⟩⟩⟩⟩⟩⟩⟩⟩⟩ trivial trivial)⟩
                  exact ⟨by omega, by omega⟩
                · skip
                  have hcur := h53
                  refine AOps.pass rfl rfl rfl h53 rfl ?_
                  refine AOps.call (o_pickF _ _ _ rfl h53 rfl rfl) ?_
                  refine AOps.call (o_assign _ rfl rfl) ?_
                  refine AOps.nil ?_
                  refine AWP.region ?_
                  refine AOps.call (o_add _ _ rfl rfl ⟨by (try dsimp only); omega, by (try dsimp only); omega⟩ rfl) ?_
                  refine AOps.call (o_move _ rfl rfl) ?_
                  refine AOps.nil ?_
                  refine ⟨j + 1, ?_, (Weak.mk' rfl ⟨⟨.refl rfl, rfl⟩, ⟨⟨.refl rfl, rfl⟩, ⟨⟨.refl rfl, rfl⟩, ⟨⟨.refl rfl, rfl⟩, ⟨⟨.refl rfl, rfl⟩, ⟨⟨.refl rfl, rfl⟩, ⟨⟨.refl (by rw [all_next, hcur, hgd, hgg]; rfl), rfl⟩, ⟨⟨.refl rfl, rfl⟩, ⟨⟨.refl rfl, rfl⟩, ⟨⟨.refl rfl, rfl⟩, ⟨⟨.refl rfl, rfl⟩, ⟨⟨.refl rfl, rfl⟩, ⟨⟨.refl rfl, rfl⟩, trivial⟩⟩⟩⟩⟩⟩⟩⟩⟩⟩⟩⟩⟩ trivial trivial)⟩
                  exact ⟨by omega, by omega⟩
            · skip
              obtain rfl : k = j := by have hq := of_decide_eq_false h30; omega
              refine AWP.exit ?_
              refine AWP.seq ?_
              refine AWP.drawn 18 mixed (by kernel_rfl) ?_
              refine AHead.call (o_loadRd _ rfl Tryd.sizeOf24 Tryd.isAgg24 rfl rfl rfl) rfl ?_
              refine AHead.call (o_move _ rfl rfl) rfl ?_
              refine AHead.call (o_move _ rfl rfl) rfl ?_
              refine AHead.call (o_move _ rfl rfl) rfl ?_
              refine AHead.call (o_move _ rfl rfl) rfl ?_
              refine AHead.call (o_add _ _ rfl rfl ⟨by (try dsimp only); omega, by (try dsimp only); omega⟩ rfl) rfl ?_
              refine AHead.call (o_sliceE _ _ _ Tryd.underlying45 Tryd.sizeOf3 rfl (boundA_some rfl (by omega) rfl) (boundA_some rfl (by omega) (by omega : _ = k + 1)) (by omega) (by omega) ints_z (ints_one hlt) rfl) rfl ?_
              refine AHead.call (o_move _ rfl rfl) rfl ?_
              refine AHead.call (o_move _ rfl rfl) rfl ?_
              refine AHead.call (o_move _ rfl rfl) rfl ?_
              refine AHead.call (o_add _ _ rfl rfl ⟨by (try dsimp only); omega, by (try dsimp only); omega⟩ rfl) rfl ?_
              refine AHead.call (o_sliceE _ _ _ Tryd.underlying45 Tryd.sizeOf3 rfl (boundA_some rfl (by omega) rfl) (boundA_some rfl (by omega) (by omega : _ = k + 1)) (by omega) (by omega) ints_z (ints_one hlg) rfl) rfl ?_
              refine AHead.call (o_call (hOne) Tryd.call26 rfl rfl) rfl ?_
              refine AHead.call (o_move _ rfl rfl) rfl ?_
              refine AHead.call (o_extract _ rfl rfl rfl rfl) rfl ?_
              refine AHead.call (o_extract _ rfl rfl rfl rfl) rfl ?_
              refine AHead.call (o_assign _ rfl rfl) rfl ?_
              refine AHead.call (o_assign _ rfl rfl) rfl ?_
              refine AHead.nil ?_
              refine AOps.nil ?_
              refine AWP.seq ?_
              refine AWP.seq ?_
              refine AWP.region ?_
              refine AOps.call (o_move _ rfl rfl) ?_
              refine AOps.call (o_bin _ _ rfl rfl (fun _ => rfl) rfl) ?_
              refine AOps.nil ?_
              refine AWP.cond _ rfl (fun h68 => ?_) (fun h68 => ?_)
              · skip
                exfalso
                have hh := h68
                first
                | (simp at hh; done)
                | (simp at hh; omega)
              · skip
                refine AWP.skip ?_
                refine AWP.region ?_
                refine AOps.call (o_move _ rfl rfl) ?_
                refine AOps.call (o_move _ rfl rfl) ?_
                refine AOps.split rfl rfl rfl (fun h70 => ?_) (fun h70 => ?_)
                · skip
                  have hcur1 := h70
                  refine AOps.go rfl rfl rfl h70 (o_move _ rfl rfl) ?_
                  refine AOps.call (o_pickT _ _ _ rfl h70 rfl rfl) ?_
                  refine AOps.call (o_assign _ rfl rfl) ?_
                  refine AOps.nil ?_
                  refine AWP.region ?_
                  refine AOps.call (o_add _ _ rfl rfl ⟨by (try dsimp only); omega, by (try dsimp only); omega⟩ rfl) ?_
                  refine AOps.call (o_move _ rfl rfl) ?_
                  refine AOps.nil ?_
                  refine ⟨k + 1, ?_, (Weak.mk' rfl ⟨⟨.refl rfl, rfl⟩, ⟨⟨.refl rfl, rfl⟩, ⟨⟨.refl rfl, rfl⟩, ⟨⟨.refl rfl, rfl⟩, ⟨⟨.refl rfl, rfl⟩, ⟨⟨.refl rfl, rfl⟩, ⟨⟨.refl (by rw [hstep1, hcur1]; rfl), rfl⟩, ⟨⟨.refl rfl, rfl⟩, ⟨⟨.refl rfl, rfl⟩, ⟨⟨.refl rfl, rfl⟩, trivial⟩⟩⟩⟩⟩⟩⟩⟩⟩⟩ trivial trivial)⟩
                  exact ⟨by omega, by omega⟩
                · skip
                  have hcur1 := h70
                  refine AOps.pass rfl rfl rfl h70 rfl ?_
                  refine AOps.call (o_pickF _ _ _ rfl h70 rfl rfl) ?_
                  refine AOps.call (o_assign _ rfl rfl) ?_
                  refine AOps.nil ?_
                  refine AWP.region ?_
                  refine AOps.call (o_add _ _ rfl rfl ⟨by (try dsimp only); omega, by (try dsimp only); omega⟩ rfl) ?_
                  refine AOps.call (o_move _ rfl rfl) ?_
                  refine AOps.nil ?_
                  refine ⟨k + 1, ?_, (Weak.mk' rfl ⟨⟨.refl rfl, rfl⟩, ⟨⟨.refl rfl, rfl⟩, ⟨⟨.refl rfl, rfl⟩, ⟨⟨.refl rfl, rfl⟩, ⟨⟨.refl rfl, rfl⟩, ⟨⟨.refl rfl, rfl⟩, ⟨⟨.refl (by rw [hstep1, hcur1]; rfl), rfl⟩, ⟨⟨.refl rfl, rfl⟩, ⟨⟨.refl rfl, rfl⟩, ⟨⟨.refl rfl, rfl⟩, trivial⟩⟩⟩⟩⟩⟩⟩⟩⟩⟩ trivial trivial)⟩
                  exact ⟨by omega, by omega⟩
          · skip
            have hke : k = days.length := by have hq := of_decide_eq_false h27; omega
            have hPi : pinB s dy (days.take k) (grams.take k) = pinB s dy days grams := by rw [hke, List.take_length, he, List.take_length]
            refine AWP.exit ?_
            refine AWP.seq ?_
            refine AWP.seq ?_
            refine AWP.region ?_
            refine AOps.call (o_move _ rfl rfl) ?_
            refine AOps.call (o_move _ rfl rfl) ?_
            refine AOps.call (o_bin _ _ rfl rfl (fun _ => rfl) rfl) ?_
            refine AOps.call (o_move _ rfl rfl) ?_
            refine AOps.split rfl rfl rfl (fun h75 => ?_) (fun h75 => ?_)
            · skip
              refine AOps.go rfl rfl rfl h75 (o_move _ rfl rfl) ?_
              refine AOps.go rfl rfl rfl h75 (o_bin _ _ rfl rfl (fun _ => rfl) rfl) ?_
              refine AOps.call (o_pickF _ _ _ rfl h75 rfl rfl) ?_
              refine AOps.call (o_move _ rfl rfl) ?_
              refine AOps.split rfl rfl rfl (fun h78 => ?_) (fun h78 => ?_)
              · skip
                have hf0 := of_decide_eq_false h78
                refine AOps.go rfl rfl rfl h78 (o_move _ rfl rfl) ?_
                refine AOps.go rfl rfl rfl h78 (o_bin _ _ rfl rfl (fun _ => rfl) rfl) ?_
                refine AOps.call (o_pickF _ _ _ rfl h78 rfl rfl) ?_
                refine AOps.nil ?_
                refine AWP.cond _ rfl (fun h81 => ?_) (fun h81 => ?_)
                · skip
                  refine AWP.seq ?_
                  refine AWP.region ?_
                  refine AOps.call (o_move _ rfl rfl) ?_
                  refine AOps.call (o_move _ rfl rfl) ?_
                  refine AOps.call (o_bin _ _ rfl rfl (fun _ => rfl) rfl) ?_
                  refine AOps.call (o_assign _ rfl rfl) ?_
                  refine AOps.nil ?_
                  refine AWP.ret ?_
                  first
                  | exact postQ.ret1 Tryd.results7 rfl rfl
                  | (refine postQ.ret1 Tryd.results7 rfl ?_; rw [hPi]; simp [AV.close, B]; done)
                  | (exfalso; simp at *; done)
                  | (refine postQ.ret1 Tryd.results7 rfl ?_; simp [AV.close, B]; done)
                  | (refine postQ.ret1 Tryd.results7 rfl ?_; simp_all [AV.close, B]; done)
                · skip
                  have hf1 := of_decide_eq_false h81
                  have hfr : 0 ≤ fr ∧ fr ≤ 1048512 := ⟨by omega, by omega⟩
                  refine AWP.skip ?_
                  refine AWP.seq ?_
                  refine AWP.region ?_
                  refine AOps.call (o_nil (z := 1) (e := 3) rfl) ?_
                  refine AOps.nil ?_
                  refine AWP.seq ?_
                  refine AWP.seq ?_
                  refine AWP.region ?_
                  refine AOps.call (o_move _ rfl rfl) ?_
                  refine AOps.nil ?_
                  refine AWP.block ?_
                  refine AWP.loop (ι := Nat × List Int) (fun i => AS.mk' 257 [(1, I dy), (2, .sl (ints days)), (3, .sl (ints grams)), (4, I fr), (5, .rd (eS s)), (11, B (pinB s dy days grams)), (20, .own (20, 0) (ints i.2)), (133, I i.1)] [] [((20, 0), ((ints i.2).length, 1, 3))] [(20, 1)]) (fun i => i.1 ≤ 64 ∧ i.2 = moreL fr i.1) (fun i => 64 - i.1) (0, []) (Weak.mk' rfl ⟨⟨.refl rfl, rfl⟩, ⟨⟨.refl rfl, rfl⟩, ⟨⟨.refl rfl, rfl⟩, ⟨⟨.refl rfl, rfl⟩, ⟨⟨.refl rfl, rfl⟩, ⟨⟨.refl rfl, rfl⟩, ⟨⟨.refl rfl, rfl⟩, ⟨⟨.refl rfl, rfl⟩, trivial⟩⟩⟩⟩⟩⟩⟩⟩ trivial ⟨⟨rfl, rfl⟩, trivial⟩) (⟨Nat.zero_le _, rfl⟩) ?_
                  rintro ⟨j, acc⟩ ⟨hj, hacc⟩
                  try dsimp only at *
                  refine AWP.seq ?_
                  refine AWP.region ?_
                  refine AOps.call (o_bin _ _ rfl rfl (fun _ => rfl) rfl) ?_
                  refine AOps.nil ?_
                  refine AWP.seq ?_
                  refine AWP.cond _ rfl (fun h87 => ?_) (fun h87 => ?_)
                  · skip
                    have hj64 : j < 64 := by have hq := of_decide_eq_true h87; omega
                    have hal : acc.length = j := by rw [hacc]; exact moreL_len _ _
                    refine AWP.skip ?_
                    refine AWP.seq ?_
                    refine AWP.block ?_
                    refine AWP.seq ?_
                    refine AWP.region ?_
                    refine AOps.call (o_move _ rfl rfl) ?_
                    refine AOps.call (o_assign _ rfl rfl) ?_
                    refine AOps.nil ?_
                    refine AWP.region ?_
                    refine AOps.call (o_move _ rfl rfl) ?_
                    refine AOps.call (o_move _ rfl rfl) ?_
                    refine AOps.call (o_move _ rfl rfl) ?_
                    refine AOps.call (o_add _ _ rfl rfl ⟨by (try dsimp only); omega, by (try dsimp only); omega⟩ rfl) ?_
                    refine AOps.call (o_lit Tryd.underlying45 Tryd.sizeOf3 Tryd.zeroValue3 rfl rfl rfl rfl rfl rfl rfl) ?_
                    refine AOps.cons (o_append _ _ Tryd.underlying45 info3 rfl rfl rfl rfl rfl rfl rfl rfl (fun c hc => by simp at hc; subst hc; rfl) ints_z (by
                        rw [ints_len]; simp only [List.length_cons, List.length_nil, Nat.zero_add]; unfold Tryd.t3; simp only []; omega) rfl (ints_snoc acc _) rfl) ?_
                    refine AOps.call (o_assign _ rfl rfl) ?_
                    refine AOps.nil ?_
                    refine AWP.region ?_
                    refine AOps.call (o_add _ _ rfl rfl ⟨by (try dsimp only); omega, by (try dsimp only); omega⟩ rfl) ?_
                    refine AOps.call (o_move _ rfl rfl) ?_
                    refine AOps.nil ?_
                    refine ⟨(j + 1, _), ?_, (Weak.mk' rfl ⟨⟨.refl rfl, rfl⟩, ⟨⟨.refl rfl, rfl⟩, ⟨⟨.refl rfl, rfl⟩, ⟨⟨.refl rfl, rfl⟩, ⟨⟨.refl rfl, rfl⟩, ⟨⟨.refl rfl, rfl⟩, ⟨⟨.refl rfl, rfl⟩, ⟨⟨.refl rfl, rfl⟩, trivial⟩⟩⟩⟩⟩⟩⟩⟩ trivial ⟨⟨rfl, rfl⟩, trivial⟩)⟩
                    refine ⟨⟨by simp only []; omega, ?_⟩, by simp only []; omega⟩
                    rw [moreL_succ, ← hacc]
                  · skip
                    obtain rfl : j = 64 := by have hq := of_decide_eq_false h87; omega
                    obtain ⟨ext, hE, hx1, hx0⟩ : ∃ ext : List Int, FSpec Tryd.prog 28 [.agg (eS s), I dy, .sl (ints days), .sl (ints grams), .sl (ints acc)] (.tup [.sl (ints ext), B (pinB s dy days grams), I 0]) none ∧ (pinB s dy days grams = true → ext = extL s dy days grams acc) ∧ (pinB s dy days grams = false → ext = []) := by
                      have h1 := Extend_s s dy days grams acc
                      rw [if_pos hz, if_pos (by rw [hacc]; exact moreL_days hfr)] at h1
                      cases hp : pinB s dy days grams with
                      | true => rw [hp] at h1; exact ⟨_, h1, fun _ => rfl, (fun h => by cases h)⟩
                      | false => rw [hp] at h1; exact ⟨[], h1, (fun h => by cases h), fun _ => rfl⟩
                    refine AWP.exit ?_
                    refine AWP.seq ?_
                    refine AWP.region ?_
                    refine AOps.call (o_loadRd _ rfl Tryd.sizeOf24 Tryd.isAgg24 rfl rfl rfl) ?_
                    refine AOps.call (o_move _ rfl rfl) ?_
                    refine AOps.call (o_move _ rfl rfl) ?_
                    refine AOps.call (o_move _ rfl rfl) ?_
                    refine AOps.call (o_move _ rfl rfl) ?_
                    refine AOps.call (o_call (hE) Tryd.call28 rfl rfl) ?_
                    refine AOps.call (o_move _ rfl rfl) ?_
                    refine AOps.call (o_extract _ rfl rfl rfl rfl) ?_
                    refine AOps.call (o_extract _ rfl rfl rfl rfl) ?_
                    refine AOps.call (o_extract _ rfl rfl rfl rfl) ?_
                    refine AOps.call (o_assign _ rfl rfl) ?_
                    refine AOps.call (o_assign _ rfl rfl) ?_
                    refine AOps.call (o_assign _ rfl rfl) ?_
                    refine AOps.nil ?_
                    refine AWP.seq ?_
                    refine AWP.seq ?_
                    refine AWP.region ?_
                    refine AOps.call (o_move _ rfl rfl) ?_
                    refine AOps.call (o_bin _ _ rfl rfl (fun _ => rfl) rfl) ?_
                    refine AOps.call (o_move _ rfl rfl) ?_
                    refine AOps.split rfl rfl rfl (fun h102 => ?_) (fun h102 => ?_)
                    · skip
                      refine AOps.go rfl rfl rfl h102 (o_move _ rfl rfl) ?_
                      refine AOps.go rfl rfl rfl h102 (o_move _ rfl rfl) ?_
                      refine AOps.go rfl rfl rfl h102 (o_bin _ _ rfl rfl (fun _ => rfl) rfl) ?_
                      refine AOps.call (o_pickF _ _ _ rfl h102 rfl rfl) ?_
                      refine AOps.nil ?_
                      refine AWP.cond _ rfl (fun h104 => ?_) (fun h104 => ?_)
                      · skip
                        exfalso
                        have hh := h104
                        simp at hh
                      · skip
                        refine AWP.skip ?_
                        refine AWP.seq ?_
                        refine AWP.seq ?_
                        refine AWP.region ?_
                        refine AOps.call (o_move _ rfl rfl) ?_
                        refine AOps.call (o_un _ rfl (fun _ => rfl) rfl) ?_
                        refine AOps.nil ?_
                        refine AWP.cond _ rfl (fun h106 => ?_) (fun h106 => ?_)
                        · skip
                          have hP : pinB s dy days grams = false := by simpa using h106
                          obtain rfl := hx0 hP
                          refine AWP.seq ?_
                          refine AWP.region ?_
                          refine AOps.call (o_move _ rfl rfl) ?_
                          refine AOps.call (o_len _ Tryd.underlying45 rfl rfl) ?_
                          refine AOps.call (o_bin _ _ rfl rfl (fun _ => rfl) rfl) ?_
                          refine AOps.call (o_assign _ rfl rfl) ?_
                          refine AOps.nil ?_
                          refine AWP.ret ?_
                          first
                          | exact postQ.ret1 Tryd.results7 rfl rfl
                          | (refine postQ.ret1 Tryd.results7 rfl ?_; rw [hPi]; simp [AV.close, B]; done)
                          | (exfalso; simp at *; done)
                          | (refine postQ.ret1 Tryd.results7 rfl ?_; simp [AV.close, B]; done)
                          | (refine postQ.ret1 Tryd.results7 rfl ?_; simp_all [AV.close, B]; done)
                        · skip
                          have hP : pinB s dy days grams = true := by
                            have hh := h106
                            simpa using hh
                          have hext := hx1 hP
                          rw [hacc] at hext
                          have hextl : ext.length = 64 := by rw [hext]; unfold extL; rw [List.length_map, moreL_len]
                          have hextg : ∀ (i : Nat) (h : i < ext.length), ext[i] = drHi s.rate (pinL s dy days grams) (fr + (i : Int)) := fun i h => by subst hext; simp only [extL, List.getElem_map]; rw [moreL_get]
                          have hKn := known_s s dy (by omega)
                          have hHo := holds_s ⟨s.no, s.rate, knownL s dy⟩ fr ext (by omega) ⟨by omega, by omega⟩ (by rw [hext]; exact helly_holds hz0 hd hP hfr) (Nat.le_trans (known_len s dy) (by omega))
                          refine AWP.skip ?_
                          refine AWP.seq ?_
                          refine AWP.seq ?_
                          refine AWP.region ?_
                          refine AOps.call (o_move _ rfl rfl) ?_
                          refine AOps.call (o_len _ Tryd.underlying45 rfl rfl) ?_
                          refine AOps.call (o_bin _ _ rfl rfl (fun _ => rfl) rfl) ?_
                          refine AOps.call (o_move _ rfl rfl) ?_
                          refine AOps.split rfl rfl rfl (fun h111 => ?_) (fun h111 => ?_)
                          · skip
                            refine AOps.go rfl rfl rfl h111 (o_loadRd _ rfl Tryd.sizeOf24 Tryd.isAgg24 rfl rfl rfl) ?_
                            refine AOps.go rfl rfl rfl h111 (o_move _ rfl rfl) ?_
                            refine AOps.go rfl rfl rfl h111 (o_call (hKn) Tryd.call38 rfl rfl) ?_
                            refine AOps.go rfl rfl rfl h111 (o_move _ rfl rfl) ?_
                            refine AOps.go rfl rfl rfl h111 (o_move _ rfl rfl) ?_
                            refine AOps.go rfl rfl rfl h111 (o_call (hHo) Tryd.call37 rfl rfl) ?_
                            refine AOps.go rfl rfl rfl h111 (o_un _ rfl (fun _ => rfl) rfl) ?_
                            refine AOps.call (o_pickF _ _ _ rfl h111 rfl rfl) ?_
                            refine AOps.nil ?_
                            refine AWP.cond _ rfl (fun h118 => ?_) (fun h118 => ?_)
                            · skip
                              exfalso
                              have hh := h118
                              first
                              | (simp at hh; done)
                              | (simp at hh; omega)
                            · skip
                              refine AWP.skip ?_
                              refine AWP.seq ?_
                              refine AWP.seq ?_
                              refine AWP.region ?_
                              refine AOps.call (o_move _ rfl rfl) ?_
                              refine AOps.call (o_len _ Tryd.underlying45 rfl rfl) ?_
                              refine AOps.call (o_move _ rfl rfl) ?_
                              refine AOps.nil ?_
                              refine AWP.block ?_
                              refine AWP.loop (ι := Nat) (fun i => AS.mk' 257 [(1, I dy), (2, .sl (ints days)), (3, .sl (ints grams)), (4, I fr), (5, .rd (eS s)), (11, B (pinB s dy days grams)), (20, .sl (ints acc)), (22, .sl (ints ext)), (177, .sl (ints days)), (178, I (ints days).length), (179, I i)] [] [] []) (fun i => i ≤ days.length) (fun i => days.length - i) (0) (Weak.mk' rfl ⟨⟨.refl rfl, rfl⟩, ⟨⟨.refl rfl, rfl⟩, ⟨⟨.refl rfl, rfl⟩, ⟨⟨.refl rfl, rfl⟩, ⟨⟨.refl rfl, rfl⟩, ⟨⟨.refl rfl, rfl⟩, ⟨⟨.sl rfl, rfl⟩, ⟨⟨.refl rfl, rfl⟩, ⟨⟨.refl rfl, rfl⟩, ⟨⟨.refl rfl, rfl⟩, ⟨⟨.refl rfl, rfl⟩, trivial⟩⟩⟩⟩⟩⟩⟩⟩⟩⟩⟩ trivial trivial) (Nat.zero_le _) ?_
                              rintro k hk
                              try dsimp only at *
                              refine AWP.seq ?_
                              refine AWP.region ?_
                              refine AOps.call (o_bin _ _ rfl rfl (fun _ => rfl) rfl) ?_
                              refine AOps.nil ?_
                              refine AWP.seq ?_
                              refine AWP.cond _ rfl (fun h123 => ?_) (fun h123 => ?_)
                              · skip
                                have hlt : k < days.length := by have hq := of_decide_eq_true h123; omega
                                have hel := ints_at hlt
                                have hbk := hdb _ (List.getElem_mem hlt)
                                refine AWP.skip ?_
                                refine AWP.seq ?_
                                refine AWP.block ?_
                                refine AWP.seq ?_
                                refine AWP.region ?_
                                refine AOps.call (o_move _ rfl rfl) ?_
                                refine AOps.call (o_index _ _ Tryd.underlying45 Tryd.sizeOf3 rfl rfl (by omega) hel rfl rfl) ?_
                                refine AOps.call (o_loadRd _ rfl Tryd.sizeOf3 Tryd.isAgg3 rfl rfl rfl) ?_
                                refine AOps.call (o_assign _ rfl rfl) ?_
                                refine AOps.call (o_assign _ rfl rfl) ?_
                                refine AOps.nil ?_
                                refine AWP.seq ?_
                                refine AWP.region ?_
                                refine AOps.call (o_move _ rfl rfl) ?_
                                refine AOps.call (o_move _ rfl rfl) ?_
                                refine AOps.call (o_sub _ _ rfl rfl ⟨by (try dsimp only); omega, by (try dsimp only); omega⟩ rfl) ?_
                                refine AOps.call (o_assign _ rfl rfl) ?_
                                refine AOps.nil ?_
                                refine AWP.seq ?_
                                refine AWP.drawn 17 mixed (by kernel_rfl) ?_
                                refine AHead.call (o_move _ rfl rfl) rfl ?_
                                refine AHead.call (o_bin _ _ rfl rfl (fun _ => rfl) rfl) rfl ?_
                                refine AHead.call (o_move _ rfl rfl) rfl ?_
                                refine AHead.split rfl rfl rfl (fun h129 => ?_) (fun h129 => ?_)
                                · skip
                                  have hk0 := of_decide_eq_true h129
                                  refine AHead.go rfl rfl rfl h129 (o_move _ rfl rfl) rfl ?_
                                  refine AHead.go rfl rfl rfl h129 (o_bin _ _ rfl rfl (fun _ => rfl) rfl) rfl ?_
                                  refine AHead.call (o_pickT _ _ _ rfl h129 rfl rfl) rfl ?_
                                  refine AHead.call (o_move _ rfl rfl) rfl ?_
                                  refine AHead.split rfl rfl rfl (fun h131 => ?_) (fun h131 => ?_)
                                  · skip
                                    have hk1 := of_decide_eq_true h131
                                    have hxl : (days[k] - fr).toNat < ext.length := by rw [hextl]; omega
                                    have helx := ints_atI hxl
                                    have hixl := ints_len ext
                                    have hlg : k < grams.length := by omega
                                    have helg := ints_at hlg
                                    have hpin := helly_pin hz0 hd he hP hlt hlg (fr := fr)
                                    have hexk : ext[(days[k] - fr).toNat] = grams[k] := by rw [hextg, show fr + (((days[k] - fr).toNat : Nat) : Int) = days[k] by omega]; exact hpin
                                    refine AHead.go rfl rfl rfl h131 (o_move _ rfl rfl) rfl ?_
                                    refine AHead.go rfl rfl rfl h131 (o_move _ rfl rfl) rfl ?_
                                    refine AHead.go rfl rfl rfl h131 (o_index _ _ Tryd.underlying45 Tryd.sizeOf3 rfl rfl (by omega) helx rfl rfl) rfl ?_
                                    refine AHead.go rfl rfl rfl h131 (o_loadRd _ rfl Tryd.sizeOf3 Tryd.isAgg3 rfl rfl rfl) rfl ?_
                                    refine AHead.go rfl rfl rfl h131 (o_move _ rfl rfl) rfl ?_
                                    refine AHead.go rfl rfl rfl h131 (o_move _ rfl rfl) rfl ?_
                                    refine AHead.go rfl rfl rfl h131 (o_index _ _ Tryd.underlying45 Tryd.sizeOf3 rfl rfl (by omega) helg rfl rfl) rfl ?_
                                    refine AHead.go rfl rfl rfl h131 (o_loadRd _ rfl Tryd.sizeOf3 Tryd.isAgg3 rfl rfl rfl) rfl ?_
                                    refine AHead.go rfl rfl rfl h131 (o_bin _ _ rfl rfl (fun _ => rfl) rfl) rfl ?_
                                    refine AHead.call (o_pickT _ _ _ rfl h131 rfl rfl) rfl ?_
                                    refine AHead.nil ?_
                                    refine AOps.nil ?_
                                    refine AWP.cond _ rfl (fun h138 => ?_) (fun h138 => ?_)
                                    · skip
                                      exfalso
                                      have hh := h138
                                      rw [hexk] at hh
                                      simp at hh
                                    · skip
                                      refine AWP.skip ?_
                                      refine AWP.region ?_
                                      refine AOps.call (o_add _ _ rfl rfl ⟨by (try dsimp only); omega, by (try dsimp only); omega⟩ rfl) ?_
                                      refine AOps.call (o_move _ rfl rfl) ?_
                                      refine AOps.nil ?_
                                      refine ⟨k + 1, ?_, (Weak.mk' rfl ⟨⟨.refl rfl, rfl⟩, ⟨⟨.refl rfl, rfl⟩, ⟨⟨.refl rfl, rfl⟩, ⟨⟨.refl rfl, rfl⟩, ⟨⟨.refl rfl, rfl⟩, ⟨⟨.refl rfl, rfl⟩, ⟨⟨.refl rfl, rfl⟩, ⟨⟨.refl rfl, rfl⟩, ⟨⟨.refl rfl, rfl⟩, ⟨⟨.refl rfl, rfl⟩, ⟨⟨.refl rfl, rfl⟩, trivial⟩⟩⟩⟩⟩⟩⟩⟩⟩⟩⟩ trivial trivial)⟩
                                      exact ⟨by omega, by omega⟩
                                  · skip
                                    refine AHead.pass rfl rfl rfl h131 rfl ?_
                                    refine AHead.pass rfl rfl rfl h131 rfl ?_
                                    refine AHead.pass rfl rfl rfl h131 rfl ?_
                                    refine AHead.pass rfl rfl rfl h131 rfl ?_
                                    refine AHead.pass rfl rfl rfl h131 rfl ?_
                                    refine AHead.pass rfl rfl rfl h131 rfl ?_
                                    refine AHead.pass rfl rfl rfl h131 rfl ?_
                                    refine AHead.pass rfl rfl rfl h131 rfl ?_
                                    refine AHead.pass rfl rfl rfl h131 rfl ?_
                                    refine AHead.call (o_pickF _ _ _ rfl h131 rfl rfl) rfl ?_
                                    refine AHead.nil ?_
                                    refine AOps.nil ?_
                                    refine AWP.condF rfl ?_
                                    refine AWP.skip ?_
                                    refine AWP.region ?_
                                    refine AOps.call (o_add _ _ rfl rfl ⟨by (try dsimp only); omega, by (try dsimp only); omega⟩ rfl) ?_
                                    refine AOps.call (o_move _ rfl rfl) ?_
                                    refine AOps.nil ?_
                                    refine ⟨k + 1, ?_, (Weak.mk' rfl ⟨⟨.refl rfl, rfl⟩, ⟨⟨.refl rfl, rfl⟩, ⟨⟨.refl rfl, rfl⟩, ⟨⟨.refl rfl, rfl⟩, ⟨⟨.refl rfl, rfl⟩, ⟨⟨.refl rfl, rfl⟩, ⟨⟨.refl rfl, rfl⟩, ⟨⟨.refl rfl, rfl⟩, ⟨⟨.refl rfl, rfl⟩, ⟨⟨.refl rfl, rfl⟩, ⟨⟨.refl rfl, rfl⟩, trivial⟩⟩⟩⟩⟩⟩⟩⟩⟩⟩⟩ trivial trivial)⟩
                                    exact ⟨by omega, by omega⟩
                                · skip
                                  refine AHead.pass rfl rfl rfl h129 rfl ?_
                                  refine AHead.pass rfl rfl rfl h129 rfl ?_
                                  refine AHead.call (o_pickF _ _ _ rfl h129 rfl rfl) rfl ?_
                                  refine AHead.call (o_move _ rfl rfl) rfl ?_
                                  refine AHead.pass rfl rfl rfl rfl rfl ?_
                                  refine AHead.pass rfl rfl rfl rfl rfl ?_
                                  refine AHead.pass rfl rfl rfl rfl rfl ?_
                                  refine AHead.pass rfl rfl rfl rfl rfl ?_
                                  refine AHead.pass rfl rfl rfl rfl rfl ?_
                                  refine AHead.pass rfl rfl rfl rfl rfl ?_
                                  refine AHead.pass rfl rfl rfl rfl rfl ?_
                                  refine AHead.pass rfl rfl rfl rfl rfl ?_
                                  refine AHead.pass rfl rfl rfl rfl rfl ?_
                                  refine AHead.call (o_pickF _ _ _ rfl rfl rfl rfl) rfl ?_
                                  refine AHead.nil ?_
                                  refine AOps.nil ?_
                                  refine AWP.condF rfl ?_
                                  refine AWP.skip ?_
                                  refine AWP.region ?_
                                  refine AOps.call (o_add _ _ rfl rfl ⟨by (try dsimp only); omega, by (try dsimp only); omega⟩ rfl) ?_
                                  refine AOps.call (o_move _ rfl rfl) ?_
                                  refine AOps.nil ?_
                                  refine ⟨k + 1, ?_, (Weak.mk' rfl ⟨⟨.refl rfl, rfl⟩, ⟨⟨.refl rfl, rfl⟩, ⟨⟨.refl rfl, rfl⟩, ⟨⟨.refl rfl, rfl⟩, ⟨⟨.refl rfl, rfl⟩, ⟨⟨.refl rfl, rfl⟩, ⟨⟨.refl rfl, rfl⟩, ⟨⟨.refl rfl, rfl⟩, ⟨⟨.refl rfl, rfl⟩, ⟨⟨.refl rfl, rfl⟩, ⟨⟨.refl rfl, rfl⟩, trivial⟩⟩⟩⟩⟩⟩⟩⟩⟩⟩⟩ trivial trivial)⟩
                                  exact ⟨by omega, by omega⟩
                              · skip
                                refine AWP.exit ?_
                                refine AWP.seq ?_
                                refine AWP.seq ?_
                                refine AWP.region ?_
                                refine AOps.call (o_lit Tryd.underlying45 Tryd.sizeOf3 Tryd.zeroValue3 rfl rfl rfl rfl rfl rfl rfl) ?_
                                refine AOps.call (o_len _ Tryd.underlying45 rfl rfl) ?_
                                refine AOps.call (o_move _ rfl rfl) ?_
                                refine AOps.nil ?_
                                refine AWP.block ?_
                                refine AWP.loop (ι := Nat) (fun i => AS.mk' 257 [(1, I dy), (2, .sl (ints days)), (3, .sl (ints grams)), (4, I fr), (5, .rd (eS s)), (11, B (pinB s dy days grams)), (20, .sl (ints acc)), (22, .sl (ints ext)), (205, .sl (ints [0, 20, 63])), (206, I 3), (207, I i)] [] [] []) (fun i => i ≤ 3) (fun i => 3 - i) (0) (Weak.mk' rfl ⟨⟨.refl rfl, rfl⟩, ⟨⟨.refl rfl, rfl⟩, ⟨⟨.refl rfl, rfl⟩, ⟨⟨.refl rfl, rfl⟩, ⟨⟨.refl rfl, rfl⟩, ⟨⟨.refl rfl, rfl⟩, ⟨⟨.refl rfl, rfl⟩, ⟨⟨.refl rfl, rfl⟩, ⟨⟨.sl rfl, rfl⟩, ⟨⟨.refl rfl, rfl⟩, ⟨⟨.refl rfl, rfl⟩, trivial⟩⟩⟩⟩⟩⟩⟩⟩⟩⟩⟩ trivial trivial) (Nat.zero_le _) ?_
                                rintro k hk
                                try dsimp only at *
                                refine AWP.seq ?_
                                refine AWP.region ?_
                                refine AOps.call (o_bin _ _ rfl rfl (fun _ => rfl) rfl) ?_
                                refine AOps.nil ?_
                                refine AWP.seq ?_
                                refine AWP.cond _ rfl (fun h146 => ?_) (fun h146 => ?_)
                                · skip
                                  have hk3 : k < 3 := by have hq := of_decide_eq_true h146; omega
                                  obtain ⟨c, hc64, hck⟩ : ∃ c : Nat, c < 64 ∧ (ints [0, 20, 63])[((k : Nat) : Int).toNat]? = some [I (c : Int)] := by
                                    match k, hk3 with
                                    | 0, _ => exact ⟨0, by omega, rfl⟩
                                    | 1, _ => exact ⟨20, by omega, rfl⟩
                                    | 2, _ => exact ⟨63, by omega, rfl⟩
                                  have hal : acc.length = 64 := by rw [hacc]; exact moreL_len _ _
                                  have hila := ints_len acc
                                  have hile := ints_len ext
                                  have hca : c < acc.length := by omega
                                  have helc : (ints acc)[((c : Nat) : Int).toNat]? = some [I (fr + (c : Int))] := by rw [ints_at hca]; subst hacc; rw [moreL_get]
                                  have hce : c < ext.length := by omega
                                  have hele : (ints ext)[((c : Nat) : Int).toNat]? = some [I (drHi s.rate (pinL s dy days grams) (fr + (c : Int)))] := by rw [ints_at hce, hextg]
                                  have hub := (drHi_top (r := s.rate) (d := fr + (c : Int)) (l := pinL s dy days grams)).1
                                  have hlb := drHi_bd (r := s.rate) (d := fr + (c : Int)) (scaleB_rate hs).1 (pinL_ok (known := dy) hs hd (by have hh := hP; unfold pinB at hh; rw [Bool.and_eq_true] at hh; exact hh.1))
                                  refine AWP.skip ?_
                                  refine AWP.seq ?_
                                  refine AWP.block ?_
                                  refine AWP.seq ?_
                                  refine AWP.region ?_
                                  refine AOps.call (o_index _ _ Tryd.underlying45 Tryd.sizeOf3 rfl rfl (by first | omega | (simp; done) | (simp; omega)) hck rfl rfl) ?_
                                  refine AOps.call (o_loadRd _ rfl Tryd.sizeOf3 Tryd.isAgg3 rfl rfl rfl) ?_
                                  refine AOps.call (o_assign _ rfl rfl) ?_
                                  refine AOps.nil ?_
                                  refine AWP.seq ?_
                                  refine AWP.seq ?_
                                  refine AWP.region ?_
                                  refine AOps.call (o_move _ rfl rfl) ?_
                                  refine AOps.call (o_move _ rfl rfl) ?_
                                  refine AOps.call (o_move _ rfl rfl) ?_
                                  refine AOps.call (o_index _ _ Tryd.underlying45 Tryd.sizeOf3 rfl rfl (by omega) helc rfl rfl) ?_
                                  refine AOps.call (o_loadRd _ rfl Tryd.sizeOf3 Tryd.isAgg3 rfl rfl rfl) ?_
                                  refine AOps.call (o_call (Contains_s days (fr + (c : Int)) (by omega)) Tryd.call39 rfl rfl) ?_
                                  refine AOps.nil ?_
                                  refine AWP.cond _ rfl (fun h153 => ?_) (fun h153 => ?_)
                                  · skip
                                    refine AWP.exit ?_
                                    refine AWP.region ?_
                                    refine AOps.call (o_add _ _ rfl rfl ⟨by (try dsimp only); omega, by (try dsimp only); omega⟩ rfl) ?_
                                    refine AOps.call (o_move _ rfl rfl) ?_
                                    refine AOps.nil ?_
                                    refine ⟨k + 1, ?_, (Weak.mk' rfl ⟨⟨.refl rfl, rfl⟩, ⟨⟨.refl rfl, rfl⟩, ⟨⟨.refl rfl, rfl⟩, ⟨⟨.refl rfl, rfl⟩, ⟨⟨.refl rfl, rfl⟩, ⟨⟨.refl rfl, rfl⟩, ⟨⟨.refl rfl, rfl⟩, ⟨⟨.refl rfl, rfl⟩, ⟨⟨.refl rfl, rfl⟩, ⟨⟨.refl rfl, rfl⟩, ⟨⟨.refl rfl, rfl⟩, trivial⟩⟩⟩⟩⟩⟩⟩⟩⟩⟩⟩ trivial trivial)⟩
                                    exact ⟨by omega, by omega⟩
                                  · skip
                                    have hnc : days.contains (fr + (c : Int)) = false := h153
                                    have hat : days.countP (· < fr + (c : Int)) ≤ days.length := List.countP_le_length
                                    have hdi := daysB_ins (x := fr + (c : Int)) hd (by omega) ⟨by omega, by omega⟩ hnc
                                    have hG := History_s s dy (insL days (days.countP (· < fr + (c : Int))) (fr + (c : Int))) (insL grams (days.countP (· < fr + (c : Int))) (drHi s.rate (pinL s dy days grams) (fr + (c : Int)) + 1))
                                    rw [if_pos (givenE_ok (grams := insL grams _ (drHi s.rate (pinL s dy days grams) (fr + (c : Int)) + 1)) hz0 hdyb hdi (by rw [insL_len, insL_len, he])), no_greater hs he hdi] at hG
                                    refine AWP.skip ?_
                                    refine AWP.seq ?_
                                    refine AWP.region ?_
                                    refine AOps.call (o_move _ rfl rfl) ?_
                                    refine AOps.call (o_move _ rfl rfl) ?_
                                    refine AOps.call (o_move _ rfl rfl) ?_
                                    refine AOps.call (o_index _ _ Tryd.underlying45 Tryd.sizeOf3 rfl rfl (by omega) helc rfl rfl) ?_
                                    refine AOps.call (o_loadRd _ rfl Tryd.sizeOf3 Tryd.isAgg3 rfl rfl rfl) ?_
                                    refine AOps.call (o_call (BinarySearch_s days (fr + (c : Int)) hpw (by omega)) Tryd.call40 rfl rfl) ?_
                                    refine AOps.call (o_move _ rfl rfl) ?_
                                    refine AOps.call (o_extract _ rfl rfl rfl rfl) ?_
                                    refine AOps.call (o_extract _ rfl rfl rfl rfl) ?_
                                    refine AOps.call (o_assign _ rfl rfl) ?_
                                    refine AOps.call (o_assign _ rfl rfl) ?_
                                    refine AOps.nil ?_
                                    refine AWP.seq ?_
                                    refine AWP.drawn 27 mixed (by kernel_rfl) ?_
                                    refine AHead.call (o_loadRd _ rfl Tryd.sizeOf24 Tryd.isAgg24 rfl rfl rfl) rfl ?_
                                    refine AHead.call (o_move _ rfl rfl) rfl ?_
                                    refine AHead.call (o_move _ rfl rfl) rfl ?_
                                    refine AHead.call (o_call (Clone42_e days hne) Tryd.call42 rfl rfl) rfl ?_
                                    refine AHead.call (o_move _ rfl rfl) rfl ?_
                                    refine AHead.call (o_move _ rfl rfl) rfl ?_
                                    refine AHead.call (o_move _ rfl rfl) rfl ?_
                                    refine AHead.call (o_index _ _ Tryd.underlying45 Tryd.sizeOf3 rfl rfl (by omega) helc rfl rfl) rfl ?_
                                    refine AHead.call (o_loadRd _ rfl Tryd.sizeOf3 Tryd.isAgg3 rfl rfl rfl) rfl ?_
                                    refine AHead.call (o_lit Tryd.underlying45 Tryd.sizeOf3 Tryd.zeroValue3 rfl rfl rfl rfl rfl rfl rfl) rfl ?_
                                    refine AHead.call (o_call (Insert41_e days _ (fr + (c : Int)) hne hat) Tryd.call41 rfl rfl) rfl ?_
                                    refine AHead.call (o_move _ rfl rfl) rfl ?_
                                    refine AHead.call (o_call (Clone42_e grams hgr) Tryd.call42 rfl rfl) rfl ?_
                                    refine AHead.call (o_move _ rfl rfl) rfl ?_
                                    refine AHead.call (o_move _ rfl rfl) rfl ?_
                                    refine AHead.call (o_move _ rfl rfl) rfl ?_
                                    refine AHead.call (o_index _ _ Tryd.underlying45 Tryd.sizeOf3 rfl rfl (by omega) hele rfl rfl) rfl ?_
                                    refine AHead.call (o_loadRd _ rfl Tryd.sizeOf3 Tryd.isAgg3 rfl rfl rfl) rfl ?_
                                    refine AHead.call (o_add _ _ rfl rfl ⟨by (try dsimp only); omega, by (try dsimp only); omega⟩ rfl) rfl ?_
                                    refine AHead.call (o_lit Tryd.underlying45 Tryd.sizeOf3 Tryd.zeroValue3 rfl rfl rfl rfl rfl rfl rfl) rfl ?_
                                    refine AHead.call (o_call (Insert41_e grams _ (drHi s.rate (pinL s dy days grams) (fr + (c : Int)) + 1) hgr (by omega)) Tryd.call41 rfl rfl) rfl ?_
                                    refine AHead.call (o_call (hG) Tryd.call26 rfl rfl) rfl ?_
                                    refine AHead.call (o_move _ rfl rfl) rfl ?_
                                    refine AHead.call (o_extract _ rfl rfl rfl rfl) rfl ?_
                                    refine AHead.call (o_extract _ rfl rfl rfl rfl) rfl ?_
                                    refine AHead.call (o_assign _ rfl rfl) rfl ?_
                                    refine AHead.call (o_assign _ rfl rfl) rfl ?_
                                    refine AHead.nil ?_
                                    refine AOps.nil ?_
                                    refine AWP.seq ?_
                                    refine AWP.region ?_
                                    refine AOps.call (o_move _ rfl rfl) ?_
                                    refine AOps.call (o_bin _ _ rfl rfl (fun _ => rfl) rfl) ?_
                                    refine AOps.call (o_move _ rfl rfl) ?_
                                    refine AOps.split rfl rfl rfl (fun h180 => ?_) (fun h180 => ?_)
                                    · skip
                                      refine AOps.go rfl rfl rfl h180 (o_move _ rfl rfl) ?_
                                      refine AOps.call (o_pickF _ _ _ rfl h180 rfl rfl) ?_
                                      refine AOps.nil ?_
                                      refine AWP.cond _ rfl (fun h181 => ?_) (fun h181 => ?_)
                                      · skip
                                        exfalso
                                        have hh := h181
                                        first
                                        | (simp at hh; done)
                                        | (simp at hh; omega)
                                      · skip
                                        refine AWP.skip ?_
                                        refine AWP.region ?_
                                        refine AOps.call (o_add _ _ rfl rfl ⟨by (try dsimp only); omega, by (try dsimp only); omega⟩ rfl) ?_
                                        refine AOps.call (o_move _ rfl rfl) ?_
                                        refine AOps.nil ?_
                                        refine ⟨k + 1, ?_, (Weak.mk' rfl ⟨⟨.refl rfl, rfl⟩, ⟨⟨.refl rfl, rfl⟩, ⟨⟨.refl rfl, rfl⟩, ⟨⟨.refl rfl, rfl⟩, ⟨⟨.refl rfl, rfl⟩, ⟨⟨.refl rfl, rfl⟩, ⟨⟨.refl rfl, rfl⟩, ⟨⟨.refl rfl, rfl⟩, ⟨⟨.refl rfl, rfl⟩, ⟨⟨.refl rfl, rfl⟩, ⟨⟨.refl rfl, rfl⟩, trivial⟩⟩⟩⟩⟩⟩⟩⟩⟩⟩⟩ trivial trivial)⟩
                                        exact ⟨by omega, by omega⟩
                                    · skip
                                      exfalso
                                      have hh := h180
                                      first
                                      | (simp at hh; done)
                                      | (simp at hh; omega)
                                · skip
                                  refine AWP.exit ?_
                                  refine AWP.seq ?_
                                  refine AWP.region ?_
                                  refine AOps.call (o_assign _ rfl rfl) ?_
                                  refine AOps.nil ?_
                                  refine AWP.ret ?_
                                  first
                                  | exact postQ.ret1 Tryd.results7 rfl rfl
                                  | (refine postQ.ret1 Tryd.results7 rfl ?_; rw [hPi]; simp [AV.close, B]; done)
                                  | (exfalso; simp at *; done)
                                  | (refine postQ.ret1 Tryd.results7 rfl ?_; simp [AV.close, B]; done)
                                  | (refine postQ.ret1 Tryd.results7 rfl ?_; simp_all [AV.close, B]; done)
                          · skip
                            exfalso
                            have hh := h111
                            rw [ints_len, hextl] at hh
                            simp at hh
                    · skip
                      exfalso
                      have hh := h102
                      first
                      | (simp at hh; done)
                      | (simp at hh; omega)
              · skip
                refine AOps.pass rfl rfl rfl h78 rfl ?_
                refine AOps.pass rfl rfl rfl h78 rfl ?_
                refine AOps.call (o_pickT _ _ _ rfl h78 rfl rfl) ?_
                refine AOps.nil ?_
                refine AWP.condT rfl ?_
                refine AWP.seq ?_
                refine AWP.region ?_
                refine AOps.call (o_move _ rfl rfl) ?_
                refine AOps.call (o_move _ rfl rfl) ?_
                refine AOps.call (o_bin _ _ rfl rfl (fun _ => rfl) rfl) ?_
                refine AOps.call (o_assign _ rfl rfl) ?_
                refine AOps.nil ?_
                refine AWP.ret ?_
                first
                | exact postQ.ret1 Tryd.results7 rfl rfl
                | (refine postQ.ret1 Tryd.results7 rfl ?_; rw [hPi]; simp [AV.close, B]; done)
                | (exfalso; simp at *; done)
                | (refine postQ.ret1 Tryd.results7 rfl ?_; simp [AV.close, B]; done)
                | (refine postQ.ret1 Tryd.results7 rfl ?_; simp_all [AV.close, B]; done)
            · skip
              exfalso
              have hh := h75
              rw [hPi] at hh
              simp at hh
    · skip
      refine AOps.pass rfl rfl rfl h9 rfl ?_
      refine AOps.pass rfl rfl rfl h9 rfl ?_
      refine AOps.pass rfl rfl rfl h9 rfl ?_
      refine AOps.call (o_pickT _ _ _ rfl h9 rfl rfl) ?_
      refine AOps.nil ?_
      refine AWP.condT rfl ?_
      refine AWP.seq ?_
      refine AWP.region ?_
      refine AOps.call (o_assign _ rfl rfl) ?_
      refine AOps.nil ?_
      refine AWP.ret ?_
      first
      | exact postQ.ret1 Tryd.results7 rfl rfl
      | (refine postQ.ret1 Tryd.results7 rfl ?_; rw [hPi]; simp [AV.close, B]; done)
      | (exfalso; simp at *; done)
      | (refine postQ.ret1 Tryd.results7 rfl ?_; simp [AV.close, B]; done)
      | (refine postQ.ret1 Tryd.results7 rfl ?_; simp_all [AV.close, B]; done)


theorem CourseHelly_s (s : Scl) (dy : Int) (days grams : List Int) (fr : Int) : FSpecG Tryd.prog TAB 7 [.agg (eS s), I dy, .sl (ints days), .sl (ints grams), I fr] (B true) none := by
  by_cases hz : givenE s dy days grams = 0
  · cases days with
    | nil => exact CourseHelly_c s dy [] grams fr hz rfl (List.eq_nil_of_length_eq_zero (givenE_0 hz).2.1.symm)
    | cons a l => exact CourseHelly_b s dy (a :: l) grams fr hz (by simp)
  · exact CourseHelly_a s dy days grams fr hz

end Go.Proofs.YtphoomnonenalaaDoor
