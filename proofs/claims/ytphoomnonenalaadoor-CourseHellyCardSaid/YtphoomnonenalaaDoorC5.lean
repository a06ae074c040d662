import Derived.Test.YtphoomnonenalaaDoorC4
import Derived.Test.YtphoomnonenalaaDoorM2
set_option linter.unusedSimpArgs false
set_option linter.unusedVariables false
namespace Go.Proofs.YtphoomnonenalaaDoor
open Go.Ab
theorem addE_0 {s : Scl} {t : Tst} (h : addE s t = 0) : scaleE s = 0 := by
  unfold addE at h
  by_cases h1 : scaleE s = 0
  · exact h1
  · rw [if_neg h1] at h; exact h

set_option maxRecDepth 20000 in
theorem checkAdd_s (s : Scl) (t : Tst) : FSpec Tryd.prog 70 [.agg (eS s), .agg (eT t)] (I (addE s t)) (none) := by
  refine FSpec.of_body Tryd.func70 rfl (leB rfl) fun w0 M0 => ?_
  refine AWP.seq ?_
  refine AWP.region ?_
  refine AOps.call (o_box _ rfl rfl rfl) ?_
  refine AOps.call (o_box _ rfl rfl rfl) ?_
  refine AOps.call (o_assign _ rfl rfl) ?_
  refine AOps.nil ?_
  refine AWP.seq ?_
  refine AWP.seq ?_
  refine AWP.region ?_
  refine AOps.call (o_loadRef _ rfl rfl Tryd.sizeOf24 Tryd.isAgg24 rfl rfl rfl) ?_
  refine AOps.call (o_call (CheckScale_s s) Tryd.call19 rfl rfl) ?_
  refine AOps.call (o_assign _ rfl rfl) ?_
  refine AOps.nil ?_
  refine AWP.seq ?_
  refine AWP.region ?_
  refine AOps.call (o_move _ rfl rfl) ?_
  refine AOps.call (o_bin _ _ rfl rfl (fun _ => rfl) rfl) ?_
  refine AOps.nil ?_
  refine AWP.cond _ rfl (fun h7 => ?_) (fun h7 => ?_)
  · skip
    have hz : ¬ scaleE s = 0 := by simpa using h7
    refine AWP.seq ?_
    refine AWP.region ?_
    refine AOps.call (o_move _ rfl rfl) ?_
    refine AOps.call (o_assign _ rfl rfl) ?_
    refine AOps.nil ?_
    refine AWP.ret ?_
    refine postQ.ret1 Tryd.results70 rfl ?_
    try (rw [anyc_at hlt] at hinv)
    unfold addE
    simp_all [AV.close, I, tests_len]
    try omega
  · skip
    have hz : scaleE s = 0 := by simpa using h7
    have hs := scaleE_0 hz
    refine AWP.skip ?_
    refine AWP.seq ?_
    refine AWP.seq ?_
    refine AWP.region ?_
    refine AOps.call (o_loadRef _ rfl rfl Tryd.sizeOf26 Tryd.isAgg26 rfl rfl rfl) ?_
    refine AOps.call (o_call (CheckTest_s t) Tryd.call17 rfl rfl) ?_
    refine AOps.call (o_assign _ rfl rfl) ?_
    refine AOps.nil ?_
    refine AWP.seq ?_
    refine AWP.region ?_
    refine AOps.call (o_move _ rfl rfl) ?_
    refine AOps.call (o_bin _ _ rfl rfl (fun _ => rfl) rfl) ?_
    refine AOps.nil ?_
    refine AWP.cond _ rfl (fun h11 => ?_) (fun h11 => ?_)
    · skip
      have ht : testB t = false := by
        cases hh : testB t with
        | false => rfl
        | true => rw [hh] at h11; simp at h11
      refine AWP.seq ?_
      refine AWP.region ?_
      refine AOps.call (o_move _ rfl rfl) ?_
      refine AOps.call (o_assign _ rfl rfl) ?_
      refine AOps.nil ?_
      refine AWP.ret ?_
      refine postQ.ret1 Tryd.results70 rfl ?_
      try (rw [anyc_at hlt] at hinv)
      unfold addE
      simp_all [AV.close, I, tests_len]
      try omega
    · skip
      have ht : testB t = true := by
        cases hh : testB t with
        | true => rfl
        | false => rw [hh] at h11; simp at h11
      refine AWP.skip ?_
      refine AWP.seq ?_
      refine AWP.region ?_
      refine AOps.call (o_fieldRef _ rfl fa24_2 rfl rfl) ?_
      refine AOps.call (o_loadRef _ rfl rfl Tryd.sizeOf22 Tryd.isAgg22 rfl rfl rfl) ?_
      refine AOps.call (o_len _ Tryd.underlying22 rfl rfl) ?_
      refine AOps.call (o_assign _ rfl rfl) ?_
      refine AOps.nil ?_
      refine AWP.seq ?_
      refine AWP.seq ?_
      refine AWP.region ?_
      refine AOps.call (o_move _ rfl rfl) ?_
      refine AOps.call (o_bin _ _ rfl rfl (fun _ => rfl) rfl) ?_
      refine AOps.nil ?_
      refine AWP.cond _ rfl (fun h16 => ?_) (fun h16 => ?_)
      · skip
        have h64 : s.tests.length = 64 := by simp [tests_len] at h16; omega
        refine AWP.seq ?_
        refine AWP.region ?_
        refine AOps.call (o_assign _ rfl rfl) ?_
        refine AOps.nil ?_
        refine AWP.ret ?_
        refine postQ.ret1 Tryd.results70 rfl ?_
        try (rw [anyc_at hlt] at hinv)
        unfold addE
        simp_all [AV.close, I, tests_len]
        try omega
      · skip
        have h64 : ¬ s.tests.length = 64 := by simp [tests_len] at h16; omega
        have hl64 := scaleB_len hs
        refine AWP.skip ?_
        refine AWP.seq ?_
        refine AWP.seq ?_
        refine AWP.drawn 14 mixed (by kernel_rfl) ?_
        refine AHead.call (o_move _ rfl rfl) rfl ?_
        refine AHead.call (o_bin _ _ rfl rfl (fun _ => rfl) rfl) rfl ?_
        refine AHead.call (o_move _ rfl rfl) rfl ?_
        refine AHead.split rfl rfl rfl (fun h19 => ?_) (fun h19 => ?_)
        · skip
          have hn0 : s.tests.length - 1 < s.tests.length := by simp [tests_len] at h19; omega
          have hlast := lastBad_at (t := t) hn0
          have hel1 : (tests s.tests)[(((tests s.tests).length : Int) - 1).toNat]? = some (eT s.tests[s.tests.length - 1]) := by
            have := tests_get hn0
            rw [tests_len]
            rwa [show (((s.tests.length - 1 : Nat)) : Int) = (s.tests.length : Int) - 1 by omega] at this
          refine AHead.go rfl rfl rfl h19 (o_fieldRef _ rfl fa26_1 rfl rfl) rfl ?_
          refine AHead.go rfl rfl rfl h19 (o_loadRef _ rfl rfl Tryd.sizeOf3 Tryd.isAgg3 rfl rfl rfl) rfl ?_
          refine AHead.go rfl rfl rfl h19 (o_fieldRef _ rfl fa24_2 rfl rfl) rfl ?_
          refine AHead.go rfl rfl rfl h19 (o_loadRef _ rfl rfl Tryd.sizeOf22 Tryd.isAgg22 rfl rfl rfl) rfl ?_
          refine AHead.go rfl rfl rfl h19 (o_move _ rfl rfl) rfl ?_
          refine AHead.go rfl rfl rfl h19 (o_sub _ _ rfl rfl ⟨by rw [tests_len]; omega, by rw [tests_len]; omega⟩ rfl) rfl ?_
          refine AHead.go rfl rfl rfl h19 (o_index _ _ Tryd.underlying22 Tryd.sizeOf26 rfl rfl (by rw [tests_len]; omega) hel1 rfl rfl) rfl ?_
          refine AHead.go rfl rfl rfl h19 (o_fieldRd _ rfl fa26_1 rfl) rfl ?_
          refine AHead.go rfl rfl rfl h19 (o_loadRd _ rfl Tryd.sizeOf3 Tryd.isAgg3 rfl rfl rfl) rfl ?_
          refine AHead.go rfl rfl rfl h19 (o_bin _ _ rfl rfl (fun _ => rfl) rfl) rfl ?_
          refine AHead.call (o_pickT _ _ _ rfl h19 rfl rfl) rfl ?_
          refine AHead.nil ?_
          refine AOps.nil ?_
          refine AWP.cond _ rfl (fun h29 => ?_) (fun h29 => ?_)
          · skip
            have hlb : lastBad s.tests t = true := by simp_all
            refine AWP.seq ?_
            refine AWP.region ?_
            refine AOps.call (o_assign _ rfl rfl) ?_
            refine AOps.nil ?_
            refine AWP.ret ?_
            refine postQ.ret1 Tryd.results70 rfl ?_
            try (rw [anyc_at hlt] at hinv)
            unfold addE
            simp_all [AV.close, I, tests_len]
            try omega
          · skip
            have hlb : lastBad s.tests t = false := by
              first
              | exact hnil
              | simp_all
            refine AWP.skip ?_
            refine AWP.seq ?_
            refine AWP.seq ?_
            refine AWP.region ?_
            refine AOps.call (o_fieldRef _ rfl fa24_2 rfl rfl) ?_
            refine AOps.call (o_loadRef _ rfl rfl Tryd.sizeOf22 Tryd.isAgg22 rfl rfl rfl) ?_
            refine AOps.call (o_len _ Tryd.underlying22 rfl rfl) ?_
            refine AOps.call (o_move _ rfl rfl) ?_
            refine AOps.nil ?_
            refine AWP.block ?_
            refine AWP.loop (ι := Nat) (fun i => AS.mk' 52 [(2, .ref (2, 0) 0), (3, .ref (3, 0) 0), (40, .sl (tests s.tests)), (41, I (tests s.tests).length), (42, I i)] [((2, 0), eS s), ((3, 0), eT t)] [] [(2, 1), (3, 1)]) (fun i => i ≤ s.tests.length ∧ s.tests.any (fun x => contraB s.rate x t) = (s.tests.drop i).any (fun x => contraB s.rate x t)) (fun i => s.tests.length - i) (0) (Weak.mk' rfl ⟨⟨.refl rfl, rfl⟩, ⟨⟨.refl rfl, rfl⟩, ⟨⟨.refl rfl, rfl⟩, ⟨⟨.refl rfl, rfl⟩, ⟨⟨.refl rfl, rfl⟩, trivial⟩⟩⟩⟩⟩ ⟨⟨rfl, rfl, rfl⟩, ⟨⟨rfl, rfl, rfl⟩, trivial⟩⟩ trivial) (⟨Nat.zero_le _, rfl⟩) ?_
            rintro k ⟨hk, hinv⟩
            try dsimp only at *
            refine AWP.seq ?_
            refine AWP.region ?_
            refine AOps.call (o_bin _ _ rfl rfl (fun _ => rfl) rfl) ?_
            refine AOps.nil ?_
            refine AWP.seq ?_
            refine AWP.cond _ rfl (fun h36 => ?_) (fun h36 => ?_)
            · skip
              have hlt : k < s.tests.length := by simpa [tests] using h36
              have hel := tests_get hlt
              refine AWP.skip ?_
              refine AWP.seq ?_
              refine AWP.block ?_
              refine AWP.seq ?_
              refine AWP.region ?_
              refine AOps.call (o_index _ _ Tryd.underlying22 Tryd.sizeOf26 rfl rfl (by omega) (by assumption) rfl rfl) ?_
              refine AOps.call (o_loadRd _ rfl Tryd.sizeOf26 Tryd.isAgg26 rfl rfl rfl) ?_
              refine AOps.call (o_alloc ze26 rfl rfl) ?_
              refine AOps.cons (o_store _ _ rfl rfl Tryd.sizeOf26 rfl rfl rfl rfl rfl) ?_
              refine AOps.nil ?_
              refine AWP.seq ?_
              refine AWP.region ?_
              refine AOps.call (o_fieldRef _ rfl fa24_1 rfl rfl) ?_
              refine AOps.call (o_loadRef _ rfl rfl Tryd.sizeOf3 Tryd.isAgg3 rfl rfl rfl) ?_
              refine AOps.call (o_loadRef _ rfl rfl Tryd.sizeOf26 Tryd.isAgg26 rfl rfl rfl) ?_
              refine AOps.call (o_loadRef _ rfl rfl Tryd.sizeOf26 Tryd.isAgg26 rfl rfl rfl) ?_
              refine AOps.call (o_call (contradict_s s.rate s.tests[k] t (scaleB_rate hs) (scaleB_tests hs _ (List.getElem_mem hlt)) ht) Tryd.call123 rfl rfl) ?_
              refine AOps.nil ?_
              refine AWP.cond _ rfl (fun h45 => ?_) (fun h45 => ?_)
              · skip
                refine AWP.seq ?_
                refine AWP.region ?_
                refine AOps.call (o_assign _ rfl rfl) ?_
                refine AOps.nil ?_
                refine AWP.ret ?_
                refine postQ.ret1 Tryd.results70 rfl ?_
                try (rw [anyc_at hlt] at hinv)
                unfold addE
                simp_all [AV.close, I, tests_len]
                try omega
              · skip
                refine AWP.skip ?_
                refine AWP.region ?_
                refine AOps.call (o_add _ _ rfl rfl ⟨by (try dsimp only); omega, by (try dsimp only); omega⟩ rfl) ?_
                refine AOps.call (o_move _ rfl rfl) ?_
                refine AOps.nil ?_
                refine ⟨k + 1, ?_, (Weak.mk' rfl ⟨⟨.refl rfl, rfl⟩, ⟨⟨.refl rfl, rfl⟩, ⟨⟨.refl rfl, rfl⟩, ⟨⟨.refl rfl, rfl⟩, ⟨⟨.refl rfl, rfl⟩, trivial⟩⟩⟩⟩⟩ ⟨⟨rfl, rfl, rfl⟩, ⟨⟨rfl, rfl, rfl⟩, trivial⟩⟩ trivial)⟩
                exact ⟨⟨by omega, by rw [hinv, anyc_at hlt]; simp_all⟩, by omega⟩
            · skip
              have hkl : k = s.tests.length := by simp [tests] at h36 hk; omega
              subst hkl
              rw [List.drop_length] at hinv
              refine AWP.exit ?_
              refine AWP.seq ?_
              refine AWP.region ?_
              refine AOps.call (o_assign _ rfl rfl) ?_
              refine AOps.nil ?_
              refine AWP.ret ?_
              refine postQ.ret1 Tryd.results70 rfl ?_
              try (rw [anyc_at hlt] at hinv)
              unfold addE
              simp_all [AV.close, I, tests_len]
              try omega
        · skip
          have hnil : lastBad s.tests t = false := lastBad_nil (by simpa [tests_len] using h19)
          refine AHead.pass rfl rfl rfl h19 rfl ?_
          refine AHead.pass rfl rfl rfl h19 rfl ?_
          refine AHead.pass rfl rfl rfl h19 rfl ?_
          refine AHead.pass rfl rfl rfl h19 rfl ?_
          refine AHead.pass rfl rfl rfl h19 rfl ?_
          refine AHead.pass rfl rfl rfl h19 rfl ?_
          refine AHead.pass rfl rfl rfl h19 rfl ?_
          refine AHead.pass rfl rfl rfl h19 rfl ?_
          refine AHead.pass rfl rfl rfl h19 rfl ?_
          refine AHead.pass rfl rfl rfl h19 rfl ?_
          refine AHead.call (o_pickF _ _ _ rfl h19 rfl rfl) rfl ?_
          refine AHead.nil ?_
          refine AOps.nil ?_
          refine AWP.condF rfl ?_
          refine AWP.skip ?_
          refine AWP.seq ?_
          refine AWP.seq ?_
          refine AWP.region ?_
          refine AOps.call (o_fieldRef _ rfl fa24_2 rfl rfl) ?_
          refine AOps.call (o_loadRef _ rfl rfl Tryd.sizeOf22 Tryd.isAgg22 rfl rfl rfl) ?_
          refine AOps.call (o_len _ Tryd.underlying22 rfl rfl) ?_
          refine AOps.call (o_move _ rfl rfl) ?_
          refine AOps.nil ?_
          refine AWP.block ?_
          refine AWP.loop (ι := Nat) (fun i => AS.mk' 52 [(2, .ref (2, 0) 0), (3, .ref (3, 0) 0), (40, .sl (tests s.tests)), (41, I (tests s.tests).length), (42, I i)] [((2, 0), eS s), ((3, 0), eT t)] [] [(2, 1), (3, 1)]) (fun i => i ≤ s.tests.length ∧ s.tests.any (fun x => contraB s.rate x t) = (s.tests.drop i).any (fun x => contraB s.rate x t)) (fun i => s.tests.length - i) (0) (Weak.mk' rfl ⟨⟨.refl rfl, rfl⟩, ⟨⟨.refl rfl, rfl⟩, ⟨⟨.refl rfl, rfl⟩, ⟨⟨.refl rfl, rfl⟩, ⟨⟨.refl rfl, rfl⟩, trivial⟩⟩⟩⟩⟩ ⟨⟨rfl, rfl, rfl⟩, ⟨⟨rfl, rfl, rfl⟩, trivial⟩⟩ trivial) (⟨Nat.zero_le _, rfl⟩) ?_
          rintro k ⟨hk, hinv⟩
          try dsimp only at *
          refine AWP.seq ?_
          refine AWP.region ?_
          refine AOps.call (o_bin _ _ rfl rfl (fun _ => rfl) rfl) ?_
          refine AOps.nil ?_
          refine AWP.seq ?_
          refine AWP.cond _ rfl (fun h54 => ?_) (fun h54 => ?_)
          · skip
            have hlt : k < s.tests.length := by simpa [tests] using h54
            have hel := tests_get hlt
            refine AWP.skip ?_
            refine AWP.seq ?_
            refine AWP.block ?_
            refine AWP.seq ?_
            refine AWP.region ?_
            refine AOps.call (o_index _ _ Tryd.underlying22 Tryd.sizeOf26 rfl rfl (by omega) (by assumption) rfl rfl) ?_
            refine AOps.call (o_loadRd _ rfl Tryd.sizeOf26 Tryd.isAgg26 rfl rfl rfl) ?_
            refine AOps.call (o_alloc ze26 rfl rfl) ?_
            refine AOps.cons (o_store _ _ rfl rfl Tryd.sizeOf26 rfl rfl rfl rfl rfl) ?_
            refine AOps.nil ?_
            refine AWP.seq ?_
            refine AWP.region ?_
            refine AOps.call (o_fieldRef _ rfl fa24_1 rfl rfl) ?_
            refine AOps.call (o_loadRef _ rfl rfl Tryd.sizeOf3 Tryd.isAgg3 rfl rfl rfl) ?_
            refine AOps.call (o_loadRef _ rfl rfl Tryd.sizeOf26 Tryd.isAgg26 rfl rfl rfl) ?_
            refine AOps.call (o_loadRef _ rfl rfl Tryd.sizeOf26 Tryd.isAgg26 rfl rfl rfl) ?_
            refine AOps.call (o_call (contradict_s s.rate s.tests[k] t (scaleB_rate hs) (scaleB_tests hs _ (List.getElem_mem hlt)) ht) Tryd.call123 rfl rfl) ?_
            refine AOps.nil ?_
            refine AWP.cond _ rfl (fun h63 => ?_) (fun h63 => ?_)
            · skip
              refine AWP.seq ?_
              refine AWP.region ?_
              refine AOps.call (o_assign _ rfl rfl) ?_
              refine AOps.nil ?_
              refine AWP.ret ?_
              refine postQ.ret1 Tryd.results70 rfl ?_
              try (rw [anyc_at hlt] at hinv)
              unfold addE
              simp_all [AV.close, I, tests_len]
              try omega
            · skip
              refine AWP.skip ?_
              refine AWP.region ?_
              refine AOps.call (o_add _ _ rfl rfl ⟨by (try dsimp only); omega, by (try dsimp only); omega⟩ rfl) ?_
              refine AOps.call (o_move _ rfl rfl) ?_
              refine AOps.nil ?_
              refine ⟨k + 1, ?_, (Weak.mk' rfl ⟨⟨.refl rfl, rfl⟩, ⟨⟨.refl rfl, rfl⟩, ⟨⟨.refl rfl, rfl⟩, ⟨⟨.refl rfl, rfl⟩, ⟨⟨.refl rfl, rfl⟩, trivial⟩⟩⟩⟩⟩ ⟨⟨rfl, rfl, rfl⟩, ⟨⟨rfl, rfl, rfl⟩, trivial⟩⟩ trivial)⟩
              exact ⟨⟨by omega, by rw [hinv, anyc_at hlt]; simp_all⟩, by omega⟩
          · skip
            have hkl : k = s.tests.length := by simp [tests] at h54 hk; omega
            subst hkl
            rw [List.drop_length] at hinv
            refine AWP.exit ?_
            refine AWP.seq ?_
            refine AWP.region ?_
            refine AOps.call (o_assign _ rfl rfl) ?_
            refine AOps.nil ?_
            refine AWP.ret ?_
            refine postQ.ret1 Tryd.results70 rfl ?_
            try (rw [anyc_at hlt] at hinv)
            unfold addE
            simp_all [AV.close, I, tests_len]
            try omega

set_option maxRecDepth 20000 in
theorem AddTest_s (s : Scl) (t : Tst) : FSpec Tryd.prog 15 [.agg (eS s), .agg (eT t)] (if addE s t = 0 then .tup [.agg [I s.no, I s.rate, .sl (tests (s.tests ++ [t]))], I 0] else .tup [.agg [I 0, I 0, .sc (.slice none 0 0)], I (addE s t)]) (none) := by
  refine FSpec.of_body Tryd.func15 rfl (leB rfl) fun w0 M0 => ?_
  refine AWP.seq ?_
  refine AWP.region ?_
  refine AOps.call (o_box _ rfl rfl rfl) ?_
  refine AOps.call (o_box _ rfl rfl rfl) ?_
  refine AOps.call (o_alloc ze24 rfl rfl) ?_
  refine AOps.call (o_assign _ rfl rfl) ?_
  refine AOps.nil ?_
  refine AWP.seq ?_
  refine AWP.seq ?_
  refine AWP.region ?_
  refine AOps.call (o_loadRef _ rfl rfl Tryd.sizeOf24 Tryd.isAgg24 rfl rfl rfl) ?_
  refine AOps.call (o_loadRef _ rfl rfl Tryd.sizeOf26 Tryd.isAgg26 rfl rfl rfl) ?_
  refine AOps.call (o_call (checkAdd_s s t) Tryd.call70 rfl rfl) ?_
  refine AOps.call (o_assign _ rfl rfl) ?_
  refine AOps.nil ?_
  refine AWP.seq ?_
  refine AWP.region ?_
  refine AOps.call (o_move _ rfl rfl) ?_
  refine AOps.call (o_bin _ _ rfl rfl (fun _ => rfl) rfl) ?_
  refine AOps.nil ?_
  refine AWP.cond _ rfl (fun h9 => ?_) (fun h9 => ?_)
  · skip
    have hz : ¬ addE s t = 0 := by simpa using h9
    refine AWP.seq ?_
    refine AWP.region ?_
    refine AOps.call (o_build bu24 rfl rfl rfl) ?_
    refine AOps.call (o_move _ rfl rfl) ?_
    refine AOps.cons (o_store _ _ rfl rfl Tryd.sizeOf24 rfl rfl rfl rfl rfl) ?_
    refine AOps.call (o_assign _ rfl rfl) ?_
    refine AOps.nil ?_
    refine AWP.ret ?_
    refine postQ.retC1 Tryd.results15 rfl rfl Tryd.sizeOf24 Tryd.isAgg24 rfl rfl ?_
    first
    | (rw [if_pos hz]; rfl)
    | (rw [if_neg hz]; rfl)
  · skip
    have hz : addE s t = 0 := by simpa using h9
    have hl64 := scaleB_len (scaleE_0 (addE_0 hz))
    have htl := tests_len s.tests
    refine AWP.skip ?_
    refine AWP.seq ?_
    refine AWP.region ?_
    refine AOps.call (o_fieldRef _ rfl fa24_2 rfl rfl) ?_
    refine AOps.call (o_loadRef _ rfl rfl Tryd.sizeOf22 Tryd.isAgg22 rfl rfl rfl) ?_
    refine AOps.call (o_len _ Tryd.underlying22 rfl rfl) ?_
    refine AOps.call (o_add _ _ rfl rfl ⟨by (try dsimp only); omega, by (try dsimp only); omega⟩ rfl) ?_
    refine AOps.call (o_make0 _ Tryd.underlying22 info26 rfl rfl rfl rfl rfl rfl (by omega) (by omega) rfl rfl) ?_
    refine AOps.call (o_assign _ rfl rfl) ?_
    refine AOps.nil ?_
    refine AWP.seq ?_
    refine AWP.region ?_
    refine AOps.call (o_move _ rfl rfl) ?_
    refine AOps.call (o_fieldRef _ rfl fa24_2 rfl rfl) ?_
    refine AOps.call (o_loadRef _ rfl rfl Tryd.sizeOf22 Tryd.isAgg22 rfl rfl rfl) ?_
    refine AOps.cons (o_append _ _ Tryd.underlying22 info26 rfl rfl rfl rfl rfl rfl rfl rfl tests_z (fun c hc => by cases hc) (by
        first
        | (rw [tests_len]; simp only [List.length_nil, List.length_cons, Nat.zero_add]; unfold Tryd.t26; simp only []; omega)
        | (simp only [List.length_nil, List.length_cons, Nat.zero_add, tests_len]; unfold Tryd.t26; simp only []; omega)) rfl (List.nil_append _) rfl) ?_
    refine AOps.call (o_assign _ rfl rfl) ?_
    refine AOps.nil ?_
    refine AWP.seq ?_
    refine AWP.region ?_
    refine AOps.call (o_move _ rfl rfl) ?_
    refine AOps.call (o_loadRef _ rfl rfl Tryd.sizeOf26 Tryd.isAgg26 rfl rfl rfl) ?_
    refine AOps.call (o_lit Tryd.underlying22 Tryd.sizeOf26 Tryd.zeroValue26 rfl rfl rfl rfl rfl rfl rfl) ?_
    refine AOps.cons (o_append _ _ Tryd.underlying22 info26 rfl rfl rfl rfl rfl rfl rfl rfl (fun c hc => by simp at hc; subst hc; rfl) tests_z (by
        first
        | (rw [tests_len]; simp only [List.length_nil, List.length_cons, Nat.zero_add]; unfold Tryd.t26; simp only []; omega)
        | (simp only [List.length_nil, List.length_cons, Nat.zero_add, tests_len]; unfold Tryd.t26; simp only []; omega)) rfl (tests_snoc s.tests t) rfl) ?_
    refine AOps.call (o_assign _ rfl rfl) ?_
    refine AOps.nil ?_
    refine AWP.seq ?_
    refine AWP.region ?_
    refine AOps.call (o_fieldRef _ rfl fa24_0 rfl rfl) ?_
    refine AOps.call (o_loadRef _ rfl rfl Tryd.sizeOf3 Tryd.isAgg3 rfl rfl rfl) ?_
    refine AOps.call (o_fieldRef _ rfl fa24_1 rfl rfl) ?_
    refine AOps.call (o_loadRef _ rfl rfl Tryd.sizeOf3 Tryd.isAgg3 rfl rfl rfl) ?_
    refine AOps.call (o_move _ rfl rfl) ?_
    refine AOps.call (o_build bu24 rfl rfl rfl) ?_
    refine AOps.cons (o_store _ _ rfl rfl Tryd.sizeOf24 rfl rfl rfl rfl rfl) ?_
    refine AOps.call (o_assign _ rfl rfl) ?_
    refine AOps.nil ?_
    refine AWP.ret ?_
    refine postQ.retC1 Tryd.results15 rfl rfl Tryd.sizeOf24 Tryd.isAgg24 rfl rfl ?_
    first
    | (rw [if_pos hz]; rfl)
    | (rw [if_neg hz]; rfl)

end Go.Proofs.YtphoomnonenalaaDoor
