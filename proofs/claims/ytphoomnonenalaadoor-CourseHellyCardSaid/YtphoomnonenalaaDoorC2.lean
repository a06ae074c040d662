import Derived.Test.YtphoomnonenalaaDoorC1
set_option linter.unusedSimpArgs false
set_option linter.unusedVariables false
namespace Go.Proofs.YtphoomnonenalaaDoor
open Go.Ab

set_option maxRecDepth 20000 in
theorem validScale_s (s : Scl) : FSpec Tryd.prog 66 [.agg (eS s)] (B (scaleB s)) none := by
  refine FSpec.of_body Tryd.func66 rfl (leB rfl) fun w0 M0 => ?_
  refine AWP.seq ?_
  refine AWP.region ?_
  refine AOps.call (o_box _ rfl rfl rfl) ?_
  refine AOps.call (o_assign _ rfl rfl) ?_
  refine AOps.nil ?_
  refine AWP.seq ?_
  refine AWP.seq ?_
  refine AWP.region ?_
  refine AOps.call (o_fieldRef _ rfl fa24_0 rfl rfl) ?_
  refine AOps.call (o_loadRef _ rfl rfl Tryd.sizeOf3 Tryd.isAgg3 rfl rfl rfl) ?_
  refine AOps.call (o_call (isNo_s _) Tryd.call98 rfl rfl) ?_
  refine AOps.call (o_un _ rfl (fun _ => rfl) rfl) ?_
  refine AOps.call (o_move _ rfl rfl) ?_
  refine AOps.split rfl rfl rfl (fun h6 => ?_) (fun h6 => ?_)
  · skip
    refine AOps.go rfl rfl rfl h6 (o_fieldRef _ rfl fa24_1 rfl rfl) ?_
    refine AOps.go rfl rfl rfl h6 (o_loadRef _ rfl rfl Tryd.sizeOf3 Tryd.isAgg3 rfl rfl rfl) ?_
    refine AOps.go rfl rfl rfl h6 (o_bin _ _ rfl rfl (fun _ => rfl) rfl) ?_
    refine AOps.call (o_pickF _ _ _ rfl h6 rfl rfl) ?_
    refine AOps.call (o_move _ rfl rfl) ?_
    refine AOps.split rfl rfl rfl (fun h10 => ?_) (fun h10 => ?_)
    · skip
      refine AOps.go rfl rfl rfl h10 (o_fieldRef _ rfl fa24_1 rfl rfl) ?_
      refine AOps.go rfl rfl rfl h10 (o_loadRef _ rfl rfl Tryd.sizeOf3 Tryd.isAgg3 rfl rfl rfl) ?_
      refine AOps.go rfl rfl rfl h10 (o_bin _ _ rfl rfl (fun _ => rfl) rfl) ?_
      refine AOps.call (o_pickF _ _ _ rfl h10 rfl rfl) ?_
      refine AOps.call (o_move _ rfl rfl) ?_
      refine AOps.split rfl rfl rfl (fun h14 => ?_) (fun h14 => ?_)
      · skip
        refine AOps.go rfl rfl rfl h14 (o_fieldRef _ rfl fa24_2 rfl rfl) ?_
        refine AOps.go rfl rfl rfl h14 (o_loadRef _ rfl rfl Tryd.sizeOf22 Tryd.isAgg22 rfl rfl rfl) ?_
        refine AOps.go rfl rfl rfl h14 (o_len _ Tryd.underlying22 rfl rfl) ?_
        refine AOps.go rfl rfl rfl h14 (o_bin _ _ rfl rfl (fun _ => rfl) rfl) ?_
        refine AOps.call (o_pickF _ _ _ rfl h14 rfl rfl) ?_
        refine AOps.nil ?_
        refine AWP.cond _ rfl (fun h19 => ?_) (fun h19 => ?_)
        · skip
          refine AWP.seq ?_
          refine AWP.region ?_
          refine AOps.call (o_assign _ rfl rfl) ?_
          refine AOps.nil ?_
          refine AWP.ret ?_
          refine postQ.ret1 Tryd.results66 rfl ?_
          try rw [oks_at hlt] at hinv
          simp_all [AV.close, B, scaleB, tests_len, badP]
          try (intros; omega)
        · skip
          have hlen : s.tests.length ≤ 64 := by simp_all [tests_len] <;> omega
          refine AWP.skip ?_
          refine AWP.seq ?_
          refine AWP.seq ?_
          refine AWP.region ?_
          refine AOps.call (o_fieldRef _ rfl fa24_2 rfl rfl) ?_
          refine AOps.call (o_loadRef _ rfl rfl Tryd.sizeOf22 Tryd.isAgg22 rfl rfl rfl) ?_
          refine AOps.call (o_len _ Tryd.underlying22 rfl rfl) ?_
          refine AOps.call (o_move _ rfl rfl) ?_
          refine AOps.nil ?_
          refine AWP.block ?_
          refine AWP.loop (ι := Nat) (fun i => AS.mk' 53 [(1, .ref (1, 0) 0), (26, .sl (tests s.tests)), (27, I (tests s.tests).length), (28, I i)] [((1, 0), [I s.no, I s.rate, .sl (tests s.tests)])] [] [(1, 1)]) (fun i => i ≤ s.tests.length ∧ oks none s.tests = oks (prevT s.tests i) (s.tests.drop i)) (fun i => s.tests.length - i) (0) (Weak.mk' rfl ⟨⟨.refl rfl, rfl⟩, ⟨⟨.refl rfl, rfl⟩, ⟨⟨.refl rfl, rfl⟩, ⟨⟨.refl rfl, rfl⟩, trivial⟩⟩⟩⟩ ⟨⟨rfl, rfl, rfl⟩, trivial⟩ trivial) (⟨Nat.zero_le _, rfl⟩) ?_
          rintro k ⟨hk, hinv⟩
          try dsimp only at *
          refine AWP.seq ?_
          refine AWP.region ?_
          refine AOps.call (o_bin _ _ rfl rfl (fun _ => rfl) rfl) ?_
          refine AOps.nil ?_
          refine AWP.seq ?_
          refine AWP.cond _ rfl (fun h25 => ?_) (fun h25 => ?_)
          · skip
            have hlt : k < s.tests.length := by simpa [tests] using h25
            have hel := tests_get hlt
            refine AWP.skip ?_
            refine AWP.seq ?_
            refine AWP.block ?_
            refine AWP.seq ?_
            refine AWP.region ?_
            refine AOps.call (o_move _ rfl rfl) ?_
            refine AOps.call (o_index _ _ Tryd.underlying22 Tryd.sizeOf26 rfl rfl (by omega) (by assumption) rfl rfl) ?_
            refine AOps.call (o_loadRd _ rfl Tryd.sizeOf26 Tryd.isAgg26 rfl rfl rfl) ?_
            refine AOps.call (o_alloc ze26 rfl rfl) ?_
            refine AOps.call (o_assign _ rfl rfl) ?_
            refine AOps.cons (o_store _ _ rfl rfl Tryd.sizeOf26 rfl rfl rfl rfl rfl) ?_
            refine AOps.nil ?_
            refine AWP.seq ?_
            refine AWP.drawn 19 mixed (by kernel_rfl) ?_
            refine AHead.call (o_loadRef _ rfl rfl Tryd.sizeOf26 Tryd.isAgg26 rfl rfl rfl) rfl ?_
            refine AHead.call (o_call (CheckTest_s s.tests[k]) Tryd.call17 rfl rfl) rfl ?_
            refine AHead.call (o_bin _ _ rfl rfl (fun _ => rfl) rfl) rfl ?_
            refine AHead.call (o_move _ rfl rfl) rfl ?_
            refine AHead.split rfl rfl rfl (fun h32 => ?_) (fun h32 => ?_)
            · skip
              refine AHead.go rfl rfl rfl h32 (o_move _ rfl rfl) rfl ?_
              refine AHead.go rfl rfl rfl h32 (o_bin _ _ rfl rfl (fun _ => rfl) rfl) rfl ?_
              refine AHead.go rfl rfl rfl h32 (o_move _ rfl rfl) rfl ?_
              refine AHead.split rfl rfl rfl (fun h34 => ?_) (fun h34 => ?_)
              · skip
                have hk0 : 0 < k := by simp at h34; omega
                have hlt1 : k - 1 < s.tests.length := by omega
                have hel1 : (tests s.tests)[((k : Int) - 1).toNat]? = some (eT s.tests[k - 1]) := by
                  have := tests_get hlt1
                  rwa [show (((k - 1 : Nat)) : Int) = (k : Int) - 1 by omega] at this
                have hbt : badP (prevT s.tests k) s.tests[k] = (!testB s.tests[k] || decide (s.tests[k].known < s.tests[k - 1].known)) := by
                  obtain ⟨q, rfl⟩ : ∃ q, k = q + 1 := ⟨k - 1, by omega⟩
                  simp [prevT, badP, show q < s.tests.length by omega]
                refine AHead.go rfl rfl rfl h34 (o_fieldRef _ rfl fa26_1 rfl rfl) rfl ?_
                refine AHead.go rfl rfl rfl h34 (o_loadRef _ rfl rfl Tryd.sizeOf3 Tryd.isAgg3 rfl rfl rfl) rfl ?_
                refine AHead.go rfl rfl rfl h34 (o_fieldRef _ rfl fa24_2 rfl rfl) rfl ?_
                refine AHead.go rfl rfl rfl h34 (o_loadRef _ rfl rfl Tryd.sizeOf22 Tryd.isAgg22 rfl rfl rfl) rfl ?_
                refine AHead.go rfl rfl rfl h34 (o_move _ rfl rfl) rfl ?_
                refine AHead.go rfl rfl rfl h34 (o_sub _ _ rfl rfl ⟨by omega, by omega⟩ rfl) rfl ?_
                refine AHead.go rfl rfl rfl h34 (o_index _ _ Tryd.underlying22 Tryd.sizeOf26 rfl rfl (by omega) hel1 rfl rfl) rfl ?_
                refine AHead.go rfl rfl rfl h34 (o_fieldRd _ rfl fa26_1 rfl) rfl ?_
                refine AHead.go rfl rfl rfl h34 (o_loadRd _ rfl Tryd.sizeOf3 Tryd.isAgg3 rfl rfl rfl) rfl ?_
                refine AHead.go rfl rfl rfl h34 (o_bin _ _ rfl rfl (fun _ => rfl) rfl) rfl ?_
                refine AHead.go rfl rfl rfl h32 (o_pickT _ _ _ rfl h34 rfl rfl) rfl ?_
                refine AHead.call (o_pickF _ _ _ rfl h32 rfl rfl) rfl ?_
                refine AHead.nil ?_
                refine AOps.nil ?_
                refine AWP.cond _ rfl (fun h44 => ?_) (fun h44 => ?_)
                · skip
                  have hB : badP (prevT s.tests k) s.tests[k] = true := by
                    first
                    | (rw [hbt]; simp_all; done)
                    | (unfold badP; simp_all; done)
                  rw [oks_at hlt, hB] at hinv
                  refine AWP.seq ?_
                  refine AWP.region ?_
                  refine AOps.call (o_assign _ rfl rfl) ?_
                  refine AOps.nil ?_
                  refine AWP.ret ?_
                  refine postQ.ret1 Tryd.results66 rfl ?_
                  try rw [oks_at hlt] at hinv
                  simp_all [AV.close, B, scaleB, tests_len, badP]
                  try (intros; omega)
                · skip
                  have hB : badP (prevT s.tests k) s.tests[k] = false := by
                    first
                    | (rw [hbt]; simp_all; done)
                    | (unfold badP; simp_all; done)
                  refine AWP.skip ?_
                  refine AWP.region ?_
                  refine AOps.call (o_add _ _ rfl rfl ⟨by omega, by omega⟩ rfl) ?_
                  refine AOps.call (o_move _ rfl rfl) ?_
                  refine AOps.nil ?_
                  refine ⟨k + 1, ?_, (Weak.mk' rfl ⟨⟨.refl rfl, rfl⟩, ⟨⟨.refl rfl, rfl⟩, ⟨⟨.refl rfl, rfl⟩, ⟨⟨.refl rfl, rfl⟩, trivial⟩⟩⟩⟩ ⟨⟨rfl, rfl, rfl⟩, trivial⟩ trivial)⟩
                  refine ⟨⟨by omega, ?_⟩, by omega⟩
                  rw [hinv, oks_at hlt]
                  first
                  | (rw [hB]; simp; done)
                  | (rw [hbt]; simp_all)
              · skip
                have hk0 : k = 0 := by simp at h34; omega
                have hbt : badP (prevT s.tests k) s.tests[k] = !testB s.tests[k] := by
                  subst hk0; simp [prevT, badP]
                refine AHead.pass rfl rfl rfl h34 rfl ?_
                refine AHead.pass rfl rfl rfl h34 rfl ?_
                refine AHead.pass rfl rfl rfl h34 rfl ?_
                refine AHead.pass rfl rfl rfl h34 rfl ?_
                refine AHead.pass rfl rfl rfl h34 rfl ?_
                refine AHead.pass rfl rfl rfl h34 rfl ?_
                refine AHead.pass rfl rfl rfl h34 rfl ?_
                refine AHead.pass rfl rfl rfl h34 rfl ?_
                refine AHead.pass rfl rfl rfl h34 rfl ?_
                refine AHead.pass rfl rfl rfl h34 rfl ?_
                refine AHead.go rfl rfl rfl h32 (o_pickF _ _ _ rfl h34 rfl rfl) rfl ?_
                refine AHead.call (o_pickF _ _ _ rfl h32 rfl rfl) rfl ?_
                refine AHead.nil ?_
                refine AOps.nil ?_
                refine AWP.condF rfl ?_
                refine AWP.skip ?_
                refine AWP.region ?_
                refine AOps.call (o_add _ _ rfl rfl ⟨by omega, by omega⟩ rfl) ?_
                refine AOps.call (o_move _ rfl rfl) ?_
                refine AOps.nil ?_
                refine ⟨k + 1, ?_, (Weak.mk' rfl ⟨⟨.refl rfl, rfl⟩, ⟨⟨.refl rfl, rfl⟩, ⟨⟨.refl rfl, rfl⟩, ⟨⟨.refl rfl, rfl⟩, trivial⟩⟩⟩⟩ ⟨⟨rfl, rfl, rfl⟩, trivial⟩ trivial)⟩
                refine ⟨⟨by omega, ?_⟩, by omega⟩
                rw [hinv, oks_at hlt]
                first
                | (rw [hB]; simp; done)
                | (rw [hbt]; simp_all)
            · skip
              refine AHead.pass rfl rfl rfl h32 rfl ?_
              refine AHead.pass rfl rfl rfl h32 rfl ?_
              refine AHead.pass rfl rfl rfl h32 rfl ?_
              refine AHead.passU rfl rfl rfl rfl ?_
              refine AHead.passU rfl rfl rfl rfl ?_
              refine AHead.passU rfl rfl rfl rfl ?_
              refine AHead.passU rfl rfl rfl rfl ?_
              refine AHead.passU rfl rfl rfl rfl ?_
              refine AHead.passU rfl rfl rfl rfl ?_
              refine AHead.passU rfl rfl rfl rfl ?_
              refine AHead.passU rfl rfl rfl rfl ?_
              refine AHead.passU rfl rfl rfl rfl ?_
              refine AHead.passU rfl rfl rfl rfl ?_
              refine AHead.pass rfl rfl rfl h32 rfl ?_
              refine AHead.call (o_pickT _ _ _ rfl h32 rfl rfl) rfl ?_
              refine AHead.nil ?_
              refine AOps.nil ?_
              refine AWP.condT rfl ?_
              refine AWP.seq ?_
              refine AWP.region ?_
              refine AOps.call (o_assign _ rfl rfl) ?_
              refine AOps.nil ?_
              refine AWP.ret ?_
              refine postQ.ret1 Tryd.results66 rfl ?_
              try rw [oks_at hlt] at hinv
              simp_all [AV.close, B, scaleB, tests_len, badP]
              try (intros; omega)
          · skip
            have hkl : k = s.tests.length := by simp [tests] at h25 hk; omega
            subst hkl
            rw [oks_end] at hinv
            refine AWP.exit ?_
            refine AWP.seq ?_
            refine AWP.region ?_
            refine AOps.call (o_assign _ rfl rfl) ?_
            refine AOps.nil ?_
            refine AWP.ret ?_
            refine postQ.ret1 Tryd.results66 rfl ?_
            try rw [oks_at hlt] at hinv
            simp_all [AV.close, B, scaleB, tests_len, badP]
            try (intros; omega)
      · skip
        refine AOps.pass rfl rfl rfl h14 rfl ?_
        refine AOps.pass rfl rfl rfl h14 rfl ?_
        refine AOps.pass rfl rfl rfl h14 rfl ?_
        refine AOps.pass rfl rfl rfl h14 rfl ?_
        refine AOps.call (o_pickT _ _ _ rfl h14 rfl rfl) ?_
        refine AOps.nil ?_
        refine AWP.condT rfl ?_
        refine AWP.seq ?_
        refine AWP.region ?_
        refine AOps.call (o_assign _ rfl rfl) ?_
        refine AOps.nil ?_
        refine AWP.ret ?_
        refine postQ.ret1 Tryd.results66 rfl ?_
        try rw [oks_at hlt] at hinv
        simp_all [AV.close, B, scaleB, tests_len, badP]
        try (intros; omega)
    · skip
      refine AOps.pass rfl rfl rfl h10 rfl ?_
      refine AOps.pass rfl rfl rfl h10 rfl ?_
      refine AOps.pass rfl rfl rfl h10 rfl ?_
      refine AOps.call (o_pickT _ _ _ rfl h10 rfl rfl) ?_
      refine AOps.call (o_move _ rfl rfl) ?_
      refine AOps.pass rfl rfl rfl rfl rfl ?_
      refine AOps.pass rfl rfl rfl rfl rfl ?_
      refine AOps.pass rfl rfl rfl rfl rfl ?_
      refine AOps.pass rfl rfl rfl rfl rfl ?_
      refine AOps.call (o_pickT _ _ _ rfl rfl rfl rfl) ?_
      refine AOps.nil ?_
      refine AWP.condT rfl ?_
      refine AWP.seq ?_
      refine AWP.region ?_
      refine AOps.call (o_assign _ rfl rfl) ?_
      refine AOps.nil ?_
      refine AWP.ret ?_
      refine postQ.ret1 Tryd.results66 rfl ?_
      try rw [oks_at hlt] at hinv
      simp_all [AV.close, B, scaleB, tests_len, badP]
      try (intros; omega)
  · skip
    refine AOps.pass rfl rfl rfl h6 rfl ?_
    refine AOps.pass rfl rfl rfl h6 rfl ?_
    refine AOps.pass rfl rfl rfl h6 rfl ?_
    refine AOps.call (o_pickT _ _ _ rfl h6 rfl rfl) ?_
    refine AOps.call (o_move _ rfl rfl) ?_
    refine AOps.pass rfl rfl rfl rfl rfl ?_
    refine AOps.pass rfl rfl rfl rfl rfl ?_
    refine AOps.pass rfl rfl rfl rfl rfl ?_
    refine AOps.call (o_pickT _ _ _ rfl rfl rfl rfl) ?_
    refine AOps.call (o_move _ rfl rfl) ?_
    refine AOps.pass rfl rfl rfl rfl rfl ?_
    refine AOps.pass rfl rfl rfl rfl rfl ?_
    refine AOps.pass rfl rfl rfl rfl rfl ?_
    refine AOps.pass rfl rfl rfl rfl rfl ?_
    refine AOps.call (o_pickT _ _ _ rfl rfl rfl rfl) ?_
    refine AOps.nil ?_
    refine AWP.condT rfl ?_
    refine AWP.seq ?_
    refine AWP.region ?_
    refine AOps.call (o_assign _ rfl rfl) ?_
    refine AOps.nil ?_
    refine AWP.ret ?_
    refine postQ.ret1 Tryd.results66 rfl ?_
    try rw [oks_at hlt] at hinv
    simp_all [AV.close, B, scaleB, tests_len, badP]
    try (intros; omega)

set_option maxRecDepth 20000 in
theorem firstApart_s (r : Int) (l : List Tst) (hr : 0 ≤ r ∧ r ≤ 1000) (hl : l.length ≤ 1000) (hv : ∀ t ∈ l, testB t = true) : FSpec Tryd.prog 67 [I r, .sl (tests l)] (match pairs r l 0 with | some (i, j) => .tup [.agg [I i, I j], B true] | none => .tup [.agg [I 0, I 0], B false]) none := by
  refine FSpec.of_body Tryd.func67 rfl (leB rfl) fun w0 M0 => ?_
  refine AWP.seq ?_
  refine AWP.region ?_
  refine AOps.call (o_alloc ze28 rfl rfl) ?_
  refine AOps.call (o_assign _ rfl rfl) ?_
  refine AOps.nil ?_
  refine AWP.seq ?_
  refine AWP.seq ?_
  refine AWP.region ?_
  refine AOps.call (o_move _ rfl rfl) ?_
  refine AOps.call (o_len _ Tryd.underlying22 rfl rfl) ?_
  refine AOps.call (o_move _ rfl rfl) ?_
  refine AOps.nil ?_
  refine AWP.block ?_
  refine AWP.loop (ι := Nat) (fun i => AS.mk' 40 [(0, I r), (1, .sl (tests l)), (4, .ref (4, 0) 0), (10, .sl (tests l)), (11, I (tests l).length), (12, I i)] [((4, 0), [I 0, I 0])] [] [(4, 1)]) (fun i => i ≤ l.length ∧ pairs r l 0 = pairs r (l.drop i) i) (fun i => l.length - i) (0) (Weak.mk' rfl ⟨⟨.refl rfl, rfl⟩, ⟨⟨.refl rfl, rfl⟩, ⟨⟨.refl rfl, rfl⟩, ⟨⟨.refl rfl, rfl⟩, ⟨⟨.refl rfl, rfl⟩, ⟨⟨.refl rfl, rfl⟩, trivial⟩⟩⟩⟩⟩⟩ ⟨⟨rfl, rfl, rfl⟩, trivial⟩ trivial) (⟨Nat.zero_le _, rfl⟩) ?_
  rintro k ⟨hk, hinv⟩
  try dsimp only at *
  refine AWP.seq ?_
  refine AWP.region ?_
  refine AOps.call (o_bin _ _ rfl rfl (fun _ => rfl) rfl) ?_
  refine AOps.nil ?_
  refine AWP.seq ?_
  refine AWP.cond _ rfl (fun h6 => ?_) (fun h6 => ?_)
  · skip
    have hlt : k < l.length := by simpa [tests] using h6
    have hel := tests_get hlt
    have hdl : (l.drop (k + 1)).length = l.length - (k + 1) := List.length_drop
    refine AWP.skip ?_
    refine AWP.seq ?_
    refine AWP.block ?_
    refine AWP.seq ?_
    refine AWP.region ?_
    refine AOps.call (o_move _ rfl rfl) ?_
    refine AOps.call (o_index _ _ Tryd.underlying22 Tryd.sizeOf26 rfl rfl (by omega) (by assumption) rfl rfl) ?_
    refine AOps.call (o_loadRd _ rfl Tryd.sizeOf26 Tryd.isAgg26 rfl rfl rfl) ?_
    refine AOps.call (o_alloc ze26 rfl rfl) ?_
    refine AOps.call (o_assign _ rfl rfl) ?_
    refine AOps.cons (o_store _ _ rfl rfl Tryd.sizeOf26 rfl rfl rfl rfl rfl) ?_
    refine AOps.nil ?_
    refine AWP.seq ?_
    refine AWP.region ?_
    refine AOps.call (o_move _ rfl rfl) ?_
    refine AOps.call (o_move _ rfl rfl) ?_
    refine AOps.call (o_add _ _ rfl rfl ⟨by omega, by omega⟩ rfl) ?_
    refine AOps.call (o_sliceE _ _ _ Tryd.underlying22 Tryd.sizeOf26 rfl (boundA_some rfl (by omega) (by omega : _ = k + 1)) boundA_none (by rw [tests_len]; omega) (Nat.le_refl _) tests_z (tests_from l (k + 1)) rfl) ?_
    refine AOps.call (o_len _ Tryd.underlying22 rfl rfl) ?_
    refine AOps.call (o_move _ rfl rfl) ?_
    refine AOps.nil ?_
    refine AWP.block ?_
    refine AWP.loop (ι := Nat) (fun i => AS.mk' 40 [(0, I r), (1, .sl (tests l)), (4, .ref (4, 0) 0), (6, I k), (7, .ref (7, 0) 0), (10, .sl (tests l)), (11, I (tests l).length), (12, I k), (20, .sl (tests (l.drop (k + 1)))), (21, I (tests (l.drop (k + 1))).length), (22, I i)] [((4, 0), [I 0, I 0]), ((7, 0), eT l[k])] [] [(4, 1), (7, 1)]) (fun i => i ≤ (l.drop (k + 1)).length ∧ (l.drop (k + 1)).findIdx? (contraB r l[k]) = (((l.drop (k + 1)).drop i).findIdx? (contraB r l[k])).map (· + i)) (fun i => (l.drop (k + 1)).length - i) (0) (Weak.mk' rfl ⟨⟨.refl rfl, rfl⟩, ⟨⟨.refl rfl, rfl⟩, ⟨⟨.refl rfl, rfl⟩, ⟨⟨.refl rfl, rfl⟩, ⟨⟨.refl rfl, rfl⟩, ⟨⟨.refl rfl, rfl⟩, ⟨⟨.refl rfl, rfl⟩, ⟨⟨.refl rfl, rfl⟩, ⟨⟨.refl rfl, rfl⟩, ⟨⟨.refl rfl, rfl⟩, ⟨⟨.refl rfl, rfl⟩, trivial⟩⟩⟩⟩⟩⟩⟩⟩⟩⟩⟩ ⟨⟨rfl, rfl, rfl⟩, ⟨⟨rfl, rfl, rfl⟩, trivial⟩⟩ trivial) (⟨Nat.zero_le _, by simp⟩) ?_
    rintro j ⟨hj, hjnv⟩
    try dsimp only at *
    refine AWP.seq ?_
    refine AWP.region ?_
    refine AOps.call (o_bin _ _ rfl rfl (fun _ => rfl) rfl) ?_
    refine AOps.nil ?_
    refine AWP.seq ?_
    refine AWP.cond _ rfl (fun h16 => ?_) (fun h16 => ?_)
    · skip
      have hjlt : j < (l.drop (k + 1)).length := by simpa [tests] using h16
      have hjel := tests_get hjlt
      refine AWP.skip ?_
      refine AWP.seq ?_
      refine AWP.block ?_
      refine AWP.seq ?_
      refine AWP.region ?_
      refine AOps.call (o_move _ rfl rfl) ?_
      refine AOps.call (o_index _ _ Tryd.underlying22 Tryd.sizeOf26 rfl rfl (by omega) (by assumption) rfl rfl) ?_
      refine AOps.call (o_loadRd _ rfl Tryd.sizeOf26 Tryd.isAgg26 rfl rfl rfl) ?_
      refine AOps.call (o_alloc ze26 rfl rfl) ?_
      refine AOps.call (o_assign _ rfl rfl) ?_
      refine AOps.cons (o_store _ _ rfl rfl Tryd.sizeOf26 rfl rfl rfl rfl rfl) ?_
      refine AOps.nil ?_
      refine AWP.seq ?_
      refine AWP.region ?_
      refine AOps.call (o_move _ rfl rfl) ?_
      refine AOps.call (o_loadRef _ rfl rfl Tryd.sizeOf26 Tryd.isAgg26 rfl rfl rfl) ?_
      refine AOps.call (o_loadRef _ rfl rfl Tryd.sizeOf26 Tryd.isAgg26 rfl rfl rfl) ?_
      refine AOps.call (o_call (contradict_s r l[k] (l.drop (k + 1))[j] hr (hv _ (List.getElem_mem hlt)) (hv _ (List.mem_of_mem_drop (List.getElem_mem hjlt)))) Tryd.call123 rfl rfl) ?_
      refine AOps.nil ?_
      refine AWP.cond _ rfl (fun h24 => ?_) (fun h24 => ?_)
      · skip
        have hyes : (l.drop (k + 1)).findIdx? (contraB r l[k]) = some j := by rw [hjnv, find_at hjlt, if_pos h24]; simp
        have hpr : pairs r l 0 = some (k, k + 1 + j) := by rw [hinv, pairs_at hlt, hyes]
        refine AWP.seq ?_
        refine AWP.region ?_
        refine AOps.call (o_move _ rfl rfl) ?_
        refine AOps.call (o_move _ rfl rfl) ?_
        refine AOps.call (o_add _ _ rfl rfl ⟨by omega, by omega⟩ rfl) ?_
        refine AOps.call (o_move _ rfl rfl) ?_
        refine AOps.call (o_add _ _ rfl rfl ⟨by omega, by omega⟩ rfl) ?_
        refine AOps.call (o_build bu28 rfl rfl rfl) ?_
        refine AOps.cons (o_store _ _ rfl rfl Tryd.sizeOf28 rfl rfl rfl rfl rfl) ?_
        refine AOps.call (o_assign _ rfl rfl) ?_
        refine AOps.nil ?_
        refine AWP.ret ?_
        refine postQ.retC1 Tryd.results67 rfl rfl Tryd.sizeOf28 Tryd.isAgg28 rfl rfl ?_
        first
        | (rw [hpr]; rfl)
        | (have hpn : pairs r l 0 = none := by rw [hinv]; simp [pairs]
           rw [hpn]; rfl)
      · skip
        refine AWP.skip ?_
        refine AWP.region ?_
        refine AOps.call (o_add _ _ rfl rfl ⟨by omega, by omega⟩ rfl) ?_
        refine AOps.call (o_move _ rfl rfl) ?_
        refine AOps.nil ?_
        refine ⟨j + 1, ?_, (Weak.mk' rfl ⟨⟨.refl rfl, rfl⟩, ⟨⟨.refl rfl, rfl⟩, ⟨⟨.refl rfl, rfl⟩, ⟨⟨.refl rfl, rfl⟩, ⟨⟨.refl rfl, rfl⟩, ⟨⟨.refl rfl, rfl⟩, ⟨⟨.refl rfl, rfl⟩, ⟨⟨.refl rfl, rfl⟩, ⟨⟨.refl rfl, rfl⟩, ⟨⟨.refl rfl, rfl⟩, ⟨⟨.refl rfl, rfl⟩, trivial⟩⟩⟩⟩⟩⟩⟩⟩⟩⟩⟩ ⟨⟨rfl, rfl, rfl⟩, ⟨⟨rfl, rfl, rfl⟩, trivial⟩⟩ trivial)⟩
        refine ⟨⟨by omega, ?_⟩, by omega⟩
        rw [hjnv, find_at hjlt, if_neg (by simp_all)]
        simp [Option.map_map, Function.comp_def, Nat.add_comm, Nat.add_left_comm]
    · skip
      have hjl : j = (l.drop (k + 1)).length := by simp [tests] at h16 hj; simp; omega
      subst hjl
      have hno : (l.drop (k + 1)).findIdx? (contraB r l[k]) = none := by rw [hjnv, List.drop_length]; rfl
      refine AWP.exit ?_
      refine AWP.region ?_
      refine AOps.call (o_add _ _ rfl rfl ⟨by omega, by omega⟩ rfl) ?_
      refine AOps.call (o_move _ rfl rfl) ?_
      refine AOps.nil ?_
      refine ⟨k + 1, ?_, (Weak.mk' rfl ⟨⟨.refl rfl, rfl⟩, ⟨⟨.refl rfl, rfl⟩, ⟨⟨.refl rfl, rfl⟩, ⟨⟨.refl rfl, rfl⟩, ⟨⟨.refl rfl, rfl⟩, ⟨⟨.refl rfl, rfl⟩, trivial⟩⟩⟩⟩⟩⟩ ⟨⟨rfl, rfl, rfl⟩, trivial⟩ trivial)⟩
      exact ⟨⟨by omega, by rw [hinv, pairs_at hlt, hno]⟩, by omega⟩
  · skip
    have hkl : k = l.length := by simp [tests] at h6 hk; omega
    subst hkl
    refine AWP.exit ?_
    refine AWP.seq ?_
    refine AWP.region ?_
    refine AOps.call (o_build bu28 rfl rfl rfl) ?_
    refine AOps.cons (o_store _ _ rfl rfl Tryd.sizeOf28 rfl rfl rfl rfl rfl) ?_
    refine AOps.call (o_assign _ rfl rfl) ?_
    refine AOps.nil ?_
    refine AWP.ret ?_
    refine postQ.retC1 Tryd.results67 rfl rfl Tryd.sizeOf28 Tryd.isAgg28 rfl rfl ?_
    first
    | (rw [hpr]; rfl)
    | (have hpn : pairs r l 0 = none := by rw [hinv]; simp [pairs]
       rw [hpn]; rfl)

end Go.Proofs.YtphoomnonenalaaDoor
