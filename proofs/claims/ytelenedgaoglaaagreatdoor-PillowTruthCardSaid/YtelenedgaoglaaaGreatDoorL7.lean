/- L7. -/
import Derived.Test.YtelenedgaoglaaaGreatDoorY13
import Derived.Test.YtelenedgaoglaaaGreatDoorR27
import Derived.Test.YtelenedgaoglaaaGreatDoorAdA
set_option linter.unusedSimpArgs false
set_option linter.unusedVariables false
namespace Go.Proofs.YtelenedgaoglaaaGreatDoor
open Go.Ab
open Go.Pil Go.RowKit
theorem ints_gL {t : Tru} {n k : Nat} (h : k < n) : (ints (t.lds n))[((k : Nat) : Int).toNat]? = some [I (t.ld k)] := by
  rw [← Tru.lds_getD h]; exact ints_gY (by rw [Tru.lds_len]; exact h)
theorem any_hasS {l : List Sp} {x : Int} : (l.any fun s => hasS s x) = true ↔ HasL l x := by
  rw [List.any_eq_true]
  exact ⟨fun ⟨s, h1, h2⟩ => ⟨s, h1, hasS_iff.1 h2⟩, fun ⟨s, h1, h2⟩ => ⟨s, h1, hasS_iff.2 h2⟩⟩
set_option maxHeartbeats 4000000 in
set_option maxRecDepth 20000 in
theorem PillowTruth_b (t : Tru) (hch : t.changes.length < 9223372036854775807) : FSpecG Tryz.prog TAB 11 [.agg (eT t)] (B true) (none) := by
  refine FSpecG.of_body tab_stable Tryz.func11 rfl (leB rfl) fun w0 M0 hG => ?_
  have hic := ints_len t.changes
  have his := ints_len t.states
  have hie := ints_len t.errors
  have hia := ints_len t.carried
  have hih := ints_len t.shown
  refine AWP.seq ?_
  refine AWP.region ?_
  refine AOps.call (o_box _ rfl rfl rfl) ?_
  refine AOps.call (o_assign _ rfl rfl) ?_
  refine AOps.nil ?_
  refine AWP.seq ?_
  refine AWP.seq ?_
  refine AWP.region ?_
  refine AOps.call (o_callG (sane_s) hG Tryz.call12 rfl rfl) ?_
  refine AOps.call (o_un _ rfl (fun _ => rfl) rfl) ?_
  refine AOps.nil ?_
  refine AWP.cond _ rfl (fun h4 => ?_) (fun h4 => ?_)
  · skip
    exfalso
    simp at h4
  · skip
    refine AWP.skip ?_
    refine AWP.seq ?_
    refine AWP.region ?_
    refine AOps.call (o_fieldRef _ rfl fa78_5 rfl rfl) ?_
    refine AOps.call (o_loadRef _ rfl rfl Tryz.sizeOf25 Tryz.isAgg25 rfl rfl rfl) ?_
    refine AOps.call (o_len _ Tryz.underlying25 rfl rfl) ?_
    refine AOps.call (o_add _ _ rfl rfl ⟨by (try dsimp only); omega, by (try dsimp only); omega⟩ rfl) ?_
    refine AOps.call (o_assign _ rfl rfl) ?_
    refine AOps.nil ?_
    refine AWP.seq ?_
    refine AWP.seq ?_
    refine AWP.region ?_
    refine AOps.call (o_move _ rfl rfl) ?_
    refine AOps.call (o_bin _ _ rfl rfl (fun _ => rfl) rfl) ?_
    refine AOps.call (o_move _ rfl rfl) ?_
    refine AOps.split rfl rfl rfl (fun h10 => ?_) (fun h10 => ?_)
    · skip
      have hg28 := h10
      refine AOps.go rfl rfl rfl h10 (o_fieldRef _ rfl fa78_6 rfl rfl) ?_
      refine AOps.go rfl rfl rfl h10 (o_loadRef _ rfl rfl Tryz.sizeOf25 Tryz.isAgg25 rfl rfl rfl) ?_
      refine AOps.go rfl rfl rfl h10 (o_len _ Tryz.underlying25 rfl rfl) ?_
      refine AOps.go rfl rfl rfl h10 (o_move _ rfl rfl) ?_
      refine AOps.go rfl rfl rfl h10 (o_bin _ _ rfl rfl (fun _ => rfl) rfl) ?_
      refine AOps.call (o_pickF _ _ _ rfl h10 rfl rfl) ?_
      refine AOps.call (o_move _ rfl rfl) ?_
      refine AOps.split rfl rfl rfl (fun h15 => ?_) (fun h15 => ?_)
      · skip
        have hg35 := h15
        refine AOps.go rfl rfl rfl h15 (o_fieldRef _ rfl fa78_7 rfl rfl) ?_
        refine AOps.go rfl rfl rfl h15 (o_loadRef _ rfl rfl Tryz.sizeOf25 Tryz.isAgg25 rfl rfl rfl) ?_
        refine AOps.go rfl rfl rfl h15 (o_len _ Tryz.underlying25 rfl rfl) ?_
        refine AOps.go rfl rfl rfl h15 (o_move _ rfl rfl) ?_
        refine AOps.go rfl rfl rfl h15 (o_bin _ _ rfl rfl (fun _ => rfl) rfl) ?_
        refine AOps.call (o_pickF _ _ _ rfl h15 rfl rfl) ?_
        refine AOps.call (o_move _ rfl rfl) ?_
        refine AOps.split rfl rfl rfl (fun h20 => ?_) (fun h20 => ?_)
        · skip
          have hg42 := h20
          refine AOps.go rfl rfl rfl h20 (o_fieldRef _ rfl fa78_8 rfl rfl) ?_
          refine AOps.go rfl rfl rfl h20 (o_loadRef _ rfl rfl Tryz.sizeOf25 Tryz.isAgg25 rfl rfl rfl) ?_
          refine AOps.go rfl rfl rfl h20 (o_len _ Tryz.underlying25 rfl rfl) ?_
          refine AOps.go rfl rfl rfl h20 (o_move _ rfl rfl) ?_
          refine AOps.go rfl rfl rfl h20 (o_bin _ _ rfl rfl (fun _ => rfl) rfl) ?_
          refine AOps.call (o_pickF _ _ _ rfl h20 rfl rfl) ?_
          refine AOps.call (o_move _ rfl rfl) ?_
          refine AOps.split rfl rfl rfl (fun h25 => ?_) (fun h25 => ?_)
          · skip
            have hg49 := h25
            refine AOps.go rfl rfl rfl h25 (o_fieldRef _ rfl fa78_9 rfl rfl) ?_
            refine AOps.go rfl rfl rfl h25 (o_loadRef _ rfl rfl Tryz.sizeOf25 Tryz.isAgg25 rfl rfl rfl) ?_
            refine AOps.go rfl rfl rfl h25 (o_len _ Tryz.underlying25 rfl rfl) ?_
            refine AOps.go rfl rfl rfl h25 (o_move _ rfl rfl) ?_
            refine AOps.go rfl rfl rfl h25 (o_bin _ _ rfl rfl (fun _ => rfl) rfl) ?_
            refine AOps.call (o_pickF _ _ _ rfl h25 rfl rfl) ?_
            refine AOps.call (o_move _ rfl rfl) ?_
            refine AOps.split rfl rfl rfl (fun h30 => ?_) (fun h30 => ?_)
            · skip
              have hg56 := h30
              refine AOps.go rfl rfl rfl h30 (o_fieldRef _ rfl fa78_10 rfl rfl) ?_
              refine AOps.go rfl rfl rfl h30 (o_loadRef _ rfl rfl Tryz.sizeOf3 Tryz.isAgg3 rfl rfl rfl) ?_
              refine AOps.go rfl rfl rfl h30 (o_bin _ _ rfl rfl (fun _ => rfl) rfl) ?_
              refine AOps.call (o_pickF _ _ _ rfl h30 rfl rfl) ?_
              refine AOps.call (o_move _ rfl rfl) ?_
              refine AOps.split rfl rfl rfl (fun h34 => ?_) (fun h34 => ?_)
              · skip
                have hg61 := h34
                refine AOps.go rfl rfl rfl h34 (o_fieldRef _ rfl fa78_10 rfl rfl) ?_
                refine AOps.go rfl rfl rfl h34 (o_loadRef _ rfl rfl Tryz.sizeOf3 Tryz.isAgg3 rfl rfl rfl) ?_
                refine AOps.go rfl rfl rfl h34 (o_bin _ _ rfl rfl (fun _ => rfl) rfl) ?_
                refine AOps.call (o_pickF _ _ _ rfl h34 rfl rfl) ?_
                refine AOps.call (o_move _ rfl rfl) ?_
                refine AOps.split rfl rfl rfl (fun h38 => ?_) (fun h38 => ?_)
                · skip
                  have hg66 := h38
                  refine AOps.go rfl rfl rfl h38 (o_fieldRef _ rfl fa78_4 rfl rfl) ?_
                  refine AOps.go rfl rfl rfl h38 (o_loadRef _ rfl rfl Tryz.sizeOf3 Tryz.isAgg3 rfl rfl rfl) ?_
                  refine AOps.go rfl rfl rfl h38 (o_bin _ _ rfl rfl (fun _ => rfl) rfl) ?_
                  refine AOps.call (o_pickF _ _ _ rfl h38 rfl rfl) ?_
                  refine AOps.call (o_move _ rfl rfl) ?_
                  refine AOps.split rfl rfl rfl (fun h42 => ?_) (fun h42 => ?_)
                  · skip
                    have hg71 := h42
                    refine AOps.go rfl rfl rfl h42 (o_fieldRef _ rfl fa78_4 rfl rfl) ?_
                    refine AOps.go rfl rfl rfl h42 (o_loadRef _ rfl rfl Tryz.sizeOf3 Tryz.isAgg3 rfl rfl rfl) ?_
                    refine AOps.go rfl rfl rfl h42 (o_bin _ _ rfl rfl (fun _ => rfl) rfl) ?_
                    refine AOps.call (o_pickF _ _ _ rfl h42 rfl rfl) ?_
                    refine AOps.call (o_move _ rfl rfl) ?_
                    refine AOps.split rfl rfl rfl (fun h46 => ?_) (fun h46 => ?_)
                    · skip
                      have hg76 := h46
                      refine AOps.go rfl rfl rfl h46 (o_fieldRef _ rfl fa78_0 rfl rfl) ?_
                      refine AOps.go rfl rfl rfl h46 (o_loadRef _ rfl rfl Tryz.sizeOf3 Tryz.isAgg3 rfl rfl rfl) ?_
                      refine AOps.go rfl rfl rfl h46 (o_bin _ _ rfl rfl (fun _ => rfl) rfl) ?_
                      refine AOps.call (o_pickF _ _ _ rfl h46 rfl rfl) ?_
                      refine AOps.call (o_move _ rfl rfl) ?_
                      refine AOps.split rfl rfl rfl (fun h50 => ?_) (fun h50 => ?_)
                      · skip
                        have hg81 := h50
                        refine AOps.go rfl rfl rfl h50 (o_fieldRef _ rfl fa78_0 rfl rfl) ?_
                        refine AOps.go rfl rfl rfl h50 (o_loadRef _ rfl rfl Tryz.sizeOf3 Tryz.isAgg3 rfl rfl rfl) ?_
                        refine AOps.go rfl rfl rfl h50 (o_bin _ _ rfl rfl (fun _ => rfl) rfl) ?_
                        refine AOps.call (o_pickF _ _ _ rfl h50 rfl rfl) ?_
                        refine AOps.call (o_move _ rfl rfl) ?_
                        refine AOps.split rfl rfl rfl (fun h54 => ?_) (fun h54 => ?_)
                        · skip
                          have hg86 := h54
                          refine AOps.go rfl rfl rfl h54 (o_fieldRef _ rfl fa78_1 rfl rfl) ?_
                          refine AOps.go rfl rfl rfl h54 (o_loadRef _ rfl rfl Tryz.sizeOf3 Tryz.isAgg3 rfl rfl rfl) ?_
                          refine AOps.go rfl rfl rfl h54 (o_bin _ _ rfl rfl (fun _ => rfl) rfl) ?_
                          refine AOps.call (o_pickF _ _ _ rfl h54 rfl rfl) ?_
                          refine AOps.call (o_move _ rfl rfl) ?_
                          refine AOps.split rfl rfl rfl (fun h58 => ?_) (fun h58 => ?_)
                          · skip
                            have hg91 := h58
                            refine AOps.go rfl rfl rfl h58 (o_fieldRef _ rfl fa78_1 rfl rfl) ?_
                            refine AOps.go rfl rfl rfl h58 (o_loadRef _ rfl rfl Tryz.sizeOf3 Tryz.isAgg3 rfl rfl rfl) ?_
                            refine AOps.go rfl rfl rfl h58 (o_bin _ _ rfl rfl (fun _ => rfl) rfl) ?_
                            refine AOps.call (o_pickF _ _ _ rfl h58 rfl rfl) ?_
                            refine AOps.nil ?_
                            refine AWP.cond _ rfl (fun h62 => ?_) (fun h62 => ?_)
                            · skip
                              skip
                              refine AWP.seq ?_
                              refine AWP.region ?_
                              refine AOps.call (o_assign _ rfl rfl) ?_
                              refine AOps.nil ?_
                              refine AWP.ret ?_
                              first
                              | exact postQ.ret1 Tryz.results11 rfl rfl
                              | (refine postQ.ret1 Tryz.results11 rfl ?_; simp [AV.close, AV.close.closeL, B, I]; done)
                              | (refine postQ.ret1 Tryz.results11 rfl ?_; simp [AV.close, AV.close.closeL, B, I]; omega)
                              | (refine postQ.ret1 Tryz.results11 rfl ?_; simp_all [AV.close, AV.close.closeL, B, I]; done)
                              | (refine postQ.ret1 Tryz.results11 rfl ?_; simp_all [AV.close, AV.close.closeL, B, I]; omega)
                            · skip
                              have hn8 : t.changes.length ≤ 7 ∧ t.states.length = t.changes.length + 1 ∧ t.errors.length = t.changes.length + 1 ∧ t.carried.length = t.changes.length + 1 ∧ t.shown.length = t.changes.length + 1 ∧ (0 ≤ t.slack ∧ t.slack ≤ 1000) ∧ (0 ≤ t.first ∧ t.first ≤ 65536) ∧ (0 ≤ t.noise ∧ t.noise ≤ 65536) ∧ (0 ≤ t.slab ∧ t.slab ≤ 65536) := by
                                have hq := h62
                                simp at hg28 hg35 hg42 hg49 hg56 hg61 hg66 hg71 hg76 hg81 hg86 hg91 hq
                                omega
                              clear hg28 hg35 hg42 hg49 hg56 hg61 hg66 hg71 hg76 hg81 hg86 hg91
                              obtain ⟨b1, b2, b3, b4, b5, b6, b7, b8, b9⟩ := hn8
                              obtain ⟨n, hn⟩ : ∃ n : Nat, n = t.changes.length + 1 := ⟨_, rfl⟩
                              refine AWP.skip ?_
                              refine AWP.seq ?_
                              refine AWP.region ?_
                              refine AOps.call (o_fieldRef _ rfl fa78_0 rfl rfl) ?_
                              refine AOps.call (o_loadRef _ rfl rfl Tryz.sizeOf3 Tryz.isAgg3 rfl rfl rfl) ?_
                              refine AOps.call (o_fieldRef _ rfl fa78_1 rfl rfl) ?_
                              refine AOps.call (o_loadRef _ rfl rfl Tryz.sizeOf3 Tryz.isAgg3 rfl rfl rfl) ?_
                              refine AOps.call (o_fieldRef _ rfl fa78_2 rfl rfl) ?_
                              refine AOps.call (o_loadRef _ rfl rfl Tryz.sizeOf3 Tryz.isAgg3 rfl rfl rfl) ?_
                              refine AOps.call (o_fieldRef _ rfl fa78_3 rfl rfl) ?_
                              refine AOps.call (o_loadRef _ rfl rfl Tryz.sizeOf3 Tryz.isAgg3 rfl rfl rfl) ?_
                              refine AOps.call (o_build bu24 rfl rfl rfl) ?_
                              refine AOps.call (o_alloc ze24 rfl rfl) ?_
                              refine AOps.cons (o_store _ _ rfl rfl Tryz.sizeOf24 rfl rfl rfl rfl rfl) ?_
                              refine AOps.nil ?_
                              refine AWP.seq ?_
                              refine AWP.region ?_
                              refine AOps.call (o_nil (z := 2) (e := 54) rfl) ?_
                              refine AOps.nil ?_
                              refine AWP.seq ?_
                              refine AWP.region ?_
                              refine AOps.call (o_nil (z := 1) (e := 3) rfl) ?_
                              refine AOps.nil ?_
                              refine AWP.seq ?_
                              refine AWP.region ?_
                              refine AOps.call (o_fieldRef _ rfl fa78_4 rfl rfl) ?_
                              refine AOps.call (o_loadRef _ rfl rfl Tryz.sizeOf3 Tryz.isAgg3 rfl rfl rfl) ?_
                              refine AOps.call (o_assign _ rfl rfl) ?_
                              refine AOps.nil ?_
                              refine AWP.seq ?_
                              refine AWP.seq ?_
                              refine AWP.region ?_
                              refine AOps.call (o_assign _ rfl rfl) ?_
                              refine AOps.nil ?_
                              refine AWP.block ?_
                              refine AWP.weak (Weak.ownIn (id := (4, 0)) (246, 0) 6 2 27 rfl rfl rfl rfl) ?_
                              refine AWP.loop (ι := Nat) (fun i => AS.mk' 358 [(1, .ref (1, 0) 0), (3, I n), (4, .ref (4, 0) 0), (5, .own (5, 0) (sps (t.w (i - 1)))), (6, .own (6, 0) (ints (t.lds i))), (7, I (t.ld (i - 1))), (8, I i)] [((1, 0), eT t), ((4, 0), [I 0, I 0, I t.noise, I t.slab, I t.jump, I t.faults, .own (246, 0) (shws (t.log i))])] [((5, 0), ((sps (t.w (i - 1))).length, 2, 54)), ((6, 0), ((ints (t.lds i)).length, 1, 3)), ((246, 0), ((shws (t.log i)).length, 2, 27))] [(1, 1), (4, 1), (5, 1), (6, 1), (246, 1)]) (fun i => i ≤ n ∧ t.Ok i) (fun i => n - i) (0) (Weak.mk' rfl ⟨⟨.refl rfl, rfl⟩, ⟨⟨.refl (congrArg I (by omega)), rfl⟩, ⟨⟨.refl rfl, rfl⟩, ⟨⟨.refl rfl, rfl⟩, ⟨⟨.refl rfl, rfl⟩, ⟨⟨.refl rfl, rfl⟩, ⟨⟨.refl rfl, rfl⟩, trivial⟩⟩⟩⟩⟩⟩⟩ ⟨⟨rfl, rfl, rfl⟩, ⟨⟨rfl, rfl, rfl⟩, trivial⟩⟩ ⟨⟨rfl, rfl⟩, ⟨⟨rfl, rfl⟩, ⟨⟨rfl, rfl⟩, trivial⟩⟩⟩) (⟨Nat.zero_le _, ⟨fun j h => absurd h (Nat.not_lt_zero _), fun j h => absurd h (Nat.not_lt_zero _), fun j h => absurd h (Nat.not_lt_zero _)⟩⟩) ?_
                              rintro k ⟨hk, hok⟩
                              try dsimp only at *
                              refine AWP.seq ?_
                              refine AWP.seq ?_
                              refine AWP.region ?_
                              refine AOps.call (o_move _ rfl rfl) ?_
                              refine AOps.call (o_move _ rfl rfl) ?_
                              refine AOps.call (o_bin _ _ rfl rfl (fun _ => rfl) rfl) ?_
                              refine AOps.nil ?_
                              refine AWP.cond _ rfl (fun h79 => ?_) (fun h79 => ?_)
                              · skip
                                have hkn : k < n := by have := of_decide_eq_true h79; omega
                                have hesh := ints_gY (l := t.shown) (k := k) (by omega)
                                have hest := ints_gY (l := t.states) (k := k) (by omega)
                                have heer := ints_gY (l := t.errors) (k := k) (by omega)
                                have heca := ints_gY (l := t.carried) (k := k) (by omega)
                                refine AWP.skip ?_
                                refine AWP.seq ?_
                                refine AWP.block ?_
                                refine AWP.seq ?_
                                refine AWP.seq ?_
                                refine AWP.region ?_
                                refine AOps.call (o_move _ rfl rfl) ?_
                                refine AOps.call (o_bin _ _ rfl rfl (fun _ => rfl) rfl) ?_
                                refine AOps.nil ?_
                                refine AWP.cond _ rfl (fun h81 => ?_) (fun h81 => ?_)
                                · skip
                                  have hk0 : 0 < k := by have := of_decide_eq_true h81; omega
                                  have hec : (ints t.changes)[(((k : Nat) : Int) - 1).toNat]? = some [I (t.changes.getD (k - 1) 0)] := ints_gD (by omega) (by omega)
                                  have hlb := hok.ld (k - 1) (by omega)
                                  have hld : t.ld k = t.ld (k - 1) + t.changes.getD (k - 1) 0 := by
                                    have e : k = k - 1 + 1 := by omega
                                    conv => lhs; rw [e]
                                    rfl
                                  have hwsn : sps (t.w (k - 1)) ++ [[I (t.changes.getD (k - 1) 0 - t.slack), I (t.changes.getD (k - 1) 0 + t.slack)]] = sps (t.w k) := by
                                    have h := t.w_snoc (k - 1)
                                    rw [show k - 1 + 1 = k by omega] at h; exact h
                                  refine AWP.seq ?_
                                  refine AWP.region ?_
                                  refine AOps.call (o_fieldRef _ rfl fa78_5 rfl rfl) ?_
                                  refine AOps.call (o_loadRef _ rfl rfl Tryz.sizeOf25 Tryz.isAgg25 rfl rfl rfl) ?_
                                  refine AOps.call (o_move _ rfl rfl) ?_
                                  refine AOps.call (o_sub _ _ rfl rfl ⟨by (try dsimp only); omega, by (try dsimp only); omega⟩ rfl) ?_
                                  refine AOps.call (o_index _ _ Tryz.underlying25 Tryz.sizeOf3 rfl rfl (by omega) hec rfl rfl) ?_
                                  refine AOps.call (o_loadRd _ rfl Tryz.sizeOf3 Tryz.isAgg3 rfl rfl rfl) ?_
                                  refine AOps.call (o_assign _ rfl rfl) ?_
                                  refine AOps.nil ?_
                                  refine AWP.seq ?_
                                  refine AWP.seq ?_
                                  refine AWP.region ?_
                                  refine AOps.call (o_move _ rfl rfl) ?_
                                  refine AOps.call (o_fieldRef _ rfl fa78_10 rfl rfl) ?_
                                  refine AOps.call (o_loadRef _ rfl rfl Tryz.sizeOf3 Tryz.isAgg3 rfl rfl rfl) ?_
                                  refine AOps.call (o_add _ _ rfl rfl ⟨by (try dsimp only); omega, by (try dsimp only); omega⟩ rfl) ?_
                                  refine AOps.call (o_bin _ _ rfl rfl (fun _ => rfl) rfl) ?_
                                  refine AOps.call (o_move _ rfl rfl) ?_
                                  refine AOps.split rfl rfl rfl (fun h91 => ?_) (fun h91 => ?_)
                                  · skip
                                    have hg125 := h91
                                    have q125 := of_decide_eq_false h91
                                    refine AOps.go rfl rfl rfl h91 (o_move _ rfl rfl) ?_
                                    refine AOps.go rfl rfl rfl h91 (o_fieldRef _ rfl fa78_10 rfl rfl) ?_
                                    refine AOps.go rfl rfl rfl h91 (o_loadRef _ rfl rfl Tryz.sizeOf3 Tryz.isAgg3 rfl rfl rfl) ?_
                                    refine AOps.go rfl rfl rfl h91 (o_sub _ _ rfl rfl ⟨by (try dsimp only); omega, by (try dsimp only); omega⟩ rfl) ?_
                                    refine AOps.go rfl rfl rfl h91 (o_bin _ _ rfl rfl (fun _ => rfl) rfl) ?_
                                    refine AOps.call (o_pickF _ _ _ rfl h91 rfl rfl) ?_
                                    refine AOps.call (o_move _ rfl rfl) ?_
                                    refine AOps.split rfl rfl rfl (fun h96 => ?_) (fun h96 => ?_)
                                    · skip
                                      have hg132 := h96
                                      have q132 := of_decide_eq_false h96
                                      refine AOps.go rfl rfl rfl h96 (o_move _ rfl rfl) ?_
                                      refine AOps.go rfl rfl rfl h96 (o_move _ rfl rfl) ?_
                                      refine AOps.go rfl rfl rfl h96 (o_add _ _ rfl rfl ⟨by (try dsimp only); omega, by (try dsimp only); omega⟩ rfl) ?_
                                      refine AOps.go rfl rfl rfl h96 (o_bin _ _ rfl rfl (fun _ => rfl) rfl) ?_
                                      refine AOps.call (o_pickF _ _ _ rfl h96 rfl rfl) ?_
                                      refine AOps.call (o_move _ rfl rfl) ?_
                                      refine AOps.split rfl rfl rfl (fun h100 => ?_) (fun h100 => ?_)
                                      · skip
                                        have hg138 := h100
                                        have q138 := of_decide_eq_false h100
                                        refine AOps.go rfl rfl rfl h100 (o_move _ rfl rfl) ?_
                                        refine AOps.go rfl rfl rfl h100 (o_move _ rfl rfl) ?_
                                        refine AOps.go rfl rfl rfl h100 (o_add _ _ rfl rfl ⟨by (try dsimp only); omega, by (try dsimp only); omega⟩ rfl) ?_
                                        refine AOps.go rfl rfl rfl h100 (o_bin _ _ rfl rfl (fun _ => rfl) rfl) ?_
                                        refine AOps.call (o_pickF _ _ _ rfl h100 rfl rfl) ?_
                                        refine AOps.nil ?_
                                        refine AWP.cond _ rfl (fun h104 => ?_) (fun h104 => ?_)
                                        · skip
                                          skip
                                          refine AWP.seq ?_
                                          refine AWP.region ?_
                                          refine AOps.call (o_assign _ rfl rfl) ?_
                                          refine AOps.nil ?_
                                          refine AWP.ret ?_
                                          first
                                          | exact postQ.ret1 Tryz.results11 rfl rfl
                                          | (refine postQ.ret1 Tryz.results11 rfl ?_; simp [AV.close, AV.close.closeL, B, I]; done)
                                          | (refine postQ.ret1 Tryz.results11 rfl ?_; simp [AV.close, AV.close.closeL, B, I]; omega)
                                          | (refine postQ.ret1 Tryz.results11 rfl ?_; simp_all [AV.close, AV.close.closeL, B, I]; done)
                                          | (refine postQ.ret1 Tryz.results11 rfl ?_; simp_all [AV.close, AV.close.closeL, B, I]; omega)
                                        · skip
                                          skip
                                          · skip
                                            have hqc : (-65536 + t.slack ≤ t.changes.getD (k - 1) 0 ∧ t.changes.getD (k - 1) 0 ≤ 65536 - t.slack) ∧ 0 ≤ t.ld (k - 1) + t.changes.getD (k - 1) 0 ∧ t.ld (k - 1) + t.changes.getD (k - 1) 0 ≤ 65536 := by
                                              have hq := of_decide_eq_false h104
                                              have q1 := of_decide_eq_false hg125
                                              have q2 := of_decide_eq_false hg132
                                              have q3 := of_decide_eq_false hg138
                                              omega
                                            have hLv : t.ld (k - 1) + t.changes.getD (k - 1) 0 = t.ld k := hld.symm
                                            have hchk : (∀ j, j + 1 < k + 1 → -65536 + t.slack ≤ t.changes.getD j 0 ∧ t.changes.getD j 0 ≤ 65536 - t.slack) := fun j h => by
                                              by_cases e : j = k - 1
                                              · subst e; exact hqc.1
                                              · exact hok.ch j (by omega)
                                            have hldk : 0 ≤ t.ld k ∧ t.ld k ≤ 65536 := by rw [hld]; exact hqc.2
                                            refine AWP.skip ?_
                                            refine AWP.seq ?_
                                            refine AWP.region ?_
                                            refine AOps.call (o_move _ rfl rfl) ?_
                                            refine AOps.call (o_move _ rfl rfl) ?_
                                            refine AOps.call (o_add _ _ rfl rfl ⟨by (try dsimp only); omega, by (try dsimp only); omega⟩ rfl) ?_
                                            refine AOps.call (o_assign _ rfl rfl) ?_
                                            refine AOps.nil ?_
                                            refine AWP.region ?_
                                            refine AOps.call (o_move _ rfl rfl) ?_
                                            refine AOps.call (o_move _ rfl rfl) ?_
                                            refine AOps.call (o_fieldRef _ rfl fa78_10 rfl rfl) ?_
                                            refine AOps.call (o_loadRef _ rfl rfl Tryz.sizeOf3 Tryz.isAgg3 rfl rfl rfl) ?_
                                            refine AOps.call (o_sub _ _ rfl rfl ⟨by (try dsimp only); omega, by (try dsimp only); omega⟩ rfl) ?_
                                            refine AOps.call (o_move _ rfl rfl) ?_
                                            refine AOps.call (o_fieldRef _ rfl fa78_10 rfl rfl) ?_
                                            refine AOps.call (o_loadRef _ rfl rfl Tryz.sizeOf3 Tryz.isAgg3 rfl rfl rfl) ?_
                                            refine AOps.call (o_add _ _ rfl rfl ⟨by (try dsimp only); omega, by (try dsimp only); omega⟩ rfl) ?_
                                            refine AOps.call (o_build bu54 rfl rfl rfl) ?_
                                            refine AOps.call (o_lit Tryz.underlying38 Tryz.sizeOf54 Tryz.zeroValue54 rfl rfl rfl rfl rfl rfl rfl) ?_
                                            refine AOps.cons (o_append _ _ Tryz.underlying38 info54 rfl rfl rfl rfl rfl rfl rfl rfl (fun c hc => by simp at hc; subst hc; rfl) sps_z (by rw [sps_len, Tru.w_len]; unfold Tryz.t54; simp only [List.length_cons, List.length_nil]; omega) rfl hwsn rfl) ?_
                                            refine AOps.call (o_assign _ rfl rfl) ?_
                                            refine AOps.nil ?_
                                            refine AWP.seq ?_
                                            refine AWP.region ?_
                                            refine AOps.call (o_move _ rfl rfl) ?_
                                            refine AOps.call (o_move _ rfl rfl) ?_
                                            refine AOps.call (o_lit Tryz.underlying25 Tryz.sizeOf3 Tryz.zeroValue3 rfl rfl rfl rfl rfl rfl rfl) ?_
                                            refine AOps.cons (o_append (rs := ints (t.lds (k + 1))) _ _ Tryz.underlying25 info3 rfl rfl rfl rfl rfl rfl rfl rfl (fun c hc => by simp at hc; subst hc; rfl) ints_z (by rw [ints_len, Tru.lds_len]; unfold Tryz.t3; simp only [List.length_cons, List.length_nil]; omega) rfl (by rw [hLv]; exact t.lds_snoc k) rfl) ?_
                                            refine AOps.call (o_assign _ rfl rfl) ?_
                                            refine AOps.nil ?_
                                            refine AWP.seq ?_
                                            refine AWP.region ?_
                                            refine AOps.call (o_fieldRef _ rfl fa78_9 rfl rfl) ?_
                                            refine AOps.call (o_loadRef _ rfl rfl Tryz.sizeOf25 Tryz.isAgg25 rfl rfl rfl) ?_
                                            refine AOps.call (o_move _ rfl rfl) ?_
                                            refine AOps.call (o_index _ _ Tryz.underlying25 Tryz.sizeOf3 rfl rfl (by omega) hesh rfl rfl) ?_
                                            refine AOps.call (o_loadRd _ rfl Tryz.sizeOf3 Tryz.isAgg3 rfl rfl rfl) ?_
                                            refine AOps.call (o_assign _ rfl rfl) ?_
                                            refine AOps.nil ?_
                                            refine AWP.seq ?_
                                            refine AWP.seq ?_
                                            refine AWP.region ?_
                                            refine AOps.call (o_fieldRef _ rfl fa78_6 rfl rfl) ?_
                                            refine AOps.call (o_loadRef _ rfl rfl Tryz.sizeOf25 Tryz.isAgg25 rfl rfl rfl) ?_
                                            refine AOps.call (o_move _ rfl rfl) ?_
                                            refine AOps.call (o_index _ _ Tryz.underlying25 Tryz.sizeOf3 rfl rfl (by omega) hest rfl rfl) ?_
                                            refine AOps.call (o_loadRd _ rfl Tryz.sizeOf3 Tryz.isAgg3 rfl rfl rfl) ?_
                                            refine AOps.call (o_bin _ _ rfl rfl (fun _ => rfl) rfl) ?_
                                            refine AOps.nil ?_
                                            refine AWP.cond _ rfl (fun h127 => ?_) (fun h127 => ?_)
                                            · skip
                                              have hs2 : t.states.getD k 0 ≠ 2 := by have h := h127; simpa using h
                                              refine AWP.seq ?_
                                              refine AWP.seq ?_
                                              refine AWP.drawn 53 mixed (by kernel_rfl) ?_
                                              refine AHead.call (o_fieldRef _ rfl fa78_7 rfl rfl) rfl ?_
                                              refine AHead.call (o_loadRef _ rfl rfl Tryz.sizeOf25 Tryz.isAgg25 rfl rfl rfl) rfl ?_
                                              refine AHead.call (o_move _ rfl rfl) rfl ?_
                                              refine AHead.call (o_index _ _ Tryz.underlying25 Tryz.sizeOf3 rfl rfl (by omega) heer rfl rfl) rfl ?_
                                              refine AHead.call (o_loadRd _ rfl Tryz.sizeOf3 Tryz.isAgg3 rfl rfl rfl) rfl ?_
                                              refine AHead.call (o_fieldRef _ rfl fa78_0 rfl rfl) rfl ?_
                                              refine AHead.call (o_loadRef _ rfl rfl Tryz.sizeOf3 Tryz.isAgg3 rfl rfl rfl) rfl ?_
                                              refine AHead.call (o_neg _ rfl ⟨by (try dsimp only); omega, by (try dsimp only); omega⟩ rfl) rfl ?_
                                              refine AHead.call (o_bin _ _ rfl rfl (fun _ => rfl) rfl) rfl ?_
                                              refine AHead.call (o_move _ rfl rfl) rfl ?_
                                              refine AHead.split rfl rfl rfl (fun h136 => ?_) (fun h136 => ?_)
                                              · skip
                                                have hg183 := h136
                                                refine AHead.go rfl rfl rfl h136 (o_fieldRef _ rfl fa78_7 rfl rfl) rfl ?_
                                                refine AHead.go rfl rfl rfl h136 (o_loadRef _ rfl rfl Tryz.sizeOf25 Tryz.isAgg25 rfl rfl rfl) rfl ?_
                                                refine AHead.go rfl rfl rfl h136 (o_move _ rfl rfl) rfl ?_
                                                refine AHead.go rfl rfl rfl h136 (o_index _ _ Tryz.underlying25 Tryz.sizeOf3 rfl rfl (by omega) heer rfl rfl) rfl ?_
                                                refine AHead.go rfl rfl rfl h136 (o_loadRd _ rfl Tryz.sizeOf3 Tryz.isAgg3 rfl rfl rfl) rfl ?_
                                                refine AHead.go rfl rfl rfl h136 (o_fieldRef _ rfl fa78_0 rfl rfl) rfl ?_
                                                refine AHead.go rfl rfl rfl h136 (o_loadRef _ rfl rfl Tryz.sizeOf3 Tryz.isAgg3 rfl rfl rfl) rfl ?_
                                                refine AHead.go rfl rfl rfl h136 (o_bin _ _ rfl rfl (fun _ => rfl) rfl) rfl ?_
                                                refine AHead.call (o_pickF _ _ _ rfl h136 rfl rfl) rfl ?_
                                                refine AHead.call (o_move _ rfl rfl) rfl ?_
                                                refine AHead.split rfl rfl rfl (fun h144 => ?_) (fun h144 => ?_)
                                                · skip
                                                  have hg193 := h144
                                                  refine AHead.go rfl rfl rfl h144 (o_fieldRef _ rfl fa78_8 rfl rfl) rfl ?_
                                                  refine AHead.go rfl rfl rfl h144 (o_loadRef _ rfl rfl Tryz.sizeOf25 Tryz.isAgg25 rfl rfl rfl) rfl ?_
                                                  refine AHead.go rfl rfl rfl h144 (o_move _ rfl rfl) rfl ?_
                                                  refine AHead.go rfl rfl rfl h144 (o_index _ _ Tryz.underlying25 Tryz.sizeOf3 rfl rfl (by omega) heca rfl rfl) rfl ?_
                                                  refine AHead.go rfl rfl rfl h144 (o_loadRd _ rfl Tryz.sizeOf3 Tryz.isAgg3 rfl rfl rfl) rfl ?_
                                                  refine AHead.go rfl rfl rfl h144 (o_bin _ _ rfl rfl (fun _ => rfl) rfl) rfl ?_
                                                  refine AHead.call (o_pickF _ _ _ rfl h144 rfl rfl) rfl ?_
                                                  refine AHead.call (o_move _ rfl rfl) rfl ?_
                                                  refine AHead.split rfl rfl rfl (fun h150 => ?_) (fun h150 => ?_)
                                                  · skip
                                                    have hg201 := h150
                                                    refine AHead.go rfl rfl rfl h150 (o_fieldRef _ rfl fa78_8 rfl rfl) rfl ?_
                                                    refine AHead.go rfl rfl rfl h150 (o_loadRef _ rfl rfl Tryz.sizeOf25 Tryz.isAgg25 rfl rfl rfl) rfl ?_
                                                    refine AHead.go rfl rfl rfl h150 (o_move _ rfl rfl) rfl ?_
                                                    refine AHead.go rfl rfl rfl h150 (o_index _ _ Tryz.underlying25 Tryz.sizeOf3 rfl rfl (by omega) heca rfl rfl) rfl ?_
                                                    refine AHead.go rfl rfl rfl h150 (o_loadRd _ rfl Tryz.sizeOf3 Tryz.isAgg3 rfl rfl rfl) rfl ?_
                                                    refine AHead.go rfl rfl rfl h150 (o_fieldRef _ rfl fa78_1 rfl rfl) rfl ?_
                                                    refine AHead.go rfl rfl rfl h150 (o_loadRef _ rfl rfl Tryz.sizeOf3 Tryz.isAgg3 rfl rfl rfl) rfl ?_
                                                    refine AHead.go rfl rfl rfl h150 (o_bin _ _ rfl rfl (fun _ => rfl) rfl) rfl ?_
                                                    refine AHead.call (o_pickF _ _ _ rfl h150 rfl rfl) rfl ?_
                                                    refine AHead.call (o_move _ rfl rfl) rfl ?_
                                                    refine AHead.split rfl rfl rfl (fun h158 => ?_) (fun h158 => ?_)
                                                    · skip
                                                      have hg211 := h158
                                                      refine AHead.go rfl rfl rfl h158 (o_fieldRef _ rfl fa78_6 rfl rfl) rfl ?_
                                                      refine AHead.go rfl rfl rfl h158 (o_loadRef _ rfl rfl Tryz.sizeOf25 Tryz.isAgg25 rfl rfl rfl) rfl ?_
                                                      refine AHead.go rfl rfl rfl h158 (o_move _ rfl rfl) rfl ?_
                                                      refine AHead.go rfl rfl rfl h158 (o_index _ _ Tryz.underlying25 Tryz.sizeOf3 rfl rfl (by omega) hest rfl rfl) rfl ?_
                                                      refine AHead.go rfl rfl rfl h158 (o_loadRd _ rfl Tryz.sizeOf3 Tryz.isAgg3 rfl rfl rfl) rfl ?_
                                                      refine AHead.go rfl rfl rfl h158 (o_bin _ _ rfl rfl (fun _ => rfl) rfl) rfl ?_
                                                      refine AHead.go rfl rfl rfl h158 (o_move _ rfl rfl) rfl ?_
                                                      refine AHead.split rfl rfl rfl (fun h164 => ?_) (fun h164 => ?_)
                                                      · skip
                                                        have hg218 := h164
                                                        refine AHead.go rfl rfl rfl h164 (o_fieldRef _ rfl fa78_8 rfl rfl) rfl ?_
                                                        refine AHead.go rfl rfl rfl h164 (o_loadRef _ rfl rfl Tryz.sizeOf25 Tryz.isAgg25 rfl rfl rfl) rfl ?_
                                                        refine AHead.go rfl rfl rfl h164 (o_move _ rfl rfl) rfl ?_
                                                        refine AHead.go rfl rfl rfl h164 (o_index _ _ Tryz.underlying25 Tryz.sizeOf3 rfl rfl (by omega) heca rfl rfl) rfl ?_
                                                        refine AHead.go rfl rfl rfl h164 (o_loadRd _ rfl Tryz.sizeOf3 Tryz.isAgg3 rfl rfl rfl) rfl ?_
                                                        refine AHead.go rfl rfl rfl h164 (o_bin _ _ rfl rfl (fun _ => rfl) rfl) rfl ?_
                                                        refine AHead.go rfl rfl rfl h158 (o_pickT _ _ _ rfl h164 rfl rfl) rfl ?_
                                                        refine AHead.call (o_pickF _ _ _ rfl h158 rfl rfl) rfl ?_
                                                        refine AHead.nil ?_
                                                        refine AOps.nil ?_
                                                        refine AWP.cond _ rfl (fun h170 => ?_) (fun h170 => ?_)
                                                        · skip
                                                          skip
                                                          refine AWP.seq ?_
                                                          refine AWP.region ?_
                                                          refine AOps.call (o_assign _ rfl rfl) ?_
                                                          refine AOps.nil ?_
                                                          refine AWP.ret ?_
                                                          first
                                                          | exact postQ.ret1 Tryz.results11 rfl rfl
                                                          | (refine postQ.ret1 Tryz.results11 rfl ?_; simp [AV.close, AV.close.closeL, B, I]; done)
                                                          | (refine postQ.ret1 Tryz.results11 rfl ?_; simp [AV.close, AV.close.closeL, B, I]; omega)
                                                          | (refine postQ.ret1 Tryz.results11 rfl ?_; simp_all [AV.close, AV.close.closeL, B, I]; done)
                                                          | (refine postQ.ret1 Tryz.results11 rfl ?_; simp_all [AV.close, AV.close.closeL, B, I]; omega)
                                                        · skip
                                                          have hqs : -t.noise ≤ t.errors.getD k 0 ∧ t.errors.getD k 0 ≤ t.noise ∧ 0 ≤ t.carried.getD k 0 ∧ t.carried.getD k 0 ≤ t.slab ∧ (t.states.getD k 0 = 0 → t.carried.getD k 0 = 0) := by
                                                            have hq := h170
                                                            have q1 := of_decide_eq_false hg183
                                                            have q2 := of_decide_eq_false hg193
                                                            have q3 := of_decide_eq_false hg201
                                                            have q4 := of_decide_eq_false hg211
                                                            simp at hg218 hq
                                                            refine ⟨by omega, by omega, by omega, by omega, fun h => ?_⟩
                                                            first
                                                            | exact hq
                                                            | exact absurd h hg218
                                                            | (have := hq; omega)
                                                          have hSv : (t.ld (k - 1) + t.changes.getD (k - 1) 0) - t.carried.getD k 0 + t.errors.getD k 0 = t.sh k := by rw [hLv]; exact (if_pos hs2).symm
                                                          have hsnoc : shws (t.log k) ++ [[I (k : Int), I ((t.ld (k - 1) + t.changes.getD (k - 1) 0) - t.carried.getD k 0 + t.errors.getD k 0)]] = shws (t.log (k + 1)) := by rw [hSv]; exact t.log_snoc k
                                                          have hov := hLv
                                                          have hok2 : t.Ok (k + 1) := ⟨fun j hj => by
                                                            by_cases e : j = k
                                                            · subst e; exact hldk
                                                            · exact hok.ld j (by omega), hchk, fun j hj hn2 => by
                                                            by_cases e : j = k
                                                            · subst e; exact hqs
                                                            · exact hok.st j (by omega) hn2⟩
                                                          refine AWP.skip ?_
                                                          refine AWP.drawn 14 mixed (by kernel_rfl) ?_
                                                          refine AHead.call (o_move _ rfl rfl) rfl ?_
                                                          refine AHead.call (o_fieldRef _ rfl fa78_8 rfl rfl) rfl ?_
                                                          refine AHead.call (o_loadRef _ rfl rfl Tryz.sizeOf25 Tryz.isAgg25 rfl rfl rfl) rfl ?_
                                                          refine AHead.call (o_move _ rfl rfl) rfl ?_
                                                          refine AHead.call (o_index _ _ Tryz.underlying25 Tryz.sizeOf3 rfl rfl (by omega) heca rfl rfl) rfl ?_
                                                          refine AHead.call (o_loadRd _ rfl Tryz.sizeOf3 Tryz.isAgg3 rfl rfl rfl) rfl ?_
                                                          refine AHead.call (o_sub _ _ rfl rfl ⟨by (try dsimp only); omega, by (try dsimp only); omega⟩ rfl) rfl ?_
                                                          refine AHead.call (o_fieldRef _ rfl fa78_7 rfl rfl) rfl ?_
                                                          refine AHead.call (o_loadRef _ rfl rfl Tryz.sizeOf25 Tryz.isAgg25 rfl rfl rfl) rfl ?_
                                                          refine AHead.call (o_move _ rfl rfl) rfl ?_
                                                          refine AHead.call (o_index _ _ Tryz.underlying25 Tryz.sizeOf3 rfl rfl (by omega) heer rfl rfl) rfl ?_
                                                          refine AHead.call (o_loadRd _ rfl Tryz.sizeOf3 Tryz.isAgg3 rfl rfl rfl) rfl ?_
                                                          refine AHead.call (o_add _ _ rfl rfl ⟨by (try dsimp only); omega, by (try dsimp only); omega⟩ rfl) rfl ?_
                                                          refine AHead.call (o_assign _ rfl rfl) rfl ?_
                                                          refine AHead.nil ?_
                                                          refine AOps.nil ?_
                                                          refine AWP.region ?_
                                                          refine AOps.call (o_fieldRef _ rfl fa24_6 rfl rfl) ?_
                                                          refine AOps.call (o_loadRef _ rfl rfl Tryz.sizeOf22 Tryz.isAgg22 rfl rfl rfl) ?_
                                                          refine AOps.call (o_move _ rfl rfl) ?_
                                                          refine AOps.call (o_move _ rfl rfl) ?_
                                                          refine AOps.call (o_build bu27 rfl rfl rfl) ?_
                                                          refine AOps.call (o_lit Tryz.underlying22 Tryz.sizeOf27 Tryz.zeroValue27 rfl rfl rfl rfl rfl rfl rfl) ?_
                                                          refine AOps.cons (o_append _ _ Tryz.underlying22 info27 rfl rfl rfl rfl rfl rfl rfl rfl (fun c hc => by simp at hc; subst hc; rfl) shws_z (by rw [shws_len, Tru.log_len]; unfold Tryz.t27; simp only [List.length_cons, List.length_nil]; omega) rfl hsnoc rfl) ?_
                                                          refine AOps.call (o_fieldRef _ rfl fa24_6 rfl rfl) ?_
                                                          refine AOps.cons (o_store _ _ rfl rfl Tryz.sizeOf22 rfl rfl rfl rfl rfl) ?_
                                                          refine AOps.nil ?_
                                                          refine AWP.region ?_
                                                          refine AOps.call (o_move _ rfl rfl) ?_
                                                          refine AOps.call (o_add _ _ rfl rfl ⟨by (try dsimp only); omega, by (try dsimp only); omega⟩ rfl) ?_
                                                          refine AOps.call (o_assign _ rfl rfl) ?_
                                                          refine AOps.nil ?_
                                                          refine ⟨k + 1, ?_, (Weak.mk' rfl ⟨⟨.refl rfl, rfl⟩, ⟨⟨.refl rfl, rfl⟩, ⟨⟨.refl rfl, rfl⟩, ⟨⟨.refl rfl, rfl⟩, ⟨⟨.refl rfl, rfl⟩, ⟨⟨.refl (congrArg I (by (try dsimp only); exact hLv)), rfl⟩, ⟨⟨.refl rfl, rfl⟩, trivial⟩⟩⟩⟩⟩⟩⟩ ⟨⟨rfl, rfl, rfl⟩, ⟨⟨rfl, rfl, rfl⟩, trivial⟩⟩ ⟨⟨rfl, rfl⟩, ⟨⟨rfl, rfl⟩, ⟨⟨rfl, rfl⟩, trivial⟩⟩⟩)⟩
                                                          exact ⟨⟨by omega, hok2⟩, by omega⟩
                                                      · skip
                                                        have hg218 := h164
                                                        refine AHead.pass rfl rfl rfl h164 rfl ?_
                                                        refine AHead.pass rfl rfl rfl h164 rfl ?_
                                                        refine AHead.pass rfl rfl rfl h164 rfl ?_
                                                        refine AHead.pass rfl rfl rfl h164 rfl ?_
                                                        refine AHead.pass rfl rfl rfl h164 rfl ?_
                                                        refine AHead.pass rfl rfl rfl h164 rfl ?_
                                                        refine AHead.go rfl rfl rfl h158 (o_pickF _ _ _ rfl h164 rfl rfl) rfl ?_
                                                        refine AHead.call (o_pickF _ _ _ rfl h158 rfl rfl) rfl ?_
                                                        refine AHead.nil ?_
                                                        refine AOps.nil ?_
                                                        refine AWP.condF rfl ?_
                                                        have hqs : -t.noise ≤ t.errors.getD k 0 ∧ t.errors.getD k 0 ≤ t.noise ∧ 0 ≤ t.carried.getD k 0 ∧ t.carried.getD k 0 ≤ t.slab ∧ (t.states.getD k 0 = 0 → t.carried.getD k 0 = 0) := by
                                                          have q1 := of_decide_eq_false hg183
                                                          have q2 := of_decide_eq_false hg193
                                                          have q3 := of_decide_eq_false hg201
                                                          have q4 := of_decide_eq_false hg211
                                                          simp at hg218
                                                          exact ⟨by omega, by omega, by omega, by omega, fun h => absurd h hg218⟩
                                                        have hSv : (t.ld (k - 1) + t.changes.getD (k - 1) 0) - t.carried.getD k 0 + t.errors.getD k 0 = t.sh k := by rw [hLv]; exact (if_pos hs2).symm
                                                        have hsnoc : shws (t.log k) ++ [[I (k : Int), I ((t.ld (k - 1) + t.changes.getD (k - 1) 0) - t.carried.getD k 0 + t.errors.getD k 0)]] = shws (t.log (k + 1)) := by rw [hSv]; exact t.log_snoc k
                                                        have hov := hLv
                                                        have hok2 : t.Ok (k + 1) := ⟨fun j hj => by
                                                          by_cases e : j = k
                                                          · subst e; exact hldk
                                                          · exact hok.ld j (by omega), hchk, fun j hj hn2 => by
                                                          by_cases e : j = k
                                                          · subst e; exact hqs
                                                          · exact hok.st j (by omega) hn2⟩
                                                        refine AWP.skip ?_
                                                        refine AWP.drawn 14 mixed (by kernel_rfl) ?_
                                                        refine AHead.call (o_move _ rfl rfl) rfl ?_
                                                        refine AHead.call (o_fieldRef _ rfl fa78_8 rfl rfl) rfl ?_
                                                        refine AHead.call (o_loadRef _ rfl rfl Tryz.sizeOf25 Tryz.isAgg25 rfl rfl rfl) rfl ?_
                                                        refine AHead.call (o_move _ rfl rfl) rfl ?_
                                                        refine AHead.call (o_index _ _ Tryz.underlying25 Tryz.sizeOf3 rfl rfl (by omega) heca rfl rfl) rfl ?_
                                                        refine AHead.call (o_loadRd _ rfl Tryz.sizeOf3 Tryz.isAgg3 rfl rfl rfl) rfl ?_
                                                        refine AHead.call (o_sub _ _ rfl rfl ⟨by (try dsimp only); omega, by (try dsimp only); omega⟩ rfl) rfl ?_
                                                        refine AHead.call (o_fieldRef _ rfl fa78_7 rfl rfl) rfl ?_
                                                        refine AHead.call (o_loadRef _ rfl rfl Tryz.sizeOf25 Tryz.isAgg25 rfl rfl rfl) rfl ?_
                                                        refine AHead.call (o_move _ rfl rfl) rfl ?_
                                                        refine AHead.call (o_index _ _ Tryz.underlying25 Tryz.sizeOf3 rfl rfl (by omega) heer rfl rfl) rfl ?_
                                                        refine AHead.call (o_loadRd _ rfl Tryz.sizeOf3 Tryz.isAgg3 rfl rfl rfl) rfl ?_
                                                        refine AHead.call (o_add _ _ rfl rfl ⟨by (try dsimp only); omega, by (try dsimp only); omega⟩ rfl) rfl ?_
                                                        refine AHead.call (o_assign _ rfl rfl) rfl ?_
                                                        refine AHead.nil ?_
                                                        refine AOps.nil ?_
                                                        refine AWP.region ?_
                                                        refine AOps.call (o_fieldRef _ rfl fa24_6 rfl rfl) ?_
                                                        refine AOps.call (o_loadRef _ rfl rfl Tryz.sizeOf22 Tryz.isAgg22 rfl rfl rfl) ?_
                                                        refine AOps.call (o_move _ rfl rfl) ?_
                                                        refine AOps.call (o_move _ rfl rfl) ?_
                                                        refine AOps.call (o_build bu27 rfl rfl rfl) ?_
                                                        refine AOps.call (o_lit Tryz.underlying22 Tryz.sizeOf27 Tryz.zeroValue27 rfl rfl rfl rfl rfl rfl rfl) ?_
                                                        refine AOps.cons (o_append _ _ Tryz.underlying22 info27 rfl rfl rfl rfl rfl rfl rfl rfl (fun c hc => by simp at hc; subst hc; rfl) shws_z (by rw [shws_len, Tru.log_len]; unfold Tryz.t27; simp only [List.length_cons, List.length_nil]; omega) rfl hsnoc rfl) ?_
                                                        refine AOps.call (o_fieldRef _ rfl fa24_6 rfl rfl) ?_
                                                        refine AOps.cons (o_store _ _ rfl rfl Tryz.sizeOf22 rfl rfl rfl rfl rfl) ?_
                                                        refine AOps.nil ?_
                                                        refine AWP.region ?_
                                                        refine AOps.call (o_move _ rfl rfl) ?_
                                                        refine AOps.call (o_add _ _ rfl rfl ⟨by (try dsimp only); omega, by (try dsimp only); omega⟩ rfl) ?_
                                                        refine AOps.call (o_assign _ rfl rfl) ?_
                                                        refine AOps.nil ?_
                                                        refine ⟨k + 1, ?_, (Weak.mk' rfl ⟨⟨.refl rfl, rfl⟩, ⟨⟨.refl rfl, rfl⟩, ⟨⟨.refl rfl, rfl⟩, ⟨⟨.refl rfl, rfl⟩, ⟨⟨.refl rfl, rfl⟩, ⟨⟨.refl (congrArg I (by (try dsimp only); exact hLv)), rfl⟩, ⟨⟨.refl rfl, rfl⟩, trivial⟩⟩⟩⟩⟩⟩⟩ ⟨⟨rfl, rfl, rfl⟩, ⟨⟨rfl, rfl, rfl⟩, trivial⟩⟩ ⟨⟨rfl, rfl⟩, ⟨⟨rfl, rfl⟩, ⟨⟨rfl, rfl⟩, trivial⟩⟩⟩)⟩
                                                        exact ⟨⟨by omega, hok2⟩, by omega⟩
                                                    · skip
                                                      refine AHead.pass rfl rfl rfl h158 rfl ?_
                                                      refine AHead.pass rfl rfl rfl h158 rfl ?_
                                                      refine AHead.pass rfl rfl rfl h158 rfl ?_
                                                      refine AHead.pass rfl rfl rfl h158 rfl ?_
                                                      refine AHead.pass rfl rfl rfl h158 rfl ?_
                                                      refine AHead.pass rfl rfl rfl h158 rfl ?_
                                                      refine AHead.pass rfl rfl rfl h158 rfl ?_
                                                      refine AHead.passU rfl rfl rfl rfl ?_
                                                      refine AHead.passU rfl rfl rfl rfl ?_
                                                      refine AHead.passU rfl rfl rfl rfl ?_
                                                      refine AHead.passU rfl rfl rfl rfl ?_
                                                      refine AHead.passU rfl rfl rfl rfl ?_
                                                      refine AHead.passU rfl rfl rfl rfl ?_
                                                      refine AHead.pass rfl rfl rfl h158 rfl ?_
                                                      refine AHead.call (o_pickT _ _ _ rfl h158 rfl rfl) rfl ?_
                                                      refine AHead.nil ?_
                                                      refine AOps.nil ?_
                                                      refine AWP.condT rfl ?_
                                                      refine AWP.seq ?_
                                                      refine AWP.region ?_
                                                      refine AOps.call (o_assign _ rfl rfl) ?_
                                                      refine AOps.nil ?_
                                                      refine AWP.ret ?_
                                                      first
                                                      | exact postQ.ret1 Tryz.results11 rfl rfl
                                                      | (refine postQ.ret1 Tryz.results11 rfl ?_; simp [AV.close, AV.close.closeL, B, I]; done)
                                                      | (refine postQ.ret1 Tryz.results11 rfl ?_; simp [AV.close, AV.close.closeL, B, I]; omega)
                                                      | (refine postQ.ret1 Tryz.results11 rfl ?_; simp_all [AV.close, AV.close.closeL, B, I]; done)
                                                      | (refine postQ.ret1 Tryz.results11 rfl ?_; simp_all [AV.close, AV.close.closeL, B, I]; omega)
                                                  · skip
                                                    refine AHead.pass rfl rfl rfl h150 rfl ?_
                                                    refine AHead.pass rfl rfl rfl h150 rfl ?_
                                                    refine AHead.pass rfl rfl rfl h150 rfl ?_
                                                    refine AHead.pass rfl rfl rfl h150 rfl ?_
                                                    refine AHead.pass rfl rfl rfl h150 rfl ?_
                                                    refine AHead.pass rfl rfl rfl h150 rfl ?_
                                                    refine AHead.pass rfl rfl rfl h150 rfl ?_
                                                    refine AHead.pass rfl rfl rfl h150 rfl ?_
                                                    refine AHead.call (o_pickT _ _ _ rfl h150 rfl rfl) rfl ?_
                                                    refine AHead.call (o_move _ rfl rfl) rfl ?_
                                                    refine AHead.pass rfl rfl rfl rfl rfl ?_
                                                    refine AHead.pass rfl rfl rfl rfl rfl ?_
                                                    refine AHead.pass rfl rfl rfl rfl rfl ?_
                                                    refine AHead.pass rfl rfl rfl rfl rfl ?_
                                                    refine AHead.pass rfl rfl rfl rfl rfl ?_
                                                    refine AHead.pass rfl rfl rfl rfl rfl ?_
                                                    refine AHead.pass rfl rfl rfl rfl rfl ?_
                                                    refine AHead.passU rfl rfl rfl rfl ?_
                                                    refine AHead.passU rfl rfl rfl rfl ?_
                                                    refine AHead.passU rfl rfl rfl rfl ?_
                                                    refine AHead.passU rfl rfl rfl rfl ?_
                                                    refine AHead.passU rfl rfl rfl rfl ?_
                                                    refine AHead.passU rfl rfl rfl rfl ?_
                                                    refine AHead.pass rfl rfl rfl rfl rfl ?_
                                                    refine AHead.call (o_pickT _ _ _ rfl rfl rfl rfl) rfl ?_
                                                    refine AHead.nil ?_
                                                    refine AOps.nil ?_
                                                    refine AWP.condT rfl ?_
                                                    refine AWP.seq ?_
                                                    refine AWP.region ?_
                                                    refine AOps.call (o_assign _ rfl rfl) ?_
                                                    refine AOps.nil ?_
                                                    refine AWP.ret ?_
                                                    first
                                                    | exact postQ.ret1 Tryz.results11 rfl rfl
                                                    | (refine postQ.ret1 Tryz.results11 rfl ?_; simp [AV.close, AV.close.closeL, B, I]; done)
                                                    | (refine postQ.ret1 Tryz.results11 rfl ?_; simp [AV.close, AV.close.closeL, B, I]; omega)
                                                    | (refine postQ.ret1 Tryz.results11 rfl ?_; simp_all [AV.close, AV.close.closeL, B, I]; done)
                                                    | (refine postQ.ret1 Tryz.results11 rfl ?_; simp_all [AV.close, AV.close.closeL, B, I]; omega)
                                                · skip
                                                  refine AHead.pass rfl rfl rfl h144 rfl ?_
                                                  refine AHead.pass rfl rfl rfl h144 rfl ?_
                                                  refine AHead.pass rfl rfl rfl h144 rfl ?_
                                                  refine AHead.pass rfl rfl rfl h144 rfl ?_
                                                  refine AHead.pass rfl rfl rfl h144 rfl ?_
                                                  refine AHead.pass rfl rfl rfl h144 rfl ?_
                                                  refine AHead.call (o_pickT _ _ _ rfl h144 rfl rfl) rfl ?_
                                                  refine AHead.call (o_move _ rfl rfl) rfl ?_
                                                  refine AHead.pass rfl rfl rfl rfl rfl ?_
                                                  refine AHead.pass rfl rfl rfl rfl rfl ?_
                                                  refine AHead.pass rfl rfl rfl rfl rfl ?_
                                                  refine AHead.pass rfl rfl rfl rfl rfl ?_
                                                  refine AHead.pass rfl rfl rfl rfl rfl ?_
                                                  refine AHead.pass rfl rfl rfl rfl rfl ?_
                                                  refine AHead.pass rfl rfl rfl rfl rfl ?_
                                                  refine AHead.pass rfl rfl rfl rfl rfl ?_
                                                  refine AHead.call (o_pickT _ _ _ rfl rfl rfl rfl) rfl ?_
                                                  refine AHead.call (o_move _ rfl rfl) rfl ?_
                                                  refine AHead.pass rfl rfl rfl rfl rfl ?_
                                                  refine AHead.pass rfl rfl rfl rfl rfl ?_
                                                  refine AHead.pass rfl rfl rfl rfl rfl ?_
                                                  refine AHead.pass rfl rfl rfl rfl rfl ?_
                                                  refine AHead.pass rfl rfl rfl rfl rfl ?_
                                                  refine AHead.pass rfl rfl rfl rfl rfl ?_
                                                  refine AHead.pass rfl rfl rfl rfl rfl ?_
                                                  refine AHead.passU rfl rfl rfl rfl ?_
                                                  refine AHead.passU rfl rfl rfl rfl ?_
                                                  refine AHead.passU rfl rfl rfl rfl ?_
                                                  refine AHead.passU rfl rfl rfl rfl ?_
                                                  refine AHead.passU rfl rfl rfl rfl ?_
                                                  refine AHead.passU rfl rfl rfl rfl ?_
                                                  refine AHead.pass rfl rfl rfl rfl rfl ?_
                                                  refine AHead.call (o_pickT _ _ _ rfl rfl rfl rfl) rfl ?_
                                                  refine AHead.nil ?_
                                                  refine AOps.nil ?_
                                                  refine AWP.condT rfl ?_
                                                  refine AWP.seq ?_
                                                  refine AWP.region ?_
                                                  refine AOps.call (o_assign _ rfl rfl) ?_
                                                  refine AOps.nil ?_
                                                  refine AWP.ret ?_
                                                  first
                                                  | exact postQ.ret1 Tryz.results11 rfl rfl
                                                  | (refine postQ.ret1 Tryz.results11 rfl ?_; simp [AV.close, AV.close.closeL, B, I]; done)
                                                  | (refine postQ.ret1 Tryz.results11 rfl ?_; simp [AV.close, AV.close.closeL, B, I]; omega)
                                                  | (refine postQ.ret1 Tryz.results11 rfl ?_; simp_all [AV.close, AV.close.closeL, B, I]; done)
                                                  | (refine postQ.ret1 Tryz.results11 rfl ?_; simp_all [AV.close, AV.close.closeL, B, I]; omega)
                                              · skip
                                                refine AHead.pass rfl rfl rfl h136 rfl ?_
                                                refine AHead.pass rfl rfl rfl h136 rfl ?_
                                                refine AHead.pass rfl rfl rfl h136 rfl ?_
                                                refine AHead.pass rfl rfl rfl h136 rfl ?_
                                                refine AHead.pass rfl rfl rfl h136 rfl ?_
                                                refine AHead.pass rfl rfl rfl h136 rfl ?_
                                                refine AHead.pass rfl rfl rfl h136 rfl ?_
                                                refine AHead.pass rfl rfl rfl h136 rfl ?_
                                                refine AHead.call (o_pickT _ _ _ rfl h136 rfl rfl) rfl ?_
                                                refine AHead.call (o_move _ rfl rfl) rfl ?_
                                                refine AHead.pass rfl rfl rfl rfl rfl ?_
                                                refine AHead.pass rfl rfl rfl rfl rfl ?_
                                                refine AHead.pass rfl rfl rfl rfl rfl ?_
                                                refine AHead.pass rfl rfl rfl rfl rfl ?_
                                                refine AHead.pass rfl rfl rfl rfl rfl ?_
                                                refine AHead.pass rfl rfl rfl rfl rfl ?_
                                                refine AHead.call (o_pickT _ _ _ rfl rfl rfl rfl) rfl ?_
                                                refine AHead.call (o_move _ rfl rfl) rfl ?_
                                                refine AHead.pass rfl rfl rfl rfl rfl ?_
                                                refine AHead.pass rfl rfl rfl rfl rfl ?_
                                                refine AHead.pass rfl rfl rfl rfl rfl ?_
                                                refine AHead.pass rfl rfl rfl rfl rfl ?_
                                                refine AHead.pass rfl rfl rfl rfl rfl ?_
                                                refine AHead.pass rfl rfl rfl rfl rfl ?_
                                                refine AHead.pass rfl rfl rfl rfl rfl ?_
                                                refine AHead.pass rfl rfl rfl rfl rfl ?_
                                                refine AHead.call (o_pickT _ _ _ rfl rfl rfl rfl) rfl ?_
                                                refine AHead.call (o_move _ rfl rfl) rfl ?_
                                                refine AHead.pass rfl rfl rfl rfl rfl ?_
                                                refine AHead.pass rfl rfl rfl rfl rfl ?_
                                                refine AHead.pass rfl rfl rfl rfl rfl ?_
                                                refine AHead.pass rfl rfl rfl rfl rfl ?_
                                                refine AHead.pass rfl rfl rfl rfl rfl ?_
                                                refine AHead.pass rfl rfl rfl rfl rfl ?_
                                                refine AHead.pass rfl rfl rfl rfl rfl ?_
                                                refine AHead.passU rfl rfl rfl rfl ?_
                                                refine AHead.passU rfl rfl rfl rfl ?_
                                                refine AHead.passU rfl rfl rfl rfl ?_
                                                refine AHead.passU rfl rfl rfl rfl ?_
                                                refine AHead.passU rfl rfl rfl rfl ?_
                                                refine AHead.passU rfl rfl rfl rfl ?_
                                                refine AHead.pass rfl rfl rfl rfl rfl ?_
                                                refine AHead.call (o_pickT _ _ _ rfl rfl rfl rfl) rfl ?_
                                                refine AHead.nil ?_
                                                refine AOps.nil ?_
                                                refine AWP.condT rfl ?_
                                                refine AWP.seq ?_
                                                refine AWP.region ?_
                                                refine AOps.call (o_assign _ rfl rfl) ?_
                                                refine AOps.nil ?_
                                                refine AWP.ret ?_
                                                first
                                                | exact postQ.ret1 Tryz.results11 rfl rfl
                                                | (refine postQ.ret1 Tryz.results11 rfl ?_; simp [AV.close, AV.close.closeL, B, I]; done)
                                                | (refine postQ.ret1 Tryz.results11 rfl ?_; simp [AV.close, AV.close.closeL, B, I]; omega)
                                                | (refine postQ.ret1 Tryz.results11 rfl ?_; simp_all [AV.close, AV.close.closeL, B, I]; done)
                                                | (refine postQ.ret1 Tryz.results11 rfl ?_; simp_all [AV.close, AV.close.closeL, B, I]; omega)
                                            · skip
                                              have hs2 : t.states.getD k 0 = 2 := by have h := h127; simpa using h
                                              have hSv : t.shown.getD k 0 = t.sh k := (if_neg (fun h => h hs2)).symm
                                              have hok2 : t.Ok (k + 1) := ⟨fun j hj => by
                                                by_cases e : j = k
                                                · subst e; exact hldk
                                                · exact hok.ld j (by omega), hchk, fun j hj hn2 => by
                                                by_cases e : j = k
                                                · subst e; exact absurd hs2 hn2
                                                · exact hok.st j (by omega) hn2⟩
                                              have hsnoc : shws (t.log k) ++ [[I (k : Int), I (t.shown.getD k 0)]] = shws (t.log (k + 1)) := by rw [hSv]; exact t.log_snoc k
                                              refine AWP.skip ?_
                                              refine AWP.region ?_
                                              refine AOps.call (o_fieldRef _ rfl fa24_6 rfl rfl) ?_
                                              refine AOps.call (o_loadRef _ rfl rfl Tryz.sizeOf22 Tryz.isAgg22 rfl rfl rfl) ?_
                                              refine AOps.call (o_move _ rfl rfl) ?_
                                              refine AOps.call (o_move _ rfl rfl) ?_
                                              refine AOps.call (o_build bu27 rfl rfl rfl) ?_
                                              refine AOps.call (o_lit Tryz.underlying22 Tryz.sizeOf27 Tryz.zeroValue27 rfl rfl rfl rfl rfl rfl rfl) ?_
                                              refine AOps.cons (o_append _ _ Tryz.underlying22 info27 rfl rfl rfl rfl rfl rfl rfl rfl (fun c hc => by simp at hc; subst hc; rfl) shws_z (by rw [shws_len, Tru.log_len]; unfold Tryz.t27; simp only [List.length_cons, List.length_nil]; omega) rfl hsnoc rfl) ?_
                                              refine AOps.call (o_fieldRef _ rfl fa24_6 rfl rfl) ?_
                                              refine AOps.cons (o_store _ _ rfl rfl Tryz.sizeOf22 rfl rfl rfl rfl rfl) ?_
                                              refine AOps.nil ?_
                                              refine AWP.region ?_
                                              refine AOps.call (o_move _ rfl rfl) ?_
                                              refine AOps.call (o_add _ _ rfl rfl ⟨by (try dsimp only); omega, by (try dsimp only); omega⟩ rfl) ?_
                                              refine AOps.call (o_assign _ rfl rfl) ?_
                                              refine AOps.nil ?_
                                              refine ⟨k + 1, ?_, (Weak.mk' rfl ⟨⟨.refl rfl, rfl⟩, ⟨⟨.refl rfl, rfl⟩, ⟨⟨.refl rfl, rfl⟩, ⟨⟨.refl rfl, rfl⟩, ⟨⟨.refl rfl, rfl⟩, ⟨⟨.refl (congrArg I (by (try dsimp only); exact hLv)), rfl⟩, ⟨⟨.refl rfl, rfl⟩, trivial⟩⟩⟩⟩⟩⟩⟩ ⟨⟨rfl, rfl, rfl⟩, ⟨⟨rfl, rfl, rfl⟩, trivial⟩⟩ ⟨⟨rfl, rfl⟩, ⟨⟨rfl, rfl⟩, ⟨⟨rfl, rfl⟩, trivial⟩⟩⟩)⟩
                                              exact ⟨⟨by omega, hok2⟩, by omega⟩
                                      · skip
                                        refine AOps.pass rfl rfl rfl h100 rfl ?_
                                        refine AOps.pass rfl rfl rfl h100 rfl ?_
                                        refine AOps.pass rfl rfl rfl h100 rfl ?_
                                        refine AOps.pass rfl rfl rfl h100 rfl ?_
                                        refine AOps.call (o_pickT _ _ _ rfl h100 rfl rfl) ?_
                                        refine AOps.nil ?_
                                        refine AWP.condT rfl ?_
                                        refine AWP.seq ?_
                                        refine AWP.region ?_
                                        refine AOps.call (o_assign _ rfl rfl) ?_
                                        refine AOps.nil ?_
                                        refine AWP.ret ?_
                                        first
                                        | exact postQ.ret1 Tryz.results11 rfl rfl
                                        | (refine postQ.ret1 Tryz.results11 rfl ?_; simp [AV.close, AV.close.closeL, B, I]; done)
                                        | (refine postQ.ret1 Tryz.results11 rfl ?_; simp [AV.close, AV.close.closeL, B, I]; omega)
                                        | (refine postQ.ret1 Tryz.results11 rfl ?_; simp_all [AV.close, AV.close.closeL, B, I]; done)
                                        | (refine postQ.ret1 Tryz.results11 rfl ?_; simp_all [AV.close, AV.close.closeL, B, I]; omega)
                                    · skip
                                      refine AOps.pass rfl rfl rfl h96 rfl ?_
                                      refine AOps.pass rfl rfl rfl h96 rfl ?_
                                      refine AOps.pass rfl rfl rfl h96 rfl ?_
                                      refine AOps.pass rfl rfl rfl h96 rfl ?_
                                      refine AOps.call (o_pickT _ _ _ rfl h96 rfl rfl) ?_
                                      refine AOps.call (o_move _ rfl rfl) ?_
                                      refine AOps.pass rfl rfl rfl rfl rfl ?_
                                      refine AOps.pass rfl rfl rfl rfl rfl ?_
                                      refine AOps.pass rfl rfl rfl rfl rfl ?_
                                      refine AOps.pass rfl rfl rfl rfl rfl ?_
                                      refine AOps.call (o_pickT _ _ _ rfl rfl rfl rfl) ?_
                                      refine AOps.nil ?_
                                      refine AWP.condT rfl ?_
                                      refine AWP.seq ?_
                                      refine AWP.region ?_
                                      refine AOps.call (o_assign _ rfl rfl) ?_
                                      refine AOps.nil ?_
                                      refine AWP.ret ?_
                                      first
                                      | exact postQ.ret1 Tryz.results11 rfl rfl
                                      | (refine postQ.ret1 Tryz.results11 rfl ?_; simp [AV.close, AV.close.closeL, B, I]; done)
                                      | (refine postQ.ret1 Tryz.results11 rfl ?_; simp [AV.close, AV.close.closeL, B, I]; omega)
                                      | (refine postQ.ret1 Tryz.results11 rfl ?_; simp_all [AV.close, AV.close.closeL, B, I]; done)
                                      | (refine postQ.ret1 Tryz.results11 rfl ?_; simp_all [AV.close, AV.close.closeL, B, I]; omega)
                                  · skip
                                    refine AOps.pass rfl rfl rfl h91 rfl ?_
                                    refine AOps.pass rfl rfl rfl h91 rfl ?_
                                    refine AOps.pass rfl rfl rfl h91 rfl ?_
                                    refine AOps.pass rfl rfl rfl h91 rfl ?_
                                    refine AOps.pass rfl rfl rfl h91 rfl ?_
                                    refine AOps.call (o_pickT _ _ _ rfl h91 rfl rfl) ?_
                                    refine AOps.call (o_move _ rfl rfl) ?_
                                    refine AOps.pass rfl rfl rfl rfl rfl ?_
                                    refine AOps.pass rfl rfl rfl rfl rfl ?_
                                    refine AOps.pass rfl rfl rfl rfl rfl ?_
                                    refine AOps.pass rfl rfl rfl rfl rfl ?_
                                    refine AOps.call (o_pickT _ _ _ rfl rfl rfl rfl) ?_
                                    refine AOps.call (o_move _ rfl rfl) ?_
                                    refine AOps.pass rfl rfl rfl rfl rfl ?_
                                    refine AOps.pass rfl rfl rfl rfl rfl ?_
                                    refine AOps.pass rfl rfl rfl rfl rfl ?_
                                    refine AOps.pass rfl rfl rfl rfl rfl ?_
                                    refine AOps.call (o_pickT _ _ _ rfl rfl rfl rfl) ?_
                                    refine AOps.nil ?_
                                    refine AWP.condT rfl ?_
                                    refine AWP.seq ?_
                                    refine AWP.region ?_
                                    refine AOps.call (o_assign _ rfl rfl) ?_
                                    refine AOps.nil ?_
                                    refine AWP.ret ?_
                                    first
                                    | exact postQ.ret1 Tryz.results11 rfl rfl
                                    | (refine postQ.ret1 Tryz.results11 rfl ?_; simp [AV.close, AV.close.closeL, B, I]; done)
                                    | (refine postQ.ret1 Tryz.results11 rfl ?_; simp [AV.close, AV.close.closeL, B, I]; omega)
                                    | (refine postQ.ret1 Tryz.results11 rfl ?_; simp_all [AV.close, AV.close.closeL, B, I]; done)
                                    | (refine postQ.ret1 Tryz.results11 rfl ?_; simp_all [AV.close, AV.close.closeL, B, I]; omega)
                                · skip
                                  skip
                                  · skip
                                    have hk0 : k = 0 := by have := of_decide_eq_false h81; omega
                                    have hLv : t.ld (k - 1) = t.ld k := by rw [hk0]
                                    have hw0 : t.w (k - 1) = t.w k := by rw [hk0]
                                    rw [hw0]
                                    have hchk : (∀ j, j + 1 < k + 1 → -65536 + t.slack ≤ t.changes.getD j 0 ∧ t.changes.getD j 0 ≤ 65536 - t.slack) := fun j h => by omega
                                    have hldk : 0 ≤ t.ld k ∧ t.ld k ≤ 65536 := by rw [hk0]; exact b7
                                    refine AWP.skip ?_
                                    refine AWP.seq ?_
                                    refine AWP.region ?_
                                    refine AOps.call (o_move _ rfl rfl) ?_
                                    refine AOps.call (o_move _ rfl rfl) ?_
                                    refine AOps.call (o_lit Tryz.underlying25 Tryz.sizeOf3 Tryz.zeroValue3 rfl rfl rfl rfl rfl rfl rfl) ?_
                                    refine AOps.cons (o_append (rs := ints (t.lds (k + 1))) _ _ Tryz.underlying25 info3 rfl rfl rfl rfl rfl rfl rfl rfl (fun c hc => by simp at hc; subst hc; rfl) ints_z (by rw [ints_len, Tru.lds_len]; unfold Tryz.t3; simp only [List.length_cons, List.length_nil]; omega) rfl (by rw [hLv]; exact t.lds_snoc k) rfl) ?_
                                    refine AOps.call (o_assign _ rfl rfl) ?_
                                    refine AOps.nil ?_
                                    refine AWP.seq ?_
                                    refine AWP.region ?_
                                    refine AOps.call (o_fieldRef _ rfl fa78_9 rfl rfl) ?_
                                    refine AOps.call (o_loadRef _ rfl rfl Tryz.sizeOf25 Tryz.isAgg25 rfl rfl rfl) ?_
                                    refine AOps.call (o_move _ rfl rfl) ?_
                                    refine AOps.call (o_index _ _ Tryz.underlying25 Tryz.sizeOf3 rfl rfl (by omega) hesh rfl rfl) ?_
                                    refine AOps.call (o_loadRd _ rfl Tryz.sizeOf3 Tryz.isAgg3 rfl rfl rfl) ?_
                                    refine AOps.call (o_assign _ rfl rfl) ?_
                                    refine AOps.nil ?_
                                    refine AWP.seq ?_
                                    refine AWP.seq ?_
                                    refine AWP.region ?_
                                    refine AOps.call (o_fieldRef _ rfl fa78_6 rfl rfl) ?_
                                    refine AOps.call (o_loadRef _ rfl rfl Tryz.sizeOf25 Tryz.isAgg25 rfl rfl rfl) ?_
                                    refine AOps.call (o_move _ rfl rfl) ?_
                                    refine AOps.call (o_index _ _ Tryz.underlying25 Tryz.sizeOf3 rfl rfl (by omega) hest rfl rfl) ?_
                                    refine AOps.call (o_loadRd _ rfl Tryz.sizeOf3 Tryz.isAgg3 rfl rfl rfl) ?_
                                    refine AOps.call (o_bin _ _ rfl rfl (fun _ => rfl) rfl) ?_
                                    refine AOps.nil ?_
                                    refine AWP.cond _ rfl (fun h224 => ?_) (fun h224 => ?_)
                                    · skip
                                      have hs2 : t.states.getD k 0 ≠ 2 := by have h := h224; simpa using h
                                      refine AWP.seq ?_
                                      refine AWP.seq ?_
                                      refine AWP.drawn 53 mixed (by kernel_rfl) ?_
                                      refine AHead.call (o_fieldRef _ rfl fa78_7 rfl rfl) rfl ?_
                                      refine AHead.call (o_loadRef _ rfl rfl Tryz.sizeOf25 Tryz.isAgg25 rfl rfl rfl) rfl ?_
                                      refine AHead.call (o_move _ rfl rfl) rfl ?_
                                      refine AHead.call (o_index _ _ Tryz.underlying25 Tryz.sizeOf3 rfl rfl (by omega) heer rfl rfl) rfl ?_
                                      refine AHead.call (o_loadRd _ rfl Tryz.sizeOf3 Tryz.isAgg3 rfl rfl rfl) rfl ?_
                                      refine AHead.call (o_fieldRef _ rfl fa78_0 rfl rfl) rfl ?_
                                      refine AHead.call (o_loadRef _ rfl rfl Tryz.sizeOf3 Tryz.isAgg3 rfl rfl rfl) rfl ?_
                                      refine AHead.call (o_neg _ rfl ⟨by (try dsimp only); omega, by (try dsimp only); omega⟩ rfl) rfl ?_
                                      refine AHead.call (o_bin _ _ rfl rfl (fun _ => rfl) rfl) rfl ?_
                                      refine AHead.call (o_move _ rfl rfl) rfl ?_
                                      refine AHead.split rfl rfl rfl (fun h233 => ?_) (fun h233 => ?_)
                                      · skip
                                        have hg183 := h233
                                        refine AHead.go rfl rfl rfl h233 (o_fieldRef _ rfl fa78_7 rfl rfl) rfl ?_
                                        refine AHead.go rfl rfl rfl h233 (o_loadRef _ rfl rfl Tryz.sizeOf25 Tryz.isAgg25 rfl rfl rfl) rfl ?_
                                        refine AHead.go rfl rfl rfl h233 (o_move _ rfl rfl) rfl ?_
                                        refine AHead.go rfl rfl rfl h233 (o_index _ _ Tryz.underlying25 Tryz.sizeOf3 rfl rfl (by omega) heer rfl rfl) rfl ?_
                                        refine AHead.go rfl rfl rfl h233 (o_loadRd _ rfl Tryz.sizeOf3 Tryz.isAgg3 rfl rfl rfl) rfl ?_
                                        refine AHead.go rfl rfl rfl h233 (o_fieldRef _ rfl fa78_0 rfl rfl) rfl ?_
                                        refine AHead.go rfl rfl rfl h233 (o_loadRef _ rfl rfl Tryz.sizeOf3 Tryz.isAgg3 rfl rfl rfl) rfl ?_
                                        refine AHead.go rfl rfl rfl h233 (o_bin _ _ rfl rfl (fun _ => rfl) rfl) rfl ?_
                                        refine AHead.call (o_pickF _ _ _ rfl h233 rfl rfl) rfl ?_
                                        refine AHead.call (o_move _ rfl rfl) rfl ?_
                                        refine AHead.split rfl rfl rfl (fun h241 => ?_) (fun h241 => ?_)
                                        · skip
                                          have hg193 := h241
                                          refine AHead.go rfl rfl rfl h241 (o_fieldRef _ rfl fa78_8 rfl rfl) rfl ?_
                                          refine AHead.go rfl rfl rfl h241 (o_loadRef _ rfl rfl Tryz.sizeOf25 Tryz.isAgg25 rfl rfl rfl) rfl ?_
                                          refine AHead.go rfl rfl rfl h241 (o_move _ rfl rfl) rfl ?_
                                          refine AHead.go rfl rfl rfl h241 (o_index _ _ Tryz.underlying25 Tryz.sizeOf3 rfl rfl (by omega) heca rfl rfl) rfl ?_
                                          refine AHead.go rfl rfl rfl h241 (o_loadRd _ rfl Tryz.sizeOf3 Tryz.isAgg3 rfl rfl rfl) rfl ?_
                                          refine AHead.go rfl rfl rfl h241 (o_bin _ _ rfl rfl (fun _ => rfl) rfl) rfl ?_
                                          refine AHead.call (o_pickF _ _ _ rfl h241 rfl rfl) rfl ?_
                                          refine AHead.call (o_move _ rfl rfl) rfl ?_
                                          refine AHead.split rfl rfl rfl (fun h247 => ?_) (fun h247 => ?_)
                                          · skip
                                            have hg201 := h247
                                            refine AHead.go rfl rfl rfl h247 (o_fieldRef _ rfl fa78_8 rfl rfl) rfl ?_
                                            refine AHead.go rfl rfl rfl h247 (o_loadRef _ rfl rfl Tryz.sizeOf25 Tryz.isAgg25 rfl rfl rfl) rfl ?_
                                            refine AHead.go rfl rfl rfl h247 (o_move _ rfl rfl) rfl ?_
                                            refine AHead.go rfl rfl rfl h247 (o_index _ _ Tryz.underlying25 Tryz.sizeOf3 rfl rfl (by omega) heca rfl rfl) rfl ?_
                                            refine AHead.go rfl rfl rfl h247 (o_loadRd _ rfl Tryz.sizeOf3 Tryz.isAgg3 rfl rfl rfl) rfl ?_
                                            refine AHead.go rfl rfl rfl h247 (o_fieldRef _ rfl fa78_1 rfl rfl) rfl ?_
                                            refine AHead.go rfl rfl rfl h247 (o_loadRef _ rfl rfl Tryz.sizeOf3 Tryz.isAgg3 rfl rfl rfl) rfl ?_
                                            refine AHead.go rfl rfl rfl h247 (o_bin _ _ rfl rfl (fun _ => rfl) rfl) rfl ?_
                                            refine AHead.call (o_pickF _ _ _ rfl h247 rfl rfl) rfl ?_
                                            refine AHead.call (o_move _ rfl rfl) rfl ?_
                                            refine AHead.split rfl rfl rfl (fun h255 => ?_) (fun h255 => ?_)
                                            · skip
                                              have hg211 := h255
                                              refine AHead.go rfl rfl rfl h255 (o_fieldRef _ rfl fa78_6 rfl rfl) rfl ?_
                                              refine AHead.go rfl rfl rfl h255 (o_loadRef _ rfl rfl Tryz.sizeOf25 Tryz.isAgg25 rfl rfl rfl) rfl ?_
                                              refine AHead.go rfl rfl rfl h255 (o_move _ rfl rfl) rfl ?_
                                              refine AHead.go rfl rfl rfl h255 (o_index _ _ Tryz.underlying25 Tryz.sizeOf3 rfl rfl (by omega) hest rfl rfl) rfl ?_
                                              refine AHead.go rfl rfl rfl h255 (o_loadRd _ rfl Tryz.sizeOf3 Tryz.isAgg3 rfl rfl rfl) rfl ?_
                                              refine AHead.go rfl rfl rfl h255 (o_bin _ _ rfl rfl (fun _ => rfl) rfl) rfl ?_
                                              refine AHead.go rfl rfl rfl h255 (o_move _ rfl rfl) rfl ?_
                                              refine AHead.split rfl rfl rfl (fun h261 => ?_) (fun h261 => ?_)
                                              · skip
                                                have hg218 := h261
                                                refine AHead.go rfl rfl rfl h261 (o_fieldRef _ rfl fa78_8 rfl rfl) rfl ?_
                                                refine AHead.go rfl rfl rfl h261 (o_loadRef _ rfl rfl Tryz.sizeOf25 Tryz.isAgg25 rfl rfl rfl) rfl ?_
                                                refine AHead.go rfl rfl rfl h261 (o_move _ rfl rfl) rfl ?_
                                                refine AHead.go rfl rfl rfl h261 (o_index _ _ Tryz.underlying25 Tryz.sizeOf3 rfl rfl (by omega) heca rfl rfl) rfl ?_
                                                refine AHead.go rfl rfl rfl h261 (o_loadRd _ rfl Tryz.sizeOf3 Tryz.isAgg3 rfl rfl rfl) rfl ?_
                                                refine AHead.go rfl rfl rfl h261 (o_bin _ _ rfl rfl (fun _ => rfl) rfl) rfl ?_
                                                refine AHead.go rfl rfl rfl h255 (o_pickT _ _ _ rfl h261 rfl rfl) rfl ?_
                                                refine AHead.call (o_pickF _ _ _ rfl h255 rfl rfl) rfl ?_
                                                refine AHead.nil ?_
                                                refine AOps.nil ?_
                                                refine AWP.cond _ rfl (fun h267 => ?_) (fun h267 => ?_)
                                                · skip
                                                  skip
                                                  refine AWP.seq ?_
                                                  refine AWP.region ?_
                                                  refine AOps.call (o_assign _ rfl rfl) ?_
                                                  refine AOps.nil ?_
                                                  refine AWP.ret ?_
                                                  first
                                                  | exact postQ.ret1 Tryz.results11 rfl rfl
                                                  | (refine postQ.ret1 Tryz.results11 rfl ?_; simp [AV.close, AV.close.closeL, B, I]; done)
                                                  | (refine postQ.ret1 Tryz.results11 rfl ?_; simp [AV.close, AV.close.closeL, B, I]; omega)
                                                  | (refine postQ.ret1 Tryz.results11 rfl ?_; simp_all [AV.close, AV.close.closeL, B, I]; done)
                                                  | (refine postQ.ret1 Tryz.results11 rfl ?_; simp_all [AV.close, AV.close.closeL, B, I]; omega)
                                                · skip
                                                  have hqs : -t.noise ≤ t.errors.getD k 0 ∧ t.errors.getD k 0 ≤ t.noise ∧ 0 ≤ t.carried.getD k 0 ∧ t.carried.getD k 0 ≤ t.slab ∧ (t.states.getD k 0 = 0 → t.carried.getD k 0 = 0) := by
                                                    have hq := h267
                                                    have q1 := of_decide_eq_false hg183
                                                    have q2 := of_decide_eq_false hg193
                                                    have q3 := of_decide_eq_false hg201
                                                    have q4 := of_decide_eq_false hg211
                                                    simp at hg218 hq
                                                    refine ⟨by omega, by omega, by omega, by omega, fun h => ?_⟩
                                                    first
                                                    | exact hq
                                                    | exact absurd h hg218
                                                    | (have := hq; omega)
                                                  have hSv : t.ld (k - 1) - t.carried.getD k 0 + t.errors.getD k 0 = t.sh k := by rw [hLv]; exact (if_pos hs2).symm
                                                  have hsnoc : shws (t.log k) ++ [[I (k : Int), I (t.ld (k - 1) - t.carried.getD k 0 + t.errors.getD k 0)]] = shws (t.log (k + 1)) := by rw [hSv]; exact t.log_snoc k
                                                  have hov := hLv
                                                  have hok2 : t.Ok (k + 1) := ⟨fun j hj => by
                                                    by_cases e : j = k
                                                    · subst e; exact hldk
                                                    · exact hok.ld j (by omega), hchk, fun j hj hn2 => by
                                                    by_cases e : j = k
                                                    · subst e; exact hqs
                                                    · exact hok.st j (by omega) hn2⟩
                                                  refine AWP.skip ?_
                                                  refine AWP.drawn 14 mixed (by kernel_rfl) ?_
                                                  refine AHead.call (o_move _ rfl rfl) rfl ?_
                                                  refine AHead.call (o_fieldRef _ rfl fa78_8 rfl rfl) rfl ?_
                                                  refine AHead.call (o_loadRef _ rfl rfl Tryz.sizeOf25 Tryz.isAgg25 rfl rfl rfl) rfl ?_
                                                  refine AHead.call (o_move _ rfl rfl) rfl ?_
                                                  refine AHead.call (o_index _ _ Tryz.underlying25 Tryz.sizeOf3 rfl rfl (by omega) heca rfl rfl) rfl ?_
                                                  refine AHead.call (o_loadRd _ rfl Tryz.sizeOf3 Tryz.isAgg3 rfl rfl rfl) rfl ?_
                                                  refine AHead.call (o_sub _ _ rfl rfl ⟨by (try dsimp only); omega, by (try dsimp only); omega⟩ rfl) rfl ?_
                                                  refine AHead.call (o_fieldRef _ rfl fa78_7 rfl rfl) rfl ?_
                                                  refine AHead.call (o_loadRef _ rfl rfl Tryz.sizeOf25 Tryz.isAgg25 rfl rfl rfl) rfl ?_
                                                  refine AHead.call (o_move _ rfl rfl) rfl ?_
                                                  refine AHead.call (o_index _ _ Tryz.underlying25 Tryz.sizeOf3 rfl rfl (by omega) heer rfl rfl) rfl ?_
                                                  refine AHead.call (o_loadRd _ rfl Tryz.sizeOf3 Tryz.isAgg3 rfl rfl rfl) rfl ?_
                                                  refine AHead.call (o_add _ _ rfl rfl ⟨by (try dsimp only); omega, by (try dsimp only); omega⟩ rfl) rfl ?_
                                                  refine AHead.call (o_assign _ rfl rfl) rfl ?_
                                                  refine AHead.nil ?_
                                                  refine AOps.nil ?_
                                                  refine AWP.region ?_
                                                  refine AOps.call (o_fieldRef _ rfl fa24_6 rfl rfl) ?_
                                                  refine AOps.call (o_loadRef _ rfl rfl Tryz.sizeOf22 Tryz.isAgg22 rfl rfl rfl) ?_
                                                  refine AOps.call (o_move _ rfl rfl) ?_
                                                  refine AOps.call (o_move _ rfl rfl) ?_
                                                  refine AOps.call (o_build bu27 rfl rfl rfl) ?_
                                                  refine AOps.call (o_lit Tryz.underlying22 Tryz.sizeOf27 Tryz.zeroValue27 rfl rfl rfl rfl rfl rfl rfl) ?_
                                                  refine AOps.cons (o_append _ _ Tryz.underlying22 info27 rfl rfl rfl rfl rfl rfl rfl rfl (fun c hc => by simp at hc; subst hc; rfl) shws_z (by rw [shws_len, Tru.log_len]; unfold Tryz.t27; simp only [List.length_cons, List.length_nil]; omega) rfl hsnoc rfl) ?_
                                                  refine AOps.call (o_fieldRef _ rfl fa24_6 rfl rfl) ?_
                                                  refine AOps.cons (o_store _ _ rfl rfl Tryz.sizeOf22 rfl rfl rfl rfl rfl) ?_
                                                  refine AOps.nil ?_
                                                  refine AWP.region ?_
                                                  refine AOps.call (o_move _ rfl rfl) ?_
                                                  refine AOps.call (o_add _ _ rfl rfl ⟨by (try dsimp only); omega, by (try dsimp only); omega⟩ rfl) ?_
                                                  refine AOps.call (o_assign _ rfl rfl) ?_
                                                  refine AOps.nil ?_
                                                  refine ⟨k + 1, ?_, (Weak.mk' rfl ⟨⟨.refl rfl, rfl⟩, ⟨⟨.refl rfl, rfl⟩, ⟨⟨.refl rfl, rfl⟩, ⟨⟨.refl rfl, rfl⟩, ⟨⟨.refl rfl, rfl⟩, ⟨⟨.refl (congrArg I (by (try dsimp only); exact hLv)), rfl⟩, ⟨⟨.refl rfl, rfl⟩, trivial⟩⟩⟩⟩⟩⟩⟩ ⟨⟨rfl, rfl, rfl⟩, ⟨⟨rfl, rfl, rfl⟩, trivial⟩⟩ ⟨⟨rfl, rfl⟩, ⟨⟨rfl, rfl⟩, ⟨⟨rfl, rfl⟩, trivial⟩⟩⟩)⟩
                                                  exact ⟨⟨by omega, hok2⟩, by omega⟩
                                              · skip
                                                have hg218 := h261
                                                refine AHead.pass rfl rfl rfl h261 rfl ?_
                                                refine AHead.pass rfl rfl rfl h261 rfl ?_
                                                refine AHead.pass rfl rfl rfl h261 rfl ?_
                                                refine AHead.pass rfl rfl rfl h261 rfl ?_
                                                refine AHead.pass rfl rfl rfl h261 rfl ?_
                                                refine AHead.pass rfl rfl rfl h261 rfl ?_
                                                refine AHead.go rfl rfl rfl h255 (o_pickF _ _ _ rfl h261 rfl rfl) rfl ?_
                                                refine AHead.call (o_pickF _ _ _ rfl h255 rfl rfl) rfl ?_
                                                refine AHead.nil ?_
                                                refine AOps.nil ?_
                                                refine AWP.condF rfl ?_
                                                have hqs : -t.noise ≤ t.errors.getD k 0 ∧ t.errors.getD k 0 ≤ t.noise ∧ 0 ≤ t.carried.getD k 0 ∧ t.carried.getD k 0 ≤ t.slab ∧ (t.states.getD k 0 = 0 → t.carried.getD k 0 = 0) := by
                                                  have q1 := of_decide_eq_false hg183
                                                  have q2 := of_decide_eq_false hg193
                                                  have q3 := of_decide_eq_false hg201
                                                  have q4 := of_decide_eq_false hg211
                                                  simp at hg218
                                                  exact ⟨by omega, by omega, by omega, by omega, fun h => absurd h hg218⟩
                                                have hSv : t.ld (k - 1) - t.carried.getD k 0 + t.errors.getD k 0 = t.sh k := by rw [hLv]; exact (if_pos hs2).symm
                                                have hsnoc : shws (t.log k) ++ [[I (k : Int), I (t.ld (k - 1) - t.carried.getD k 0 + t.errors.getD k 0)]] = shws (t.log (k + 1)) := by rw [hSv]; exact t.log_snoc k
                                                have hov := hLv
                                                have hok2 : t.Ok (k + 1) := ⟨fun j hj => by
                                                  by_cases e : j = k
                                                  · subst e; exact hldk
                                                  · exact hok.ld j (by omega), hchk, fun j hj hn2 => by
                                                  by_cases e : j = k
                                                  · subst e; exact hqs
                                                  · exact hok.st j (by omega) hn2⟩
                                                refine AWP.skip ?_
                                                refine AWP.drawn 14 mixed (by kernel_rfl) ?_
                                                refine AHead.call (o_move _ rfl rfl) rfl ?_
                                                refine AHead.call (o_fieldRef _ rfl fa78_8 rfl rfl) rfl ?_
                                                refine AHead.call (o_loadRef _ rfl rfl Tryz.sizeOf25 Tryz.isAgg25 rfl rfl rfl) rfl ?_
                                                refine AHead.call (o_move _ rfl rfl) rfl ?_
                                                refine AHead.call (o_index _ _ Tryz.underlying25 Tryz.sizeOf3 rfl rfl (by omega) heca rfl rfl) rfl ?_
                                                refine AHead.call (o_loadRd _ rfl Tryz.sizeOf3 Tryz.isAgg3 rfl rfl rfl) rfl ?_
                                                refine AHead.call (o_sub _ _ rfl rfl ⟨by (try dsimp only); omega, by (try dsimp only); omega⟩ rfl) rfl ?_
                                                refine AHead.call (o_fieldRef _ rfl fa78_7 rfl rfl) rfl ?_
                                                refine AHead.call (o_loadRef _ rfl rfl Tryz.sizeOf25 Tryz.isAgg25 rfl rfl rfl) rfl ?_
                                                refine AHead.call (o_move _ rfl rfl) rfl ?_
                                                refine AHead.call (o_index _ _ Tryz.underlying25 Tryz.sizeOf3 rfl rfl (by omega) heer rfl rfl) rfl ?_
                                                refine AHead.call (o_loadRd _ rfl Tryz.sizeOf3 Tryz.isAgg3 rfl rfl rfl) rfl ?_
                                                refine AHead.call (o_add _ _ rfl rfl ⟨by (try dsimp only); omega, by (try dsimp only); omega⟩ rfl) rfl ?_
                                                refine AHead.call (o_assign _ rfl rfl) rfl ?_
                                                refine AHead.nil ?_
                                                refine AOps.nil ?_
                                                refine AWP.region ?_
                                                refine AOps.call (o_fieldRef _ rfl fa24_6 rfl rfl) ?_
                                                refine AOps.call (o_loadRef _ rfl rfl Tryz.sizeOf22 Tryz.isAgg22 rfl rfl rfl) ?_
                                                refine AOps.call (o_move _ rfl rfl) ?_
                                                refine AOps.call (o_move _ rfl rfl) ?_
                                                refine AOps.call (o_build bu27 rfl rfl rfl) ?_
                                                refine AOps.call (o_lit Tryz.underlying22 Tryz.sizeOf27 Tryz.zeroValue27 rfl rfl rfl rfl rfl rfl rfl) ?_
                                                refine AOps.cons (o_append _ _ Tryz.underlying22 info27 rfl rfl rfl rfl rfl rfl rfl rfl (fun c hc => by simp at hc; subst hc; rfl) shws_z (by rw [shws_len, Tru.log_len]; unfold Tryz.t27; simp only [List.length_cons, List.length_nil]; omega) rfl hsnoc rfl) ?_
                                                refine AOps.call (o_fieldRef _ rfl fa24_6 rfl rfl) ?_
                                                refine AOps.cons (o_store _ _ rfl rfl Tryz.sizeOf22 rfl rfl rfl rfl rfl) ?_
                                                refine AOps.nil ?_
                                                refine AWP.region ?_
                                                refine AOps.call (o_move _ rfl rfl) ?_
                                                refine AOps.call (o_add _ _ rfl rfl ⟨by (try dsimp only); omega, by (try dsimp only); omega⟩ rfl) ?_
                                                refine AOps.call (o_assign _ rfl rfl) ?_
                                                refine AOps.nil ?_
                                                refine ⟨k + 1, ?_, (Weak.mk' rfl ⟨⟨.refl rfl, rfl⟩, ⟨⟨.refl rfl, rfl⟩, ⟨⟨.refl rfl, rfl⟩, ⟨⟨.refl rfl, rfl⟩, ⟨⟨.refl rfl, rfl⟩, ⟨⟨.refl (congrArg I (by (try dsimp only); exact hLv)), rfl⟩, ⟨⟨.refl rfl, rfl⟩, trivial⟩⟩⟩⟩⟩⟩⟩ ⟨⟨rfl, rfl, rfl⟩, ⟨⟨rfl, rfl, rfl⟩, trivial⟩⟩ ⟨⟨rfl, rfl⟩, ⟨⟨rfl, rfl⟩, ⟨⟨rfl, rfl⟩, trivial⟩⟩⟩)⟩
                                                exact ⟨⟨by omega, hok2⟩, by omega⟩
                                            · skip
                                              refine AHead.pass rfl rfl rfl h255 rfl ?_
                                              refine AHead.pass rfl rfl rfl h255 rfl ?_
                                              refine AHead.pass rfl rfl rfl h255 rfl ?_
                                              refine AHead.pass rfl rfl rfl h255 rfl ?_
                                              refine AHead.pass rfl rfl rfl h255 rfl ?_
                                              refine AHead.pass rfl rfl rfl h255 rfl ?_
                                              refine AHead.pass rfl rfl rfl h255 rfl ?_
                                              refine AHead.passU rfl rfl rfl rfl ?_
                                              refine AHead.passU rfl rfl rfl rfl ?_
                                              refine AHead.passU rfl rfl rfl rfl ?_
                                              refine AHead.passU rfl rfl rfl rfl ?_
                                              refine AHead.passU rfl rfl rfl rfl ?_
                                              refine AHead.passU rfl rfl rfl rfl ?_
                                              refine AHead.pass rfl rfl rfl h255 rfl ?_
                                              refine AHead.call (o_pickT _ _ _ rfl h255 rfl rfl) rfl ?_
                                              refine AHead.nil ?_
                                              refine AOps.nil ?_
                                              refine AWP.condT rfl ?_
                                              refine AWP.seq ?_
                                              refine AWP.region ?_
                                              refine AOps.call (o_assign _ rfl rfl) ?_
                                              refine AOps.nil ?_
                                              refine AWP.ret ?_
                                              first
                                              | exact postQ.ret1 Tryz.results11 rfl rfl
                                              | (refine postQ.ret1 Tryz.results11 rfl ?_; simp [AV.close, AV.close.closeL, B, I]; done)
                                              | (refine postQ.ret1 Tryz.results11 rfl ?_; simp [AV.close, AV.close.closeL, B, I]; omega)
                                              | (refine postQ.ret1 Tryz.results11 rfl ?_; simp_all [AV.close, AV.close.closeL, B, I]; done)
                                              | (refine postQ.ret1 Tryz.results11 rfl ?_; simp_all [AV.close, AV.close.closeL, B, I]; omega)
                                          · skip
                                            refine AHead.pass rfl rfl rfl h247 rfl ?_
                                            refine AHead.pass rfl rfl rfl h247 rfl ?_
                                            refine AHead.pass rfl rfl rfl h247 rfl ?_
                                            refine AHead.pass rfl rfl rfl h247 rfl ?_
                                            refine AHead.pass rfl rfl rfl h247 rfl ?_
                                            refine AHead.pass rfl rfl rfl h247 rfl ?_
                                            refine AHead.pass rfl rfl rfl h247 rfl ?_
                                            refine AHead.pass rfl rfl rfl h247 rfl ?_
                                            refine AHead.call (o_pickT _ _ _ rfl h247 rfl rfl) rfl ?_
                                            refine AHead.call (o_move _ rfl rfl) rfl ?_
                                            refine AHead.pass rfl rfl rfl rfl rfl ?_
                                            refine AHead.pass rfl rfl rfl rfl rfl ?_
                                            refine AHead.pass rfl rfl rfl rfl rfl ?_
                                            refine AHead.pass rfl rfl rfl rfl rfl ?_
                                            refine AHead.pass rfl rfl rfl rfl rfl ?_
                                            refine AHead.pass rfl rfl rfl rfl rfl ?_
                                            refine AHead.pass rfl rfl rfl rfl rfl ?_
                                            refine AHead.passU rfl rfl rfl rfl ?_
                                            refine AHead.passU rfl rfl rfl rfl ?_
                                            refine AHead.passU rfl rfl rfl rfl ?_
                                            refine AHead.passU rfl rfl rfl rfl ?_
                                            refine AHead.passU rfl rfl rfl rfl ?_
                                            refine AHead.passU rfl rfl rfl rfl ?_
                                            refine AHead.pass rfl rfl rfl rfl rfl ?_
                                            refine AHead.call (o_pickT _ _ _ rfl rfl rfl rfl) rfl ?_
                                            refine AHead.nil ?_
                                            refine AOps.nil ?_
                                            refine AWP.condT rfl ?_
                                            refine AWP.seq ?_
                                            refine AWP.region ?_
                                            refine AOps.call (o_assign _ rfl rfl) ?_
                                            refine AOps.nil ?_
                                            refine AWP.ret ?_
                                            first
                                            | exact postQ.ret1 Tryz.results11 rfl rfl
                                            | (refine postQ.ret1 Tryz.results11 rfl ?_; simp [AV.close, AV.close.closeL, B, I]; done)
                                            | (refine postQ.ret1 Tryz.results11 rfl ?_; simp [AV.close, AV.close.closeL, B, I]; omega)
                                            | (refine postQ.ret1 Tryz.results11 rfl ?_; simp_all [AV.close, AV.close.closeL, B, I]; done)
                                            | (refine postQ.ret1 Tryz.results11 rfl ?_; simp_all [AV.close, AV.close.closeL, B, I]; omega)
                                        · skip
                                          refine AHead.pass rfl rfl rfl h241 rfl ?_
                                          refine AHead.pass rfl rfl rfl h241 rfl ?_
                                          refine AHead.pass rfl rfl rfl h241 rfl ?_
                                          refine AHead.pass rfl rfl rfl h241 rfl ?_
                                          refine AHead.pass rfl rfl rfl h241 rfl ?_
                                          refine AHead.pass rfl rfl rfl h241 rfl ?_
                                          refine AHead.call (o_pickT _ _ _ rfl h241 rfl rfl) rfl ?_
                                          refine AHead.call (o_move _ rfl rfl) rfl ?_
                                          refine AHead.pass rfl rfl rfl rfl rfl ?_
                                          refine AHead.pass rfl rfl rfl rfl rfl ?_
                                          refine AHead.pass rfl rfl rfl rfl rfl ?_
                                          refine AHead.pass rfl rfl rfl rfl rfl ?_
                                          refine AHead.pass rfl rfl rfl rfl rfl ?_
                                          refine AHead.pass rfl rfl rfl rfl rfl ?_
                                          refine AHead.pass rfl rfl rfl rfl rfl ?_
                                          refine AHead.pass rfl rfl rfl rfl rfl ?_
                                          refine AHead.call (o_pickT _ _ _ rfl rfl rfl rfl) rfl ?_
                                          refine AHead.call (o_move _ rfl rfl) rfl ?_
                                          refine AHead.pass rfl rfl rfl rfl rfl ?_
                                          refine AHead.pass rfl rfl rfl rfl rfl ?_
                                          refine AHead.pass rfl rfl rfl rfl rfl ?_
                                          refine AHead.pass rfl rfl rfl rfl rfl ?_
                                          refine AHead.pass rfl rfl rfl rfl rfl ?_
                                          refine AHead.pass rfl rfl rfl rfl rfl ?_
                                          refine AHead.pass rfl rfl rfl rfl rfl ?_
                                          refine AHead.passU rfl rfl rfl rfl ?_
                                          refine AHead.passU rfl rfl rfl rfl ?_
                                          refine AHead.passU rfl rfl rfl rfl ?_
                                          refine AHead.passU rfl rfl rfl rfl ?_
                                          refine AHead.passU rfl rfl rfl rfl ?_
                                          refine AHead.passU rfl rfl rfl rfl ?_
                                          refine AHead.pass rfl rfl rfl rfl rfl ?_
                                          refine AHead.call (o_pickT _ _ _ rfl rfl rfl rfl) rfl ?_
                                          refine AHead.nil ?_
                                          refine AOps.nil ?_
                                          refine AWP.condT rfl ?_
                                          refine AWP.seq ?_
                                          refine AWP.region ?_
                                          refine AOps.call (o_assign _ rfl rfl) ?_
                                          refine AOps.nil ?_
                                          refine AWP.ret ?_
                                          first
                                          | exact postQ.ret1 Tryz.results11 rfl rfl
                                          | (refine postQ.ret1 Tryz.results11 rfl ?_; simp [AV.close, AV.close.closeL, B, I]; done)
                                          | (refine postQ.ret1 Tryz.results11 rfl ?_; simp [AV.close, AV.close.closeL, B, I]; omega)
                                          | (refine postQ.ret1 Tryz.results11 rfl ?_; simp_all [AV.close, AV.close.closeL, B, I]; done)
                                          | (refine postQ.ret1 Tryz.results11 rfl ?_; simp_all [AV.close, AV.close.closeL, B, I]; omega)
                                      · skip
                                        refine AHead.pass rfl rfl rfl h233 rfl ?_
                                        refine AHead.pass rfl rfl rfl h233 rfl ?_
                                        refine AHead.pass rfl rfl rfl h233 rfl ?_
                                        refine AHead.pass rfl rfl rfl h233 rfl ?_
                                        refine AHead.pass rfl rfl rfl h233 rfl ?_
                                        refine AHead.pass rfl rfl rfl h233 rfl ?_
                                        refine AHead.pass rfl rfl rfl h233 rfl ?_
                                        refine AHead.pass rfl rfl rfl h233 rfl ?_
                                        refine AHead.call (o_pickT _ _ _ rfl h233 rfl rfl) rfl ?_
                                        refine AHead.call (o_move _ rfl rfl) rfl ?_
                                        refine AHead.pass rfl rfl rfl rfl rfl ?_
                                        refine AHead.pass rfl rfl rfl rfl rfl ?_
                                        refine AHead.pass rfl rfl rfl rfl rfl ?_
                                        refine AHead.pass rfl rfl rfl rfl rfl ?_
                                        refine AHead.pass rfl rfl rfl rfl rfl ?_
                                        refine AHead.pass rfl rfl rfl rfl rfl ?_
                                        refine AHead.call (o_pickT _ _ _ rfl rfl rfl rfl) rfl ?_
                                        refine AHead.call (o_move _ rfl rfl) rfl ?_
                                        refine AHead.pass rfl rfl rfl rfl rfl ?_
                                        refine AHead.pass rfl rfl rfl rfl rfl ?_
                                        refine AHead.pass rfl rfl rfl rfl rfl ?_
                                        refine AHead.pass rfl rfl rfl rfl rfl ?_
                                        refine AHead.pass rfl rfl rfl rfl rfl ?_
                                        refine AHead.pass rfl rfl rfl rfl rfl ?_
                                        refine AHead.pass rfl rfl rfl rfl rfl ?_
                                        refine AHead.pass rfl rfl rfl rfl rfl ?_
                                        refine AHead.call (o_pickT _ _ _ rfl rfl rfl rfl) rfl ?_
                                        refine AHead.call (o_move _ rfl rfl) rfl ?_
                                        refine AHead.pass rfl rfl rfl rfl rfl ?_
                                        refine AHead.pass rfl rfl rfl rfl rfl ?_
                                        refine AHead.pass rfl rfl rfl rfl rfl ?_
                                        refine AHead.pass rfl rfl rfl rfl rfl ?_
                                        refine AHead.pass rfl rfl rfl rfl rfl ?_
                                        refine AHead.pass rfl rfl rfl rfl rfl ?_
                                        refine AHead.pass rfl rfl rfl rfl rfl ?_
                                        refine AHead.passU rfl rfl rfl rfl ?_
                                        refine AHead.passU rfl rfl rfl rfl ?_
                                        refine AHead.passU rfl rfl rfl rfl ?_
                                        refine AHead.passU rfl rfl rfl rfl ?_
                                        refine AHead.passU rfl rfl rfl rfl ?_
                                        refine AHead.passU rfl rfl rfl rfl ?_
                                        refine AHead.pass rfl rfl rfl rfl rfl ?_
                                        refine AHead.call (o_pickT _ _ _ rfl rfl rfl rfl) rfl ?_
                                        refine AHead.nil ?_
                                        refine AOps.nil ?_
                                        refine AWP.condT rfl ?_
                                        refine AWP.seq ?_
                                        refine AWP.region ?_
                                        refine AOps.call (o_assign _ rfl rfl) ?_
                                        refine AOps.nil ?_
                                        refine AWP.ret ?_
                                        first
                                        | exact postQ.ret1 Tryz.results11 rfl rfl
                                        | (refine postQ.ret1 Tryz.results11 rfl ?_; simp [AV.close, AV.close.closeL, B, I]; done)
                                        | (refine postQ.ret1 Tryz.results11 rfl ?_; simp [AV.close, AV.close.closeL, B, I]; omega)
                                        | (refine postQ.ret1 Tryz.results11 rfl ?_; simp_all [AV.close, AV.close.closeL, B, I]; done)
                                        | (refine postQ.ret1 Tryz.results11 rfl ?_; simp_all [AV.close, AV.close.closeL, B, I]; omega)
                                    · skip
                                      have hs2 : t.states.getD k 0 = 2 := by have h := h224; simpa using h
                                      have hSv : t.shown.getD k 0 = t.sh k := (if_neg (fun h => h hs2)).symm
                                      have hok2 : t.Ok (k + 1) := ⟨fun j hj => by
                                        by_cases e : j = k
                                        · subst e; exact hldk
                                        · exact hok.ld j (by omega), hchk, fun j hj hn2 => by
                                        by_cases e : j = k
                                        · subst e; exact absurd hs2 hn2
                                        · exact hok.st j (by omega) hn2⟩
                                      have hsnoc : shws (t.log k) ++ [[I (k : Int), I (t.shown.getD k 0)]] = shws (t.log (k + 1)) := by rw [hSv]; exact t.log_snoc k
                                      refine AWP.skip ?_
                                      refine AWP.region ?_
                                      refine AOps.call (o_fieldRef _ rfl fa24_6 rfl rfl) ?_
                                      refine AOps.call (o_loadRef _ rfl rfl Tryz.sizeOf22 Tryz.isAgg22 rfl rfl rfl) ?_
                                      refine AOps.call (o_move _ rfl rfl) ?_
                                      refine AOps.call (o_move _ rfl rfl) ?_
                                      refine AOps.call (o_build bu27 rfl rfl rfl) ?_
                                      refine AOps.call (o_lit Tryz.underlying22 Tryz.sizeOf27 Tryz.zeroValue27 rfl rfl rfl rfl rfl rfl rfl) ?_
                                      refine AOps.cons (o_append _ _ Tryz.underlying22 info27 rfl rfl rfl rfl rfl rfl rfl rfl (fun c hc => by simp at hc; subst hc; rfl) shws_z (by rw [shws_len, Tru.log_len]; unfold Tryz.t27; simp only [List.length_cons, List.length_nil]; omega) rfl hsnoc rfl) ?_
                                      refine AOps.call (o_fieldRef _ rfl fa24_6 rfl rfl) ?_
                                      refine AOps.cons (o_store _ _ rfl rfl Tryz.sizeOf22 rfl rfl rfl rfl rfl) ?_
                                      refine AOps.nil ?_
                                      refine AWP.region ?_
                                      refine AOps.call (o_move _ rfl rfl) ?_
                                      refine AOps.call (o_add _ _ rfl rfl ⟨by (try dsimp only); omega, by (try dsimp only); omega⟩ rfl) ?_
                                      refine AOps.call (o_assign _ rfl rfl) ?_
                                      refine AOps.nil ?_
                                      refine ⟨k + 1, ?_, (Weak.mk' rfl ⟨⟨.refl rfl, rfl⟩, ⟨⟨.refl rfl, rfl⟩, ⟨⟨.refl rfl, rfl⟩, ⟨⟨.refl rfl, rfl⟩, ⟨⟨.refl rfl, rfl⟩, ⟨⟨.refl (congrArg I (by (try dsimp only); exact hLv)), rfl⟩, ⟨⟨.refl rfl, rfl⟩, trivial⟩⟩⟩⟩⟩⟩⟩ ⟨⟨rfl, rfl, rfl⟩, ⟨⟨rfl, rfl, rfl⟩, trivial⟩⟩ ⟨⟨rfl, rfl⟩, ⟨⟨rfl, rfl⟩, ⟨⟨rfl, rfl⟩, trivial⟩⟩⟩)⟩
                                      exact ⟨⟨by omega, hok2⟩, by omega⟩
                              · skip
                                have hkn : k = n := by have := of_decide_eq_false h79; omega
                                have hCC := CheckCase_s (t.pl n) t.states (by omega)
                                rw [hkn]
                                rw [hkn] at hok
                                refine AWP.exit ?_
                                refine AWP.seq ?_
                                refine AWP.seq ?_
                                refine AWP.region ?_
                                refine AOps.call (o_loadRef _ rfl rfl Tryz.sizeOf24 Tryz.isAgg24 rfl rfl rfl) ?_
                                refine AOps.call (o_fieldRef _ rfl fa78_6 rfl rfl) ?_
                                refine AOps.call (o_loadRef _ rfl rfl Tryz.sizeOf25 Tryz.isAgg25 rfl rfl rfl) ?_
                                refine AOps.call (o_call (hCC) Tryz.call19 rfl rfl) ?_
                                refine AOps.call (o_bin _ _ rfl rfl (fun _ => rfl) rfl) ?_
                                refine AOps.nil ?_
                                refine AWP.cond _ rfl (fun h316 => ?_) (fun h316 => ?_)
                                · skip
                                  skip
                                  refine AWP.seq ?_
                                  refine AWP.region ?_
                                  refine AOps.call (o_assign _ rfl rfl) ?_
                                  refine AOps.nil ?_
                                  refine AWP.ret ?_
                                  first
                                  | exact postQ.ret1 Tryz.results11 rfl rfl
                                  | (refine postQ.ret1 Tryz.results11 rfl ?_; simp [AV.close, AV.close.closeL, B, I]; done)
                                  | (refine postQ.ret1 Tryz.results11 rfl ?_; simp [AV.close, AV.close.closeL, B, I]; omega)
                                  | (refine postQ.ret1 Tryz.results11 rfl ?_; simp_all [AV.close, AV.close.closeL, B, I]; done)
                                  | (refine postQ.ret1 Tryz.results11 rfl ?_; simp_all [AV.close, AV.close.closeL, B, I]; omega)
                                · skip
                                  have hc0 : caseE (t.pl n) t.states = 0 := by simpa using h316
                                  have hsl : t.states.length = n := by omega
                                  have hn0 : 0 < n := by omega
                                  obtain ⟨hz, ha, hw⟩ := Tru.main hn0 hok b6 hsl hc0
                                  have hAL := Alive_s (t.pl n) (t.w (n - 1)) t.states (by rw [Tru.w_len]; omega) (by omega)
                                  rw [decide_eq_true ⟨hz, ha⟩, hz] at hAL
                                  have hCW := CheckWitness_s (t.pl n) (t.w (n - 1)) t.states (t.lds n) (by rw [Tru.w_len]; omega) (by omega)
                                  rw [hw] at hCW
                                  refine AWP.skip ?_
                                  refine AWP.seq ?_
                                  refine AWP.region ?_
                                  refine AOps.call (o_loadRef _ rfl rfl Tryz.sizeOf24 Tryz.isAgg24 rfl rfl rfl) ?_
                                  refine AOps.call (o_move _ rfl rfl) ?_
                                  refine AOps.call (o_fieldRef _ rfl fa78_6 rfl rfl) ?_
                                  refine AOps.call (o_loadRef _ rfl rfl Tryz.sizeOf25 Tryz.isAgg25 rfl rfl rfl) ?_
                                  refine AOps.call (o_call (hAL) Tryz.call25 rfl rfl) ?_
                                  refine AOps.call (o_move _ rfl rfl) ?_
                                  refine AOps.call (o_extract _ rfl rfl rfl rfl) ?_
                                  refine AOps.call (o_extract _ rfl rfl rfl rfl) ?_
                                  refine AOps.call (o_assign _ rfl rfl) ?_
                                  refine AOps.call (o_assign _ rfl rfl) ?_
                                  refine AOps.nil ?_
                                  refine AWP.seq ?_
                                  refine AWP.seq ?_
                                  refine AWP.region ?_
                                  refine AOps.call (o_move _ rfl rfl) ?_
                                  refine AOps.call (o_bin _ _ rfl rfl (fun _ => rfl) rfl) ?_
                                  refine AOps.call (o_move _ rfl rfl) ?_
                                  refine AOps.split rfl rfl rfl (fun h324 => ?_) (fun h324 => ?_)
                                  · skip
                                    refine AOps.go rfl rfl rfl h324 (o_move _ rfl rfl) ?_
                                    refine AOps.go rfl rfl rfl h324 (o_un _ rfl (fun _ => rfl) rfl) ?_
                                    refine AOps.call (o_pickF _ _ _ rfl h324 rfl rfl) ?_
                                    refine AOps.call (o_move _ rfl rfl) ?_
                                    refine AOps.split rfl rfl rfl (fun h326 => ?_) (fun h326 => ?_)
                                    · skip
                                      refine AOps.go rfl rfl rfl h326 (o_loadRef _ rfl rfl Tryz.sizeOf24 Tryz.isAgg24 rfl rfl rfl) ?_
                                      refine AOps.go rfl rfl rfl h326 (o_move _ rfl rfl) ?_
                                      refine AOps.go rfl rfl rfl h326 (o_fieldRef _ rfl fa78_6 rfl rfl) ?_
                                      refine AOps.go rfl rfl rfl h326 (o_loadRef _ rfl rfl Tryz.sizeOf25 Tryz.isAgg25 rfl rfl rfl) ?_
                                      refine AOps.go rfl rfl rfl h326 (o_move _ rfl rfl) ?_
                                      refine AOps.go rfl rfl rfl h326 (o_call (hCW) Tryz.call31 rfl rfl) ?_
                                      refine AOps.go rfl rfl rfl h326 (o_bin _ _ rfl rfl (fun _ => rfl) rfl) ?_
                                      refine AOps.call (o_pickF _ _ _ rfl h326 rfl rfl) ?_
                                      refine AOps.nil ?_
                                      refine AWP.cond _ rfl (fun h332 => ?_) (fun h332 => ?_)
                                      · skip
                                        exfalso
                                        exact absurd h332 (by decide)
                                      · skip
                                        skip
                                        refine AWP.skip ?_
                                        refine AWP.seq ?_
                                        refine AWP.seq ?_
                                        refine AWP.region ?_
                                        refine AOps.call (o_assign _ rfl rfl) ?_
                                        refine AOps.nil ?_
                                        refine AWP.block ?_
                                        refine AWP.loop (ι := Nat) (fun i => AS.mk' 358 [(1, .ref (1, 0) 0), (3, I n), (4, .ref (4, 0) 0), (5, .sl (sps (t.w (n - 1)))), (6, .sl (ints (t.lds n))), (13, I i)] [((1, 0), eT t), ((4, 0), [I 0, I 0, I t.noise, I t.slab, I t.jump, I t.faults, .own (246, 0) (shws (t.log n))])] [((246, 0), ((shws (t.log n)).length, 2, 27))] [(1, 1), (4, 1), (246, 1)]) (fun i => i ≤ n) (fun i => n - i) (0) (Weak.mk' rfl ⟨⟨.refl rfl, rfl⟩, ⟨⟨.refl rfl, rfl⟩, ⟨⟨.refl rfl, rfl⟩, ⟨⟨.sl rfl, rfl⟩, ⟨⟨.sl rfl, rfl⟩, ⟨⟨.refl rfl, rfl⟩, trivial⟩⟩⟩⟩⟩⟩ ⟨⟨rfl, rfl, rfl⟩, ⟨⟨rfl, rfl, rfl⟩, trivial⟩⟩ ⟨⟨rfl, rfl⟩, trivial⟩) (Nat.zero_le _) ?_
                                        rintro m hm
                                        try dsimp only at *
                                        refine AWP.seq ?_
                                        refine AWP.seq ?_
                                        refine AWP.region ?_
                                        refine AOps.call (o_move _ rfl rfl) ?_
                                        refine AOps.call (o_move _ rfl rfl) ?_
                                        refine AOps.call (o_bin _ _ rfl rfl (fun _ => rfl) rfl) ?_
                                        refine AOps.nil ?_
                                        refine AWP.cond _ rfl (fun h335 => ?_) (fun h335 => ?_)
                                        · skip
                                          have hmn : m < n := by have := of_decide_eq_true h335; omega
                                          have hel := ints_gL (t := t) hmn
                                          have hPo := Possible_s (t.pl n) (t.w (n - 1)) ((m : Nat) : Int) (by rw [Tru.w_len]; omega)
                                          have hHu := Hull_s (t.pl n) (t.w (n - 1)) ((m : Nat) : Int) (by rw [Tru.w_len]; omega)
                                          have hPb := casL_bd (t.pl n) (t.w (n - 1)) ((m : Nat) : Int)
                                          have hPl := sps_len (PosL (t.pl n) (t.w (n - 1)) m)
                                          rcases Tru.poss hn0 hok b6 hsl hc0 hmn with ⟨q1, q2⟩ | ⟨q1, q2, q3, q4, q5⟩
                                          · skip
                                            rw [q1] at hPo
                                            rw [q2] at hHu
                                            refine AWP.skip ?_
                                            refine AWP.seq ?_
                                            refine AWP.block ?_
                                            refine AWP.seq ?_
                                            refine AWP.region ?_
                                            refine AOps.call (o_loadRef _ rfl rfl Tryz.sizeOf24 Tryz.isAgg24 rfl rfl rfl) ?_
                                            refine AOps.call (o_move _ rfl rfl) ?_
                                            refine AOps.call (o_move _ rfl rfl) ?_
                                            refine AOps.call (o_call (hPo) Tryz.call39 rfl rfl) ?_
                                            refine AOps.call (o_move _ rfl rfl) ?_
                                            refine AOps.call (o_extract _ rfl rfl rfl rfl) ?_
                                            refine AOps.call (o_extract _ rfl rfl rfl rfl) ?_
                                            refine AOps.call (o_assign _ rfl rfl) ?_
                                            refine AOps.call (o_assign _ rfl rfl) ?_
                                            refine AOps.nil ?_
                                            refine AWP.seq ?_
                                            refine AWP.region ?_
                                            refine AOps.call (o_loadRef _ rfl rfl Tryz.sizeOf24 Tryz.isAgg24 rfl rfl rfl) ?_
                                            refine AOps.call (o_move _ rfl rfl) ?_
                                            refine AOps.call (o_move _ rfl rfl) ?_
                                            refine AOps.call (o_call (hHu) Tryz.call41 rfl rfl) ?_
                                            refine AOps.call (o_move _ rfl rfl) ?_
                                            refine AOps.call (o_extract _ rfl rfl rfl rfl) ?_
                                            refine AOps.call (o_extract _ rfl rfl rfl rfl) ?_
                                            refine AOps.call (o_alloc ze54 rfl rfl) ?_
                                            refine AOps.cons (o_store _ _ rfl rfl Tryz.sizeOf54 rfl rfl rfl rfl rfl) ?_
                                            refine AOps.call (o_assign _ rfl rfl) ?_
                                            refine AOps.nil ?_
                                            refine AWP.seq ?_
                                            refine AWP.seq ?_
                                            refine AWP.region ?_
                                            refine AOps.call (o_move _ rfl rfl) ?_
                                            refine AOps.call (o_bin _ _ rfl rfl (fun _ => rfl) rfl) ?_
                                            refine AOps.call (o_move _ rfl rfl) ?_
                                            refine AOps.split rfl rfl rfl (fun h346 => ?_) (fun h346 => ?_)
                                            · skip
                                              exfalso
                                              exact absurd h346 (by decide)
                                            · skip
                                              refine AOps.pass rfl rfl rfl h346 rfl ?_
                                              refine AOps.pass rfl rfl rfl h346 rfl ?_
                                              refine AOps.call (o_pickT _ _ _ rfl h346 rfl rfl) ?_
                                              refine AOps.nil ?_
                                              refine AWP.condT rfl ?_
                                              refine AWP.seq ?_
                                              refine AWP.region ?_
                                              refine AOps.call (o_move _ rfl rfl) ?_
                                              refine AOps.call (o_bin _ _ rfl rfl (fun _ => rfl) rfl) ?_
                                              refine AOps.call (o_move _ rfl rfl) ?_
                                              refine AOps.split rfl rfl rfl (fun h348 => ?_) (fun h348 => ?_)
                                              · skip
                                                refine AOps.go rfl rfl rfl h348 (o_move _ rfl rfl) ?_
                                                refine AOps.go rfl rfl rfl h348 (o_bin _ _ rfl rfl (fun _ => rfl) rfl) ?_
                                                refine AOps.call (o_pickT _ _ _ rfl h348 rfl rfl) ?_
                                                refine AOps.call (o_assign _ rfl rfl) ?_
                                                refine AOps.nil ?_
                                                refine AWP.ret ?_
                                                first
                                                | exact postQ.ret1 Tryz.results11 rfl rfl
                                                | (refine postQ.ret1 Tryz.results11 rfl ?_; simp [AV.close, AV.close.closeL, B, I]; done)
                                                | (refine postQ.ret1 Tryz.results11 rfl ?_; simp [AV.close, AV.close.closeL, B, I]; omega)
                                                | (refine postQ.ret1 Tryz.results11 rfl ?_; simp_all [AV.close, AV.close.closeL, B, I]; done)
                                                | (refine postQ.ret1 Tryz.results11 rfl ?_; simp_all [AV.close, AV.close.closeL, B, I]; omega)
                                              · skip
                                                exfalso
                                                exact absurd h348 (by decide)
                                          · skip
                                            rw [q1] at hPo
                                            rw [q2] at hHu
                                            refine AWP.skip ?_
                                            refine AWP.seq ?_
                                            refine AWP.block ?_
                                            refine AWP.seq ?_
                                            refine AWP.region ?_
                                            refine AOps.call (o_loadRef _ rfl rfl Tryz.sizeOf24 Tryz.isAgg24 rfl rfl rfl) ?_
                                            refine AOps.call (o_move _ rfl rfl) ?_
                                            refine AOps.call (o_move _ rfl rfl) ?_
                                            refine AOps.call (o_call (hPo) Tryz.call39 rfl rfl) ?_
                                            refine AOps.call (o_move _ rfl rfl) ?_
                                            refine AOps.call (o_extract _ rfl rfl rfl rfl) ?_
                                            refine AOps.call (o_extract _ rfl rfl rfl rfl) ?_
                                            refine AOps.call (o_assign _ rfl rfl) ?_
                                            refine AOps.call (o_assign _ rfl rfl) ?_
                                            refine AOps.nil ?_
                                            refine AWP.seq ?_
                                            refine AWP.region ?_
                                            refine AOps.call (o_loadRef _ rfl rfl Tryz.sizeOf24 Tryz.isAgg24 rfl rfl rfl) ?_
                                            refine AOps.call (o_move _ rfl rfl) ?_
                                            refine AOps.call (o_move _ rfl rfl) ?_
                                            refine AOps.call (o_call (hHu) Tryz.call41 rfl rfl) ?_
                                            refine AOps.call (o_move _ rfl rfl) ?_
                                            refine AOps.call (o_extract _ rfl rfl rfl rfl) ?_
                                            refine AOps.call (o_extract _ rfl rfl rfl rfl) ?_
                                            refine AOps.call (o_alloc ze54 rfl rfl) ?_
                                            refine AOps.cons (o_store _ _ rfl rfl Tryz.sizeOf54 rfl rfl rfl rfl rfl) ?_
                                            refine AOps.call (o_assign _ rfl rfl) ?_
                                            refine AOps.nil ?_
                                            refine AWP.seq ?_
                                            refine AWP.seq ?_
                                            refine AWP.region ?_
                                            refine AOps.call (o_move _ rfl rfl) ?_
                                            refine AOps.call (o_bin _ _ rfl rfl (fun _ => rfl) rfl) ?_
                                            refine AOps.call (o_move _ rfl rfl) ?_
                                            refine AOps.split rfl rfl rfl (fun h360 => ?_) (fun h360 => ?_)
                                            · skip
                                              refine AOps.go rfl rfl rfl h360 (o_move _ rfl rfl) ?_
                                              refine AOps.go rfl rfl rfl h360 (o_bin _ _ rfl rfl (fun _ => rfl) rfl) ?_
                                              refine AOps.call (o_pickF _ _ _ rfl h360 rfl rfl) ?_
                                              refine AOps.nil ?_
                                              refine AWP.cond _ rfl (fun h362 => ?_) (fun h362 => ?_)
                                              · skip
                                                exfalso
                                                exact absurd h362 (by decide)
                                              · skip
                                                refine AWP.skip ?_
                                                refine AWP.seq ?_
                                                refine AWP.region ?_
                                                refine AOps.call (o_assign _ rfl rfl) ?_
                                                refine AOps.nil ?_
                                                refine AWP.seq ?_
                                                refine AWP.seq ?_
                                                refine AWP.region ?_
                                                refine AOps.call (o_assign _ rfl rfl) ?_
                                                refine AOps.nil ?_
                                                refine AWP.block ?_
                                                refine AWP.loop (ι := Nat) (fun i => AS.mk' 358 [(1, .ref (1, 0) 0), (3, I n), (4, .ref (4, 0) 0), (5, .sl (sps (t.w (n - 1)))), (6, .sl (ints (t.lds n))), (13, I m), (14, .sl (sps (PosL (t.pl n) (t.w (n - 1)) m))), (16, .ref (16, 0) 0), (18, B (((PosL (t.pl n) (t.w (n - 1)) m).take i).any fun s => hasS s (t.ld m))), (19, I i)] [((1, 0), eT t), ((4, 0), [I 0, I 0, I t.noise, I t.slab, I t.jump, I t.faults, .own (246, 0) (shws (t.log n))]), ((16, 0), eN (hullS (t.pl n) (t.w (n - 1)) m))] [((246, 0), ((shws (t.log n)).length, 2, 27))] [(1, 1), (4, 1), (16, 1), (246, 1)]) (fun i => i ≤ (PosL (t.pl n) (t.w (n - 1)) m).length) (fun i => (PosL (t.pl n) (t.w (n - 1)) m).length - i) (0) (Weak.mk' rfl ⟨⟨.refl rfl, rfl⟩, ⟨⟨.refl rfl, rfl⟩, ⟨⟨.refl rfl, rfl⟩, ⟨⟨.refl rfl, rfl⟩, ⟨⟨.refl rfl, rfl⟩, ⟨⟨.refl rfl, rfl⟩, ⟨⟨.refl rfl, rfl⟩, ⟨⟨.refl rfl, rfl⟩, ⟨⟨.refl rfl, rfl⟩, ⟨⟨.refl rfl, rfl⟩, trivial⟩⟩⟩⟩⟩⟩⟩⟩⟩⟩ ⟨⟨rfl, rfl, rfl⟩, ⟨⟨rfl, rfl, rfl⟩, ⟨⟨rfl, rfl, rfl⟩, trivial⟩⟩⟩ ⟨⟨rfl, rfl⟩, trivial⟩) (Nat.zero_le _) ?_
                                                rintro j hj
                                                try dsimp only at *
                                                refine AWP.seq ?_
                                                refine AWP.seq ?_
                                                refine AWP.region ?_
                                                refine AOps.call (o_move _ rfl rfl) ?_
                                                refine AOps.call (o_move _ rfl rfl) ?_
                                                refine AOps.call (o_len _ Tryz.underlying38 rfl rfl) ?_
                                                refine AOps.call (o_bin _ _ rfl rfl (fun _ => rfl) rfl) ?_
                                                refine AOps.nil ?_
                                                refine AWP.cond _ rfl (fun h366 => ?_) (fun h366 => ?_)
                                                · skip
                                                  have hjl : j < (PosL (t.pl n) (t.w (n - 1)) m).length := by have := of_decide_eq_true h366; omega
                                                  have hpl := sps_at hjl
                                                  have hsucc : ((PosL (t.pl n) (t.w (n - 1)) m).take (j + 1)).any (fun s => hasS s (t.ld m)) = (((PosL (t.pl n) (t.w (n - 1)) m).take j).any (fun s => hasS s (t.ld m)) || hasS (PosL (t.pl n) (t.w (n - 1)) m)[j] (t.ld m)) := by rw [List.take_succ_eq_append_getElem hjl, List.any_append]; simp
                                                  generalize hgs : (PosL (t.pl n) (t.w (n - 1)) m)[j] = gs at hpl hsucc
                                                  refine AWP.skip ?_
                                                  refine AWP.seq ?_
                                                  refine AWP.block ?_
                                                  refine AWP.drawn 25 mixed (by kernel_rfl) ?_
                                                  refine AHead.call (o_move _ rfl rfl) rfl ?_
                                                  refine AHead.call (o_move _ rfl rfl) rfl ?_
                                                  refine AHead.split rfl rfl rfl (fun h368 => ?_) (fun h368 => ?_)
                                                  · skip
                                                    have hin : ((PosL (t.pl n) (t.w (n - 1)) m).take j).any (fun s => hasS s (t.ld m)) = false := by simpa using h368
                                                    refine AHead.go rfl rfl rfl h368 (o_move _ rfl rfl) rfl ?_
                                                    refine AHead.go rfl rfl rfl h368 (o_move _ rfl rfl) rfl ?_
                                                    refine AHead.go rfl rfl rfl h368 (o_index _ _ Tryz.underlying38 Tryz.sizeOf54 rfl rfl (by omega) hpl rfl rfl) rfl ?_
                                                    refine AHead.go rfl rfl rfl h368 (o_fieldRd _ rfl fa54_0 rfl) rfl ?_
                                                    refine AHead.go rfl rfl rfl h368 (o_loadRd _ rfl Tryz.sizeOf3 Tryz.isAgg3 rfl rfl rfl) rfl ?_
                                                    refine AHead.go rfl rfl rfl h368 (o_move _ rfl rfl) rfl ?_
                                                    refine AHead.go rfl rfl rfl h368 (o_move _ rfl rfl) rfl ?_
                                                    refine AHead.go rfl rfl rfl h368 (o_index _ _ Tryz.underlying25 Tryz.sizeOf3 rfl rfl (by omega) hel rfl rfl) rfl ?_
                                                    refine AHead.go rfl rfl rfl h368 (o_loadRd _ rfl Tryz.sizeOf3 Tryz.isAgg3 rfl rfl rfl) rfl ?_
                                                    refine AHead.go rfl rfl rfl h368 (o_bin _ _ rfl rfl (fun _ => rfl) rfl) rfl ?_
                                                    refine AHead.go rfl rfl rfl h368 (o_move _ rfl rfl) rfl ?_
                                                    refine AHead.split rfl rfl rfl (fun h375 => ?_) (fun h375 => ?_)
                                                    · skip
                                                      have hlo : decide (gs.lo ≤ t.ld m) = true := by simpa using h375
                                                      refine AHead.go rfl rfl rfl h375 (o_move _ rfl rfl) rfl ?_
                                                      refine AHead.go rfl rfl rfl h375 (o_move _ rfl rfl) rfl ?_
                                                      refine AHead.go rfl rfl rfl h375 (o_index _ _ Tryz.underlying25 Tryz.sizeOf3 rfl rfl (by omega) hel rfl rfl) rfl ?_
                                                      refine AHead.go rfl rfl rfl h375 (o_loadRd _ rfl Tryz.sizeOf3 Tryz.isAgg3 rfl rfl rfl) rfl ?_
                                                      refine AHead.go rfl rfl rfl h375 (o_move _ rfl rfl) rfl ?_
                                                      refine AHead.go rfl rfl rfl h375 (o_move _ rfl rfl) rfl ?_
                                                      refine AHead.go rfl rfl rfl h375 (o_index _ _ Tryz.underlying38 Tryz.sizeOf54 rfl rfl (by omega) hpl rfl rfl) rfl ?_
                                                      refine AHead.go rfl rfl rfl h375 (o_fieldRd _ rfl fa54_1 rfl) rfl ?_
                                                      refine AHead.go rfl rfl rfl h375 (o_loadRd _ rfl Tryz.sizeOf3 Tryz.isAgg3 rfl rfl rfl) rfl ?_
                                                      refine AHead.go rfl rfl rfl h375 (o_bin _ _ rfl rfl (fun _ => rfl) rfl) rfl ?_
                                                      refine AHead.go rfl rfl rfl h368 (o_pickT _ _ _ rfl h375 rfl rfl) rfl ?_
                                                      refine AHead.call (o_pickF _ _ _ rfl h368 rfl rfl) rfl ?_
                                                      refine AHead.nil ?_
                                                      refine AOps.call (o_assign _ rfl rfl) ?_
                                                      refine AOps.nil ?_
                                                      refine AWP.region ?_
                                                      refine AOps.call (o_move _ rfl rfl) ?_
                                                      refine AOps.call (o_add _ _ rfl rfl ⟨by (try dsimp only); omega, by (try dsimp only); omega⟩ rfl) ?_
                                                      refine AOps.call (o_assign _ rfl rfl) ?_
                                                      refine AOps.nil ?_
                                                      refine ⟨j + 1, ?_, (Weak.mk' rfl ⟨⟨.refl rfl, rfl⟩, ⟨⟨.refl rfl, rfl⟩, ⟨⟨.refl rfl, rfl⟩, ⟨⟨.refl rfl, rfl⟩, ⟨⟨.refl rfl, rfl⟩, ⟨⟨.refl rfl, rfl⟩, ⟨⟨.refl rfl, rfl⟩, ⟨⟨.refl rfl, rfl⟩, ⟨⟨.refl (congrArg B (by (try dsimp only); rw [hsucc]; first | (rw [hin]; rfl) | (rw [hin, Bool.false_or]; unfold hasS; rw [hlo, Bool.true_and]) | (rw [hin, Bool.false_or]; unfold hasS; rw [hlo]; rfl))), rfl⟩, ⟨⟨.refl rfl, rfl⟩, trivial⟩⟩⟩⟩⟩⟩⟩⟩⟩⟩ ⟨⟨rfl, rfl, rfl⟩, ⟨⟨rfl, rfl, rfl⟩, ⟨⟨rfl, rfl, rfl⟩, trivial⟩⟩⟩ ⟨⟨rfl, rfl⟩, trivial⟩)⟩
                                                      exact ⟨by omega, by omega⟩
                                                    · skip
                                                      have hlo : decide (gs.lo ≤ t.ld m) = false := by simpa using h375
                                                      refine AHead.pass rfl rfl rfl h375 rfl ?_
                                                      refine AHead.pass rfl rfl rfl h375 rfl ?_
                                                      refine AHead.pass rfl rfl rfl h375 rfl ?_
                                                      refine AHead.pass rfl rfl rfl h375 rfl ?_
                                                      refine AHead.pass rfl rfl rfl h375 rfl ?_
                                                      refine AHead.pass rfl rfl rfl h375 rfl ?_
                                                      refine AHead.pass rfl rfl rfl h375 rfl ?_
                                                      refine AHead.pass rfl rfl rfl h375 rfl ?_
                                                      refine AHead.pass rfl rfl rfl h375 rfl ?_
                                                      refine AHead.pass rfl rfl rfl h375 rfl ?_
                                                      refine AHead.go rfl rfl rfl h368 (o_pickF _ _ _ rfl h375 rfl rfl) rfl ?_
                                                      refine AHead.call (o_pickF _ _ _ rfl h368 rfl rfl) rfl ?_
                                                      refine AHead.nil ?_
                                                      refine AOps.call (o_assign _ rfl rfl) ?_
                                                      refine AOps.nil ?_
                                                      refine AWP.region ?_
                                                      refine AOps.call (o_move _ rfl rfl) ?_
                                                      refine AOps.call (o_add _ _ rfl rfl ⟨by (try dsimp only); omega, by (try dsimp only); omega⟩ rfl) ?_
                                                      refine AOps.call (o_assign _ rfl rfl) ?_
                                                      refine AOps.nil ?_
                                                      refine ⟨j + 1, ?_, (Weak.mk' rfl ⟨⟨.refl rfl, rfl⟩, ⟨⟨.refl rfl, rfl⟩, ⟨⟨.refl rfl, rfl⟩, ⟨⟨.refl rfl, rfl⟩, ⟨⟨.refl rfl, rfl⟩, ⟨⟨.refl rfl, rfl⟩, ⟨⟨.refl rfl, rfl⟩, ⟨⟨.refl rfl, rfl⟩, ⟨⟨.refl (congrArg B (by (try dsimp only); rw [hsucc]; first | (rw [hin]; rfl) | (rw [hin, Bool.false_or]; unfold hasS; rw [hlo, Bool.true_and]) | (rw [hin, Bool.false_or]; unfold hasS; rw [hlo]; rfl))), rfl⟩, ⟨⟨.refl rfl, rfl⟩, trivial⟩⟩⟩⟩⟩⟩⟩⟩⟩⟩ ⟨⟨rfl, rfl, rfl⟩, ⟨⟨rfl, rfl, rfl⟩, ⟨⟨rfl, rfl, rfl⟩, trivial⟩⟩⟩ ⟨⟨rfl, rfl⟩, trivial⟩)⟩
                                                      exact ⟨by omega, by omega⟩
                                                  · skip
                                                    have hin : ((PosL (t.pl n) (t.w (n - 1)) m).take j).any (fun s => hasS s (t.ld m)) = true := by simpa using h368
                                                    refine AHead.pass rfl rfl rfl h368 rfl ?_
                                                    refine AHead.pass rfl rfl rfl h368 rfl ?_
                                                    refine AHead.pass rfl rfl rfl h368 rfl ?_
                                                    refine AHead.pass rfl rfl rfl h368 rfl ?_
                                                    refine AHead.pass rfl rfl rfl h368 rfl ?_
                                                    refine AHead.pass rfl rfl rfl h368 rfl ?_
                                                    refine AHead.pass rfl rfl rfl h368 rfl ?_
                                                    refine AHead.pass rfl rfl rfl h368 rfl ?_
                                                    refine AHead.pass rfl rfl rfl h368 rfl ?_
                                                    refine AHead.pass rfl rfl rfl h368 rfl ?_
                                                    refine AHead.pass rfl rfl rfl h368 rfl ?_
                                                    refine AHead.passU rfl rfl rfl rfl ?_
                                                    refine AHead.passU rfl rfl rfl rfl ?_
                                                    refine AHead.passU rfl rfl rfl rfl ?_
                                                    refine AHead.passU rfl rfl rfl rfl ?_
                                                    refine AHead.passU rfl rfl rfl rfl ?_
                                                    refine AHead.passU rfl rfl rfl rfl ?_
                                                    refine AHead.passU rfl rfl rfl rfl ?_
                                                    refine AHead.passU rfl rfl rfl rfl ?_
                                                    refine AHead.passU rfl rfl rfl rfl ?_
                                                    refine AHead.passU rfl rfl rfl rfl ?_
                                                    refine AHead.pass rfl rfl rfl h368 rfl ?_
                                                    refine AHead.call (o_pickT _ _ _ rfl h368 rfl rfl) rfl ?_
                                                    refine AHead.nil ?_
                                                    refine AOps.call (o_assign _ rfl rfl) ?_
                                                    refine AOps.nil ?_
                                                    refine AWP.region ?_
                                                    refine AOps.call (o_move _ rfl rfl) ?_
                                                    refine AOps.call (o_add _ _ rfl rfl ⟨by (try dsimp only); omega, by (try dsimp only); omega⟩ rfl) ?_
                                                    refine AOps.call (o_assign _ rfl rfl) ?_
                                                    refine AOps.nil ?_
                                                    refine ⟨j + 1, ?_, (Weak.mk' rfl ⟨⟨.refl rfl, rfl⟩, ⟨⟨.refl rfl, rfl⟩, ⟨⟨.refl rfl, rfl⟩, ⟨⟨.refl rfl, rfl⟩, ⟨⟨.refl rfl, rfl⟩, ⟨⟨.refl rfl, rfl⟩, ⟨⟨.refl rfl, rfl⟩, ⟨⟨.refl rfl, rfl⟩, ⟨⟨.refl (congrArg B (by (try dsimp only); rw [hsucc]; first | (rw [hin]; rfl) | (rw [hin, Bool.false_or]; unfold hasS; rw [hlo, Bool.true_and]) | (rw [hin, Bool.false_or]; unfold hasS; rw [hlo]; rfl))), rfl⟩, ⟨⟨.refl rfl, rfl⟩, trivial⟩⟩⟩⟩⟩⟩⟩⟩⟩⟩ ⟨⟨rfl, rfl, rfl⟩, ⟨⟨rfl, rfl, rfl⟩, ⟨⟨rfl, rfl, rfl⟩, trivial⟩⟩⟩ ⟨⟨rfl, rfl⟩, trivial⟩)⟩
                                                    exact ⟨by omega, by omega⟩
                                                · skip
                                                  have hjl : j = (PosL (t.pl n) (t.w (n - 1)) m).length := by have := of_decide_eq_false h366; omega
                                                  have hany : ((PosL (t.pl n) (t.w (n - 1)) m).take j).any (fun s => hasS s (t.ld m)) = true := by rw [hjl, List.take_length]; exact any_hasS.2 q3
                                                  refine AWP.exit ?_
                                                  refine AWP.seq ?_
                                                  refine AWP.drawn 20 mixed (by kernel_rfl) ?_
                                                  refine AHead.call (o_move _ rfl rfl) rfl ?_
                                                  refine AHead.call (o_un _ rfl (fun _ => rfl) rfl) rfl ?_
                                                  refine AHead.call (o_move _ rfl rfl) rfl ?_
                                                  refine AHead.split rfl rfl rfl (fun h387 => ?_) (fun h387 => ?_)
                                                  · skip
                                                    refine AHead.go rfl rfl rfl h387 (o_fieldRef _ rfl fa54_0 rfl rfl) rfl ?_
                                                    refine AHead.go rfl rfl rfl h387 (o_loadRef _ rfl rfl Tryz.sizeOf3 Tryz.isAgg3 rfl rfl rfl) rfl ?_
                                                    refine AHead.go rfl rfl rfl h387 (o_move _ rfl rfl) rfl ?_
                                                    refine AHead.go rfl rfl rfl h387 (o_move _ rfl rfl) rfl ?_
                                                    refine AHead.go rfl rfl rfl h387 (o_index _ _ Tryz.underlying25 Tryz.sizeOf3 rfl rfl (by omega) hel rfl rfl) rfl ?_
                                                    refine AHead.go rfl rfl rfl h387 (o_loadRd _ rfl Tryz.sizeOf3 Tryz.isAgg3 rfl rfl rfl) rfl ?_
                                                    refine AHead.go rfl rfl rfl h387 (o_bin _ _ rfl rfl (fun _ => rfl) rfl) rfl ?_
                                                    refine AHead.call (o_pickF _ _ _ rfl h387 rfl rfl) rfl ?_
                                                    refine AHead.call (o_move _ rfl rfl) rfl ?_
                                                    refine AHead.split rfl rfl rfl (fun h393 => ?_) (fun h393 => ?_)
                                                    · skip
                                                      refine AHead.go rfl rfl rfl h393 (o_fieldRef _ rfl fa54_1 rfl rfl) rfl ?_
                                                      refine AHead.go rfl rfl rfl h393 (o_loadRef _ rfl rfl Tryz.sizeOf3 Tryz.isAgg3 rfl rfl rfl) rfl ?_
                                                      refine AHead.go rfl rfl rfl h393 (o_move _ rfl rfl) rfl ?_
                                                      refine AHead.go rfl rfl rfl h393 (o_move _ rfl rfl) rfl ?_
                                                      refine AHead.go rfl rfl rfl h393 (o_index _ _ Tryz.underlying25 Tryz.sizeOf3 rfl rfl (by omega) hel rfl rfl) rfl ?_
                                                      refine AHead.go rfl rfl rfl h393 (o_loadRd _ rfl Tryz.sizeOf3 Tryz.isAgg3 rfl rfl rfl) rfl ?_
                                                      refine AHead.go rfl rfl rfl h393 (o_bin _ _ rfl rfl (fun _ => rfl) rfl) rfl ?_
                                                      refine AHead.call (o_pickF _ _ _ rfl h393 rfl rfl) rfl ?_
                                                      refine AHead.nil ?_
                                                      refine AOps.nil ?_
                                                      refine AWP.cond _ rfl (fun h399 => ?_) (fun h399 => ?_)
                                                      · skip
                                                        exfalso
                                                        have hq := of_decide_eq_true h399
                                                        omega
                                                      · skip
                                                        refine AWP.skip ?_
                                                        refine AWP.region ?_
                                                        refine AOps.call (o_move _ rfl rfl) ?_
                                                        refine AOps.call (o_add _ _ rfl rfl ⟨by (try dsimp only); omega, by (try dsimp only); omega⟩ rfl) ?_
                                                        refine AOps.call (o_assign _ rfl rfl) ?_
                                                        refine AOps.nil ?_
                                                        refine ⟨m + 1, ?_, (Weak.mk' rfl ⟨⟨.refl rfl, rfl⟩, ⟨⟨.refl rfl, rfl⟩, ⟨⟨.refl rfl, rfl⟩, ⟨⟨.refl rfl, rfl⟩, ⟨⟨.refl rfl, rfl⟩, ⟨⟨.refl rfl, rfl⟩, trivial⟩⟩⟩⟩⟩⟩ ⟨⟨rfl, rfl, rfl⟩, ⟨⟨rfl, rfl, rfl⟩, trivial⟩⟩ ⟨⟨rfl, rfl⟩, trivial⟩)⟩
                                                        exact ⟨by omega, by omega⟩
                                                    · skip
                                                      exfalso
                                                      have hq := of_decide_eq_true h393
                                                      omega
                                                  · skip
                                                    exfalso
                                                    have hq := h387
                                                    rw [hany] at hq
                                                    exact absurd hq (by decide)
                                            · skip
                                              exfalso
                                              exact absurd h360 (by decide)
                                        · skip
                                          skip
                                          refine AWP.exit ?_
                                          refine AWP.seq ?_
                                          refine AWP.region ?_
                                          refine AOps.call (o_assign _ rfl rfl) ?_
                                          refine AOps.nil ?_
                                          refine AWP.ret ?_
                                          first
                                          | exact postQ.ret1 Tryz.results11 rfl rfl
                                          | (refine postQ.ret1 Tryz.results11 rfl ?_; simp [AV.close, AV.close.closeL, B, I]; done)
                                          | (refine postQ.ret1 Tryz.results11 rfl ?_; simp [AV.close, AV.close.closeL, B, I]; omega)
                                          | (refine postQ.ret1 Tryz.results11 rfl ?_; simp_all [AV.close, AV.close.closeL, B, I]; done)
                                          | (refine postQ.ret1 Tryz.results11 rfl ?_; simp_all [AV.close, AV.close.closeL, B, I]; omega)
                                    · skip
                                      exfalso
                                      exact absurd h326 (by decide)
                                  · skip
                                    exfalso
                                    exact absurd h324 (by decide)
                          · skip
                            refine AOps.pass rfl rfl rfl h58 rfl ?_
                            refine AOps.pass rfl rfl rfl h58 rfl ?_
                            refine AOps.pass rfl rfl rfl h58 rfl ?_
                            refine AOps.call (o_pickT _ _ _ rfl h58 rfl rfl) ?_
                            refine AOps.nil ?_
                            refine AWP.condT rfl ?_
                            refine AWP.seq ?_
                            refine AWP.region ?_
                            refine AOps.call (o_assign _ rfl rfl) ?_
                            refine AOps.nil ?_
                            refine AWP.ret ?_
                            first
                            | exact postQ.ret1 Tryz.results11 rfl rfl
                            | (refine postQ.ret1 Tryz.results11 rfl ?_; simp [AV.close, AV.close.closeL, B, I]; done)
                            | (refine postQ.ret1 Tryz.results11 rfl ?_; simp [AV.close, AV.close.closeL, B, I]; omega)
                            | (refine postQ.ret1 Tryz.results11 rfl ?_; simp_all [AV.close, AV.close.closeL, B, I]; done)
                            | (refine postQ.ret1 Tryz.results11 rfl ?_; simp_all [AV.close, AV.close.closeL, B, I]; omega)
                        · skip
                          refine AOps.pass rfl rfl rfl h54 rfl ?_
                          refine AOps.pass rfl rfl rfl h54 rfl ?_
                          refine AOps.pass rfl rfl rfl h54 rfl ?_
                          refine AOps.call (o_pickT _ _ _ rfl h54 rfl rfl) ?_
                          refine AOps.call (o_move _ rfl rfl) ?_
                          refine AOps.pass rfl rfl rfl rfl rfl ?_
                          refine AOps.pass rfl rfl rfl rfl rfl ?_
                          refine AOps.pass rfl rfl rfl rfl rfl ?_
                          refine AOps.call (o_pickT _ _ _ rfl rfl rfl rfl) ?_
                          refine AOps.nil ?_
                          refine AWP.condT rfl ?_
                          refine AWP.seq ?_
                          refine AWP.region ?_
                          refine AOps.call (o_assign _ rfl rfl) ?_
                          refine AOps.nil ?_
                          refine AWP.ret ?_
                          first
                          | exact postQ.ret1 Tryz.results11 rfl rfl
                          | (refine postQ.ret1 Tryz.results11 rfl ?_; simp [AV.close, AV.close.closeL, B, I]; done)
                          | (refine postQ.ret1 Tryz.results11 rfl ?_; simp [AV.close, AV.close.closeL, B, I]; omega)
                          | (refine postQ.ret1 Tryz.results11 rfl ?_; simp_all [AV.close, AV.close.closeL, B, I]; done)
                          | (refine postQ.ret1 Tryz.results11 rfl ?_; simp_all [AV.close, AV.close.closeL, B, I]; omega)
                      · skip
                        refine AOps.pass rfl rfl rfl h50 rfl ?_
                        refine AOps.pass rfl rfl rfl h50 rfl ?_
                        refine AOps.pass rfl rfl rfl h50 rfl ?_
                        refine AOps.call (o_pickT _ _ _ rfl h50 rfl rfl) ?_
                        refine AOps.call (o_move _ rfl rfl) ?_
                        refine AOps.pass rfl rfl rfl rfl rfl ?_
                        refine AOps.pass rfl rfl rfl rfl rfl ?_
                        refine AOps.pass rfl rfl rfl rfl rfl ?_
                        refine AOps.call (o_pickT _ _ _ rfl rfl rfl rfl) ?_
                        refine AOps.call (o_move _ rfl rfl) ?_
                        refine AOps.pass rfl rfl rfl rfl rfl ?_
                        refine AOps.pass rfl rfl rfl rfl rfl ?_
                        refine AOps.pass rfl rfl rfl rfl rfl ?_
                        refine AOps.call (o_pickT _ _ _ rfl rfl rfl rfl) ?_
                        refine AOps.nil ?_
                        refine AWP.condT rfl ?_
                        refine AWP.seq ?_
                        refine AWP.region ?_
                        refine AOps.call (o_assign _ rfl rfl) ?_
                        refine AOps.nil ?_
                        refine AWP.ret ?_
                        first
                        | exact postQ.ret1 Tryz.results11 rfl rfl
                        | (refine postQ.ret1 Tryz.results11 rfl ?_; simp [AV.close, AV.close.closeL, B, I]; done)
                        | (refine postQ.ret1 Tryz.results11 rfl ?_; simp [AV.close, AV.close.closeL, B, I]; omega)
                        | (refine postQ.ret1 Tryz.results11 rfl ?_; simp_all [AV.close, AV.close.closeL, B, I]; done)
                        | (refine postQ.ret1 Tryz.results11 rfl ?_; simp_all [AV.close, AV.close.closeL, B, I]; omega)
                    · skip
                      refine AOps.pass rfl rfl rfl h46 rfl ?_
                      refine AOps.pass rfl rfl rfl h46 rfl ?_
                      refine AOps.pass rfl rfl rfl h46 rfl ?_
                      refine AOps.call (o_pickT _ _ _ rfl h46 rfl rfl) ?_
                      refine AOps.call (o_move _ rfl rfl) ?_
                      refine AOps.pass rfl rfl rfl rfl rfl ?_
                      refine AOps.pass rfl rfl rfl rfl rfl ?_
                      refine AOps.pass rfl rfl rfl rfl rfl ?_
                      refine AOps.call (o_pickT _ _ _ rfl rfl rfl rfl) ?_
                      refine AOps.call (o_move _ rfl rfl) ?_
                      refine AOps.pass rfl rfl rfl rfl rfl ?_
                      refine AOps.pass rfl rfl rfl rfl rfl ?_
                      refine AOps.pass rfl rfl rfl rfl rfl ?_
                      refine AOps.call (o_pickT _ _ _ rfl rfl rfl rfl) ?_
                      refine AOps.call (o_move _ rfl rfl) ?_
                      refine AOps.pass rfl rfl rfl rfl rfl ?_
                      refine AOps.pass rfl rfl rfl rfl rfl ?_
                      refine AOps.pass rfl rfl rfl rfl rfl ?_
                      refine AOps.call (o_pickT _ _ _ rfl rfl rfl rfl) ?_
                      refine AOps.nil ?_
                      refine AWP.condT rfl ?_
                      refine AWP.seq ?_
                      refine AWP.region ?_
                      refine AOps.call (o_assign _ rfl rfl) ?_
                      refine AOps.nil ?_
                      refine AWP.ret ?_
                      first
                      | exact postQ.ret1 Tryz.results11 rfl rfl
                      | (refine postQ.ret1 Tryz.results11 rfl ?_; simp [AV.close, AV.close.closeL, B, I]; done)
                      | (refine postQ.ret1 Tryz.results11 rfl ?_; simp [AV.close, AV.close.closeL, B, I]; omega)
                      | (refine postQ.ret1 Tryz.results11 rfl ?_; simp_all [AV.close, AV.close.closeL, B, I]; done)
                      | (refine postQ.ret1 Tryz.results11 rfl ?_; simp_all [AV.close, AV.close.closeL, B, I]; omega)
                  · skip
                    refine AOps.pass rfl rfl rfl h42 rfl ?_
                    refine AOps.pass rfl rfl rfl h42 rfl ?_
                    refine AOps.pass rfl rfl rfl h42 rfl ?_
                    refine AOps.call (o_pickT _ _ _ rfl h42 rfl rfl) ?_
                    refine AOps.call (o_move _ rfl rfl) ?_
                    refine AOps.pass rfl rfl rfl rfl rfl ?_
                    refine AOps.pass rfl rfl rfl rfl rfl ?_
                    refine AOps.pass rfl rfl rfl rfl rfl ?_
                    refine AOps.call (o_pickT _ _ _ rfl rfl rfl rfl) ?_
                    refine AOps.call (o_move _ rfl rfl) ?_
                    refine AOps.pass rfl rfl rfl rfl rfl ?_
                    refine AOps.pass rfl rfl rfl rfl rfl ?_
                    refine AOps.pass rfl rfl rfl rfl rfl ?_
                    refine AOps.call (o_pickT _ _ _ rfl rfl rfl rfl) ?_
                    refine AOps.call (o_move _ rfl rfl) ?_
                    refine AOps.pass rfl rfl rfl rfl rfl ?_
                    refine AOps.pass rfl rfl rfl rfl rfl ?_
                    refine AOps.pass rfl rfl rfl rfl rfl ?_
                    refine AOps.call (o_pickT _ _ _ rfl rfl rfl rfl) ?_
                    refine AOps.call (o_move _ rfl rfl) ?_
                    refine AOps.pass rfl rfl rfl rfl rfl ?_
                    refine AOps.pass rfl rfl rfl rfl rfl ?_
                    refine AOps.pass rfl rfl rfl rfl rfl ?_
                    refine AOps.call (o_pickT _ _ _ rfl rfl rfl rfl) ?_
                    refine AOps.nil ?_
                    refine AWP.condT rfl ?_
                    refine AWP.seq ?_
                    refine AWP.region ?_
                    refine AOps.call (o_assign _ rfl rfl) ?_
                    refine AOps.nil ?_
                    refine AWP.ret ?_
                    first
                    | exact postQ.ret1 Tryz.results11 rfl rfl
                    | (refine postQ.ret1 Tryz.results11 rfl ?_; simp [AV.close, AV.close.closeL, B, I]; done)
                    | (refine postQ.ret1 Tryz.results11 rfl ?_; simp [AV.close, AV.close.closeL, B, I]; omega)
                    | (refine postQ.ret1 Tryz.results11 rfl ?_; simp_all [AV.close, AV.close.closeL, B, I]; done)
                    | (refine postQ.ret1 Tryz.results11 rfl ?_; simp_all [AV.close, AV.close.closeL, B, I]; omega)
                · skip
                  refine AOps.pass rfl rfl rfl h38 rfl ?_
                  refine AOps.pass rfl rfl rfl h38 rfl ?_
                  refine AOps.pass rfl rfl rfl h38 rfl ?_
                  refine AOps.call (o_pickT _ _ _ rfl h38 rfl rfl) ?_
                  refine AOps.call (o_move _ rfl rfl) ?_
                  refine AOps.pass rfl rfl rfl rfl rfl ?_
                  refine AOps.pass rfl rfl rfl rfl rfl ?_
                  refine AOps.pass rfl rfl rfl rfl rfl ?_
                  refine AOps.call (o_pickT _ _ _ rfl rfl rfl rfl) ?_
                  refine AOps.call (o_move _ rfl rfl) ?_
                  refine AOps.pass rfl rfl rfl rfl rfl ?_
                  refine AOps.pass rfl rfl rfl rfl rfl ?_
                  refine AOps.pass rfl rfl rfl rfl rfl ?_
                  refine AOps.call (o_pickT _ _ _ rfl rfl rfl rfl) ?_
                  refine AOps.call (o_move _ rfl rfl) ?_
                  refine AOps.pass rfl rfl rfl rfl rfl ?_
                  refine AOps.pass rfl rfl rfl rfl rfl ?_
                  refine AOps.pass rfl rfl rfl rfl rfl ?_
                  refine AOps.call (o_pickT _ _ _ rfl rfl rfl rfl) ?_
                  refine AOps.call (o_move _ rfl rfl) ?_
                  refine AOps.pass rfl rfl rfl rfl rfl ?_
                  refine AOps.pass rfl rfl rfl rfl rfl ?_
                  refine AOps.pass rfl rfl rfl rfl rfl ?_
                  refine AOps.call (o_pickT _ _ _ rfl rfl rfl rfl) ?_
                  refine AOps.call (o_move _ rfl rfl) ?_
                  refine AOps.pass rfl rfl rfl rfl rfl ?_
                  refine AOps.pass rfl rfl rfl rfl rfl ?_
                  refine AOps.pass rfl rfl rfl rfl rfl ?_
                  refine AOps.call (o_pickT _ _ _ rfl rfl rfl rfl) ?_
                  refine AOps.nil ?_
                  refine AWP.condT rfl ?_
                  refine AWP.seq ?_
                  refine AWP.region ?_
                  refine AOps.call (o_assign _ rfl rfl) ?_
                  refine AOps.nil ?_
                  refine AWP.ret ?_
                  first
                  | exact postQ.ret1 Tryz.results11 rfl rfl
                  | (refine postQ.ret1 Tryz.results11 rfl ?_; simp [AV.close, AV.close.closeL, B, I]; done)
                  | (refine postQ.ret1 Tryz.results11 rfl ?_; simp [AV.close, AV.close.closeL, B, I]; omega)
                  | (refine postQ.ret1 Tryz.results11 rfl ?_; simp_all [AV.close, AV.close.closeL, B, I]; done)
                  | (refine postQ.ret1 Tryz.results11 rfl ?_; simp_all [AV.close, AV.close.closeL, B, I]; omega)
              · skip
                refine AOps.pass rfl rfl rfl h34 rfl ?_
                refine AOps.pass rfl rfl rfl h34 rfl ?_
                refine AOps.pass rfl rfl rfl h34 rfl ?_
                refine AOps.call (o_pickT _ _ _ rfl h34 rfl rfl) ?_
                refine AOps.call (o_move _ rfl rfl) ?_
                refine AOps.pass rfl rfl rfl rfl rfl ?_
                refine AOps.pass rfl rfl rfl rfl rfl ?_
                refine AOps.pass rfl rfl rfl rfl rfl ?_
                refine AOps.call (o_pickT _ _ _ rfl rfl rfl rfl) ?_
                refine AOps.call (o_move _ rfl rfl) ?_
                refine AOps.pass rfl rfl rfl rfl rfl ?_
                refine AOps.pass rfl rfl rfl rfl rfl ?_
                refine AOps.pass rfl rfl rfl rfl rfl ?_
                refine AOps.call (o_pickT _ _ _ rfl rfl rfl rfl) ?_
                refine AOps.call (o_move _ rfl rfl) ?_
                refine AOps.pass rfl rfl rfl rfl rfl ?_
                refine AOps.pass rfl rfl rfl rfl rfl ?_
                refine AOps.pass rfl rfl rfl rfl rfl ?_
                refine AOps.call (o_pickT _ _ _ rfl rfl rfl rfl) ?_
                refine AOps.call (o_move _ rfl rfl) ?_
                refine AOps.pass rfl rfl rfl rfl rfl ?_
                refine AOps.pass rfl rfl rfl rfl rfl ?_
                refine AOps.pass rfl rfl rfl rfl rfl ?_
                refine AOps.call (o_pickT _ _ _ rfl rfl rfl rfl) ?_
                refine AOps.call (o_move _ rfl rfl) ?_
                refine AOps.pass rfl rfl rfl rfl rfl ?_
                refine AOps.pass rfl rfl rfl rfl rfl ?_
                refine AOps.pass rfl rfl rfl rfl rfl ?_
                refine AOps.call (o_pickT _ _ _ rfl rfl rfl rfl) ?_
                refine AOps.call (o_move _ rfl rfl) ?_
                refine AOps.pass rfl rfl rfl rfl rfl ?_
                refine AOps.pass rfl rfl rfl rfl rfl ?_
                refine AOps.pass rfl rfl rfl rfl rfl ?_
                refine AOps.call (o_pickT _ _ _ rfl rfl rfl rfl) ?_
                refine AOps.nil ?_
                refine AWP.condT rfl ?_
                refine AWP.seq ?_
                refine AWP.region ?_
                refine AOps.call (o_assign _ rfl rfl) ?_
                refine AOps.nil ?_
                refine AWP.ret ?_
                first
                | exact postQ.ret1 Tryz.results11 rfl rfl
                | (refine postQ.ret1 Tryz.results11 rfl ?_; simp [AV.close, AV.close.closeL, B, I]; done)
                | (refine postQ.ret1 Tryz.results11 rfl ?_; simp [AV.close, AV.close.closeL, B, I]; omega)
                | (refine postQ.ret1 Tryz.results11 rfl ?_; simp_all [AV.close, AV.close.closeL, B, I]; done)
                | (refine postQ.ret1 Tryz.results11 rfl ?_; simp_all [AV.close, AV.close.closeL, B, I]; omega)
            · skip
              refine AOps.pass rfl rfl rfl h30 rfl ?_
              refine AOps.pass rfl rfl rfl h30 rfl ?_
              refine AOps.pass rfl rfl rfl h30 rfl ?_
              refine AOps.call (o_pickT _ _ _ rfl h30 rfl rfl) ?_
              refine AOps.call (o_move _ rfl rfl) ?_
              refine AOps.pass rfl rfl rfl rfl rfl ?_
              refine AOps.pass rfl rfl rfl rfl rfl ?_
              refine AOps.pass rfl rfl rfl rfl rfl ?_
              refine AOps.call (o_pickT _ _ _ rfl rfl rfl rfl) ?_
              refine AOps.call (o_move _ rfl rfl) ?_
              refine AOps.pass rfl rfl rfl rfl rfl ?_
              refine AOps.pass rfl rfl rfl rfl rfl ?_
              refine AOps.pass rfl rfl rfl rfl rfl ?_
              refine AOps.call (o_pickT _ _ _ rfl rfl rfl rfl) ?_
              refine AOps.call (o_move _ rfl rfl) ?_
              refine AOps.pass rfl rfl rfl rfl rfl ?_
              refine AOps.pass rfl rfl rfl rfl rfl ?_
              refine AOps.pass rfl rfl rfl rfl rfl ?_
              refine AOps.call (o_pickT _ _ _ rfl rfl rfl rfl) ?_
              refine AOps.call (o_move _ rfl rfl) ?_
              refine AOps.pass rfl rfl rfl rfl rfl ?_
              refine AOps.pass rfl rfl rfl rfl rfl ?_
              refine AOps.pass rfl rfl rfl rfl rfl ?_
              refine AOps.call (o_pickT _ _ _ rfl rfl rfl rfl) ?_
              refine AOps.call (o_move _ rfl rfl) ?_
              refine AOps.pass rfl rfl rfl rfl rfl ?_
              refine AOps.pass rfl rfl rfl rfl rfl ?_
              refine AOps.pass rfl rfl rfl rfl rfl ?_
              refine AOps.call (o_pickT _ _ _ rfl rfl rfl rfl) ?_
              refine AOps.call (o_move _ rfl rfl) ?_
              refine AOps.pass rfl rfl rfl rfl rfl ?_
              refine AOps.pass rfl rfl rfl rfl rfl ?_
              refine AOps.pass rfl rfl rfl rfl rfl ?_
              refine AOps.call (o_pickT _ _ _ rfl rfl rfl rfl) ?_
              refine AOps.call (o_move _ rfl rfl) ?_
              refine AOps.pass rfl rfl rfl rfl rfl ?_
              refine AOps.pass rfl rfl rfl rfl rfl ?_
              refine AOps.pass rfl rfl rfl rfl rfl ?_
              refine AOps.call (o_pickT _ _ _ rfl rfl rfl rfl) ?_
              refine AOps.nil ?_
              refine AWP.condT rfl ?_
              refine AWP.seq ?_
              refine AWP.region ?_
              refine AOps.call (o_assign _ rfl rfl) ?_
              refine AOps.nil ?_
              refine AWP.ret ?_
              first
              | exact postQ.ret1 Tryz.results11 rfl rfl
              | (refine postQ.ret1 Tryz.results11 rfl ?_; simp [AV.close, AV.close.closeL, B, I]; done)
              | (refine postQ.ret1 Tryz.results11 rfl ?_; simp [AV.close, AV.close.closeL, B, I]; omega)
              | (refine postQ.ret1 Tryz.results11 rfl ?_; simp_all [AV.close, AV.close.closeL, B, I]; done)
              | (refine postQ.ret1 Tryz.results11 rfl ?_; simp_all [AV.close, AV.close.closeL, B, I]; omega)
          · skip
            refine AOps.pass rfl rfl rfl h25 rfl ?_
            refine AOps.pass rfl rfl rfl h25 rfl ?_
            refine AOps.pass rfl rfl rfl h25 rfl ?_
            refine AOps.pass rfl rfl rfl h25 rfl ?_
            refine AOps.pass rfl rfl rfl h25 rfl ?_
            refine AOps.call (o_pickT _ _ _ rfl h25 rfl rfl) ?_
            refine AOps.call (o_move _ rfl rfl) ?_
            refine AOps.pass rfl rfl rfl rfl rfl ?_
            refine AOps.pass rfl rfl rfl rfl rfl ?_
            refine AOps.pass rfl rfl rfl rfl rfl ?_
            refine AOps.call (o_pickT _ _ _ rfl rfl rfl rfl) ?_
            refine AOps.call (o_move _ rfl rfl) ?_
            refine AOps.pass rfl rfl rfl rfl rfl ?_
            refine AOps.pass rfl rfl rfl rfl rfl ?_
            refine AOps.pass rfl rfl rfl rfl rfl ?_
            refine AOps.call (o_pickT _ _ _ rfl rfl rfl rfl) ?_
            refine AOps.call (o_move _ rfl rfl) ?_
            refine AOps.pass rfl rfl rfl rfl rfl ?_
            refine AOps.pass rfl rfl rfl rfl rfl ?_
            refine AOps.pass rfl rfl rfl rfl rfl ?_
            refine AOps.call (o_pickT _ _ _ rfl rfl rfl rfl) ?_
            refine AOps.call (o_move _ rfl rfl) ?_
            refine AOps.pass rfl rfl rfl rfl rfl ?_
            refine AOps.pass rfl rfl rfl rfl rfl ?_
            refine AOps.pass rfl rfl rfl rfl rfl ?_
            refine AOps.call (o_pickT _ _ _ rfl rfl rfl rfl) ?_
            refine AOps.call (o_move _ rfl rfl) ?_
            refine AOps.pass rfl rfl rfl rfl rfl ?_
            refine AOps.pass rfl rfl rfl rfl rfl ?_
            refine AOps.pass rfl rfl rfl rfl rfl ?_
            refine AOps.call (o_pickT _ _ _ rfl rfl rfl rfl) ?_
            refine AOps.call (o_move _ rfl rfl) ?_
            refine AOps.pass rfl rfl rfl rfl rfl ?_
            refine AOps.pass rfl rfl rfl rfl rfl ?_
            refine AOps.pass rfl rfl rfl rfl rfl ?_
            refine AOps.call (o_pickT _ _ _ rfl rfl rfl rfl) ?_
            refine AOps.call (o_move _ rfl rfl) ?_
            refine AOps.pass rfl rfl rfl rfl rfl ?_
            refine AOps.pass rfl rfl rfl rfl rfl ?_
            refine AOps.pass rfl rfl rfl rfl rfl ?_
            refine AOps.call (o_pickT _ _ _ rfl rfl rfl rfl) ?_
            refine AOps.call (o_move _ rfl rfl) ?_
            refine AOps.pass rfl rfl rfl rfl rfl ?_
            refine AOps.pass rfl rfl rfl rfl rfl ?_
            refine AOps.pass rfl rfl rfl rfl rfl ?_
            refine AOps.call (o_pickT _ _ _ rfl rfl rfl rfl) ?_
            refine AOps.nil ?_
            refine AWP.condT rfl ?_
            refine AWP.seq ?_
            refine AWP.region ?_
            refine AOps.call (o_assign _ rfl rfl) ?_
            refine AOps.nil ?_
            refine AWP.ret ?_
            first
            | exact postQ.ret1 Tryz.results11 rfl rfl
            | (refine postQ.ret1 Tryz.results11 rfl ?_; simp [AV.close, AV.close.closeL, B, I]; done)
            | (refine postQ.ret1 Tryz.results11 rfl ?_; simp [AV.close, AV.close.closeL, B, I]; omega)
            | (refine postQ.ret1 Tryz.results11 rfl ?_; simp_all [AV.close, AV.close.closeL, B, I]; done)
            | (refine postQ.ret1 Tryz.results11 rfl ?_; simp_all [AV.close, AV.close.closeL, B, I]; omega)
        · skip
          refine AOps.pass rfl rfl rfl h20 rfl ?_
          refine AOps.pass rfl rfl rfl h20 rfl ?_
          refine AOps.pass rfl rfl rfl h20 rfl ?_
          refine AOps.pass rfl rfl rfl h20 rfl ?_
          refine AOps.pass rfl rfl rfl h20 rfl ?_
          refine AOps.call (o_pickT _ _ _ rfl h20 rfl rfl) ?_
          refine AOps.call (o_move _ rfl rfl) ?_
          refine AOps.pass rfl rfl rfl rfl rfl ?_
          refine AOps.pass rfl rfl rfl rfl rfl ?_
          refine AOps.pass rfl rfl rfl rfl rfl ?_
          refine AOps.pass rfl rfl rfl rfl rfl ?_
          refine AOps.pass rfl rfl rfl rfl rfl ?_
          refine AOps.call (o_pickT _ _ _ rfl rfl rfl rfl) ?_
          refine AOps.call (o_move _ rfl rfl) ?_
          refine AOps.pass rfl rfl rfl rfl rfl ?_
          refine AOps.pass rfl rfl rfl rfl rfl ?_
          refine AOps.pass rfl rfl rfl rfl rfl ?_
          refine AOps.call (o_pickT _ _ _ rfl rfl rfl rfl) ?_
          refine AOps.call (o_move _ rfl rfl) ?_
          refine AOps.pass rfl rfl rfl rfl rfl ?_
          refine AOps.pass rfl rfl rfl rfl rfl ?_
          refine AOps.pass rfl rfl rfl rfl rfl ?_
          refine AOps.call (o_pickT _ _ _ rfl rfl rfl rfl) ?_
          refine AOps.call (o_move _ rfl rfl) ?_
          refine AOps.pass rfl rfl rfl rfl rfl ?_
          refine AOps.pass rfl rfl rfl rfl rfl ?_
          refine AOps.pass rfl rfl rfl rfl rfl ?_
          refine AOps.call (o_pickT _ _ _ rfl rfl rfl rfl) ?_
          refine AOps.call (o_move _ rfl rfl) ?_
          refine AOps.pass rfl rfl rfl rfl rfl ?_
          refine AOps.pass rfl rfl rfl rfl rfl ?_
          refine AOps.pass rfl rfl rfl rfl rfl ?_
          refine AOps.call (o_pickT _ _ _ rfl rfl rfl rfl) ?_
          refine AOps.call (o_move _ rfl rfl) ?_
          refine AOps.pass rfl rfl rfl rfl rfl ?_
          refine AOps.pass rfl rfl rfl rfl rfl ?_
          refine AOps.pass rfl rfl rfl rfl rfl ?_
          refine AOps.call (o_pickT _ _ _ rfl rfl rfl rfl) ?_
          refine AOps.call (o_move _ rfl rfl) ?_
          refine AOps.pass rfl rfl rfl rfl rfl ?_
          refine AOps.pass rfl rfl rfl rfl rfl ?_
          refine AOps.pass rfl rfl rfl rfl rfl ?_
          refine AOps.call (o_pickT _ _ _ rfl rfl rfl rfl) ?_
          refine AOps.call (o_move _ rfl rfl) ?_
          refine AOps.pass rfl rfl rfl rfl rfl ?_
          refine AOps.pass rfl rfl rfl rfl rfl ?_
          refine AOps.pass rfl rfl rfl rfl rfl ?_
          refine AOps.call (o_pickT _ _ _ rfl rfl rfl rfl) ?_
          refine AOps.call (o_move _ rfl rfl) ?_
          refine AOps.pass rfl rfl rfl rfl rfl ?_
          refine AOps.pass rfl rfl rfl rfl rfl ?_
          refine AOps.pass rfl rfl rfl rfl rfl ?_
          refine AOps.call (o_pickT _ _ _ rfl rfl rfl rfl) ?_
          refine AOps.nil ?_
          refine AWP.condT rfl ?_
          refine AWP.seq ?_
          refine AWP.region ?_
          refine AOps.call (o_assign _ rfl rfl) ?_
          refine AOps.nil ?_
          refine AWP.ret ?_
          first
          | exact postQ.ret1 Tryz.results11 rfl rfl
          | (refine postQ.ret1 Tryz.results11 rfl ?_; simp [AV.close, AV.close.closeL, B, I]; done)
          | (refine postQ.ret1 Tryz.results11 rfl ?_; simp [AV.close, AV.close.closeL, B, I]; omega)
          | (refine postQ.ret1 Tryz.results11 rfl ?_; simp_all [AV.close, AV.close.closeL, B, I]; done)
          | (refine postQ.ret1 Tryz.results11 rfl ?_; simp_all [AV.close, AV.close.closeL, B, I]; omega)
      · skip
        refine AOps.pass rfl rfl rfl h15 rfl ?_
        refine AOps.pass rfl rfl rfl h15 rfl ?_
        refine AOps.pass rfl rfl rfl h15 rfl ?_
        refine AOps.pass rfl rfl rfl h15 rfl ?_
        refine AOps.pass rfl rfl rfl h15 rfl ?_
        refine AOps.call (o_pickT _ _ _ rfl h15 rfl rfl) ?_
        refine AOps.call (o_move _ rfl rfl) ?_
        refine AOps.pass rfl rfl rfl rfl rfl ?_
        refine AOps.pass rfl rfl rfl rfl rfl ?_
        refine AOps.pass rfl rfl rfl rfl rfl ?_
        refine AOps.pass rfl rfl rfl rfl rfl ?_
        refine AOps.pass rfl rfl rfl rfl rfl ?_
        refine AOps.call (o_pickT _ _ _ rfl rfl rfl rfl) ?_
        refine AOps.call (o_move _ rfl rfl) ?_
        refine AOps.pass rfl rfl rfl rfl rfl ?_
        refine AOps.pass rfl rfl rfl rfl rfl ?_
        refine AOps.pass rfl rfl rfl rfl rfl ?_
        refine AOps.pass rfl rfl rfl rfl rfl ?_
        refine AOps.pass rfl rfl rfl rfl rfl ?_
        refine AOps.call (o_pickT _ _ _ rfl rfl rfl rfl) ?_
        refine AOps.call (o_move _ rfl rfl) ?_
        refine AOps.pass rfl rfl rfl rfl rfl ?_
        refine AOps.pass rfl rfl rfl rfl rfl ?_
        refine AOps.pass rfl rfl rfl rfl rfl ?_
        refine AOps.call (o_pickT _ _ _ rfl rfl rfl rfl) ?_
        refine AOps.call (o_move _ rfl rfl) ?_
        refine AOps.pass rfl rfl rfl rfl rfl ?_
        refine AOps.pass rfl rfl rfl rfl rfl ?_
        refine AOps.pass rfl rfl rfl rfl rfl ?_
        refine AOps.call (o_pickT _ _ _ rfl rfl rfl rfl) ?_
        refine AOps.call (o_move _ rfl rfl) ?_
        refine AOps.pass rfl rfl rfl rfl rfl ?_
        refine AOps.pass rfl rfl rfl rfl rfl ?_
        refine AOps.pass rfl rfl rfl rfl rfl ?_
        refine AOps.call (o_pickT _ _ _ rfl rfl rfl rfl) ?_
        refine AOps.call (o_move _ rfl rfl) ?_
        refine AOps.pass rfl rfl rfl rfl rfl ?_
        refine AOps.pass rfl rfl rfl rfl rfl ?_
        refine AOps.pass rfl rfl rfl rfl rfl ?_
        refine AOps.call (o_pickT _ _ _ rfl rfl rfl rfl) ?_
        refine AOps.call (o_move _ rfl rfl) ?_
        refine AOps.pass rfl rfl rfl rfl rfl ?_
        refine AOps.pass rfl rfl rfl rfl rfl ?_
        refine AOps.pass rfl rfl rfl rfl rfl ?_
        refine AOps.call (o_pickT _ _ _ rfl rfl rfl rfl) ?_
        refine AOps.call (o_move _ rfl rfl) ?_
        refine AOps.pass rfl rfl rfl rfl rfl ?_
        refine AOps.pass rfl rfl rfl rfl rfl ?_
        refine AOps.pass rfl rfl rfl rfl rfl ?_
        refine AOps.call (o_pickT _ _ _ rfl rfl rfl rfl) ?_
        refine AOps.call (o_move _ rfl rfl) ?_
        refine AOps.pass rfl rfl rfl rfl rfl ?_
        refine AOps.pass rfl rfl rfl rfl rfl ?_
        refine AOps.pass rfl rfl rfl rfl rfl ?_
        refine AOps.call (o_pickT _ _ _ rfl rfl rfl rfl) ?_
        refine AOps.call (o_move _ rfl rfl) ?_
        refine AOps.pass rfl rfl rfl rfl rfl ?_
        refine AOps.pass rfl rfl rfl rfl rfl ?_
        refine AOps.pass rfl rfl rfl rfl rfl ?_
        refine AOps.call (o_pickT _ _ _ rfl rfl rfl rfl) ?_
        refine AOps.nil ?_
        refine AWP.condT rfl ?_
        refine AWP.seq ?_
        refine AWP.region ?_
        refine AOps.call (o_assign _ rfl rfl) ?_
        refine AOps.nil ?_
        refine AWP.ret ?_
        first
        | exact postQ.ret1 Tryz.results11 rfl rfl
        | (refine postQ.ret1 Tryz.results11 rfl ?_; simp [AV.close, AV.close.closeL, B, I]; done)
        | (refine postQ.ret1 Tryz.results11 rfl ?_; simp [AV.close, AV.close.closeL, B, I]; omega)
        | (refine postQ.ret1 Tryz.results11 rfl ?_; simp_all [AV.close, AV.close.closeL, B, I]; done)
        | (refine postQ.ret1 Tryz.results11 rfl ?_; simp_all [AV.close, AV.close.closeL, B, I]; omega)
    · skip
      refine AOps.pass rfl rfl rfl h10 rfl ?_
      refine AOps.pass rfl rfl rfl h10 rfl ?_
      refine AOps.pass rfl rfl rfl h10 rfl ?_
      refine AOps.pass rfl rfl rfl h10 rfl ?_
      refine AOps.pass rfl rfl rfl h10 rfl ?_
      refine AOps.call (o_pickT _ _ _ rfl h10 rfl rfl) ?_
      refine AOps.call (o_move _ rfl rfl) ?_
      refine AOps.pass rfl rfl rfl rfl rfl ?_
      refine AOps.pass rfl rfl rfl rfl rfl ?_
      refine AOps.pass rfl rfl rfl rfl rfl ?_
      refine AOps.pass rfl rfl rfl rfl rfl ?_
      refine AOps.pass rfl rfl rfl rfl rfl ?_
      refine AOps.call (o_pickT _ _ _ rfl rfl rfl rfl) ?_
      refine AOps.call (o_move _ rfl rfl) ?_
      refine AOps.pass rfl rfl rfl rfl rfl ?_
      refine AOps.pass rfl rfl rfl rfl rfl ?_
      refine AOps.pass rfl rfl rfl rfl rfl ?_
      refine AOps.pass rfl rfl rfl rfl rfl ?_
      refine AOps.pass rfl rfl rfl rfl rfl ?_
      refine AOps.call (o_pickT _ _ _ rfl rfl rfl rfl) ?_
      refine AOps.call (o_move _ rfl rfl) ?_
      refine AOps.pass rfl rfl rfl rfl rfl ?_
      refine AOps.pass rfl rfl rfl rfl rfl ?_
      refine AOps.pass rfl rfl rfl rfl rfl ?_
      refine AOps.pass rfl rfl rfl rfl rfl ?_
      refine AOps.pass rfl rfl rfl rfl rfl ?_
      refine AOps.call (o_pickT _ _ _ rfl rfl rfl rfl) ?_
      refine AOps.call (o_move _ rfl rfl) ?_
      refine AOps.pass rfl rfl rfl rfl rfl ?_
      refine AOps.pass rfl rfl rfl rfl rfl ?_
      refine AOps.pass rfl rfl rfl rfl rfl ?_
      refine AOps.call (o_pickT _ _ _ rfl rfl rfl rfl) ?_
      refine AOps.call (o_move _ rfl rfl) ?_
      refine AOps.pass rfl rfl rfl rfl rfl ?_
      refine AOps.pass rfl rfl rfl rfl rfl ?_
      refine AOps.pass rfl rfl rfl rfl rfl ?_
      refine AOps.call (o_pickT _ _ _ rfl rfl rfl rfl) ?_
      refine AOps.call (o_move _ rfl rfl) ?_
      refine AOps.pass rfl rfl rfl rfl rfl ?_
      refine AOps.pass rfl rfl rfl rfl rfl ?_
      refine AOps.pass rfl rfl rfl rfl rfl ?_
      refine AOps.call (o_pickT _ _ _ rfl rfl rfl rfl) ?_
      refine AOps.call (o_move _ rfl rfl) ?_
      refine AOps.pass rfl rfl rfl rfl rfl ?_
      refine AOps.pass rfl rfl rfl rfl rfl ?_
      refine AOps.pass rfl rfl rfl rfl rfl ?_
      refine AOps.call (o_pickT _ _ _ rfl rfl rfl rfl) ?_
      refine AOps.call (o_move _ rfl rfl) ?_
      refine AOps.pass rfl rfl rfl rfl rfl ?_
      refine AOps.pass rfl rfl rfl rfl rfl ?_
      refine AOps.pass rfl rfl rfl rfl rfl ?_
      refine AOps.call (o_pickT _ _ _ rfl rfl rfl rfl) ?_
      refine AOps.call (o_move _ rfl rfl) ?_
      refine AOps.pass rfl rfl rfl rfl rfl ?_
      refine AOps.pass rfl rfl rfl rfl rfl ?_
      refine AOps.pass rfl rfl rfl rfl rfl ?_
      refine AOps.call (o_pickT _ _ _ rfl rfl rfl rfl) ?_
      refine AOps.call (o_move _ rfl rfl) ?_
      refine AOps.pass rfl rfl rfl rfl rfl ?_
      refine AOps.pass rfl rfl rfl rfl rfl ?_
      refine AOps.pass rfl rfl rfl rfl rfl ?_
      refine AOps.call (o_pickT _ _ _ rfl rfl rfl rfl) ?_
      refine AOps.call (o_move _ rfl rfl) ?_
      refine AOps.pass rfl rfl rfl rfl rfl ?_
      refine AOps.pass rfl rfl rfl rfl rfl ?_
      refine AOps.pass rfl rfl rfl rfl rfl ?_
      refine AOps.call (o_pickT _ _ _ rfl rfl rfl rfl) ?_
      refine AOps.nil ?_
      refine AWP.condT rfl ?_
      refine AWP.seq ?_
      refine AWP.region ?_
      refine AOps.call (o_assign _ rfl rfl) ?_
      refine AOps.nil ?_
      refine AWP.ret ?_
      first
      | exact postQ.ret1 Tryz.results11 rfl rfl
      | (refine postQ.ret1 Tryz.results11 rfl ?_; simp [AV.close, AV.close.closeL, B, I]; done)
      | (refine postQ.ret1 Tryz.results11 rfl ?_; simp [AV.close, AV.close.closeL, B, I]; omega)
      | (refine postQ.ret1 Tryz.results11 rfl ?_; simp_all [AV.close, AV.close.closeL, B, I]; done)
      | (refine postQ.ret1 Tryz.results11 rfl ?_; simp_all [AV.close, AV.close.closeL, B, I]; omega)
end Go.Proofs.YtelenedgaoglaaaGreatDoor
