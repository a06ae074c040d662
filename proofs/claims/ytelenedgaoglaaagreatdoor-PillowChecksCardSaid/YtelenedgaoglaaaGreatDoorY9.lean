/- Y9. -/
import Derived.Test.YtelenedgaoglaaaGreatDoorY8
import Derived.Test.YtelenedgaoglaaaGreatDoorR27
set_option linter.unusedSimpArgs false
set_option linter.unusedVariables false
namespace Go.Proofs.YtelenedgaoglaaaGreatDoor
open Go.Ab
open Go.Pil Go.RowKit
set_option maxHeartbeats 4000000 in
set_option maxRecDepth 20000 in
theorem Same_s (p : Plw) (hl : p.log.length ≤ 1000000) : FSpec Tryz.prog 21 [.agg (eP p), .agg (eP p)] (B true) (none) := by
  refine FSpec.of_body Tryz.func21 rfl (leB rfl) fun w0 M0 => ?_
  have hsl := shws_len p.log
  refine AWP.seq ?_
  refine AWP.region ?_
  refine AOps.call (o_box _ rfl rfl rfl) ?_
  refine AOps.call (o_box _ rfl rfl rfl) ?_
  refine AOps.call (o_assign _ rfl rfl) ?_
  refine AOps.nil ?_
  refine AWP.seq ?_
  refine AWP.seq ?_
  refine AWP.region ?_
  refine AOps.call (o_fieldRef _ rfl fa24_0 rfl rfl) ?_
  refine AOps.call (o_loadRef _ rfl rfl Tryz.sizeOf3 Tryz.isAgg3 rfl rfl rfl) ?_
  refine AOps.call (o_fieldRef _ rfl fa24_0 rfl rfl) ?_
  refine AOps.call (o_loadRef _ rfl rfl Tryz.sizeOf3 Tryz.isAgg3 rfl rfl rfl) ?_
  refine AOps.call (o_bin _ _ rfl rfl (fun _ => rfl) rfl) ?_
  refine AOps.call (o_move _ rfl rfl) ?_
  refine AOps.split rfl rfl rfl (fun h8 => ?_) (fun h8 => ?_)
  · skip
    refine AOps.go rfl rfl rfl h8 (o_fieldRef _ rfl fa24_1 rfl rfl) ?_
    refine AOps.go rfl rfl rfl h8 (o_loadRef _ rfl rfl Tryz.sizeOf3 Tryz.isAgg3 rfl rfl rfl) ?_
    refine AOps.go rfl rfl rfl h8 (o_fieldRef _ rfl fa24_1 rfl rfl) ?_
    refine AOps.go rfl rfl rfl h8 (o_loadRef _ rfl rfl Tryz.sizeOf3 Tryz.isAgg3 rfl rfl rfl) ?_
    refine AOps.go rfl rfl rfl h8 (o_bin _ _ rfl rfl (fun _ => rfl) rfl) ?_
    refine AOps.call (o_pickF _ _ _ rfl h8 rfl rfl) ?_
    refine AOps.call (o_move _ rfl rfl) ?_
    refine AOps.split rfl rfl rfl (fun h14 => ?_) (fun h14 => ?_)
    · skip
      refine AOps.go rfl rfl rfl h14 (o_fieldRef _ rfl fa24_2 rfl rfl) ?_
      refine AOps.go rfl rfl rfl h14 (o_loadRef _ rfl rfl Tryz.sizeOf3 Tryz.isAgg3 rfl rfl rfl) ?_
      refine AOps.go rfl rfl rfl h14 (o_fieldRef _ rfl fa24_2 rfl rfl) ?_
      refine AOps.go rfl rfl rfl h14 (o_loadRef _ rfl rfl Tryz.sizeOf3 Tryz.isAgg3 rfl rfl rfl) ?_
      refine AOps.go rfl rfl rfl h14 (o_bin _ _ rfl rfl (fun _ => rfl) rfl) ?_
      refine AOps.call (o_pickF _ _ _ rfl h14 rfl rfl) ?_
      refine AOps.call (o_move _ rfl rfl) ?_
      refine AOps.split rfl rfl rfl (fun h20 => ?_) (fun h20 => ?_)
      · skip
        refine AOps.go rfl rfl rfl h20 (o_fieldRef _ rfl fa24_3 rfl rfl) ?_
        refine AOps.go rfl rfl rfl h20 (o_loadRef _ rfl rfl Tryz.sizeOf3 Tryz.isAgg3 rfl rfl rfl) ?_
        refine AOps.go rfl rfl rfl h20 (o_fieldRef _ rfl fa24_3 rfl rfl) ?_
        refine AOps.go rfl rfl rfl h20 (o_loadRef _ rfl rfl Tryz.sizeOf3 Tryz.isAgg3 rfl rfl rfl) ?_
        refine AOps.go rfl rfl rfl h20 (o_bin _ _ rfl rfl (fun _ => rfl) rfl) ?_
        refine AOps.call (o_pickF _ _ _ rfl h20 rfl rfl) ?_
        refine AOps.call (o_move _ rfl rfl) ?_
        refine AOps.split rfl rfl rfl (fun h26 => ?_) (fun h26 => ?_)
        · skip
          refine AOps.go rfl rfl rfl h26 (o_fieldRef _ rfl fa24_4 rfl rfl) ?_
          refine AOps.go rfl rfl rfl h26 (o_loadRef _ rfl rfl Tryz.sizeOf3 Tryz.isAgg3 rfl rfl rfl) ?_
          refine AOps.go rfl rfl rfl h26 (o_fieldRef _ rfl fa24_4 rfl rfl) ?_
          refine AOps.go rfl rfl rfl h26 (o_loadRef _ rfl rfl Tryz.sizeOf3 Tryz.isAgg3 rfl rfl rfl) ?_
          refine AOps.go rfl rfl rfl h26 (o_bin _ _ rfl rfl (fun _ => rfl) rfl) ?_
          refine AOps.call (o_pickF _ _ _ rfl h26 rfl rfl) ?_
          refine AOps.call (o_move _ rfl rfl) ?_
          refine AOps.split rfl rfl rfl (fun h32 => ?_) (fun h32 => ?_)
          · skip
            refine AOps.go rfl rfl rfl h32 (o_fieldRef _ rfl fa24_5 rfl rfl) ?_
            refine AOps.go rfl rfl rfl h32 (o_loadRef _ rfl rfl Tryz.sizeOf3 Tryz.isAgg3 rfl rfl rfl) ?_
            refine AOps.go rfl rfl rfl h32 (o_fieldRef _ rfl fa24_5 rfl rfl) ?_
            refine AOps.go rfl rfl rfl h32 (o_loadRef _ rfl rfl Tryz.sizeOf3 Tryz.isAgg3 rfl rfl rfl) ?_
            refine AOps.go rfl rfl rfl h32 (o_bin _ _ rfl rfl (fun _ => rfl) rfl) ?_
            refine AOps.call (o_pickF _ _ _ rfl h32 rfl rfl) ?_
            refine AOps.call (o_move _ rfl rfl) ?_
            refine AOps.split rfl rfl rfl (fun h38 => ?_) (fun h38 => ?_)
            · skip
              refine AOps.go rfl rfl rfl h38 (o_fieldRef _ rfl fa24_6 rfl rfl) ?_
              refine AOps.go rfl rfl rfl h38 (o_loadRef _ rfl rfl Tryz.sizeOf22 Tryz.isAgg22 rfl rfl rfl) ?_
              refine AOps.go rfl rfl rfl h38 (o_len _ Tryz.underlying22 rfl rfl) ?_
              refine AOps.go rfl rfl rfl h38 (o_fieldRef _ rfl fa24_6 rfl rfl) ?_
              refine AOps.go rfl rfl rfl h38 (o_loadRef _ rfl rfl Tryz.sizeOf22 Tryz.isAgg22 rfl rfl rfl) ?_
              refine AOps.go rfl rfl rfl h38 (o_len _ Tryz.underlying22 rfl rfl) ?_
              refine AOps.go rfl rfl rfl h38 (o_bin _ _ rfl rfl (fun _ => rfl) rfl) ?_
              refine AOps.call (o_pickF _ _ _ rfl h38 rfl rfl) ?_
              refine AOps.nil ?_
              refine AWP.cond _ rfl (fun h46 => ?_) (fun h46 => ?_)
              · skip
                exfalso
                simp at h46
              · skip
                refine AWP.skip ?_
                refine AWP.seq ?_
                refine AWP.seq ?_
                refine AWP.region ?_
                refine AOps.call (o_assign _ rfl rfl) ?_
                refine AOps.nil ?_
                refine AWP.block ?_
                refine AWP.loop (ι := Nat) (fun i => AS.mk' 73 [(2, .ref (2, 0) 0), (3, .ref (3, 0) 0), (5, I i)] [((2, 0), eP p), ((3, 0), eP p)] [] [(2, 1), (3, 1)]) (fun i => i ≤ p.log.length) (fun i => p.log.length - i) (0) (Weak.mk' rfl ⟨⟨.refl rfl, rfl⟩, ⟨⟨.refl rfl, rfl⟩, ⟨⟨.refl rfl, rfl⟩, trivial⟩⟩⟩ ⟨⟨rfl, rfl, rfl⟩, ⟨⟨rfl, rfl, rfl⟩, trivial⟩⟩ trivial) (Nat.zero_le _) ?_
                rintro k hk
                try dsimp only at *
                refine AWP.seq ?_
                refine AWP.seq ?_
                refine AWP.region ?_
                refine AOps.call (o_move _ rfl rfl) ?_
                refine AOps.call (o_fieldRef _ rfl fa24_6 rfl rfl) ?_
                refine AOps.call (o_loadRef _ rfl rfl Tryz.sizeOf22 Tryz.isAgg22 rfl rfl rfl) ?_
                refine AOps.call (o_len _ Tryz.underlying22 rfl rfl) ?_
                refine AOps.call (o_bin _ _ rfl rfl (fun _ => rfl) rfl) ?_
                refine AOps.nil ?_
                refine AWP.cond _ rfl (fun h52 => ?_) (fun h52 => ?_)
                · skip
                  have hlt : k < p.log.length := by have := of_decide_eq_true h52; omega
                  have hel := shws_at hlt
                  refine AWP.skip ?_
                  refine AWP.seq ?_
                  refine AWP.block ?_
                  refine AWP.seq ?_
                  refine AWP.drawn 11 mixed (by kernel_rfl) ?_
                  refine AHead.call (o_fieldRef _ rfl fa24_6 rfl rfl) rfl ?_
                  refine AHead.call (o_loadRef _ rfl rfl Tryz.sizeOf22 Tryz.isAgg22 rfl rfl rfl) rfl ?_
                  refine AHead.call (o_move _ rfl rfl) rfl ?_
                  refine AHead.call (o_index _ _ Tryz.underlying22 Tryz.sizeOf27 rfl rfl (by omega) hel rfl rfl) rfl ?_
                  refine AHead.call (o_loadRd _ rfl Tryz.sizeOf27 Tryz.isAgg27 rfl rfl rfl) rfl ?_
                  refine AHead.call (o_fieldRef _ rfl fa24_6 rfl rfl) rfl ?_
                  refine AHead.call (o_loadRef _ rfl rfl Tryz.sizeOf22 Tryz.isAgg22 rfl rfl rfl) rfl ?_
                  refine AHead.call (o_move _ rfl rfl) rfl ?_
                  refine AHead.call (o_index _ _ Tryz.underlying22 Tryz.sizeOf27 rfl rfl (by omega) hel rfl rfl) rfl ?_
                  refine AHead.call (o_loadRd _ rfl Tryz.sizeOf27 Tryz.isAgg27 rfl rfl rfl) rfl ?_
                  refine AHead.call (o_bin _ _ rfl rfl (neS27 _ _ p.log[k].day p.log[k].weight p.log[k].day p.log[k].weight) rfl) rfl ?_
                  refine AHead.nil ?_
                  refine AOps.nil ?_
                  refine AWP.cond _ rfl (fun h62 => ?_) (fun h62 => ?_)
                  · skip
                    exfalso
                    simp at h62
                  · skip
                    refine AWP.skip ?_
                    refine AWP.region ?_
                    refine AOps.call (o_move _ rfl rfl) ?_
                    refine AOps.call (o_add _ _ rfl rfl ⟨by (try dsimp only); omega, by (try dsimp only); omega⟩ rfl) ?_
                    refine AOps.call (o_assign _ rfl rfl) ?_
                    refine AOps.nil ?_
                    refine ⟨k + 1, ?_, (Weak.mk' rfl ⟨⟨.refl rfl, rfl⟩, ⟨⟨.refl rfl, rfl⟩, ⟨⟨.refl rfl, rfl⟩, trivial⟩⟩⟩ ⟨⟨rfl, rfl, rfl⟩, ⟨⟨rfl, rfl, rfl⟩, trivial⟩⟩ trivial)⟩
                    exact ⟨by omega, by omega⟩
                · skip
                  refine AWP.exit ?_
                  refine AWP.seq ?_
                  refine AWP.region ?_
                  refine AOps.call (o_assign _ rfl rfl) ?_
                  refine AOps.nil ?_
                  refine AWP.ret ?_
                  exact postQ.ret1 Tryz.results21 rfl rfl
            · skip
              exfalso
              simp at h38
          · skip
            exfalso
            simp at h32
        · skip
          exfalso
          simp at h26
      · skip
        exfalso
        simp at h20
    · skip
      exfalso
      simp at h14
  · skip
    exfalso
    simp at h8
theorem addR_len (p : Plw) (s : Shw) : (addR p s).log.length ≤ 33 := by
  unfold addR
  by_cases h : addE p s = 0
  · rw [if_pos h]
    unfold addE at h
    split at h
    · omega
    · split at h
      · omega
      · rename_i h1 h2
        have hp := okP_iff.1 (by simpa using h1 : okP p = true)
        have := hp.len
        show (p.log ++ [s]).length ≤ 33
        simp; omega
  · rw [if_neg h]; decide
set_option maxHeartbeats 4000000 in
set_option maxRecDepth 20000 in
theorem PillowChecks_s (p : Plw) (l : List Int) (n : Int) (s : Shw) (hl1 : l.length ≤ 9223372036854775807) : FSpecG Tryz.prog TAB 3 [.agg (eP p), .sl (ints l), I n, .agg (eW s)] (B true) (none) := by
  refine FSpecG.of_body tab_stable Tryz.func3 rfl (leB rfl) fun w0 M0 hG => ?_
  have hS := Same_s (addR p s) (Nat.le_trans (addR_len p s) (by decide))
  have h1 := ShiftP_s p n
  have h2 := ShiftR2_s p n
  have h3 := AddP_s p s
  have h4 := AddR_s p s
  generalize addR p s = q at hS h3 h4
  generalize addE p s = qe at h3 h4
  generalize shfB p n = sb at h1 h2
  generalize shfE p n = se at h1 h2
  refine AWP.seq ?_
  refine AWP.region ?_
  refine AOps.call (o_box _ rfl rfl rfl) ?_
  refine AOps.call (o_box _ rfl rfl rfl) ?_
  refine AOps.call (o_assign _ rfl rfl) ?_
  refine AOps.nil ?_
  refine AWP.seq ?_
  refine AWP.seq ?_
  refine AWP.region ?_
  refine AOps.call (o_callG (sane_s) hG Tryz.call12 rfl rfl) ?_
  refine AOps.call (o_un _ rfl (fun _ => rfl) rfl) ?_
  refine AOps.nil ?_
  refine AWP.cond _ rfl (fun h5 => ?_) (fun h5 => ?_)
  · skip
    exfalso
    simp at h5
  · skip
    refine AWP.skip ?_
    refine AWP.seq ?_
    refine AWP.region ?_
    refine AOps.call (o_loadRef _ rfl rfl Tryz.sizeOf24 Tryz.isAgg24 rfl rfl rfl) ?_
    refine AOps.call (o_move _ rfl rfl) ?_
    refine AOps.call (o_call (h1) Tryz.call13 rfl rfl) ?_
    refine AOps.call (o_move _ rfl rfl) ?_
    refine AOps.call (o_extract _ rfl rfl rfl rfl) ?_
    refine AOps.call (o_extract _ rfl rfl rfl rfl) ?_
    refine AOps.call (o_assign _ rfl rfl) ?_
    refine AOps.call (o_assign _ rfl rfl) ?_
    refine AOps.nil ?_
    refine AWP.seq ?_
    refine AWP.region ?_
    refine AOps.call (o_loadRef _ rfl rfl Tryz.sizeOf24 Tryz.isAgg24 rfl rfl rfl) ?_
    refine AOps.call (o_move _ rfl rfl) ?_
    refine AOps.call (o_call (h2) Tryz.call14 rfl rfl) ?_
    refine AOps.call (o_move _ rfl rfl) ?_
    refine AOps.call (o_extract _ rfl rfl rfl rfl) ?_
    refine AOps.call (o_extract _ rfl rfl rfl rfl) ?_
    refine AOps.call (o_assign _ rfl rfl) ?_
    refine AOps.call (o_assign _ rfl rfl) ?_
    refine AOps.nil ?_
    refine AWP.seq ?_
    refine AWP.region ?_
    refine AOps.call (o_loadRef _ rfl rfl Tryz.sizeOf24 Tryz.isAgg24 rfl rfl rfl) ?_
    refine AOps.call (o_loadRef _ rfl rfl Tryz.sizeOf27 Tryz.isAgg27 rfl rfl rfl) ?_
    refine AOps.call (o_call (h3) Tryz.call15 rfl rfl) ?_
    refine AOps.call (o_move _ rfl rfl) ?_
    refine AOps.call (o_extract _ rfl rfl rfl rfl) ?_
    refine AOps.call (o_extract _ rfl rfl rfl rfl) ?_
    refine AOps.call (o_alloc ze24 rfl rfl) ?_
    refine AOps.cons (o_store _ _ rfl rfl Tryz.sizeOf24 rfl rfl rfl rfl rfl) ?_
    refine AOps.call (o_assign _ rfl rfl) ?_
    refine AOps.nil ?_
    refine AWP.seq ?_
    refine AWP.region ?_
    refine AOps.call (o_loadRef _ rfl rfl Tryz.sizeOf24 Tryz.isAgg24 rfl rfl rfl) ?_
    refine AOps.call (o_loadRef _ rfl rfl Tryz.sizeOf27 Tryz.isAgg27 rfl rfl rfl) ?_
    refine AOps.call (o_call (h4) Tryz.call16 rfl rfl) ?_
    refine AOps.call (o_move _ rfl rfl) ?_
    refine AOps.call (o_extract _ rfl rfl rfl rfl) ?_
    refine AOps.call (o_extract _ rfl rfl rfl rfl) ?_
    refine AOps.call (o_alloc ze24 rfl rfl) ?_
    refine AOps.cons (o_store _ _ rfl rfl Tryz.sizeOf24 rfl rfl rfl rfl rfl) ?_
    refine AOps.call (o_assign _ rfl rfl) ?_
    refine AOps.nil ?_
    refine AWP.seq ?_
    refine AWP.drawn 35 mixed (by kernel_rfl) ?_
    refine AHead.call (o_loadRef _ rfl rfl Tryz.sizeOf24 Tryz.isAgg24 rfl rfl rfl) rfl ?_
    refine AHead.call (o_call (Check_s p) Tryz.call17 rfl rfl) rfl ?_
    refine AHead.call (o_loadRef _ rfl rfl Tryz.sizeOf24 Tryz.isAgg24 rfl rfl rfl) rfl ?_
    refine AHead.call (o_call (CheckR_s p) Tryz.call18 rfl rfl) rfl ?_
    refine AHead.call (o_bin _ _ rfl rfl (fun _ => rfl) rfl) rfl ?_
    refine AHead.call (o_move _ rfl rfl) rfl ?_
    refine AHead.split rfl rfl rfl (fun h33 => ?_) (fun h33 => ?_)
    · skip
      refine AHead.go rfl rfl rfl h33 (o_loadRef _ rfl rfl Tryz.sizeOf24 Tryz.isAgg24 rfl rfl rfl) rfl ?_
      refine AHead.go rfl rfl rfl h33 (o_move _ rfl rfl) rfl ?_
      refine AHead.go rfl rfl rfl h33 (o_call (CheckCase_s p l hl1) Tryz.call19 rfl rfl) rfl ?_
      refine AHead.go rfl rfl rfl h33 (o_loadRef _ rfl rfl Tryz.sizeOf24 Tryz.isAgg24 rfl rfl rfl) rfl ?_
      refine AHead.go rfl rfl rfl h33 (o_move _ rfl rfl) rfl ?_
      refine AHead.go rfl rfl rfl h33 (o_call (CheckCaseR_s p l hl1) Tryz.call20 rfl rfl) rfl ?_
      refine AHead.go rfl rfl rfl h33 (o_bin _ _ rfl rfl (fun _ => rfl) rfl) rfl ?_
      refine AHead.call (o_pickT _ _ _ rfl h33 rfl rfl) rfl ?_
      refine AHead.call (o_move _ rfl rfl) rfl ?_
      refine AHead.split rfl rfl rfl (fun h41 => ?_) (fun h41 => ?_)
      · skip
        refine AHead.go rfl rfl rfl h41 (o_move _ rfl rfl) rfl ?_
        refine AHead.go rfl rfl rfl h41 (o_move _ rfl rfl) rfl ?_
        refine AHead.go rfl rfl rfl h41 (o_bin _ _ rfl rfl (fun _ => rfl) rfl) rfl ?_
        refine AHead.call (o_pickT _ _ _ rfl h41 rfl rfl) rfl ?_
        refine AHead.call (o_move _ rfl rfl) rfl ?_
        refine AHead.split rfl rfl rfl (fun h43 => ?_) (fun h43 => ?_)
        · skip
          refine AHead.go rfl rfl rfl h43 (o_move _ rfl rfl) rfl ?_
          refine AHead.go rfl rfl rfl h43 (o_move _ rfl rfl) rfl ?_
          refine AHead.go rfl rfl rfl h43 (o_bin _ _ rfl rfl (fun _ => rfl) rfl) rfl ?_
          refine AHead.call (o_pickT _ _ _ rfl h43 rfl rfl) rfl ?_
          refine AHead.call (o_move _ rfl rfl) rfl ?_
          refine AHead.split rfl rfl rfl (fun h45 => ?_) (fun h45 => ?_)
          · skip
            refine AHead.go rfl rfl rfl h45 (o_loadRef _ rfl rfl Tryz.sizeOf24 Tryz.isAgg24 rfl rfl rfl) rfl ?_
            refine AHead.go rfl rfl rfl h45 (o_loadRef _ rfl rfl Tryz.sizeOf24 Tryz.isAgg24 rfl rfl rfl) rfl ?_
            refine AHead.go rfl rfl rfl h45 (o_call (hS) Tryz.call21 rfl rfl) rfl ?_
            refine AHead.call (o_pickT _ _ _ rfl h45 rfl rfl) rfl ?_
            refine AHead.call (o_move _ rfl rfl) rfl ?_
            refine AHead.split rfl rfl rfl (fun h49 => ?_) (fun h49 => ?_)
            · skip
              refine AHead.go rfl rfl rfl h49 (o_move _ rfl rfl) rfl ?_
              refine AHead.go rfl rfl rfl h49 (o_move _ rfl rfl) rfl ?_
              refine AHead.go rfl rfl rfl h49 (o_bin _ _ rfl rfl (fun _ => rfl) rfl) rfl ?_
              refine AHead.call (o_pickT _ _ _ rfl h49 rfl rfl) rfl ?_
              refine AHead.call (o_assign _ rfl rfl) rfl ?_
              refine AHead.nil ?_
              refine AOps.nil ?_
              refine AWP.ret ?_
              first
              | exact postQ.ret1 Tryz.results3 rfl rfl
              | (refine postQ.ret1 Tryz.results3 rfl ?_; simp [AV.close, AV.close.closeL, B, I]; done)
              | (refine postQ.ret1 Tryz.results3 rfl ?_; simp [AV.close, AV.close.closeL, B, I]; omega)
              | (refine postQ.ret1 Tryz.results3 rfl ?_; simp_all [AV.close, AV.close.closeL, B, I]; done)
              | (refine postQ.ret1 Tryz.results3 rfl ?_; simp_all [AV.close, AV.close.closeL, B, I]; omega)
            · skip
              exfalso
              simp at h49
          · skip
            exfalso
            simp at h45
        · skip
          exfalso
          simp at h43
      · skip
        exfalso
        simp at h41
    · skip
      exfalso
      simp at h33
end Go.Proofs.YtelenedgaoglaaaGreatDoor
