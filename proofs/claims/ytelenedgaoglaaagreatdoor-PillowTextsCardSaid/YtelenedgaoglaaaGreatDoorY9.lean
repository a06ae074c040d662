/- Y9. -/
import Derived.Test.YtelenedgaoglaaaGreatDoorY8
import Derived.Test.YtelenedgaoglaaaGreatDoorR27
set_option linter.unusedSimpArgs false
set_option linter.unusedVariables false
namespace Go.Proofs.YtelenedgaoglaaaGreatDoor
open Go.Ab
open Go.Pil Go.RowKit
set_option maxHeartbeats 4000000 in
set_option maxRecDepth 20000 in
theorem Same_s (p : Plw) (hl : p.log.length ≤ 1000000) : FSpec Tryz.prog 21 [.agg (eP p), .agg (eP p)] (B true) (none) := by
  refine FSpec.of_body Tryz.func21 rfl (leB rfl) fun w0 M0 => ?_
  have hsl := shws_len p.log
  refine AWP.seq ?_
  refine AWP.region ?_
  refine AOps.call (o_box _ rfl rfl rfl) ?_
  refine AOps.call (o_box _ rfl rfl rfl) ?_
  refine AOps.call (o_assign _ rfl rfl) ?_
  refine AOps.nil ?_
  refine AWP.seq ?_
  refine AWP.seq ?_
  refine AWP.region ?_
  refine AOps.call (o_fieldRef _ rfl fa24_0 rfl rfl) ?_
  refine AOps.call (o_loadRef _ rfl rfl Tryz.sizeOf3 Tryz.isAgg3 rfl rfl rfl) ?_
  refine AOps.call (o_fieldRef _ rfl fa24_0 rfl rfl) ?_
  refine AOps.call (o_loadRef _ rfl rfl Tryz.sizeOf3 Tryz.isAgg3 rfl rfl rfl) ?_
  refine AOps.call (o_bin _ _ rfl rfl (fun _ => rfl) rfl) ?_
  refine AOps.call (o_move _ rfl rfl) ?_
  refine AOps.split rfl rfl rfl (fun h8 => ?_) (fun h8 => ?_)
  · skip
    refine AOps.go rfl rfl rfl h8 (o_fieldRef _ rfl fa24_1 rfl rfl) ?_
    refine AOps.go rfl rfl rfl h8 (o_loadRef _ rfl rfl Tryz.sizeOf3 Tryz.isAgg3 rfl rfl rfl) ?_
    refine AOps.go rfl rfl rfl h8 (o_fieldRef _ rfl fa24_1 rfl rfl) ?_
    refine AOps.go rfl rfl rfl h8 (o_loadRef _ rfl rfl Tryz.sizeOf3 Tryz.isAgg3 rfl rfl rfl) ?_
    refine AOps.go rfl rfl rfl h8 (o_bin _ _ rfl rfl (fun _ => rfl) rfl) ?_
    refine AOps.call (o_pickF _ _ _ rfl h8 rfl rfl) ?_
    refine AOps.call (o_move _ rfl rfl) ?_
    refine AOps.split rfl rfl rfl (fun h14 => ?_) (fun h14 => ?_)
    · skip
      refine AOps.go rfl rfl rfl h14 (o_fieldRef _ rfl fa24_2 rfl rfl) ?_
      refine AOps.go rfl rfl rfl h14 (o_loadRef _ rfl rfl Tryz.sizeOf3 Tryz.isAgg3 rfl rfl rfl) ?_
      refine AOps.go rfl rfl rfl h14 (o_fieldRef _ rfl fa24_2 rfl rfl) ?_
      refine AOps.go rfl rfl rfl h14 (o_loadRef _ rfl rfl Tryz.sizeOf3 Tryz.isAgg3 rfl rfl rfl) ?_
      refine AOps.go rfl rfl rfl h14 (o_bin _ _ rfl rfl (fun _ => rfl) rfl) ?_
      refine AOps.call (o_pickF _ _ _ rfl h14 rfl rfl) ?_
      refine AOps.call (o_move _ rfl rfl) ?_
      refine AOps.split rfl rfl rfl (fun h20 => ?_) (fun h20 => ?_)
      · skip
        refine AOps.go rfl rfl rfl h20 (o_fieldRef _ rfl fa24_3 rfl rfl) ?_
        refine AOps.go rfl rfl rfl h20 (o_loadRef _ rfl rfl Tryz.sizeOf3 Tryz.isAgg3 rfl rfl rfl) ?_
        refine AOps.go rfl rfl rfl h20 (o_fieldRef _ rfl fa24_3 rfl rfl) ?_
        refine AOps.go rfl rfl rfl h20 (o_loadRef _ rfl rfl Tryz.sizeOf3 Tryz.isAgg3 rfl rfl rfl) ?_
        refine AOps.go rfl rfl rfl h20 (o_bin _ _ rfl rfl (fun _ => rfl) rfl) ?_
        refine AOps.call (o_pickF _ _ _ rfl h20 rfl rfl) ?_
        refine AOps.call (o_move _ rfl rfl) ?_
        refine AOps.split rfl rfl rfl (fun h26 => ?_) (fun h26 => ?_)
        · skip
          refine AOps.go rfl rfl rfl h26 (o_fieldRef _ rfl fa24_4 rfl rfl) ?_
          refine AOps.go rfl rfl rfl h26 (o_loadRef _ rfl rfl Tryz.sizeOf3 Tryz.isAgg3 rfl rfl rfl) ?_
          refine AOps.go rfl rfl rfl h26 (o_fieldRef _ rfl fa24_4 rfl rfl) ?_
          refine AOps.go rfl rfl rfl h26 (o_loadRef _ rfl rfl Tryz.sizeOf3 Tryz.isAgg3 rfl rfl rfl) ?_
          refine AOps.go rfl rfl rfl h26 (o_bin _ _ rfl rfl (fun _ => rfl) rfl) ?_
          refine AOps.call (o_pickF _ _ _ rfl h26 rfl rfl) ?_
          refine AOps.call (o_move _ rfl rfl) ?_
          refine AOps.split rfl rfl rfl (fun h32 => ?_) (fun h32 => ?_)
          · skip
            refine AOps.go rfl rfl rfl h32 (o_fieldRef _ rfl fa24_5 rfl rfl) ?_
            refine AOps.go rfl rfl rfl h32 (o_loadRef _ rfl rfl Tryz.sizeOf3 Tryz.isAgg3 rfl rfl rfl) ?_
            refine AOps.go rfl rfl rfl h32 (o_fieldRef _ rfl fa24_5 rfl rfl) ?_
            refine AOps.go rfl rfl rfl h32 (o_loadRef _ rfl rfl Tryz.sizeOf3 Tryz.isAgg3 rfl rfl rfl) ?_
            refine AOps.go rfl rfl rfl h32 (o_bin _ _ rfl rfl (fun _ => rfl) rfl) ?_
            refine AOps.call (o_pickF _ _ _ rfl h32 rfl rfl) ?_
            refine AOps.call (o_move _ rfl rfl) ?_
            refine AOps.split rfl rfl rfl (fun h38 => ?_) (fun h38 => ?_)
            · skip
              refine AOps.go rfl rfl rfl h38 (o_fieldRef _ rfl fa24_6 rfl rfl) ?_
              refine AOps.go rfl rfl rfl h38 (o_loadRef _ rfl rfl Tryz.sizeOf22 Tryz.isAgg22 rfl rfl rfl) ?_
              refine AOps.go rfl rfl rfl h38 (o_len _ Tryz.underlying22 rfl rfl) ?_
              refine AOps.go rfl rfl rfl h38 (o_fieldRef _ rfl fa24_6 rfl rfl) ?_
              refine AOps.go rfl rfl rfl h38 (o_loadRef _ rfl rfl Tryz.sizeOf22 Tryz.isAgg22 rfl rfl rfl) ?_
              refine AOps.go rfl rfl rfl h38 (o_len _ Tryz.underlying22 rfl rfl) ?_
              refine AOps.go rfl rfl rfl h38 (o_bin _ _ rfl rfl (fun _ => rfl) rfl) ?_
              refine AOps.call (o_pickF _ _ _ rfl h38 rfl rfl) ?_
              refine AOps.nil ?_
              refine AWP.cond _ rfl (fun h46 => ?_) (fun h46 => ?_)
              · skip
                exfalso
                simp at h46
              · skip
                refine AWP.skip ?_
                refine AWP.seq ?_
                refine AWP.seq ?_
                refine AWP.region ?_
                refine AOps.call (o_assign _ rfl rfl) ?_
                refine AOps.nil ?_
                refine AWP.block ?_
                refine AWP.loop (ι := Nat) (fun i => AS.mk' 73 [(2, .ref (2, 0) 0), (3, .ref (3, 0) 0), (5, I i)] [((2, 0), eP p), ((3, 0), eP p)] [] [(2, 1), (3, 1)]) (fun i => i ≤ p.log.length) (fun i => p.log.length - i) (0) (Weak.mk' rfl ⟨⟨.refl rfl, rfl⟩, ⟨⟨.refl rfl, rfl⟩, ⟨⟨.refl rfl, rfl⟩, trivial⟩⟩⟩ ⟨⟨rfl, rfl, rfl⟩, ⟨⟨rfl, rfl, rfl⟩, trivial⟩⟩ trivial) (Nat.zero_le _) ?_
                rintro k hk
                try dsimp only at *
                refine AWP.seq ?_
                refine AWP.seq ?_
                refine AWP.region ?_
                refine AOps.call (o_move _ rfl rfl) ?_
                refine AOps.call (o_fieldRef _ rfl fa24_6 rfl rfl) ?_
                refine AOps.call (o_loadRef _ rfl rfl Tryz.sizeOf22 Tryz.isAgg22 rfl rfl rfl) ?_
                refine AOps.call (o_len _ Tryz.underlying22 rfl rfl) ?_
                refine AOps.call (o_bin _ _ rfl rfl (fun _ => rfl) rfl) ?_
                refine AOps.nil ?_
                refine AWP.cond _ rfl (fun h52 => ?_) (fun h52 => ?_)
                · skip
                  have hlt : k < p.log.length := by have := of_decide_eq_true h52; omega
                  have hel := shws_at hlt
                  refine AWP.skip ?_
                  refine AWP.seq ?_
                  refine AWP.block ?_
                  refine AWP.seq ?_
                  refine AWP.drawn 11 mixed (by kernel_rfl) ?_
                  refine AHead.call (o_fieldRef _ rfl fa24_6 rfl rfl) rfl ?_
                  refine AHead.call (o_loadRef _ rfl rfl Tryz.sizeOf22 Tryz.isAgg22 rfl rfl rfl) rfl ?_
                  refine AHead.call (o_move _ rfl rfl) rfl ?_
                  refine AHead.call (o_index _ _ Tryz.underlying22 Tryz.sizeOf27 rfl rfl (by omega) hel rfl rfl) rfl ?_
                  refine AHead.call (o_loadRd _ rfl Tryz.sizeOf27 Tryz.isAgg27 rfl rfl rfl) rfl ?_
                  refine AHead.call (o_fieldRef _ rfl fa24_6 rfl rfl) rfl ?_
                  refine AHead.call (o_loadRef _ rfl rfl Tryz.sizeOf22 Tryz.isAgg22 rfl rfl rfl) rfl ?_
                  refine AHead.call (o_move _ rfl rfl) rfl ?_
                  refine AHead.call (o_index _ _ Tryz.underlying22 Tryz.sizeOf27 rfl rfl (by omega) hel rfl rfl) rfl ?_
                  refine AHead.call (o_loadRd _ rfl Tryz.sizeOf27 Tryz.isAgg27 rfl rfl rfl) rfl ?_
                  refine AHead.call (o_bin _ _ rfl rfl (neS27 _ _ p.log[k].day p.log[k].weight p.log[k].day p.log[k].weight) rfl) rfl ?_
                  refine AHead.nil ?_
                  refine AOps.nil ?_
                  refine AWP.cond _ rfl (fun h62 => ?_) (fun h62 => ?_)
                  · skip
                    exfalso
                    simp at h62
                  · skip
                    refine AWP.skip ?_
                    refine AWP.region ?_
                    refine AOps.call (o_move _ rfl rfl) ?_
                    refine AOps.call (o_add _ _ rfl rfl ⟨by (try dsimp only); omega, by (try dsimp only); omega⟩ rfl) ?_
                    refine AOps.call (o_assign _ rfl rfl) ?_
                    refine AOps.nil ?_
                    refine ⟨k + 1, ?_, (Weak.mk' rfl ⟨⟨.refl rfl, rfl⟩, ⟨⟨.refl rfl, rfl⟩, ⟨⟨.refl rfl, rfl⟩, trivial⟩⟩⟩ ⟨⟨rfl, rfl, rfl⟩, ⟨⟨rfl, rfl, rfl⟩, trivial⟩⟩ trivial)⟩
                    exact ⟨by omega, by omega⟩
                · skip
                  refine AWP.exit ?_
                  refine AWP.seq ?_
                  refine AWP.region ?_
                  refine AOps.call (o_assign _ rfl rfl) ?_
                  refine AOps.nil ?_
                  refine AWP.ret ?_
                  exact postQ.ret1 Tryz.results21 rfl rfl
            · skip
              exfalso
              simp at h38
          · skip
            exfalso
            simp at h32
        · skip
          exfalso
          simp at h26
      · skip
        exfalso
        simp at h20
    · skip
      exfalso
      simp at h14
  · skip
    exfalso
    simp at h8
end Go.Proofs.YtelenedgaoglaaaGreatDoor
