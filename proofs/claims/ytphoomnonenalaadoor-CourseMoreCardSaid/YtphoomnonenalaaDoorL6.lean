import Derived.Test.YtphoomnonenalaaDoorL6a
set_option linter.unusedSimpArgs false
set_option linter.unusedVariables false
namespace Go.Proofs.YtphoomnonenalaaDoor
open Go.Ab

theorem scls_get {l : List Scl} {k : Nat} (h : k < l.length) : (l.map eS)[((k : Nat) : Int).toNat]? = some (eS l[k]) := by simp [h]
theorem addE_z {c : Scl} {t : Tst} (hz : addE c t = 0) : scaleE c = 0 := by
  unfold addE at hz
  by_cases h : scaleE c = 0
  · exact h
  · rw [if_neg h] at hz; exact absurd hz h

set_option maxRecDepth 20000 in
theorem CourseMore_a (c : Scl) (t : Tst) (h : Sht) (sk d0 d1 d2 d3 : Int) (hz : addE c t = 0) : FSpecG Tryd.prog TAB 9 [.agg (eS c), .agg (eT t), .agg (eH h), I sk, .agg [I d0, I d1, I d2, I d3]] (B true) (none) := by
  refine FSpecG.of_body tab_stable Tryd.func9 rfl (leB rfl) fun w0 M0 hG => ?_
  have hA := AddTest_s c t
  rw [if_pos hz] at hA
  have hfin : d2 ≤ d3 → ∀ x ∈ [c, (⟨c.no, c.rate, c.tests ++ [t]⟩ : Scl)], ∀ d ∈ [d2, d3], Finer c d2 x d := by
    intro hd x hx d hdd
    have hle : d2 ≤ d := by simp at hdd; rcases hdd with rfl | rfl <;> omega
    simp at hx
    rcases hx with rfl | rfl
    · exact Finer.day hle
    · exact Finer.add (addE_z hz) hle
  refine AWP.seq ?_
  refine AWP.region ?_
  refine AOps.call (o_box _ rfl rfl rfl) ?_
  refine AOps.call (o_box _ rfl rfl rfl) ?_
  refine AOps.call (o_box _ rfl rfl rfl) ?_
  refine AOps.call (o_box _ rfl rfl rfl) ?_
  refine AOps.call (o_box _ rfl rfl rfl) ?_
  refine AOps.call (o_assign _ rfl rfl) ?_
  refine AOps.nil ?_
  refine AWP.seq ?_
  refine AWP.seq ?_
  refine AWP.region ?_
  refine AOps.call (o_callG (sane_s) hG Tryd.call12 rfl rfl) ?_
  refine AOps.call (o_un _ rfl (fun _ => rfl) rfl) ?_
  refine AOps.nil ?_
  refine AWP.cond _ rfl (fun h8 => ?_) (fun h8 => ?_)
  · skip
    refine AWP.seq ?_
    refine AWP.region ?_
    refine AOps.call (o_assign _ rfl rfl) ?_
    refine AOps.nil ?_
    refine AWP.ret ?_
    first
    | exact postQ.ret1 Tryd.results9 rfl rfl
    | (exfalso; simp at *; done)
    | (exfalso; simp_all; done)
    | (refine postQ.ret1 Tryd.results9 rfl ?_; simp [AV.close, B]; done)
  · skip
    refine AWP.skip ?_
    refine AWP.seq ?_
    refine AWP.seq ?_
    refine AWP.region ?_
    refine AOps.call (o_fieldRef _ rfl fa24_2 rfl rfl) ?_
    refine AOps.call (o_loadRef _ rfl rfl Tryd.sizeOf22 Tryd.isAgg22 rfl rfl rfl) ?_
    refine AOps.call (o_len _ Tryd.underlying22 rfl rfl) ?_
    refine AOps.call (o_bin _ _ rfl rfl (fun _ => rfl) rfl) ?_
    refine AOps.call (o_move _ rfl rfl) ?_
    refine AOps.split rfl rfl rfl (fun h13 => ?_) (fun h13 => ?_)
    · skip
      refine AOps.go rfl rfl rfl h13 (o_fieldRef _ rfl fa54_8 rfl rfl) ?_
      refine AOps.go rfl rfl rfl h13 (o_loadRef _ rfl rfl Tryd.sizeOf52 Tryd.isAgg52 rfl rfl rfl) ?_
      refine AOps.go rfl rfl rfl h13 (o_len _ Tryd.underlying52 rfl rfl) ?_
      refine AOps.go rfl rfl rfl h13 (o_bin _ _ rfl rfl (fun _ => rfl) rfl) ?_
      refine AOps.call (o_pickF _ _ _ rfl h13 rfl rfl) ?_
      refine AOps.call (o_move _ rfl rfl) ?_
      refine AOps.split rfl rfl rfl (fun h18 => ?_) (fun h18 => ?_)
      · skip
        refine AOps.go rfl rfl rfl h18 (ok_indexAddr_arr _ _ Tryd.underlying69 Tryd.sizeOf3 rfl rfl (by omega) (by omega) (okD rfl)) ?_
        refine AOps.go rfl rfl rfl h18 (o_loadRef _ rfl rfl Tryd.sizeOf3 Tryd.isAgg3 rfl rfl rfl) ?_
        refine AOps.go rfl rfl rfl h18 (ok_indexAddr_arr _ _ Tryd.underlying69 Tryd.sizeOf3 rfl rfl (by omega) (by omega) (okD rfl)) ?_
        refine AOps.go rfl rfl rfl h18 (o_loadRef _ rfl rfl Tryd.sizeOf3 Tryd.isAgg3 rfl rfl rfl) ?_
        refine AOps.go rfl rfl rfl h18 (o_bin _ _ rfl rfl (fun _ => rfl) rfl) ?_
        refine AOps.call (o_pickF _ _ _ rfl h18 rfl rfl) ?_
        refine AOps.nil ?_
        refine AWP.cond _ rfl (fun h24 => ?_) (fun h24 => ?_)
        · skip
          refine AWP.seq ?_
          refine AWP.region ?_
          refine AOps.call (o_assign _ rfl rfl) ?_
          refine AOps.nil ?_
          refine AWP.ret ?_
          first
          | exact postQ.ret1 Tryd.results9 rfl rfl
          | (exfalso; simp at *; done)
          | (exfalso; simp_all; done)
          | (refine postQ.ret1 Tryd.results9 rfl ?_; simp [AV.close, B]; done)
        · skip
          have hd23 : d2 ≤ d3 := by simp at h24; omega
          have hfin := hfin hd23
          refine AWP.skip ?_
          refine AWP.seq ?_
          refine AWP.region ?_
          refine AOps.call (o_loadRef _ rfl rfl Tryd.sizeOf24 Tryd.isAgg24 rfl rfl rfl) ?_
          refine AOps.call (o_loadRef _ rfl rfl Tryd.sizeOf26 Tryd.isAgg26 rfl rfl rfl) ?_
          refine AOps.call (o_call (hA) Tryd.call15 rfl rfl) ?_
          refine AOps.call (o_move _ rfl rfl) ?_
          refine AOps.call (o_extract _ rfl rfl rfl rfl) ?_
          refine AOps.call (o_extract _ rfl rfl rfl rfl) ?_
          refine AOps.call (o_alloc ze24 rfl rfl) ?_
          refine AOps.cons (o_store _ _ rfl rfl Tryd.sizeOf24 rfl rfl rfl rfl rfl) ?_
          refine AOps.call (o_assign _ rfl rfl) ?_
          refine AOps.nil ?_
          refine AWP.seq ?_
          refine AWP.seq ?_
          refine AWP.region ?_
          refine AOps.call (o_move _ rfl rfl) ?_
          refine AOps.call (o_bin _ _ rfl rfl (fun _ => rfl) rfl) ?_
          refine AOps.nil ?_
          refine AWP.cond _ rfl (fun h32 => ?_) (fun h32 => ?_)
          · skip
            exfalso
            simp at h32
          · skip
            refine AWP.skip ?_
            refine AWP.seq ?_
            refine AWP.seq ?_
            refine AWP.region ?_
            refine AOps.weak (Weak.frzv (id := (9, 0)) (t := 9) rfl rfl rfl) ?_
            refine AOps.weak (Weak.frzv (id := (7, 0)) (t := 7) rfl rfl rfl) ?_
            refine AOps.weak (Weak.frzv (id := (8, 0)) (t := 8) rfl rfl rfl) ?_
            refine AOps.call (o_makeClo rfl rfl) ?_
            refine AOps.call (o_makeClo rfl rfl) ?_
            refine AOps.call (o_makeClo rfl rfl) ?_
            refine AOps.call (o_makeClo rfl rfl) ?_
            refine AOps.call (o_makeClo rfl rfl) ?_
            refine AOps.call (o_makeClo rfl rfl) ?_
            refine AOps.call (o_lit Tryd.underlying72 Tryd.sizeOf73 Tryd.zeroValue73 rfl rfl rfl rfl rfl rfl rfl) ?_
            refine AOps.call (o_len _ Tryd.underlying72 rfl rfl) ?_
            refine AOps.call (o_move _ rfl rfl) ?_
            refine AOps.nil ?_
            refine AWP.block ?_
            refine AWP.loop (ι := Nat) (fun i => AS.mk' 115 [(5, .ref (5, 0) 0), (9, .rd [I d0, I d1, I d2, I d3]), (11, .ref (11, 0) 0), (57, .sl (moreF h sk d0 d1 d2 d3)), (58, I 6), (59, I i)] [((5, 0), eS c), ((11, 0), eS (⟨c.no, c.rate, c.tests ++ [t]⟩ : Scl))] [] [(5, 1), (11, 1)]) (fun i => i ≤ 6) (fun i => 6 - i) (0) (Weak.mk' rfl ⟨⟨.refl rfl, rfl⟩, ⟨⟨.refl rfl, rfl⟩, ⟨⟨.refl rfl, rfl⟩, ⟨⟨.sl rfl, rfl⟩, ⟨⟨.refl rfl, rfl⟩, ⟨⟨.refl rfl, rfl⟩, trivial⟩⟩⟩⟩⟩⟩ ⟨⟨rfl, rfl, rfl⟩, ⟨⟨rfl, rfl, rfl⟩, trivial⟩⟩ trivial) (Nat.zero_le _) ?_
            rintro k hk
            try dsimp only at *
            refine AWP.seq ?_
            refine AWP.region ?_
            refine AOps.call (o_bin _ _ rfl rfl (fun _ => rfl) rfl) ?_
            refine AOps.nil ?_
            refine AWP.seq ?_
            refine AWP.cond _ rfl (fun h43 => ?_) (fun h43 => ?_)
            · skip
              have hk6 : k < 6 := by simp at h43; omega
              obtain ⟨F, caps, E, R, hel, hcl, hlow, hsp, hbo, hnar⟩ := moreF_get h sk d0 d1 d2 d3 k hk6
              refine AWP.skip ?_
              refine AWP.seq ?_
              refine AWP.block ?_
              refine AWP.seq ?_
              refine AWP.region ?_
              refine AOps.call (o_index _ _ Tryd.underlying72 Tryd.sizeOf73 rfl rfl (by omega) (by assumption) rfl rfl) ?_
              refine AOps.call (o_loadRd _ rfl Tryd.sizeOf73 Tryd.isAgg73 rfl rfl rfl) ?_
              refine AOps.call (o_assign _ rfl rfl) ?_
              refine AOps.nil ?_
              refine AWP.seq ?_
              refine AWP.region ?_
              refine AOps.call (o_move _ rfl rfl) ?_
              refine AOps.call (o_loadRef _ rfl rfl Tryd.sizeOf24 Tryd.isAgg24 rfl rfl rfl) ?_
              refine AOps.call (o_indexArrRd _ _ Tryd.underlying69 Tryd.sizeOf3 rfl rfl (by omega) (by omega) rfl rfl) ?_
              refine AOps.call (o_loadRd _ rfl Tryd.sizeOf3 Tryd.isAgg3 rfl rfl rfl) ?_
              refine AOps.call (o_callV (cl := [.agg (eS c), I d2]) (ccl := caps) _ rfl (hsp c d2) hbo rfl hcl rfl) ?_
              refine AOps.call (o_move _ rfl rfl) ?_
              refine AOps.call (o_extract _ rfl rfl rfl rfl) ?_
              refine AOps.call (o_extract _ rfl rfl rfl rfl) ?_
              refine AOps.call (o_alloc ze40 rfl rfl) ?_
              refine AOps.cons (o_store _ _ rfl rfl Tryd.sizeOf40 rfl rfl rfl rfl rfl) ?_
              refine AOps.call (o_assign _ rfl rfl) ?_
              refine AOps.nil ?_
              refine AWP.seq ?_
              refine AWP.region ?_
              refine AOps.call (o_loadRef _ rfl rfl Tryd.sizeOf24 Tryd.isAgg24 rfl rfl rfl) ?_
              refine AOps.call (o_loadRef _ rfl rfl Tryd.sizeOf24 Tryd.isAgg24 rfl rfl rfl) ?_
              refine AOps.call (o_lit Tryd.underlying74 Tryd.sizeOf24 Tryd.zeroValue24 rfl rfl rfl rfl rfl rfl rfl) ?_
              refine AOps.call (o_len _ Tryd.underlying74 rfl rfl) ?_
              refine AOps.call (o_move _ rfl rfl) ?_
              refine AOps.nil ?_
              refine AWP.block ?_
              refine AWP.loop (ι := Nat) (fun i => AS.mk' 115 [(5, .ref (5, 0) 0), (9, .rd [I d0, I d1, I d2, I d3]), (11, .ref (11, 0) 0), (57, .sl (moreF h sk d0 d1 d2 d3)), (58, I 6), (59, I k), (14, .clo F caps), (15, .ref (15, 0) 0), (16, I (E c d2)), (73, .sl ([c, (⟨c.no, c.rate, c.tests ++ [t]⟩ : Scl)].map eS)), (74, I 2), (75, I i)] [((5, 0), eS c), ((11, 0), eS (⟨c.no, c.rate, c.tests ++ [t]⟩ : Scl)), ((15, 0), eP (R c d2))] [] [(5, 1), (11, 1), (15, 1)]) (fun i => i ≤ 2) (fun i => 2 - i) (0) (Weak.mk' rfl ⟨⟨.refl rfl, rfl⟩, ⟨⟨.refl rfl, rfl⟩, ⟨⟨.refl rfl, rfl⟩, ⟨⟨.refl rfl, rfl⟩, ⟨⟨.refl rfl, rfl⟩, ⟨⟨.refl rfl, rfl⟩, ⟨⟨.refl rfl, hlow _⟩, ⟨⟨.refl rfl, rfl⟩, ⟨⟨.refl rfl, rfl⟩, ⟨⟨.sl rfl, rfl⟩, ⟨⟨.refl rfl, rfl⟩, ⟨⟨.refl rfl, rfl⟩, trivial⟩⟩⟩⟩⟩⟩⟩⟩⟩⟩⟩⟩ ⟨⟨rfl, rfl, rfl⟩, ⟨⟨rfl, rfl, rfl⟩, ⟨⟨rfl, rfl, rfl⟩, trivial⟩⟩⟩ trivial) (Nat.zero_le _) ?_
              rintro j hj
              try dsimp only at *
              refine AWP.seq ?_
              refine AWP.region ?_
              refine AOps.call (o_bin _ _ rfl rfl (fun _ => rfl) rfl) ?_
              refine AOps.nil ?_
              refine AWP.seq ?_
              refine AWP.cond _ rfl (fun h59 => ?_) (fun h59 => ?_)
              · skip
                have hj3 : j < 2 := by simp at h59; omega
                have hj2 : j < [c, (⟨c.no, c.rate, c.tests ++ [t]⟩ : Scl)].length := hj3
                have hel := scls_get hj2
                refine AWP.skip ?_
                refine AWP.seq ?_
                refine AWP.block ?_
                refine AWP.seq ?_
                refine AWP.region ?_
                refine AOps.call (o_index _ _ Tryd.underlying74 Tryd.sizeOf24 rfl rfl (by omega) (by assumption) rfl rfl) ?_
                refine AOps.call (o_loadRd _ rfl Tryd.sizeOf24 Tryd.isAgg24 rfl rfl rfl) ?_
                refine AOps.call (o_alloc ze24 rfl rfl) ?_
                refine AOps.cons (o_store _ _ rfl rfl Tryd.sizeOf24 rfl rfl rfl rfl rfl) ?_
                refine AOps.nil ?_
                refine AWP.seq ?_
                refine AWP.region ?_
                refine AOps.call (o_sliceRd _ _ Tryd.underlying69 Tryd.sizeOf3 rfl rfl rfl (by omega) rfl rfl) ?_
                refine AOps.call (o_len _ Tryd.underlying45 rfl rfl) ?_
                refine AOps.call (o_move _ rfl rfl) ?_
                refine AOps.nil ?_
                refine AWP.block ?_
                refine AWP.loop (ι := Nat) (fun i => AS.mk' 115 [(5, .ref (5, 0) 0), (9, .rd [I d0, I d1, I d2, I d3]), (11, .ref (11, 0) 0), (57, .sl (moreF h sk d0 d1 d2 d3)), (58, I 6), (59, I k), (14, .clo F caps), (15, .ref (15, 0) 0), (16, I (E c d2)), (73, .sl ([c, (⟨c.no, c.rate, c.tests ++ [t]⟩ : Scl)].map eS)), (74, I 2), (75, I j), (18, .ref (18, 0) 0), (79, .sl (ints [d2, d3])), (80, I 2), (81, I i)] [((5, 0), eS c), ((11, 0), eS (⟨c.no, c.rate, c.tests ++ [t]⟩ : Scl)), ((15, 0), eP (R c d2)), ((18, 0), eS ([c, (⟨c.no, c.rate, c.tests ++ [t]⟩ : Scl)][j]))] [] [(5, 1), (11, 1), (15, 1), (18, 1)]) (fun i => i ≤ 2) (fun i => 2 - i) (0) (Weak.mk' rfl ⟨⟨.refl rfl, rfl⟩, ⟨⟨.refl rfl, rfl⟩, ⟨⟨.refl rfl, rfl⟩, ⟨⟨.refl rfl, rfl⟩, ⟨⟨.refl rfl, rfl⟩, ⟨⟨.refl rfl, rfl⟩, ⟨⟨.refl rfl, hlow _⟩, ⟨⟨.refl rfl, rfl⟩, ⟨⟨.refl rfl, rfl⟩, ⟨⟨.refl rfl, rfl⟩, ⟨⟨.refl rfl, rfl⟩, ⟨⟨.refl rfl, rfl⟩, ⟨⟨.refl rfl, rfl⟩, ⟨⟨.refl rfl, rfl⟩, ⟨⟨.refl rfl, rfl⟩, ⟨⟨.refl rfl, rfl⟩, trivial⟩⟩⟩⟩⟩⟩⟩⟩⟩⟩⟩⟩⟩⟩⟩⟩ ⟨⟨rfl, rfl, rfl⟩, ⟨⟨rfl, rfl, rfl⟩, ⟨⟨rfl, rfl, rfl⟩, ⟨⟨rfl, rfl, rfl⟩, trivial⟩⟩⟩⟩ trivial) (Nat.zero_le _) ?_
                rintro l hl
                try dsimp only at *
                refine AWP.seq ?_
                refine AWP.region ?_
                refine AOps.call (o_bin _ _ rfl rfl (fun _ => rfl) rfl) ?_
                refine AOps.nil ?_
                refine AWP.seq ?_
                refine AWP.cond _ rfl (fun h67 => ?_) (fun h67 => ?_)
                · skip
                  have hl3 : l < 2 := by simp at h67; omega
                  have hl2 : l < [d2, d3].length := hl3
                  have hel := ints_get hl2
                  have hN := hnar c d2 [c, (⟨c.no, c.rate, c.tests ++ [t]⟩ : Scl)][j] [d2, d3][l] (hfin _ (List.getElem_mem hj2) _ (List.getElem_mem hl2))
                  have hB := hsp [c, (⟨c.no, c.rate, c.tests ++ [t]⟩ : Scl)][j] [d2, d3][l]
                  refine AWP.skip ?_
                  refine AWP.seq ?_
                  refine AWP.block ?_
                  refine AWP.seq ?_
                  refine AWP.region ?_
                  refine AOps.call (o_index _ _ Tryd.underlying45 Tryd.sizeOf3 rfl rfl (by omega) (by assumption) rfl rfl) ?_
                  refine AOps.call (o_loadRd _ rfl Tryd.sizeOf3 Tryd.isAgg3 rfl rfl rfl) ?_
                  refine AOps.call (o_assign _ rfl rfl) ?_
                  refine AOps.nil ?_
                  refine AWP.seq ?_
                  refine AWP.region ?_
                  refine AOps.call (o_move _ rfl rfl) ?_
                  refine AOps.call (o_loadRef _ rfl rfl Tryd.sizeOf24 Tryd.isAgg24 rfl rfl rfl) ?_
                  refine AOps.call (o_move _ rfl rfl) ?_
                  refine AOps.call (o_callV (cl := [.agg (eS ([c, (⟨c.no, c.rate, c.tests ++ [t]⟩ : Scl)][j])), I [d2, d3][l]]) (ccl := caps) _ rfl (hB) hbo rfl hcl rfl) ?_
                  refine AOps.call (o_move _ rfl rfl) ?_
                  refine AOps.call (o_extract _ rfl rfl rfl rfl) ?_
                  refine AOps.call (o_extract _ rfl rfl rfl rfl) ?_
                  refine AOps.call (o_alloc ze40 rfl rfl) ?_
                  refine AOps.cons (o_store _ _ rfl rfl Tryd.sizeOf40 rfl rfl rfl rfl rfl) ?_
                  refine AOps.call (o_assign _ rfl rfl) ?_
                  refine AOps.nil ?_
                  refine AWP.seq ?_
                  refine AWP.region ?_
                  refine AOps.call (o_move _ rfl rfl) ?_
                  refine AOps.call (o_bin _ _ rfl rfl (fun _ => rfl) rfl) ?_
                  refine AOps.call (o_move _ rfl rfl) ?_
                  refine AOps.split rfl rfl rfl (fun h76 => ?_) (fun h76 => ?_)
                  · skip
                    refine AOps.go rfl rfl rfl h76 (o_move _ rfl rfl) ?_
                    refine AOps.go rfl rfl rfl h76 (o_bin _ _ rfl rfl (fun _ => rfl) rfl) ?_
                    refine AOps.call (o_pickT _ _ _ rfl h76 rfl rfl) ?_
                    refine AOps.call (o_move _ rfl rfl) ?_
                    refine AOps.split rfl rfl rfl (fun h78 => ?_) (fun h78 => ?_)
                    · skip
                      refine AOps.go rfl rfl rfl h78 (o_loadRef _ rfl rfl Tryd.sizeOf40 Tryd.isAgg40 rfl rfl rfl) ?_
                      refine AOps.go rfl rfl rfl h78 (o_loadRef _ rfl rfl Tryd.sizeOf40 Tryd.isAgg40 rfl rfl rfl) ?_
                      refine AOps.go rfl rfl rfl h78 (o_call (inside_s _ _) Tryd.call52 rfl rfl) ?_
                      refine AOps.go rfl rfl rfl h78 (o_un _ rfl (fun _ => rfl) rfl) ?_
                      refine AOps.call (o_pickT _ _ _ rfl h78 rfl rfl) ?_
                      refine AOps.call (o_move _ rfl rfl) ?_
                      refine AOps.split rfl rfl rfl (fun h83 => ?_) (fun h83 => ?_)
                      · skip
                        refine AOps.go rfl rfl rfl h83 (o_move _ rfl rfl) ?_
                        refine AOps.go rfl rfl rfl h83 (o_bin _ _ rfl rfl (fun _ => rfl) rfl) ?_
                        refine AOps.go rfl rfl rfl h83 (o_move _ rfl rfl) ?_
                        refine AOps.split rfl rfl rfl (fun h85 => ?_) (fun h85 => ?_)
                        · skip
                          refine AOps.go rfl rfl rfl h85 (o_move _ rfl rfl) ?_
                          refine AOps.go rfl rfl rfl h85 (o_bin _ _ rfl rfl (fun _ => rfl) rfl) ?_
                          refine AOps.go rfl rfl rfl h83 (o_pickT _ _ _ rfl h85 rfl rfl) ?_
                          refine AOps.call (o_pickF _ _ _ rfl h83 rfl rfl) ?_
                          refine AOps.nil ?_
                          refine AWP.cond _ rfl (fun h87 => ?_) (fun h87 => ?_)
                          · skip
                            exfalso
                            first
                            | (simp at *; done)
                            | (simp_all [Narrow, Lies]; done)
                            | (simp_all [Narrow, Lies]; omega)
                          · skip
                            refine AWP.skip ?_
                            refine AWP.region ?_
                            refine AOps.call (o_add _ _ rfl rfl ⟨by (try dsimp only); omega, by (try dsimp only); omega⟩ rfl) ?_
                            refine AOps.call (o_move _ rfl rfl) ?_
                            refine AOps.nil ?_
                            refine ⟨l + 1, ?_, (Weak.mk' rfl ⟨⟨.refl rfl, rfl⟩, ⟨⟨.refl rfl, rfl⟩, ⟨⟨.refl rfl, rfl⟩, ⟨⟨.refl rfl, rfl⟩, ⟨⟨.refl rfl, rfl⟩, ⟨⟨.refl rfl, rfl⟩, ⟨⟨.refl rfl, hlow _⟩, ⟨⟨.refl rfl, rfl⟩, ⟨⟨.refl rfl, rfl⟩, ⟨⟨.refl rfl, rfl⟩, ⟨⟨.refl rfl, rfl⟩, ⟨⟨.refl rfl, rfl⟩, ⟨⟨.refl rfl, rfl⟩, ⟨⟨.refl rfl, rfl⟩, ⟨⟨.refl rfl, rfl⟩, ⟨⟨.refl rfl, rfl⟩, trivial⟩⟩⟩⟩⟩⟩⟩⟩⟩⟩⟩⟩⟩⟩⟩⟩ ⟨⟨rfl, rfl, rfl⟩, ⟨⟨rfl, rfl, rfl⟩, ⟨⟨rfl, rfl, rfl⟩, ⟨⟨rfl, rfl, rfl⟩, trivial⟩⟩⟩⟩ trivial)⟩
                            exact ⟨by omega, by omega⟩
                        · skip
                          refine AOps.pass rfl rfl rfl h85 rfl ?_
                          refine AOps.pass rfl rfl rfl h85 rfl ?_
                          refine AOps.go rfl rfl rfl h83 (o_pickF _ _ _ rfl h85 rfl rfl) ?_
                          refine AOps.call (o_pickF _ _ _ rfl h83 rfl rfl) ?_
                          refine AOps.nil ?_
                          refine AWP.condF rfl ?_
                          refine AWP.skip ?_
                          refine AWP.region ?_
                          refine AOps.call (o_add _ _ rfl rfl ⟨by (try dsimp only); omega, by (try dsimp only); omega⟩ rfl) ?_
                          refine AOps.call (o_move _ rfl rfl) ?_
                          refine AOps.nil ?_
                          refine ⟨l + 1, ?_, (Weak.mk' rfl ⟨⟨.refl rfl, rfl⟩, ⟨⟨.refl rfl, rfl⟩, ⟨⟨.refl rfl, rfl⟩, ⟨⟨.refl rfl, rfl⟩, ⟨⟨.refl rfl, rfl⟩, ⟨⟨.refl rfl, rfl⟩, ⟨⟨.refl rfl, hlow _⟩, ⟨⟨.refl rfl, rfl⟩, ⟨⟨.refl rfl, rfl⟩, ⟨⟨.refl rfl, rfl⟩, ⟨⟨.refl rfl, rfl⟩, ⟨⟨.refl rfl, rfl⟩, ⟨⟨.refl rfl, rfl⟩, ⟨⟨.refl rfl, rfl⟩, ⟨⟨.refl rfl, rfl⟩, ⟨⟨.refl rfl, rfl⟩, trivial⟩⟩⟩⟩⟩⟩⟩⟩⟩⟩⟩⟩⟩⟩⟩⟩ ⟨⟨rfl, rfl, rfl⟩, ⟨⟨rfl, rfl, rfl⟩, ⟨⟨rfl, rfl, rfl⟩, ⟨⟨rfl, rfl, rfl⟩, trivial⟩⟩⟩⟩ trivial)⟩
                          exact ⟨by omega, by omega⟩
                      · skip
                        refine AOps.pass rfl rfl rfl h83 rfl ?_
                        refine AOps.pass rfl rfl rfl h83 rfl ?_
                        refine AOps.pass rfl rfl rfl h83 rfl ?_
                        refine AOps.passU rfl rfl rfl rfl ?_
                        refine AOps.passU rfl rfl rfl rfl ?_
                        refine AOps.pass rfl rfl rfl h83 rfl ?_
                        refine AOps.call (o_pickT _ _ _ rfl h83 rfl rfl) ?_
                        refine AOps.nil ?_
                        refine AWP.condT rfl ?_
                        exfalso
                        first
                        | (simp at *; done)
                        | (simp_all [Narrow, Lies]; done)
                        | (simp_all [Narrow, Lies]; omega)
                    · skip
                      refine AOps.pass rfl rfl rfl h78 rfl ?_
                      refine AOps.pass rfl rfl rfl h78 rfl ?_
                      refine AOps.pass rfl rfl rfl h78 rfl ?_
                      refine AOps.pass rfl rfl rfl h78 rfl ?_
                      refine AOps.call (o_pickF _ _ _ rfl h78 rfl rfl) ?_
                      refine AOps.call (o_move _ rfl rfl) ?_
                      refine AOps.go rfl rfl rfl rfl (o_move _ rfl rfl) ?_
                      refine AOps.go rfl rfl rfl rfl (o_bin _ _ rfl rfl (fun _ => rfl) rfl) ?_
                      refine AOps.go rfl rfl rfl rfl (o_move _ rfl rfl) ?_
                      refine AOps.split rfl rfl rfl (fun h91 => ?_) (fun h91 => ?_)
                      · skip
                        refine AOps.go rfl rfl rfl h91 (o_move _ rfl rfl) ?_
                        refine AOps.go rfl rfl rfl h91 (o_bin _ _ rfl rfl (fun _ => rfl) rfl) ?_
                        refine AOps.go rfl rfl rfl rfl (o_pickT _ _ _ rfl h91 rfl rfl) ?_
                        refine AOps.call (o_pickF _ _ _ rfl rfl rfl rfl) ?_
                        refine AOps.nil ?_
                        refine AWP.cond _ rfl (fun h93 => ?_) (fun h93 => ?_)
                        · skip
                          exfalso
                          first
                          | (simp at *; done)
                          | (simp_all [Narrow, Lies]; done)
                          | (simp_all [Narrow, Lies]; omega)
                        · skip
                          refine AWP.skip ?_
                          refine AWP.region ?_
                          refine AOps.call (o_add _ _ rfl rfl ⟨by (try dsimp only); omega, by (try dsimp only); omega⟩ rfl) ?_
                          refine AOps.call (o_move _ rfl rfl) ?_
                          refine AOps.nil ?_
                          refine ⟨l + 1, ?_, (Weak.mk' rfl ⟨⟨.refl rfl, rfl⟩, ⟨⟨.refl rfl, rfl⟩, ⟨⟨.refl rfl, rfl⟩, ⟨⟨.refl rfl, rfl⟩, ⟨⟨.refl rfl, rfl⟩, ⟨⟨.refl rfl, rfl⟩, ⟨⟨.refl rfl, hlow _⟩, ⟨⟨.refl rfl, rfl⟩, ⟨⟨.refl rfl, rfl⟩, ⟨⟨.refl rfl, rfl⟩, ⟨⟨.refl rfl, rfl⟩, ⟨⟨.refl rfl, rfl⟩, ⟨⟨.refl rfl, rfl⟩, ⟨⟨.refl rfl, rfl⟩, ⟨⟨.refl rfl, rfl⟩, ⟨⟨.refl rfl, rfl⟩, trivial⟩⟩⟩⟩⟩⟩⟩⟩⟩⟩⟩⟩⟩⟩⟩⟩ ⟨⟨rfl, rfl, rfl⟩, ⟨⟨rfl, rfl, rfl⟩, ⟨⟨rfl, rfl, rfl⟩, ⟨⟨rfl, rfl, rfl⟩, trivial⟩⟩⟩⟩ trivial)⟩
                          exact ⟨by omega, by omega⟩
                      · skip
                        refine AOps.pass rfl rfl rfl h91 rfl ?_
                        refine AOps.pass rfl rfl rfl h91 rfl ?_
                        refine AOps.go rfl rfl rfl rfl (o_pickF _ _ _ rfl h91 rfl rfl) ?_
                        refine AOps.call (o_pickF _ _ _ rfl rfl rfl rfl) ?_
                        refine AOps.nil ?_
                        refine AWP.condF rfl ?_
                        refine AWP.skip ?_
                        refine AWP.region ?_
                        refine AOps.call (o_add _ _ rfl rfl ⟨by (try dsimp only); omega, by (try dsimp only); omega⟩ rfl) ?_
                        refine AOps.call (o_move _ rfl rfl) ?_
                        refine AOps.nil ?_
                        refine ⟨l + 1, ?_, (Weak.mk' rfl ⟨⟨.refl rfl, rfl⟩, ⟨⟨.refl rfl, rfl⟩, ⟨⟨.refl rfl, rfl⟩, ⟨⟨.refl rfl, rfl⟩, ⟨⟨.refl rfl, rfl⟩, ⟨⟨.refl rfl, rfl⟩, ⟨⟨.refl rfl, hlow _⟩, ⟨⟨.refl rfl, rfl⟩, ⟨⟨.refl rfl, rfl⟩, ⟨⟨.refl rfl, rfl⟩, ⟨⟨.refl rfl, rfl⟩, ⟨⟨.refl rfl, rfl⟩, ⟨⟨.refl rfl, rfl⟩, ⟨⟨.refl rfl, rfl⟩, ⟨⟨.refl rfl, rfl⟩, ⟨⟨.refl rfl, rfl⟩, trivial⟩⟩⟩⟩⟩⟩⟩⟩⟩⟩⟩⟩⟩⟩⟩⟩ ⟨⟨rfl, rfl, rfl⟩, ⟨⟨rfl, rfl, rfl⟩, ⟨⟨rfl, rfl, rfl⟩, ⟨⟨rfl, rfl, rfl⟩, trivial⟩⟩⟩⟩ trivial)⟩
                        exact ⟨by omega, by omega⟩
                  · skip
                    refine AOps.pass rfl rfl rfl h76 rfl ?_
                    refine AOps.pass rfl rfl rfl h76 rfl ?_
                    refine AOps.call (o_pickF _ _ _ rfl h76 rfl rfl) ?_
                    refine AOps.call (o_move _ rfl rfl) ?_
                    refine AOps.pass rfl rfl rfl rfl rfl ?_
                    refine AOps.pass rfl rfl rfl rfl rfl ?_
                    refine AOps.pass rfl rfl rfl rfl rfl ?_
                    refine AOps.pass rfl rfl rfl rfl rfl ?_
                    refine AOps.call (o_pickF _ _ _ rfl rfl rfl rfl) ?_
                    refine AOps.call (o_move _ rfl rfl) ?_
                    refine AOps.go rfl rfl rfl rfl (o_move _ rfl rfl) ?_
                    refine AOps.go rfl rfl rfl rfl (o_bin _ _ rfl rfl (fun _ => rfl) rfl) ?_
                    refine AOps.go rfl rfl rfl rfl (o_move _ rfl rfl) ?_
                    refine AOps.split rfl rfl rfl (fun h97 => ?_) (fun h97 => ?_)
                    · skip
                      refine AOps.go rfl rfl rfl h97 (o_move _ rfl rfl) ?_
                      refine AOps.go rfl rfl rfl h97 (o_bin _ _ rfl rfl (fun _ => rfl) rfl) ?_
                      refine AOps.go rfl rfl rfl rfl (o_pickT _ _ _ rfl h97 rfl rfl) ?_
                      refine AOps.call (o_pickF _ _ _ rfl rfl rfl rfl) ?_
                      refine AOps.nil ?_
                      refine AWP.cond _ rfl (fun h99 => ?_) (fun h99 => ?_)
                      · skip
                        exfalso
                        first
                        | (simp at *; done)
                        | (simp_all [Narrow, Lies]; done)
                        | (simp_all [Narrow, Lies]; omega)
                      · skip
                        refine AWP.skip ?_
                        refine AWP.region ?_
                        refine AOps.call (o_add _ _ rfl rfl ⟨by (try dsimp only); omega, by (try dsimp only); omega⟩ rfl) ?_
                        refine AOps.call (o_move _ rfl rfl) ?_
                        refine AOps.nil ?_
                        refine ⟨l + 1, ?_, (Weak.mk' rfl ⟨⟨.refl rfl, rfl⟩, ⟨⟨.refl rfl, rfl⟩, ⟨⟨.refl rfl, rfl⟩, ⟨⟨.refl rfl, rfl⟩, ⟨⟨.refl rfl, rfl⟩, ⟨⟨.refl rfl, rfl⟩, ⟨⟨.refl rfl, hlow _⟩, ⟨⟨.refl rfl, rfl⟩, ⟨⟨.refl rfl, rfl⟩, ⟨⟨.refl rfl, rfl⟩, ⟨⟨.refl rfl, rfl⟩, ⟨⟨.refl rfl, rfl⟩, ⟨⟨.refl rfl, rfl⟩, ⟨⟨.refl rfl, rfl⟩, ⟨⟨.refl rfl, rfl⟩, ⟨⟨.refl rfl, rfl⟩, trivial⟩⟩⟩⟩⟩⟩⟩⟩⟩⟩⟩⟩⟩⟩⟩⟩ ⟨⟨rfl, rfl, rfl⟩, ⟨⟨rfl, rfl, rfl⟩, ⟨⟨rfl, rfl, rfl⟩, ⟨⟨rfl, rfl, rfl⟩, trivial⟩⟩⟩⟩ trivial)⟩
                        exact ⟨by omega, by omega⟩
                    · skip
                      refine AOps.pass rfl rfl rfl h97 rfl ?_
                      refine AOps.pass rfl rfl rfl h97 rfl ?_
                      refine AOps.go rfl rfl rfl rfl (o_pickF _ _ _ rfl h97 rfl rfl) ?_
                      refine AOps.call (o_pickF _ _ _ rfl rfl rfl rfl) ?_
                      refine AOps.nil ?_
                      refine AWP.condF rfl ?_
                      refine AWP.skip ?_
                      refine AWP.region ?_
                      refine AOps.call (o_add _ _ rfl rfl ⟨by (try dsimp only); omega, by (try dsimp only); omega⟩ rfl) ?_
                      refine AOps.call (o_move _ rfl rfl) ?_
                      refine AOps.nil ?_
                      refine ⟨l + 1, ?_, (Weak.mk' rfl ⟨⟨.refl rfl, rfl⟩, ⟨⟨.refl rfl, rfl⟩, ⟨⟨.refl rfl, rfl⟩, ⟨⟨.refl rfl, rfl⟩, ⟨⟨.refl rfl, rfl⟩, ⟨⟨.refl rfl, rfl⟩, ⟨⟨.refl rfl, hlow _⟩, ⟨⟨.refl rfl, rfl⟩, ⟨⟨.refl rfl, rfl⟩, ⟨⟨.refl rfl, rfl⟩, ⟨⟨.refl rfl, rfl⟩, ⟨⟨.refl rfl, rfl⟩, ⟨⟨.refl rfl, rfl⟩, ⟨⟨.refl rfl, rfl⟩, ⟨⟨.refl rfl, rfl⟩, ⟨⟨.refl rfl, rfl⟩, trivial⟩⟩⟩⟩⟩⟩⟩⟩⟩⟩⟩⟩⟩⟩⟩⟩ ⟨⟨rfl, rfl, rfl⟩, ⟨⟨rfl, rfl, rfl⟩, ⟨⟨rfl, rfl, rfl⟩, ⟨⟨rfl, rfl, rfl⟩, trivial⟩⟩⟩⟩ trivial)⟩
                      exact ⟨by omega, by omega⟩
                · skip
                  refine AWP.exit ?_
                  refine AWP.region ?_
                  refine AOps.call (o_add _ _ rfl rfl ⟨by (try dsimp only); omega, by (try dsimp only); omega⟩ rfl) ?_
                  refine AOps.call (o_move _ rfl rfl) ?_
                  refine AOps.nil ?_
                  refine ⟨j + 1, ?_, (Weak.mk' rfl ⟨⟨.refl rfl, rfl⟩, ⟨⟨.refl rfl, rfl⟩, ⟨⟨.refl rfl, rfl⟩, ⟨⟨.refl rfl, rfl⟩, ⟨⟨.refl rfl, rfl⟩, ⟨⟨.refl rfl, rfl⟩, ⟨⟨.refl rfl, hlow _⟩, ⟨⟨.refl rfl, rfl⟩, ⟨⟨.refl rfl, rfl⟩, ⟨⟨.refl rfl, rfl⟩, ⟨⟨.refl rfl, rfl⟩, ⟨⟨.refl rfl, rfl⟩, trivial⟩⟩⟩⟩⟩⟩⟩⟩⟩⟩⟩⟩ ⟨⟨rfl, rfl, rfl⟩, ⟨⟨rfl, rfl, rfl⟩, ⟨⟨rfl, rfl, rfl⟩, trivial⟩⟩⟩ trivial)⟩
                  exact ⟨by omega, by omega⟩
              · skip
                refine AWP.exit ?_
                refine AWP.region ?_
                refine AOps.call (o_add _ _ rfl rfl ⟨by (try dsimp only); omega, by (try dsimp only); omega⟩ rfl) ?_
                refine AOps.call (o_move _ rfl rfl) ?_
                refine AOps.nil ?_
                refine ⟨k + 1, ?_, (Weak.mk' rfl ⟨⟨.refl rfl, rfl⟩, ⟨⟨.refl rfl, rfl⟩, ⟨⟨.refl rfl, rfl⟩, ⟨⟨.refl rfl, rfl⟩, ⟨⟨.refl rfl, rfl⟩, ⟨⟨.refl rfl, rfl⟩, trivial⟩⟩⟩⟩⟩⟩ ⟨⟨rfl, rfl, rfl⟩, ⟨⟨rfl, rfl, rfl⟩, trivial⟩⟩ trivial)⟩
                exact ⟨by omega, by omega⟩
            · skip
              refine AWP.exit ?_
              refine AWP.seq ?_
              refine AWP.region ?_
              refine AOps.call (o_assign _ rfl rfl) ?_
              refine AOps.nil ?_
              refine AWP.ret ?_
              first
              | exact postQ.ret1 Tryd.results9 rfl rfl
              | (exfalso; simp at *; done)
              | (exfalso; simp_all; done)
              | (refine postQ.ret1 Tryd.results9 rfl ?_; simp [AV.close, B]; done)
      · skip
        refine AOps.pass rfl rfl rfl h18 rfl ?_
        refine AOps.pass rfl rfl rfl h18 rfl ?_
        refine AOps.pass rfl rfl rfl h18 rfl ?_
        refine AOps.pass rfl rfl rfl h18 rfl ?_
        refine AOps.pass rfl rfl rfl h18 rfl ?_
        refine AOps.call (o_pickT _ _ _ rfl h18 rfl rfl) ?_
        refine AOps.nil ?_
        refine AWP.condT rfl ?_
        refine AWP.seq ?_
        refine AWP.region ?_
        refine AOps.call (o_assign _ rfl rfl) ?_
        refine AOps.nil ?_
        refine AWP.ret ?_
        first
        | exact postQ.ret1 Tryd.results9 rfl rfl
        | (exfalso; simp at *; done)
        | (exfalso; simp_all; done)
        | (refine postQ.ret1 Tryd.results9 rfl ?_; simp [AV.close, B]; done)
    · skip
      refine AOps.pass rfl rfl rfl h13 rfl ?_
      refine AOps.pass rfl rfl rfl h13 rfl ?_
      refine AOps.pass rfl rfl rfl h13 rfl ?_
      refine AOps.pass rfl rfl rfl h13 rfl ?_
      refine AOps.call (o_pickT _ _ _ rfl h13 rfl rfl) ?_
      refine AOps.call (o_move _ rfl rfl) ?_
      refine AOps.pass rfl rfl rfl rfl rfl ?_
      refine AOps.pass rfl rfl rfl rfl rfl ?_
      refine AOps.pass rfl rfl rfl rfl rfl ?_
      refine AOps.pass rfl rfl rfl rfl rfl ?_
      refine AOps.pass rfl rfl rfl rfl rfl ?_
      refine AOps.call (o_pickT _ _ _ rfl rfl rfl rfl) ?_
      refine AOps.nil ?_
      refine AWP.condT rfl ?_
      refine AWP.seq ?_
      refine AWP.region ?_
      refine AOps.call (o_assign _ rfl rfl) ?_
      refine AOps.nil ?_
      refine AWP.ret ?_
      first
      | exact postQ.ret1 Tryd.results9 rfl rfl
      | (exfalso; simp at *; done)
      | (exfalso; simp_all; done)
      | (refine postQ.ret1 Tryd.results9 rfl ?_; simp [AV.close, B]; done)


set_option maxRecDepth 20000 in
theorem CourseMore_b (c : Scl) (t : Tst) (h : Sht) (sk d0 d1 d2 d3 : Int) (hz : ¬ addE c t = 0) : FSpecG Tryd.prog TAB 9 [.agg (eS c), .agg (eT t), .agg (eH h), I sk, .agg [I d0, I d1, I d2, I d3]] (B true) (none) := by
  refine FSpecG.of_body tab_stable Tryd.func9 rfl (leB rfl) fun w0 M0 hG => ?_
  have hA := AddTest_s c t
  rw [if_neg hz] at hA
  generalize addE c t = e at *
  have hfin : d2 ≤ d3 → ∀ x ∈ [c, c], ∀ d ∈ [d2, d3], Finer c d2 x d := by
    intro hd x hx d hdd
    have hle : d2 ≤ d := by simp at hdd; rcases hdd with rfl | rfl <;> omega
    simp at hx
    subst hx
    exact Finer.day hle
  refine AWP.seq ?_
  refine AWP.region ?_
  refine AOps.call (o_box _ rfl rfl rfl) ?_
  refine AOps.call (o_box _ rfl rfl rfl) ?_
  refine AOps.call (o_box _ rfl rfl rfl) ?_
  refine AOps.call (o_box _ rfl rfl rfl) ?_
  refine AOps.call (o_box _ rfl rfl rfl) ?_
  refine AOps.call (o_assign _ rfl rfl) ?_
  refine AOps.nil ?_
  refine AWP.seq ?_
  refine AWP.seq ?_
  refine AWP.region ?_
  refine AOps.call (o_callG (sane_s) hG Tryd.call12 rfl rfl) ?_
  refine AOps.call (o_un _ rfl (fun _ => rfl) rfl) ?_
  refine AOps.nil ?_
  refine AWP.cond _ rfl (fun h8 => ?_) (fun h8 => ?_)
  · skip
    refine AWP.seq ?_
    refine AWP.region ?_
    refine AOps.call (o_assign _ rfl rfl) ?_
    refine AOps.nil ?_
    refine AWP.ret ?_
    first
    | exact postQ.ret1 Tryd.results9 rfl rfl
    | (exfalso; simp at *; done)
    | (exfalso; simp_all; done)
    | (refine postQ.ret1 Tryd.results9 rfl ?_; simp [AV.close, B]; done)
  · skip
    refine AWP.skip ?_
    refine AWP.seq ?_
    refine AWP.seq ?_
    refine AWP.region ?_
    refine AOps.call (o_fieldRef _ rfl fa24_2 rfl rfl) ?_
    refine AOps.call (o_loadRef _ rfl rfl Tryd.sizeOf22 Tryd.isAgg22 rfl rfl rfl) ?_
    refine AOps.call (o_len _ Tryd.underlying22 rfl rfl) ?_
    refine AOps.call (o_bin _ _ rfl rfl (fun _ => rfl) rfl) ?_
    refine AOps.call (o_move _ rfl rfl) ?_
    refine AOps.split rfl rfl rfl (fun h13 => ?_) (fun h13 => ?_)
    · skip
      refine AOps.go rfl rfl rfl h13 (o_fieldRef _ rfl fa54_8 rfl rfl) ?_
      refine AOps.go rfl rfl rfl h13 (o_loadRef _ rfl rfl Tryd.sizeOf52 Tryd.isAgg52 rfl rfl rfl) ?_
      refine AOps.go rfl rfl rfl h13 (o_len _ Tryd.underlying52 rfl rfl) ?_
      refine AOps.go rfl rfl rfl h13 (o_bin _ _ rfl rfl (fun _ => rfl) rfl) ?_
      refine AOps.call (o_pickF _ _ _ rfl h13 rfl rfl) ?_
      refine AOps.call (o_move _ rfl rfl) ?_
      refine AOps.split rfl rfl rfl (fun h18 => ?_) (fun h18 => ?_)
      · skip
        refine AOps.go rfl rfl rfl h18 (ok_indexAddr_arr _ _ Tryd.underlying69 Tryd.sizeOf3 rfl rfl (by omega) (by omega) (okD rfl)) ?_
        refine AOps.go rfl rfl rfl h18 (o_loadRef _ rfl rfl Tryd.sizeOf3 Tryd.isAgg3 rfl rfl rfl) ?_
        refine AOps.go rfl rfl rfl h18 (ok_indexAddr_arr _ _ Tryd.underlying69 Tryd.sizeOf3 rfl rfl (by omega) (by omega) (okD rfl)) ?_
        refine AOps.go rfl rfl rfl h18 (o_loadRef _ rfl rfl Tryd.sizeOf3 Tryd.isAgg3 rfl rfl rfl) ?_
        refine AOps.go rfl rfl rfl h18 (o_bin _ _ rfl rfl (fun _ => rfl) rfl) ?_
        refine AOps.call (o_pickF _ _ _ rfl h18 rfl rfl) ?_
        refine AOps.nil ?_
        refine AWP.cond _ rfl (fun h24 => ?_) (fun h24 => ?_)
        · skip
          refine AWP.seq ?_
          refine AWP.region ?_
          refine AOps.call (o_assign _ rfl rfl) ?_
          refine AOps.nil ?_
          refine AWP.ret ?_
          first
          | exact postQ.ret1 Tryd.results9 rfl rfl
          | (exfalso; simp at *; done)
          | (exfalso; simp_all; done)
          | (refine postQ.ret1 Tryd.results9 rfl ?_; simp [AV.close, B]; done)
        · skip
          have hd23 : d2 ≤ d3 := by simp at h24; omega
          have hfin := hfin hd23
          refine AWP.skip ?_
          refine AWP.seq ?_
          refine AWP.region ?_
          refine AOps.call (o_loadRef _ rfl rfl Tryd.sizeOf24 Tryd.isAgg24 rfl rfl rfl) ?_
          refine AOps.call (o_loadRef _ rfl rfl Tryd.sizeOf26 Tryd.isAgg26 rfl rfl rfl) ?_
          refine AOps.call (o_call (hA) Tryd.call15 rfl rfl) ?_
          refine AOps.call (o_move _ rfl rfl) ?_
          refine AOps.call (o_extract _ rfl rfl rfl rfl) ?_
          refine AOps.call (o_extract _ rfl rfl rfl rfl) ?_
          refine AOps.call (o_alloc ze24 rfl rfl) ?_
          refine AOps.cons (o_store _ _ rfl rfl Tryd.sizeOf24 rfl rfl rfl rfl rfl) ?_
          refine AOps.call (o_assign _ rfl rfl) ?_
          refine AOps.nil ?_
          refine AWP.seq ?_
          refine AWP.seq ?_
          refine AWP.region ?_
          refine AOps.call (o_move _ rfl rfl) ?_
          refine AOps.call (o_bin _ _ rfl rfl (fun _ => rfl) rfl) ?_
          refine AOps.nil ?_
          refine AWP.cond _ rfl (fun h32 => ?_) (fun h32 => ?_)
          · skip
            refine AWP.region ?_
            refine AOps.call (o_loadRef _ rfl rfl Tryd.sizeOf24 Tryd.isAgg24 rfl rfl rfl) ?_
            refine AOps.cons (o_store _ _ rfl rfl Tryd.sizeOf24 rfl rfl rfl rfl rfl) ?_
            refine AOps.nil ?_
            refine AWP.seq ?_
            refine AWP.seq ?_
            refine AWP.region ?_
            refine AOps.weak (Weak.frzv (id := (9, 0)) (t := 9) rfl rfl rfl) ?_
            refine AOps.weak (Weak.frzv (id := (7, 0)) (t := 7) rfl rfl rfl) ?_
            refine AOps.weak (Weak.frzv (id := (8, 0)) (t := 8) rfl rfl rfl) ?_
            refine AOps.call (o_makeClo rfl rfl) ?_
            refine AOps.call (o_makeClo rfl rfl) ?_
            refine AOps.call (o_makeClo rfl rfl) ?_
            refine AOps.call (o_makeClo rfl rfl) ?_
            refine AOps.call (o_makeClo rfl rfl) ?_
            refine AOps.call (o_makeClo rfl rfl) ?_
            refine AOps.call (o_lit Tryd.underlying72 Tryd.sizeOf73 Tryd.zeroValue73 rfl rfl rfl rfl rfl rfl rfl) ?_
            refine AOps.call (o_len _ Tryd.underlying72 rfl rfl) ?_
            refine AOps.call (o_move _ rfl rfl) ?_
            refine AOps.nil ?_
            refine AWP.block ?_
            refine AWP.loop (ι := Nat) (fun i => AS.mk' 115 [(5, .ref (5, 0) 0), (9, .rd [I d0, I d1, I d2, I d3]), (11, .ref (11, 0) 0), (57, .sl (moreF h sk d0 d1 d2 d3)), (58, I 6), (59, I i)] [((5, 0), eS c), ((11, 0), eS c)] [] [(5, 1), (11, 1)]) (fun i => i ≤ 6) (fun i => 6 - i) (0) (Weak.mk' rfl ⟨⟨.refl rfl, rfl⟩, ⟨⟨.refl rfl, rfl⟩, ⟨⟨.refl rfl, rfl⟩, ⟨⟨.sl rfl, rfl⟩, ⟨⟨.refl rfl, rfl⟩, ⟨⟨.refl rfl, rfl⟩, trivial⟩⟩⟩⟩⟩⟩ ⟨⟨rfl, rfl, rfl⟩, ⟨⟨rfl, rfl, rfl⟩, trivial⟩⟩ trivial) (Nat.zero_le _) ?_
            rintro k hk
            try dsimp only at *
            refine AWP.seq ?_
            refine AWP.region ?_
            refine AOps.call (o_bin _ _ rfl rfl (fun _ => rfl) rfl) ?_
            refine AOps.nil ?_
            refine AWP.seq ?_
            refine AWP.cond _ rfl (fun h44 => ?_) (fun h44 => ?_)
            · skip
              have hk6 : k < 6 := by simp at h44; omega
              obtain ⟨F, caps, E, R, hel, hcl, hlow, hsp, hbo, hnar⟩ := moreF_get h sk d0 d1 d2 d3 k hk6
              refine AWP.skip ?_
              refine AWP.seq ?_
              refine AWP.block ?_
              refine AWP.seq ?_
              refine AWP.region ?_
              refine AOps.call (o_index _ _ Tryd.underlying72 Tryd.sizeOf73 rfl rfl (by omega) (by assumption) rfl rfl) ?_
              refine AOps.call (o_loadRd _ rfl Tryd.sizeOf73 Tryd.isAgg73 rfl rfl rfl) ?_
              refine AOps.call (o_assign _ rfl rfl) ?_
              refine AOps.nil ?_
              refine AWP.seq ?_
              refine AWP.region ?_
              refine AOps.call (o_move _ rfl rfl) ?_
              refine AOps.call (o_loadRef _ rfl rfl Tryd.sizeOf24 Tryd.isAgg24 rfl rfl rfl) ?_
              refine AOps.call (o_indexArrRd _ _ Tryd.underlying69 Tryd.sizeOf3 rfl rfl (by omega) (by omega) rfl rfl) ?_
              refine AOps.call (o_loadRd _ rfl Tryd.sizeOf3 Tryd.isAgg3 rfl rfl rfl) ?_
              refine AOps.call (o_callV (cl := [.agg (eS c), I d2]) (ccl := caps) _ rfl (hsp c d2) hbo rfl hcl rfl) ?_
              refine AOps.call (o_move _ rfl rfl) ?_
              refine AOps.call (o_extract _ rfl rfl rfl rfl) ?_
              refine AOps.call (o_extract _ rfl rfl rfl rfl) ?_
              refine AOps.call (o_alloc ze40 rfl rfl) ?_
              refine AOps.cons (o_store _ _ rfl rfl Tryd.sizeOf40 rfl rfl rfl rfl rfl) ?_
              refine AOps.call (o_assign _ rfl rfl) ?_
              refine AOps.nil ?_
              refine AWP.seq ?_
              refine AWP.region ?_
              refine AOps.call (o_loadRef _ rfl rfl Tryd.sizeOf24 Tryd.isAgg24 rfl rfl rfl) ?_
              refine AOps.call (o_loadRef _ rfl rfl Tryd.sizeOf24 Tryd.isAgg24 rfl rfl rfl) ?_
              refine AOps.call (o_lit Tryd.underlying74 Tryd.sizeOf24 Tryd.zeroValue24 rfl rfl rfl rfl rfl rfl rfl) ?_
              refine AOps.call (o_len _ Tryd.underlying74 rfl rfl) ?_
              refine AOps.call (o_move _ rfl rfl) ?_
              refine AOps.nil ?_
              refine AWP.block ?_
              refine AWP.loop (ι := Nat) (fun i => AS.mk' 115 [(5, .ref (5, 0) 0), (9, .rd [I d0, I d1, I d2, I d3]), (11, .ref (11, 0) 0), (57, .sl (moreF h sk d0 d1 d2 d3)), (58, I 6), (59, I k), (14, .clo F caps), (15, .ref (15, 0) 0), (16, I (E c d2)), (73, .sl ([c, c].map eS)), (74, I 2), (75, I i)] [((5, 0), eS c), ((11, 0), eS c), ((15, 0), eP (R c d2))] [] [(5, 1), (11, 1), (15, 1)]) (fun i => i ≤ 2) (fun i => 2 - i) (0) (Weak.mk' rfl ⟨⟨.refl rfl, rfl⟩, ⟨⟨.refl rfl, rfl⟩, ⟨⟨.refl rfl, rfl⟩, ⟨⟨.refl rfl, rfl⟩, ⟨⟨.refl rfl, rfl⟩, ⟨⟨.refl rfl, rfl⟩, ⟨⟨.refl rfl, hlow _⟩, ⟨⟨.refl rfl, rfl⟩, ⟨⟨.refl rfl, rfl⟩, ⟨⟨.sl rfl, rfl⟩, ⟨⟨.refl rfl, rfl⟩, ⟨⟨.refl rfl, rfl⟩, trivial⟩⟩⟩⟩⟩⟩⟩⟩⟩⟩⟩⟩ ⟨⟨rfl, rfl, rfl⟩, ⟨⟨rfl, rfl, rfl⟩, ⟨⟨rfl, rfl, rfl⟩, trivial⟩⟩⟩ trivial) (Nat.zero_le _) ?_
              rintro j hj
              try dsimp only at *
              refine AWP.seq ?_
              refine AWP.region ?_
              refine AOps.call (o_bin _ _ rfl rfl (fun _ => rfl) rfl) ?_
              refine AOps.nil ?_
              refine AWP.seq ?_
              refine AWP.cond _ rfl (fun h60 => ?_) (fun h60 => ?_)
              · skip
                have hj3 : j < 2 := by simp at h60; omega
                have hj2 : j < [c, c].length := hj3
                have hel := scls_get hj2
                refine AWP.skip ?_
                refine AWP.seq ?_
                refine AWP.block ?_
                refine AWP.seq ?_
                refine AWP.region ?_
                refine AOps.call (o_index _ _ Tryd.underlying74 Tryd.sizeOf24 rfl rfl (by omega) (by assumption) rfl rfl) ?_
                refine AOps.call (o_loadRd _ rfl Tryd.sizeOf24 Tryd.isAgg24 rfl rfl rfl) ?_
                refine AOps.call (o_alloc ze24 rfl rfl) ?_
                refine AOps.cons (o_store _ _ rfl rfl Tryd.sizeOf24 rfl rfl rfl rfl rfl) ?_
                refine AOps.nil ?_
                refine AWP.seq ?_
                refine AWP.region ?_
                refine AOps.call (o_sliceRd _ _ Tryd.underlying69 Tryd.sizeOf3 rfl rfl rfl (by omega) rfl rfl) ?_
                refine AOps.call (o_len _ Tryd.underlying45 rfl rfl) ?_
                refine AOps.call (o_move _ rfl rfl) ?_
                refine AOps.nil ?_
                refine AWP.block ?_
                refine AWP.loop (ι := Nat) (fun i => AS.mk' 115 [(5, .ref (5, 0) 0), (9, .rd [I d0, I d1, I d2, I d3]), (11, .ref (11, 0) 0), (57, .sl (moreF h sk d0 d1 d2 d3)), (58, I 6), (59, I k), (14, .clo F caps), (15, .ref (15, 0) 0), (16, I (E c d2)), (73, .sl ([c, c].map eS)), (74, I 2), (75, I j), (18, .ref (18, 0) 0), (79, .sl (ints [d2, d3])), (80, I 2), (81, I i)] [((5, 0), eS c), ((11, 0), eS c), ((15, 0), eP (R c d2)), ((18, 0), eS ([c, c][j]))] [] [(5, 1), (11, 1), (15, 1), (18, 1)]) (fun i => i ≤ 2) (fun i => 2 - i) (0) (Weak.mk' rfl ⟨⟨.refl rfl, rfl⟩, ⟨⟨.refl rfl, rfl⟩, ⟨⟨.refl rfl, rfl⟩, ⟨⟨.refl rfl, rfl⟩, ⟨⟨.refl rfl, rfl⟩, ⟨⟨.refl rfl, rfl⟩, ⟨⟨.refl rfl, hlow _⟩, ⟨⟨.refl rfl, rfl⟩, ⟨⟨.refl rfl, rfl⟩, ⟨⟨.refl rfl, rfl⟩, ⟨⟨.refl rfl, rfl⟩, ⟨⟨.refl rfl, rfl⟩, ⟨⟨.refl rfl, rfl⟩, ⟨⟨.refl rfl, rfl⟩, ⟨⟨.refl rfl, rfl⟩, ⟨⟨.refl rfl, rfl⟩, trivial⟩⟩⟩⟩⟩⟩⟩⟩⟩⟩⟩⟩⟩⟩⟩⟩ ⟨⟨rfl, rfl, rfl⟩, ⟨⟨rfl, rfl, rfl⟩, ⟨⟨rfl, rfl, rfl⟩, ⟨⟨rfl, rfl, rfl⟩, trivial⟩⟩⟩⟩ trivial) (Nat.zero_le _) ?_
                rintro l hl
                try dsimp only at *
                refine AWP.seq ?_
                refine AWP.region ?_
                refine AOps.call (o_bin _ _ rfl rfl (fun _ => rfl) rfl) ?_
                refine AOps.nil ?_
                refine AWP.seq ?_
                refine AWP.cond _ rfl (fun h68 => ?_) (fun h68 => ?_)
                · skip
                  have hl3 : l < 2 := by simp at h68; omega
                  have hl2 : l < [d2, d3].length := hl3
                  have hel := ints_get hl2
                  have hN := hnar c d2 [c, c][j] [d2, d3][l] (hfin _ (List.getElem_mem hj2) _ (List.getElem_mem hl2))
                  have hB := hsp [c, c][j] [d2, d3][l]
                  refine AWP.skip ?_
                  refine AWP.seq ?_
                  refine AWP.block ?_
                  refine AWP.seq ?_
                  refine AWP.region ?_
                  refine AOps.call (o_index _ _ Tryd.underlying45 Tryd.sizeOf3 rfl rfl (by omega) (by assumption) rfl rfl) ?_
                  refine AOps.call (o_loadRd _ rfl Tryd.sizeOf3 Tryd.isAgg3 rfl rfl rfl) ?_
                  refine AOps.call (o_assign _ rfl rfl) ?_
                  refine AOps.nil ?_
                  refine AWP.seq ?_
                  refine AWP.region ?_
                  refine AOps.call (o_move _ rfl rfl) ?_
                  refine AOps.call (o_loadRef _ rfl rfl Tryd.sizeOf24 Tryd.isAgg24 rfl rfl rfl) ?_
                  refine AOps.call (o_move _ rfl rfl) ?_
                  refine AOps.call (o_callV (cl := [.agg (eS ([c, c][j])), I [d2, d3][l]]) (ccl := caps) _ rfl (hB) hbo rfl hcl rfl) ?_
                  refine AOps.call (o_move _ rfl rfl) ?_
                  refine AOps.call (o_extract _ rfl rfl rfl rfl) ?_
                  refine AOps.call (o_extract _ rfl rfl rfl rfl) ?_
                  refine AOps.call (o_alloc ze40 rfl rfl) ?_
                  refine AOps.cons (o_store _ _ rfl rfl Tryd.sizeOf40 rfl rfl rfl rfl rfl) ?_
                  refine AOps.call (o_assign _ rfl rfl) ?_
                  refine AOps.nil ?_
                  refine AWP.seq ?_
                  refine AWP.region ?_
                  refine AOps.call (o_move _ rfl rfl) ?_
                  refine AOps.call (o_bin _ _ rfl rfl (fun _ => rfl) rfl) ?_
                  refine AOps.call (o_move _ rfl rfl) ?_
                  refine AOps.split rfl rfl rfl (fun h77 => ?_) (fun h77 => ?_)
                  · skip
                    refine AOps.go rfl rfl rfl h77 (o_move _ rfl rfl) ?_
                    refine AOps.go rfl rfl rfl h77 (o_bin _ _ rfl rfl (fun _ => rfl) rfl) ?_
                    refine AOps.call (o_pickT _ _ _ rfl h77 rfl rfl) ?_
                    refine AOps.call (o_move _ rfl rfl) ?_
                    refine AOps.split rfl rfl rfl (fun h79 => ?_) (fun h79 => ?_)
                    · skip
                      refine AOps.go rfl rfl rfl h79 (o_loadRef _ rfl rfl Tryd.sizeOf40 Tryd.isAgg40 rfl rfl rfl) ?_
                      refine AOps.go rfl rfl rfl h79 (o_loadRef _ rfl rfl Tryd.sizeOf40 Tryd.isAgg40 rfl rfl rfl) ?_
                      refine AOps.go rfl rfl rfl h79 (o_call (inside_s _ _) Tryd.call52 rfl rfl) ?_
                      refine AOps.go rfl rfl rfl h79 (o_un _ rfl (fun _ => rfl) rfl) ?_
                      refine AOps.call (o_pickT _ _ _ rfl h79 rfl rfl) ?_
                      refine AOps.call (o_move _ rfl rfl) ?_
                      refine AOps.split rfl rfl rfl (fun h84 => ?_) (fun h84 => ?_)
                      · skip
                        refine AOps.go rfl rfl rfl h84 (o_move _ rfl rfl) ?_
                        refine AOps.go rfl rfl rfl h84 (o_bin _ _ rfl rfl (fun _ => rfl) rfl) ?_
                        refine AOps.go rfl rfl rfl h84 (o_move _ rfl rfl) ?_
                        refine AOps.split rfl rfl rfl (fun h86 => ?_) (fun h86 => ?_)
                        · skip
                          refine AOps.go rfl rfl rfl h86 (o_move _ rfl rfl) ?_
                          refine AOps.go rfl rfl rfl h86 (o_bin _ _ rfl rfl (fun _ => rfl) rfl) ?_
                          refine AOps.go rfl rfl rfl h84 (o_pickT _ _ _ rfl h86 rfl rfl) ?_
                          refine AOps.call (o_pickF _ _ _ rfl h84 rfl rfl) ?_
                          refine AOps.nil ?_
                          refine AWP.cond _ rfl (fun h88 => ?_) (fun h88 => ?_)
                          · skip
                            exfalso
                            first
                            | (simp at *; done)
                            | (simp_all [Narrow, Lies]; done)
                            | (simp_all [Narrow, Lies]; omega)
                          · skip
                            refine AWP.skip ?_
                            refine AWP.region ?_
                            refine AOps.call (o_add _ _ rfl rfl ⟨by (try dsimp only); omega, by (try dsimp only); omega⟩ rfl) ?_
                            refine AOps.call (o_move _ rfl rfl) ?_
                            refine AOps.nil ?_
                            refine ⟨l + 1, ?_, (Weak.mk' rfl ⟨⟨.refl rfl, rfl⟩, ⟨⟨.refl rfl, rfl⟩, ⟨⟨.refl rfl, rfl⟩, ⟨⟨.refl rfl, rfl⟩, ⟨⟨.refl rfl, rfl⟩, ⟨⟨.refl rfl, rfl⟩, ⟨⟨.refl rfl, hlow _⟩, ⟨⟨.refl rfl, rfl⟩, ⟨⟨.refl rfl, rfl⟩, ⟨⟨.refl rfl, rfl⟩, ⟨⟨.refl rfl, rfl⟩, ⟨⟨.refl rfl, rfl⟩, ⟨⟨.refl rfl, rfl⟩, ⟨⟨.refl rfl, rfl⟩, ⟨⟨.refl rfl, rfl⟩, ⟨⟨.refl rfl, rfl⟩, trivial⟩⟩⟩⟩⟩⟩⟩⟩⟩⟩⟩⟩⟩⟩⟩⟩ ⟨⟨rfl, rfl, rfl⟩, ⟨⟨rfl, rfl, rfl⟩, ⟨⟨rfl, rfl, rfl⟩, ⟨⟨rfl, rfl, rfl⟩, trivial⟩⟩⟩⟩ trivial)⟩
                            exact ⟨by omega, by omega⟩
                        · skip
                          refine AOps.pass rfl rfl rfl h86 rfl ?_
                          refine AOps.pass rfl rfl rfl h86 rfl ?_
                          refine AOps.go rfl rfl rfl h84 (o_pickF _ _ _ rfl h86 rfl rfl) ?_
                          refine AOps.call (o_pickF _ _ _ rfl h84 rfl rfl) ?_
                          refine AOps.nil ?_
                          refine AWP.condF rfl ?_
                          refine AWP.skip ?_
                          refine AWP.region ?_
                          refine AOps.call (o_add _ _ rfl rfl ⟨by (try dsimp only); omega, by (try dsimp only); omega⟩ rfl) ?_
                          refine AOps.call (o_move _ rfl rfl) ?_
                          refine AOps.nil ?_
                          refine ⟨l + 1, ?_, (Weak.mk' rfl ⟨⟨.refl rfl, rfl⟩, ⟨⟨.refl rfl, rfl⟩, ⟨⟨.refl rfl, rfl⟩, ⟨⟨.refl rfl, rfl⟩, ⟨⟨.refl rfl, rfl⟩, ⟨⟨.refl rfl, rfl⟩, ⟨⟨.refl rfl, hlow _⟩, ⟨⟨.refl rfl, rfl⟩, ⟨⟨.refl rfl, rfl⟩, ⟨⟨.refl rfl, rfl⟩, ⟨⟨.refl rfl, rfl⟩, ⟨⟨.refl rfl, rfl⟩, ⟨⟨.refl rfl, rfl⟩, ⟨⟨.refl rfl, rfl⟩, ⟨⟨.refl rfl, rfl⟩, ⟨⟨.refl rfl, rfl⟩, trivial⟩⟩⟩⟩⟩⟩⟩⟩⟩⟩⟩⟩⟩⟩⟩⟩ ⟨⟨rfl, rfl, rfl⟩, ⟨⟨rfl, rfl, rfl⟩, ⟨⟨rfl, rfl, rfl⟩, ⟨⟨rfl, rfl, rfl⟩, trivial⟩⟩⟩⟩ trivial)⟩
                          exact ⟨by omega, by omega⟩
                      · skip
                        refine AOps.pass rfl rfl rfl h84 rfl ?_
                        refine AOps.pass rfl rfl rfl h84 rfl ?_
                        refine AOps.pass rfl rfl rfl h84 rfl ?_
                        refine AOps.passU rfl rfl rfl rfl ?_
                        refine AOps.passU rfl rfl rfl rfl ?_
                        refine AOps.pass rfl rfl rfl h84 rfl ?_
                        refine AOps.call (o_pickT _ _ _ rfl h84 rfl rfl) ?_
                        refine AOps.nil ?_
                        refine AWP.condT rfl ?_
                        exfalso
                        first
                        | (simp at *; done)
                        | (simp_all [Narrow, Lies]; done)
                        | (simp_all [Narrow, Lies]; omega)
                    · skip
                      refine AOps.pass rfl rfl rfl h79 rfl ?_
                      refine AOps.pass rfl rfl rfl h79 rfl ?_
                      refine AOps.pass rfl rfl rfl h79 rfl ?_
                      refine AOps.pass rfl rfl rfl h79 rfl ?_
                      refine AOps.call (o_pickF _ _ _ rfl h79 rfl rfl) ?_
                      refine AOps.call (o_move _ rfl rfl) ?_
                      refine AOps.go rfl rfl rfl rfl (o_move _ rfl rfl) ?_
                      refine AOps.go rfl rfl rfl rfl (o_bin _ _ rfl rfl (fun _ => rfl) rfl) ?_
                      refine AOps.go rfl rfl rfl rfl (o_move _ rfl rfl) ?_
                      refine AOps.split rfl rfl rfl (fun h92 => ?_) (fun h92 => ?_)
                      · skip
                        refine AOps.go rfl rfl rfl h92 (o_move _ rfl rfl) ?_
                        refine AOps.go rfl rfl rfl h92 (o_bin _ _ rfl rfl (fun _ => rfl) rfl) ?_
                        refine AOps.go rfl rfl rfl rfl (o_pickT _ _ _ rfl h92 rfl rfl) ?_
                        refine AOps.call (o_pickF _ _ _ rfl rfl rfl rfl) ?_
                        refine AOps.nil ?_
                        refine AWP.cond _ rfl (fun h94 => ?_) (fun h94 => ?_)
                        · skip
                          exfalso
                          first
                          | (simp at *; done)
                          | (simp_all [Narrow, Lies]; done)
                          | (simp_all [Narrow, Lies]; omega)
                        · skip
                          refine AWP.skip ?_
                          refine AWP.region ?_
                          refine AOps.call (o_add _ _ rfl rfl ⟨by (try dsimp only); omega, by (try dsimp only); omega⟩ rfl) ?_
                          refine AOps.call (o_move _ rfl rfl) ?_
                          refine AOps.nil ?_
                          refine ⟨l + 1, ?_, (Weak.mk' rfl ⟨⟨.refl rfl, rfl⟩, ⟨⟨.refl rfl, rfl⟩, ⟨⟨.refl rfl, rfl⟩, ⟨⟨.refl rfl, rfl⟩, ⟨⟨.refl rfl, rfl⟩, ⟨⟨.refl rfl, rfl⟩, ⟨⟨.refl rfl, hlow _⟩, ⟨⟨.refl rfl, rfl⟩, ⟨⟨.refl rfl, rfl⟩, ⟨⟨.refl rfl, rfl⟩, ⟨⟨.refl rfl, rfl⟩, ⟨⟨.refl rfl, rfl⟩, ⟨⟨.refl rfl, rfl⟩, ⟨⟨.refl rfl, rfl⟩, ⟨⟨.refl rfl, rfl⟩, ⟨⟨.refl rfl, rfl⟩, trivial⟩⟩⟩⟩⟩⟩⟩⟩⟩⟩⟩⟩⟩⟩⟩⟩ ⟨⟨rfl, rfl, rfl⟩, ⟨⟨rfl, rfl, rfl⟩, ⟨⟨rfl, rfl, rfl⟩, ⟨⟨rfl, rfl, rfl⟩, trivial⟩⟩⟩⟩ trivial)⟩
                          exact ⟨by omega, by omega⟩
                      · skip
                        refine AOps.pass rfl rfl rfl h92 rfl ?_
                        refine AOps.pass rfl rfl rfl h92 rfl ?_
                        refine AOps.go rfl rfl rfl rfl (o_pickF _ _ _ rfl h92 rfl rfl) ?_
                        refine AOps.call (o_pickF _ _ _ rfl rfl rfl rfl) ?_
                        refine AOps.nil ?_
                        refine AWP.condF rfl ?_
                        refine AWP.skip ?_
                        refine AWP.region ?_
                        refine AOps.call (o_add _ _ rfl rfl ⟨by (try dsimp only); omega, by (try dsimp only); omega⟩ rfl) ?_
                        refine AOps.call (o_move _ rfl rfl) ?_
                        refine AOps.nil ?_
                        refine ⟨l + 1, ?_, (Weak.mk' rfl ⟨⟨.refl rfl, rfl⟩, ⟨⟨.refl rfl, rfl⟩, ⟨⟨.refl rfl, rfl⟩, ⟨⟨.refl rfl, rfl⟩, ⟨⟨.refl rfl, rfl⟩, ⟨⟨.refl rfl, rfl⟩, ⟨⟨.refl rfl, hlow _⟩, ⟨⟨.refl rfl, rfl⟩, ⟨⟨.refl rfl, rfl⟩, ⟨⟨.refl rfl, rfl⟩, ⟨⟨.refl rfl, rfl⟩, ⟨⟨.refl rfl, rfl⟩, ⟨⟨.refl rfl, rfl⟩, ⟨⟨.refl rfl, rfl⟩, ⟨⟨.refl rfl, rfl⟩, ⟨⟨.refl rfl, rfl⟩, trivial⟩⟩⟩⟩⟩⟩⟩⟩⟩⟩⟩⟩⟩⟩⟩⟩ ⟨⟨rfl, rfl, rfl⟩, ⟨⟨rfl, rfl, rfl⟩, ⟨⟨rfl, rfl, rfl⟩, ⟨⟨rfl, rfl, rfl⟩, trivial⟩⟩⟩⟩ trivial)⟩
                        exact ⟨by omega, by omega⟩
                  · skip
                    refine AOps.pass rfl rfl rfl h77 rfl ?_
                    refine AOps.pass rfl rfl rfl h77 rfl ?_
                    refine AOps.call (o_pickF _ _ _ rfl h77 rfl rfl) ?_
                    refine AOps.call (o_move _ rfl rfl) ?_
                    refine AOps.pass rfl rfl rfl rfl rfl ?_
                    refine AOps.pass rfl rfl rfl rfl rfl ?_
                    refine AOps.pass rfl rfl rfl rfl rfl ?_
                    refine AOps.pass rfl rfl rfl rfl rfl ?_
                    refine AOps.call (o_pickF _ _ _ rfl rfl rfl rfl) ?_
                    refine AOps.call (o_move _ rfl rfl) ?_
                    refine AOps.go rfl rfl rfl rfl (o_move _ rfl rfl) ?_
                    refine AOps.go rfl rfl rfl rfl (o_bin _ _ rfl rfl (fun _ => rfl) rfl) ?_
                    refine AOps.go rfl rfl rfl rfl (o_move _ rfl rfl) ?_
                    refine AOps.split rfl rfl rfl (fun h98 => ?_) (fun h98 => ?_)
                    · skip
                      refine AOps.go rfl rfl rfl h98 (o_move _ rfl rfl) ?_
                      refine AOps.go rfl rfl rfl h98 (o_bin _ _ rfl rfl (fun _ => rfl) rfl) ?_
                      refine AOps.go rfl rfl rfl rfl (o_pickT _ _ _ rfl h98 rfl rfl) ?_
                      refine AOps.call (o_pickF _ _ _ rfl rfl rfl rfl) ?_
                      refine AOps.nil ?_
                      refine AWP.cond _ rfl (fun h100 => ?_) (fun h100 => ?_)
                      · skip
                        exfalso
                        first
                        | (simp at *; done)
                        | (simp_all [Narrow, Lies]; done)
                        | (simp_all [Narrow, Lies]; omega)
                      · skip
                        refine AWP.skip ?_
                        refine AWP.region ?_
                        refine AOps.call (o_add _ _ rfl rfl ⟨by (try dsimp only); omega, by (try dsimp only); omega⟩ rfl) ?_
                        refine AOps.call (o_move _ rfl rfl) ?_
                        refine AOps.nil ?_
                        refine ⟨l + 1, ?_, (Weak.mk' rfl ⟨⟨.refl rfl, rfl⟩, ⟨⟨.refl rfl, rfl⟩, ⟨⟨.refl rfl, rfl⟩, ⟨⟨.refl rfl, rfl⟩, ⟨⟨.refl rfl, rfl⟩, ⟨⟨.refl rfl, rfl⟩, ⟨⟨.refl rfl, hlow _⟩, ⟨⟨.refl rfl, rfl⟩, ⟨⟨.refl rfl, rfl⟩, ⟨⟨.refl rfl, rfl⟩, ⟨⟨.refl rfl, rfl⟩, ⟨⟨.refl rfl, rfl⟩, ⟨⟨.refl rfl, rfl⟩, ⟨⟨.refl rfl, rfl⟩, ⟨⟨.refl rfl, rfl⟩, ⟨⟨.refl rfl, rfl⟩, trivial⟩⟩⟩⟩⟩⟩⟩⟩⟩⟩⟩⟩⟩⟩⟩⟩ ⟨⟨rfl, rfl, rfl⟩, ⟨⟨rfl, rfl, rfl⟩, ⟨⟨rfl, rfl, rfl⟩, ⟨⟨rfl, rfl, rfl⟩, trivial⟩⟩⟩⟩ trivial)⟩
                        exact ⟨by omega, by omega⟩
                    · skip
                      refine AOps.pass rfl rfl rfl h98 rfl ?_
                      refine AOps.pass rfl rfl rfl h98 rfl ?_
                      refine AOps.go rfl rfl rfl rfl (o_pickF _ _ _ rfl h98 rfl rfl) ?_
                      refine AOps.call (o_pickF _ _ _ rfl rfl rfl rfl) ?_
                      refine AOps.nil ?_
                      refine AWP.condF rfl ?_
                      refine AWP.skip ?_
                      refine AWP.region ?_
                      refine AOps.call (o_add _ _ rfl rfl ⟨by (try dsimp only); omega, by (try dsimp only); omega⟩ rfl) ?_
                      refine AOps.call (o_move _ rfl rfl) ?_
                      refine AOps.nil ?_
                      refine ⟨l + 1, ?_, (Weak.mk' rfl ⟨⟨.refl rfl, rfl⟩, ⟨⟨.refl rfl, rfl⟩, ⟨⟨.refl rfl, rfl⟩, ⟨⟨.refl rfl, rfl⟩, ⟨⟨.refl rfl, rfl⟩, ⟨⟨.refl rfl, rfl⟩, ⟨⟨.refl rfl, hlow _⟩, ⟨⟨.refl rfl, rfl⟩, ⟨⟨.refl rfl, rfl⟩, ⟨⟨.refl rfl, rfl⟩, ⟨⟨.refl rfl, rfl⟩, ⟨⟨.refl rfl, rfl⟩, ⟨⟨.refl rfl, rfl⟩, ⟨⟨.refl rfl, rfl⟩, ⟨⟨.refl rfl, rfl⟩, ⟨⟨.refl rfl, rfl⟩, trivial⟩⟩⟩⟩⟩⟩⟩⟩⟩⟩⟩⟩⟩⟩⟩⟩ ⟨⟨rfl, rfl, rfl⟩, ⟨⟨rfl, rfl, rfl⟩, ⟨⟨rfl, rfl, rfl⟩, ⟨⟨rfl, rfl, rfl⟩, trivial⟩⟩⟩⟩ trivial)⟩
                      exact ⟨by omega, by omega⟩
                · skip
                  refine AWP.exit ?_
                  refine AWP.region ?_
                  refine AOps.call (o_add _ _ rfl rfl ⟨by (try dsimp only); omega, by (try dsimp only); omega⟩ rfl) ?_
                  refine AOps.call (o_move _ rfl rfl) ?_
                  refine AOps.nil ?_
                  refine ⟨j + 1, ?_, (Weak.mk' rfl ⟨⟨.refl rfl, rfl⟩, ⟨⟨.refl rfl, rfl⟩, ⟨⟨.refl rfl, rfl⟩, ⟨⟨.refl rfl, rfl⟩, ⟨⟨.refl rfl, rfl⟩, ⟨⟨.refl rfl, rfl⟩, ⟨⟨.refl rfl, hlow _⟩, ⟨⟨.refl rfl, rfl⟩, ⟨⟨.refl rfl, rfl⟩, ⟨⟨.refl rfl, rfl⟩, ⟨⟨.refl rfl, rfl⟩, ⟨⟨.refl rfl, rfl⟩, trivial⟩⟩⟩⟩⟩⟩⟩⟩⟩⟩⟩⟩ ⟨⟨rfl, rfl, rfl⟩, ⟨⟨rfl, rfl, rfl⟩, ⟨⟨rfl, rfl, rfl⟩, trivial⟩⟩⟩ trivial)⟩
                  exact ⟨by omega, by omega⟩
              · skip
                refine AWP.exit ?_
                refine AWP.region ?_
                refine AOps.call (o_add _ _ rfl rfl ⟨by (try dsimp only); omega, by (try dsimp only); omega⟩ rfl) ?_
                refine AOps.call (o_move _ rfl rfl) ?_
                refine AOps.nil ?_
                refine ⟨k + 1, ?_, (Weak.mk' rfl ⟨⟨.refl rfl, rfl⟩, ⟨⟨.refl rfl, rfl⟩, ⟨⟨.refl rfl, rfl⟩, ⟨⟨.refl rfl, rfl⟩, ⟨⟨.refl rfl, rfl⟩, ⟨⟨.refl rfl, rfl⟩, trivial⟩⟩⟩⟩⟩⟩ ⟨⟨rfl, rfl, rfl⟩, ⟨⟨rfl, rfl, rfl⟩, trivial⟩⟩ trivial)⟩
                exact ⟨by omega, by omega⟩
            · skip
              refine AWP.exit ?_
              refine AWP.seq ?_
              refine AWP.region ?_
              refine AOps.call (o_assign _ rfl rfl) ?_
              refine AOps.nil ?_
              refine AWP.ret ?_
              first
              | exact postQ.ret1 Tryd.results9 rfl rfl
              | (exfalso; simp at *; done)
              | (exfalso; simp_all; done)
              | (refine postQ.ret1 Tryd.results9 rfl ?_; simp [AV.close, B]; done)
          · skip
            exfalso
            first
            | (simp at *; done)
            | (simp_all; done)
            | (simp at *; omega)
      · skip
        refine AOps.pass rfl rfl rfl h18 rfl ?_
        refine AOps.pass rfl rfl rfl h18 rfl ?_
        refine AOps.pass rfl rfl rfl h18 rfl ?_
        refine AOps.pass rfl rfl rfl h18 rfl ?_
        refine AOps.pass rfl rfl rfl h18 rfl ?_
        refine AOps.call (o_pickT _ _ _ rfl h18 rfl rfl) ?_
        refine AOps.nil ?_
        refine AWP.condT rfl ?_
        refine AWP.seq ?_
        refine AWP.region ?_
        refine AOps.call (o_assign _ rfl rfl) ?_
        refine AOps.nil ?_
        refine AWP.ret ?_
        first
        | exact postQ.ret1 Tryd.results9 rfl rfl
        | (exfalso; simp at *; done)
        | (exfalso; simp_all; done)
        | (refine postQ.ret1 Tryd.results9 rfl ?_; simp [AV.close, B]; done)
    · skip
      refine AOps.pass rfl rfl rfl h13 rfl ?_
      refine AOps.pass rfl rfl rfl h13 rfl ?_
      refine AOps.pass rfl rfl rfl h13 rfl ?_
      refine AOps.pass rfl rfl rfl h13 rfl ?_
      refine AOps.call (o_pickT _ _ _ rfl h13 rfl rfl) ?_
      refine AOps.call (o_move _ rfl rfl) ?_
      refine AOps.pass rfl rfl rfl rfl rfl ?_
      refine AOps.pass rfl rfl rfl rfl rfl ?_
      refine AOps.pass rfl rfl rfl rfl rfl ?_
      refine AOps.pass rfl rfl rfl rfl rfl ?_
      refine AOps.pass rfl rfl rfl rfl rfl ?_
      refine AOps.call (o_pickT _ _ _ rfl rfl rfl rfl) ?_
      refine AOps.nil ?_
      refine AWP.condT rfl ?_
      refine AWP.seq ?_
      refine AWP.region ?_
      refine AOps.call (o_assign _ rfl rfl) ?_
      refine AOps.nil ?_
      refine AWP.ret ?_
      first
      | exact postQ.ret1 Tryd.results9 rfl rfl
      | (exfalso; simp at *; done)
      | (exfalso; simp_all; done)
      | (refine postQ.ret1 Tryd.results9 rfl ?_; simp [AV.close, B]; done)

theorem CourseMore_s (c : Scl) (t : Tst) (h : Sht) (sk d0 d1 d2 d3 : Int) : FSpecG Tryd.prog TAB 9 [.agg (eS c), .agg (eT t), .agg (eH h), I sk, .agg [I d0, I d1, I d2, I d3]] (B true) none := by
  by_cases hz : addE c t = 0
  · exact CourseMore_a c t h sk d0 d1 d2 d3 hz
  · exact CourseMore_b c t h sk d0 d1 d2 d3 hz

end Go.Proofs.YtphoomnonenalaaDoor
