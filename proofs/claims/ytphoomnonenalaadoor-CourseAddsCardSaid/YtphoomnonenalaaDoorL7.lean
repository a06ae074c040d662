import Derived.Test.YtphoomnonenalaaDoorM8
import Derived.Test.YtphoomnonenalaaDoorC15
import Derived.Test.YtphoomnonenalaaDoorL2
set_option linter.unusedSimpArgs false
set_option linter.unusedVariables false
namespace Go.Proofs.YtphoomnonenalaaDoor
open Go.Ab

set_option maxRecDepth 20000 in
theorem CourseAdds_a (c : Scl) (h : Sht) (kn m : Int) (hz : watE c h 0 kn = 0) : FSpecG Tryd.prog TAB 10 [.agg (eS c), .agg (eH h), I kn, I m] (B true) (none) := by
  refine FSpecG.of_body tab_stable Tryd.func10 rfl (leB rfl) fun w0 M0 hG => ?_
  have hsl := stakes_len h.stakes
  have hA := Course_s c h kn
  rw [hz] at hA
  have hok := adds_ok hz
  have hcb := couR_bd hz
  obtain ⟨hf, hl1, hl32, hm5⟩ := wat_fits hz
  have hp1 : 0 ≤ (couR c h kn).lo * (h.stakes.length : Int) ∧ (couR c h kn).lo * (h.stakes.length : Int) ≤ 21000000000 * 32 := ⟨Int.mul_nonneg (by omega) (by omega), Int.mul_le_mul (by omega) (by omega) (by omega) (by omega)⟩
  have hp2 : 0 ≤ (couR c h kn).hi * (h.stakes.length : Int) ∧ (couR c h kn).hi * (h.stakes.length : Int) ≤ 21000000000 * 32 := ⟨Int.mul_nonneg (by omega) (by omega), Int.mul_le_mul (by omega) (by omega) (by omega) (by omega)⟩
  rw [← hsl] at hok hp1 hp2
  refine AWP.seq ?_
  refine AWP.region ?_
  refine AOps.call (o_box _ rfl rfl rfl) ?_
  refine AOps.call (o_box _ rfl rfl rfl) ?_
  refine AOps.call (o_assign _ rfl rfl) ?_
  refine AOps.nil ?_
  refine AWP.seq ?_
  refine AWP.seq ?_
  refine AWP.region ?_
  refine AOps.call (o_callG (sane_s) hG Tryd.call12 rfl rfl) ?_
  refine AOps.call (o_un _ rfl (fun _ => rfl) rfl) ?_
  refine AOps.nil ?_
  refine AWP.cond _ rfl (fun h5 => ?_) (fun h5 => ?_)
  · skip
    refine AWP.seq ?_
    refine AWP.region ?_
    refine AOps.call (o_assign _ rfl rfl) ?_
    refine AOps.nil ?_
    refine AWP.ret ?_
    first
    | exact postQ.ret1 Tryd.results10 rfl rfl
    | (exfalso; simp at *; done)
    | (exfalso; simp_all; done)
    | (refine postQ.ret1 Tryd.results10 rfl ?_; simp [AV.close, B]; done)
  · skip
    refine AWP.skip ?_
    refine AWP.seq ?_
    refine AWP.seq ?_
    refine AWP.region ?_
    refine AOps.call (o_fieldRef _ rfl fa24_2 rfl rfl) ?_
    refine AOps.call (o_loadRef _ rfl rfl Tryd.sizeOf22 Tryd.isAgg22 rfl rfl rfl) ?_
    refine AOps.call (o_len _ Tryd.underlying22 rfl rfl) ?_
    refine AOps.call (o_bin _ _ rfl rfl (fun _ => rfl) rfl) ?_
    refine AOps.call (o_move _ rfl rfl) ?_
    refine AOps.split rfl rfl rfl (fun h10 => ?_) (fun h10 => ?_)
    · skip
      refine AOps.go rfl rfl rfl h10 (o_fieldRef _ rfl fa54_8 rfl rfl) ?_
      refine AOps.go rfl rfl rfl h10 (o_loadRef _ rfl rfl Tryd.sizeOf52 Tryd.isAgg52 rfl rfl rfl) ?_
      refine AOps.go rfl rfl rfl h10 (o_len _ Tryd.underlying52 rfl rfl) ?_
      refine AOps.go rfl rfl rfl h10 (o_bin _ _ rfl rfl (fun _ => rfl) rfl) ?_
      refine AOps.call (o_pickF _ _ _ rfl h10 rfl rfl) ?_
      refine AOps.nil ?_
      refine AWP.cond _ rfl (fun h15 => ?_) (fun h15 => ?_)
      · skip
        refine AWP.seq ?_
        refine AWP.region ?_
        refine AOps.call (o_assign _ rfl rfl) ?_
        refine AOps.nil ?_
        refine AWP.ret ?_
        first
        | exact postQ.ret1 Tryd.results10 rfl rfl
        | (exfalso; simp at *; done)
        | (exfalso; simp_all; done)
        | (refine postQ.ret1 Tryd.results10 rfl ?_; simp [AV.close, B]; done)
      · skip
        have hs100 : h.stakes.length ≤ 100 := by simp [stakes_len] at h15; omega
        refine AWP.skip ?_
        refine AWP.seq ?_
        refine AWP.region ?_
        refine AOps.call (o_loadRef _ rfl rfl Tryd.sizeOf24 Tryd.isAgg24 rfl rfl rfl) ?_
        refine AOps.call (o_loadRef _ rfl rfl Tryd.sizeOf54 Tryd.isAgg54 rfl rfl rfl) ?_
        refine AOps.call (o_move _ rfl rfl) ?_
        refine AOps.call (o_call (hA) Tryd.call51 rfl rfl) ?_
        refine AOps.call (o_move _ rfl rfl) ?_
        refine AOps.call (o_extract _ rfl rfl rfl rfl) ?_
        refine AOps.call (o_extract _ rfl rfl rfl rfl) ?_
        refine AOps.call (o_alloc ze40 rfl rfl) ?_
        refine AOps.cons (o_store _ _ rfl rfl Tryd.sizeOf40 rfl rfl rfl rfl rfl) ?_
        refine AOps.call (o_assign _ rfl rfl) ?_
        refine AOps.nil ?_
        refine AWP.seq ?_
        refine AWP.seq ?_
        refine AWP.region ?_
        refine AOps.call (o_move _ rfl rfl) ?_
        refine AOps.call (o_bin _ _ rfl rfl (fun _ => rfl) rfl) ?_
        refine AOps.nil ?_
        refine AWP.cond _ rfl (fun h24 => ?_) (fun h24 => ?_)
        · skip
          refine AWP.seq ?_
          refine AWP.region ?_
          refine AOps.call (o_assign _ rfl rfl) ?_
          refine AOps.call (o_assign _ rfl rfl) ?_
          refine AOps.nil ?_
          refine AWP.seq ?_
          refine AWP.seq ?_
          refine AWP.region ?_
          refine AOps.call (o_fieldRef _ rfl fa54_8 rfl rfl) ?_
          refine AOps.call (o_loadRef _ rfl rfl Tryd.sizeOf52 Tryd.isAgg52 rfl rfl rfl) ?_
          refine AOps.call (o_len _ Tryd.underlying52 rfl rfl) ?_
          refine AOps.call (o_move _ rfl rfl) ?_
          refine AOps.nil ?_
          refine AWP.block ?_
          refine AWP.loop (ι := Nat) (fun i => AS.mk' 190 [(2, I kn), (3, I m), (4, .ref (4, 0) 0), (5, .ref (5, 0) 0), (9, .ref (9, 0) 0), (10, I 0), (11, I (suLo h (posS c h kn) (h.stakes.take i))), (12, I (suHi h (posS c h kn) (h.stakes.take i))), (43, .sl (stakes h.stakes)), (44, I (stakes h.stakes).length), (45, I i)] [((4, 0), eS c), ((5, 0), eH h), ((9, 0), eP (couR c h kn))] [] [(4, 1), (5, 1), (9, 1)]) (fun i => i ≤ h.stakes.length) (fun i => h.stakes.length - i) (0) (Weak.mk' rfl ⟨⟨.refl rfl, rfl⟩, ⟨⟨.refl rfl, rfl⟩, ⟨⟨.refl rfl, rfl⟩, ⟨⟨.refl rfl, rfl⟩, ⟨⟨.refl rfl, rfl⟩, ⟨⟨.refl rfl, rfl⟩, ⟨⟨.refl rfl, rfl⟩, ⟨⟨.refl rfl, rfl⟩, ⟨⟨.sl rfl, rfl⟩, ⟨⟨.refl rfl, rfl⟩, ⟨⟨.refl rfl, rfl⟩, trivial⟩⟩⟩⟩⟩⟩⟩⟩⟩⟩⟩ ⟨⟨rfl, rfl, rfl⟩, ⟨⟨rfl, rfl, rfl⟩, ⟨⟨rfl, rfl, rfl⟩, trivial⟩⟩⟩ trivial) (Nat.zero_le _) ?_
          rintro k hk
          try dsimp only at *
          refine AWP.seq ?_
          refine AWP.region ?_
          refine AOps.call (o_bin _ _ rfl rfl (fun _ => rfl) rfl) ?_
          refine AOps.nil ?_
          refine AWP.seq ?_
          refine AWP.cond _ rfl (fun h32 => ?_) (fun h32 => ?_)
          · skip
            have hlt : k < h.stakes.length := by simp at h32; omega
            have hW := Water_s c h k kn
            rw [wat_all hz hlt, watR_at hz hlt] at hW
            have hb1 := su_bd hz k
            have hb2 := wl_bd (hf.one (List.getElem_mem hlt)) hm5
            refine AWP.skip ?_
            refine AWP.seq ?_
            refine AWP.block ?_
            refine AWP.seq ?_
            refine AWP.region ?_
            refine AOps.call (o_move _ rfl rfl) ?_
            refine AOps.call (o_assign _ rfl rfl) ?_
            refine AOps.nil ?_
            refine AWP.seq ?_
            refine AWP.region ?_
            refine AOps.call (o_loadRef _ rfl rfl Tryd.sizeOf24 Tryd.isAgg24 rfl rfl rfl) ?_
            refine AOps.call (o_loadRef _ rfl rfl Tryd.sizeOf54 Tryd.isAgg54 rfl rfl rfl) ?_
            refine AOps.call (o_move _ rfl rfl) ?_
            refine AOps.call (o_move _ rfl rfl) ?_
            refine AOps.call (o_call (hW) Tryd.call33 rfl rfl) ?_
            refine AOps.call (o_move _ rfl rfl) ?_
            refine AOps.call (o_extract _ rfl rfl rfl rfl) ?_
            refine AOps.call (o_extract _ rfl rfl rfl rfl) ?_
            refine AOps.call (o_alloc ze40 rfl rfl) ?_
            refine AOps.cons (o_store _ _ rfl rfl Tryd.sizeOf40 rfl rfl rfl rfl rfl) ?_
            refine AOps.call (o_assign _ rfl rfl) ?_
            refine AOps.nil ?_
            refine AWP.seq ?_
            refine AWP.seq ?_
            refine AWP.region ?_
            refine AOps.call (o_move _ rfl rfl) ?_
            refine AOps.call (o_bin _ _ rfl rfl (fun _ => rfl) rfl) ?_
            refine AOps.nil ?_
            refine AWP.cond _ rfl (fun h41 => ?_) (fun h41 => ?_)
            · skip
              exfalso
              simp at h41
            · skip
              refine AWP.skip ?_
              refine AWP.seq ?_
              refine AWP.region ?_
              refine AOps.call (o_move _ rfl rfl) ?_
              refine AOps.call (o_fieldRef _ rfl fa40_0 rfl rfl) ?_
              refine AOps.call (o_loadRef _ rfl rfl Tryd.sizeOf3 Tryd.isAgg3 rfl rfl rfl) ?_
              refine AOps.call (o_add _ _ rfl rfl ⟨by (try dsimp only); omega, by (try dsimp only); omega⟩ rfl) ?_
              refine AOps.call (o_assign _ rfl rfl) ?_
              refine AOps.nil ?_
              refine AWP.region ?_
              refine AOps.call (o_move _ rfl rfl) ?_
              refine AOps.call (o_fieldRef _ rfl fa40_1 rfl rfl) ?_
              refine AOps.call (o_loadRef _ rfl rfl Tryd.sizeOf3 Tryd.isAgg3 rfl rfl rfl) ?_
              refine AOps.call (o_add _ _ rfl rfl ⟨by (try dsimp only); omega, by (try dsimp only); omega⟩ rfl) ?_
              refine AOps.call (o_assign _ rfl rfl) ?_
              refine AOps.nil ?_
              refine AWP.region ?_
              refine AOps.call (o_add _ _ rfl rfl ⟨by (try dsimp only); omega, by (try dsimp only); omega⟩ rfl) ?_
              refine AOps.call (o_move _ rfl rfl) ?_
              refine AOps.nil ?_
              refine ⟨k + 1, ?_, (Weak.mk' rfl ⟨⟨.refl rfl, rfl⟩, ⟨⟨.refl rfl, rfl⟩, ⟨⟨.refl rfl, rfl⟩, ⟨⟨.refl rfl, rfl⟩, ⟨⟨.refl rfl, rfl⟩, ⟨⟨.refl rfl, rfl⟩, ⟨⟨.refl (by rw [suLo_take hlt]; rfl), rfl⟩, ⟨⟨.refl (by rw [suHi_take hlt]; rfl), rfl⟩, ⟨⟨.refl rfl, rfl⟩, ⟨⟨.refl rfl, rfl⟩, ⟨⟨.refl rfl, rfl⟩, trivial⟩⟩⟩⟩⟩⟩⟩⟩⟩⟩⟩ ⟨⟨rfl, rfl, rfl⟩, ⟨⟨rfl, rfl, rfl⟩, ⟨⟨rfl, rfl, rfl⟩, trivial⟩⟩⟩ trivial)⟩
              exact ⟨by omega, by omega⟩
          · skip
            have hkl : k = h.stakes.length := by simp at h32; omega
            have hb1 := su_bd hz k
            have e1 : suLo h (posS c h kn) (h.stakes.take k) = suLo h (posS c h kn) h.stakes := by rw [hkl, List.take_length]
            have e2 : suHi h (posS c h kn) (h.stakes.take k) = suHi h (posS c h kn) h.stakes := by rw [hkl, List.take_length]
            rw [← e1, ← e2] at hok
            refine AWP.exit ?_
            refine AWP.seq ?_
            refine AWP.region ?_
            refine AOps.call (o_fieldRef _ rfl fa54_8 rfl rfl) ?_
            refine AOps.call (o_loadRef _ rfl rfl Tryd.sizeOf52 Tryd.isAgg52 rfl rfl rfl) ?_
            refine AOps.call (o_len _ Tryd.underlying52 rfl rfl) ?_
            refine AOps.call (o_assign _ rfl rfl) ?_
            refine AOps.nil ?_
            refine AWP.seq ?_
            refine AWP.drawn 48 mixed (by kernel_rfl) ?_
            refine AHead.call (o_move _ rfl rfl) rfl ?_
            refine AHead.call (o_bin _ _ rfl rfl (fun _ => rfl) rfl) rfl ?_
            refine AHead.call (o_move _ rfl rfl) rfl ?_
            refine AHead.split rfl rfl rfl (fun h53 => ?_) (fun h53 => ?_)
            · skip
              refine AHead.go rfl rfl rfl h53 (o_fieldRef _ rfl fa40_0 rfl rfl) rfl ?_
              refine AHead.go rfl rfl rfl h53 (o_loadRef _ rfl rfl Tryd.sizeOf3 Tryd.isAgg3 rfl rfl rfl) rfl ?_
              refine AHead.go rfl rfl rfl h53 (o_move _ rfl rfl) rfl ?_
              refine AHead.go rfl rfl rfl h53 (o_mul _ _ rfl rfl ⟨by (try dsimp only); omega, by (try dsimp only); omega⟩ rfl) rfl ?_
              refine AHead.go rfl rfl rfl h53 (o_move _ rfl rfl) rfl ?_
              refine AHead.go rfl rfl rfl h53 (o_move _ rfl rfl) rfl ?_
              refine AHead.go rfl rfl rfl h53 (o_add _ _ rfl rfl ⟨by (try dsimp only); omega, by (try dsimp only); omega⟩ rfl) rfl ?_
              refine AHead.go rfl rfl rfl h53 (o_bin _ _ rfl rfl (fun _ => rfl) rfl) rfl ?_
              refine AHead.call (o_pickF _ _ _ rfl h53 rfl rfl) rfl ?_
              refine AHead.call (o_move _ rfl rfl) rfl ?_
              refine AHead.split rfl rfl rfl (fun h59 => ?_) (fun h59 => ?_)
              · skip
                refine AHead.go rfl rfl rfl h59 (o_fieldRef _ rfl fa40_0 rfl rfl) rfl ?_
                refine AHead.go rfl rfl rfl h59 (o_loadRef _ rfl rfl Tryd.sizeOf3 Tryd.isAgg3 rfl rfl rfl) rfl ?_
                refine AHead.go rfl rfl rfl h59 (o_move _ rfl rfl) rfl ?_
                refine AHead.go rfl rfl rfl h59 (o_move _ rfl rfl) rfl ?_
                refine AHead.go rfl rfl rfl h59 (o_quo _ _ rfl rfl ⟨by omega, by omega⟩ (by omega) rfl) rfl ?_
                refine AHead.go rfl rfl rfl h59 (o_bin _ _ rfl rfl (fun _ => rfl) rfl) rfl ?_
                refine AHead.call (o_pickF _ _ _ rfl h59 rfl rfl) rfl ?_
                refine AHead.call (o_move _ rfl rfl) rfl ?_
                refine AHead.split rfl rfl rfl (fun h64 => ?_) (fun h64 => ?_)
                · skip
                  refine AHead.go rfl rfl rfl h64 (o_fieldRef _ rfl fa40_1 rfl rfl) rfl ?_
                  refine AHead.go rfl rfl rfl h64 (o_loadRef _ rfl rfl Tryd.sizeOf3 Tryd.isAgg3 rfl rfl rfl) rfl ?_
                  refine AHead.go rfl rfl rfl h64 (o_move _ rfl rfl) rfl ?_
                  refine AHead.go rfl rfl rfl h64 (o_mul _ _ rfl rfl ⟨by (try dsimp only); omega, by (try dsimp only); omega⟩ rfl) rfl ?_
                  refine AHead.go rfl rfl rfl h64 (o_move _ rfl rfl) rfl ?_
                  refine AHead.go rfl rfl rfl h64 (o_move _ rfl rfl) rfl ?_
                  refine AHead.go rfl rfl rfl h64 (o_sub _ _ rfl rfl ⟨by (try dsimp only); omega, by (try dsimp only); omega⟩ rfl) rfl ?_
                  refine AHead.go rfl rfl rfl h64 (o_bin _ _ rfl rfl (fun _ => rfl) rfl) rfl ?_
                  refine AHead.call (o_pickF _ _ _ rfl h64 rfl rfl) rfl ?_
                  refine AHead.call (o_move _ rfl rfl) rfl ?_
                  refine AHead.split rfl rfl rfl (fun h70 => ?_) (fun h70 => ?_)
                  · skip
                    refine AHead.go rfl rfl rfl h70 (o_fieldRef _ rfl fa40_1 rfl rfl) rfl ?_
                    refine AHead.go rfl rfl rfl h70 (o_loadRef _ rfl rfl Tryd.sizeOf3 Tryd.isAgg3 rfl rfl rfl) rfl ?_
                    refine AHead.go rfl rfl rfl h70 (o_move _ rfl rfl) rfl ?_
                    refine AHead.go rfl rfl rfl h70 (o_move _ rfl rfl) rfl ?_
                    refine AHead.go rfl rfl rfl h70 (o_add _ _ rfl rfl ⟨by (try dsimp only); omega, by (try dsimp only); omega⟩ rfl) rfl ?_
                    refine AHead.go rfl rfl rfl h70 (o_sub _ _ rfl rfl ⟨by (try dsimp only); omega, by (try dsimp only); omega⟩ rfl) rfl ?_
                    refine AHead.go rfl rfl rfl h70 (o_move _ rfl rfl) rfl ?_
                    refine AHead.go rfl rfl rfl h70 (o_quo _ _ rfl rfl ⟨by omega, by omega⟩ (by omega) rfl) rfl ?_
                    refine AHead.go rfl rfl rfl h70 (o_bin _ _ rfl rfl (fun _ => rfl) rfl) rfl ?_
                    refine AHead.call (o_pickF _ _ _ rfl h70 rfl rfl) rfl ?_
                    refine AHead.call (o_move _ rfl rfl) rfl ?_
                    refine AHead.split rfl rfl rfl (fun h77 => ?_) (fun h77 => ?_)
                    · skip
                      refine AHead.go rfl rfl rfl h77 (o_fieldRef _ rfl fa40_0 rfl rfl) rfl ?_
                      refine AHead.go rfl rfl rfl h77 (o_loadRef _ rfl rfl Tryd.sizeOf3 Tryd.isAgg3 rfl rfl rfl) rfl ?_
                      refine AHead.go rfl rfl rfl h77 (o_fieldRef _ rfl fa40_1 rfl rfl) rfl ?_
                      refine AHead.go rfl rfl rfl h77 (o_loadRef _ rfl rfl Tryd.sizeOf3 Tryd.isAgg3 rfl rfl rfl) rfl ?_
                      refine AHead.go rfl rfl rfl h77 (o_bin _ _ rfl rfl (fun _ => rfl) rfl) rfl ?_
                      refine AHead.call (o_pickF _ _ _ rfl h77 rfl rfl) rfl ?_
                      refine AHead.nil ?_
                      refine AOps.nil ?_
                      refine AWP.cond _ rfl (fun h83 => ?_) (fun h83 => ?_)
                      · skip
                        exfalso
                        first
                        | (have hq := of_decide_eq_true h83; omega)
                        | (simp at h83; omega)
                        | (simp only [Bool.not_false, decide_eq_true_eq, gt_iff_lt, beq_iff_eq] at *; omega)
                        | (simp at *; done)
                        | (simp at *; omega)
                      · skip
                        refine AWP.skip ?_
                        refine AWP.seq ?_
                        refine AWP.seq ?_
                        refine AWP.region ?_
                        refine AOps.call (o_move _ rfl rfl) ?_
                        refine AOps.call (o_bin _ _ rfl rfl (fun _ => rfl) rfl) ?_
                        refine AOps.call (o_move _ rfl rfl) ?_
                        refine AOps.split rfl rfl rfl (fun h86 => ?_) (fun h86 => ?_)
                        · skip
                          have hm1 := of_decide_eq_false h86
                          refine AOps.go rfl rfl rfl h86 (o_move _ rfl rfl) ?_
                          refine AOps.go rfl rfl rfl h86 (o_bin _ _ rfl rfl (fun _ => rfl) rfl) ?_
                          refine AOps.call (o_pickF _ _ _ rfl h86 rfl rfl) ?_
                          refine AOps.nil ?_
                          refine AWP.cond _ rfl (fun h89 => ?_) (fun h89 => ?_)
                          · skip
                            refine AWP.seq ?_
                            refine AWP.region ?_
                            refine AOps.call (o_assign _ rfl rfl) ?_
                            refine AOps.nil ?_
                            refine AWP.ret ?_
                            first
                            | exact postQ.ret1 Tryd.results10 rfl rfl
                            | (exfalso; simp at *; done)
                            | (exfalso; simp_all; done)
                            | (refine postQ.ret1 Tryd.results10 rfl ?_; simp [AV.close, B]; done)
                          · skip
                            have hm2 := of_decide_eq_false h89
                            refine AWP.skip ?_
                            refine AWP.seq ?_
                            refine AWP.region ?_
                            refine AOps.call (o_loadRef _ rfl rfl Tryd.sizeOf54 Tryd.isAgg54 rfl rfl rfl) ?_
                            refine AOps.call (o_alloc ze54 rfl rfl) ?_
                            refine AOps.cons (o_store _ _ rfl rfl Tryd.sizeOf54 rfl rfl rfl rfl rfl) ?_
                            refine AOps.nil ?_
                            refine AWP.seq ?_
                            refine AWP.region ?_
                            refine AOps.call (o_fieldRef _ rfl fa54_6 rfl rfl) ?_
                            refine AOps.call (o_loadRef _ rfl rfl Tryd.sizeOf3 Tryd.isAgg3 rfl rfl rfl) ?_
                            refine AOps.call (o_move _ rfl rfl) ?_
                            refine AOps.call (o_addW _ _ rfl rfl rfl) ?_
                            refine AOps.call (o_fieldRef _ rfl fa54_6 rfl rfl) ?_
                            refine AOps.cons (o_store _ _ rfl rfl Tryd.sizeOf3 rfl rfl rfl rfl rfl) ?_
                            refine AOps.nil ?_
                            refine AWP.seq ?_
                            refine AWP.region ?_
                            refine AOps.call (o_fieldRef _ rfl fa54_8 rfl rfl) ?_
                            refine AOps.call (o_loadRef _ rfl rfl Tryd.sizeOf52 Tryd.isAgg52 rfl rfl rfl) ?_
                            refine AOps.call (ok_callArr (Clone53_s h.stakes (by omega)) (fun _ _ => trivial) Tryd.call53 rfl (by omega) stakes_z (stakes_scs _) rfl) ?_
                            refine AOps.call (o_fieldRef _ rfl fa54_8 rfl rfl) ?_
                            refine AOps.cons (o_store _ _ rfl rfl Tryd.sizeOf52 rfl rfl rfl rfl rfl) ?_
                            refine AOps.nil ?_
                            refine AWP.seq ?_
                            refine AWP.seq ?_
                            refine AWP.region ?_
                            refine AOps.call (o_fieldRef _ rfl fa54_8 rfl rfl) ?_
                            refine AOps.call (o_loadRef _ rfl rfl Tryd.sizeOf52 Tryd.isAgg52 rfl rfl rfl) ?_
                            refine AOps.call (o_lenArr _ Tryd.underlying52 rfl rfl) ?_
                            refine AOps.call (o_move _ rfl rfl) ?_
                            refine AOps.nil ?_
                            refine AWP.block ?_
                            refine AWP.loop (ι := Nat) (fun i => AS.mk' 190 [(2, I kn), (3, I m), (4, .ref (4, 0) 0), (5, .ref (5, 0) 0), (9, .ref (9, 0) 0), (10, I 0), (17, .ref (17, 0) 0), (136, I (stakes h.stakes).length), (137, I i)] [((4, 0), eS c), ((5, 0), eH h), ((9, 0), eP (couR c h kn)), ((17, 0), [I h.no, I h.cell, I h.day, I h.known, I h.scale, I h.mouth, I (IntKind.i64.wrap (h.empty + m)), I h.emptyDay, .arr (132, 0) 0 (stakes h.stakes).length]), ((132, 0), (stakes (mixL m i h.stakes)).flatten)] [] [(4, 1), (5, 1), (9, 1), (17, 1), (132, 1)]) (fun i => i ≤ h.stakes.length) (fun i => h.stakes.length - i) (0) (Weak.mk' rfl ⟨⟨.refl rfl, rfl⟩, ⟨⟨.refl rfl, rfl⟩, ⟨⟨.refl rfl, rfl⟩, ⟨⟨.refl rfl, rfl⟩, ⟨⟨.refl rfl, rfl⟩, ⟨⟨.refl rfl, rfl⟩, ⟨⟨.refl rfl, rfl⟩, ⟨⟨.refl rfl, rfl⟩, ⟨⟨.refl rfl, rfl⟩, trivial⟩⟩⟩⟩⟩⟩⟩⟩⟩ ⟨⟨rfl, rfl, rfl⟩, ⟨⟨rfl, rfl, rfl⟩, ⟨⟨rfl, rfl, rfl⟩, ⟨⟨rfl, rfl, rfl⟩, ⟨⟨rfl, lowL_sc _ _ (stakes_scs _), rfl⟩, trivial⟩⟩⟩⟩⟩ trivial) (Nat.zero_le _) ?_
                            rintro k hk
                            try dsimp only at *
                            refine AWP.seq ?_
                            refine AWP.region ?_
                            refine AOps.call (o_bin _ _ rfl rfl (fun _ => rfl) rfl) ?_
                            refine AOps.nil ?_
                            refine AWP.seq ?_
                            refine AWP.cond _ rfl (fun h106 => ?_) (fun h106 => ?_)
                            · skip
                              have hlt : k < h.stakes.length := by simp at h106; omega
                              refine AWP.skip ?_
                              refine AWP.seq ?_
                              refine AWP.block ?_
                              refine AWP.seq ?_
                              refine AWP.region ?_
                              refine AOps.call (o_move _ rfl rfl) ?_
                              refine AOps.call (o_assign _ rfl rfl) ?_
                              refine AOps.nil ?_
                              refine AWP.seq ?_
                              refine AWP.seq ?_
                              refine AWP.region ?_
                              refine AOps.call (o_fieldRef _ rfl fa54_8 rfl rfl) ?_
                              refine AOps.call (o_loadRef _ rfl rfl Tryd.sizeOf52 Tryd.isAgg52 rfl rfl rfl) ?_
                              refine AOps.call (o_move _ rfl rfl) ?_
                              refine AOps.call (o_indexArr _ _ Tryd.underlying52 Tryd.sizeOf79 rfl rfl (by omega) (by omega) rfl rfl) ?_
                              refine AOps.call (o_fieldRef _ rfl fa79_2 rfl rfl) ?_
                              refine AOps.call (o_loadRefE _ rfl rfl Tryd.sizeOf3 Tryd.isAgg3 (part1 (mixF_get hlt)) rfl) ?_
                              refine AOps.call (o_bin _ _ rfl rfl (fun _ => rfl) rfl) ?_
                              refine AOps.call (o_move _ rfl rfl) ?_
                              refine AOps.split rfl rfl rfl (fun h113 => ?_) (fun h113 => ?_)
                              · skip
                                have hf1 := of_decide_eq_false h113
                                refine AOps.go rfl rfl rfl h113 (o_fieldRef _ rfl fa54_8 rfl rfl) ?_
                                refine AOps.go rfl rfl rfl h113 (o_loadRef _ rfl rfl Tryd.sizeOf52 Tryd.isAgg52 rfl rfl rfl) ?_
                                refine AOps.go rfl rfl rfl h113 (o_move _ rfl rfl) ?_
                                refine AOps.go rfl rfl rfl h113 (o_indexArr _ _ Tryd.underlying52 Tryd.sizeOf79 rfl rfl (by omega) (by omega) rfl rfl) ?_
                                refine AOps.go rfl rfl rfl h113 (o_fieldRef _ rfl fa79_2 rfl rfl) ?_
                                refine AOps.go rfl rfl rfl h113 (o_loadRefE _ rfl rfl Tryd.sizeOf3 Tryd.isAgg3 (part1 (mixF_get hlt)) rfl) ?_
                                refine AOps.go rfl rfl rfl h113 (o_bin _ _ rfl rfl (fun _ => rfl) rfl) ?_
                                refine AOps.call (o_pickF _ _ _ rfl h113 rfl rfl) ?_
                                refine AOps.nil ?_
                                refine AWP.cond _ rfl (fun h120 => ?_) (fun h120 => ?_)
                                · skip
                                  refine AWP.seq ?_
                                  refine AWP.region ?_
                                  refine AOps.call (o_assign _ rfl rfl) ?_
                                  refine AOps.nil ?_
                                  refine AWP.ret ?_
                                  first
                                  | exact postQ.ret1 Tryd.results10 rfl rfl
                                  | (exfalso; simp at *; done)
                                  | (exfalso; simp_all; done)
                                  | (refine postQ.ret1 Tryd.results10 rfl ?_; simp [AV.close, B]; done)
                                · skip
                                  have hf2 := of_decide_eq_false h120
                                  refine AWP.skip ?_
                                  refine AWP.region ?_
                                  refine AOps.call (o_fieldRef _ rfl fa54_8 rfl rfl) ?_
                                  refine AOps.call (o_loadRef _ rfl rfl Tryd.sizeOf52 Tryd.isAgg52 rfl rfl rfl) ?_
                                  refine AOps.call (o_move _ rfl rfl) ?_
                                  refine AOps.call (o_indexArr _ _ Tryd.underlying52 Tryd.sizeOf79 rfl rfl (by omega) (by omega) rfl rfl) ?_
                                  refine AOps.call (o_fieldRef _ rfl fa79_2 rfl rfl) ?_
                                  refine AOps.call (o_loadRefE _ rfl rfl Tryd.sizeOf3 Tryd.isAgg3 (part1 (mixF_get hlt)) rfl) ?_
                                  refine AOps.call (o_move _ rfl rfl) ?_
                                  refine AOps.call (o_add _ _ rfl rfl ⟨by (try dsimp only); omega, by (try dsimp only); omega⟩ rfl) ?_
                                  refine AOps.call (o_indexArr _ _ Tryd.underlying52 Tryd.sizeOf79 rfl rfl (by omega) (by omega) rfl rfl) ?_
                                  refine AOps.call (o_fieldRef _ rfl fa79_2 rfl rfl) ?_
                                  refine AOps.cons (o_storeE _ _ rfl rfl Tryd.sizeOf3 rfl rfl (by rw [mixF_len]; omega) rfl rfl) ?_
                                  refine AOps.nil ?_
                                  refine AWP.region ?_
                                  refine AOps.call (o_add _ _ rfl rfl ⟨by (try dsimp only); omega, by (try dsimp only); omega⟩ rfl) ?_
                                  refine AOps.call (o_move _ rfl rfl) ?_
                                  refine AOps.nil ?_
                                  refine ⟨k + 1, ?_, (Weak.mk' rfl ⟨⟨.refl rfl, rfl⟩, ⟨⟨.refl rfl, rfl⟩, ⟨⟨.refl rfl, rfl⟩, ⟨⟨.refl rfl, rfl⟩, ⟨⟨.refl rfl, rfl⟩, ⟨⟨.refl rfl, rfl⟩, ⟨⟨.refl rfl, rfl⟩, ⟨⟨.refl rfl, rfl⟩, ⟨⟨.refl rfl, rfl⟩, trivial⟩⟩⟩⟩⟩⟩⟩⟩⟩ ⟨⟨rfl, rfl, rfl⟩, ⟨⟨rfl, rfl, rfl⟩, ⟨⟨rfl, rfl, rfl⟩, ⟨⟨rfl, rfl, rfl⟩, ⟨⟨(congrArg some (mixF_set hlt)), lowL_sc _ _ (stakes_scs _), rfl⟩, trivial⟩⟩⟩⟩⟩ trivial)⟩
                                  exact ⟨by omega, by omega⟩
                              · skip
                                refine AOps.pass rfl rfl rfl h113 rfl ?_
                                refine AOps.pass rfl rfl rfl h113 rfl ?_
                                refine AOps.pass rfl rfl rfl h113 rfl ?_
                                refine AOps.pass rfl rfl rfl h113 rfl ?_
                                refine AOps.pass rfl rfl rfl h113 rfl ?_
                                refine AOps.pass rfl rfl rfl h113 rfl ?_
                                refine AOps.pass rfl rfl rfl h113 rfl ?_
                                refine AOps.call (o_pickT _ _ _ rfl h113 rfl rfl) ?_
                                refine AOps.nil ?_
                                refine AWP.condT rfl ?_
                                refine AWP.seq ?_
                                refine AWP.region ?_
                                refine AOps.call (o_assign _ rfl rfl) ?_
                                refine AOps.nil ?_
                                refine AWP.ret ?_
                                first
                                | exact postQ.ret1 Tryd.results10 rfl rfl
                                | (exfalso; simp at *; done)
                                | (exfalso; simp_all; done)
                                | (refine postQ.ret1 Tryd.results10 rfl ?_; simp [AV.close, B]; done)
                            · skip
                              have hkl : k = h.stakes.length := by simp at h106; omega
                              have hmx : mixL m k h.stakes = h.stakes.map (addK m) := by rw [hkl]; exact mixL_all _ _
                              refine AWP.weak (Weak.frzVa (id := (132, 0)) (id' := (17, 0)) (j := 8) (z := 5) (es := stakes (h.stakes.map (addK m))) (ds' := eH (addH m h)) rfl rfl rfl rfl (closeL_scs _ (stakes_scs _)) (by rw [hmx]) stakes_z (by simp [stakes_len]) rfl) ?_
                              refine AWP.exit ?_
                              refine AWP.seq ?_
                              refine AWP.seq ?_
                              refine AWP.region ?_
                              refine AOps.call (o_loadRef _ rfl rfl Tryd.sizeOf54 Tryd.isAgg54 rfl rfl rfl) ?_
                              refine AOps.call (o_call (CheckSheet_s h) Tryd.call35 rfl rfl) ?_
                              refine AOps.call (o_bin _ _ rfl rfl (fun _ => rfl) rfl) ?_
                              refine AOps.call (o_move _ rfl rfl) ?_
                              refine AOps.split rfl rfl rfl (fun h134 => ?_) (fun h134 => ?_)
                              · skip
                                have hs1 : sheetB h = true := by
                                  cases hh : sheetB h with
                                  | true => rfl
                                  | false => rw [hh] at h134; simp at h134
                                refine AOps.go rfl rfl rfl h134 (o_loadRef _ rfl rfl Tryd.sizeOf54 Tryd.isAgg54 rfl rfl rfl) ?_
                                refine AOps.go rfl rfl rfl h134 (o_call (CheckSheet_s (addH m h)) Tryd.call35 rfl rfl) ?_
                                refine AOps.go rfl rfl rfl h134 (o_bin _ _ rfl rfl (fun _ => rfl) rfl) ?_
                                refine AOps.call (o_pickF _ _ _ rfl h134 rfl rfl) ?_
                                refine AOps.nil ?_
                                refine AWP.cond _ rfl (fun h138 => ?_) (fun h138 => ?_)
                                · skip
                                  refine AWP.seq ?_
                                  refine AWP.region ?_
                                  refine AOps.call (o_assign _ rfl rfl) ?_
                                  refine AOps.nil ?_
                                  refine AWP.ret ?_
                                  first
                                  | exact postQ.ret1 Tryd.results10 rfl rfl
                                  | (exfalso; simp at *; done)
                                  | (exfalso; simp_all; done)
                                  | (refine postQ.ret1 Tryd.results10 rfl ?_; simp [AV.close, B]; done)
                                · skip
                                  have hs2 : sheetB (addH m h) = true := by
                                    cases hh : sheetB (addH m h) with
                                    | true => rfl
                                    | false => rw [hh] at h138; simp at h138
                                  obtain ⟨hcu1, hcu2⟩ := cou_add (c := c) (k := kn) hs1 hs2 ⟨by omega, by omega⟩
                                  have hB := Course_s c (addH m h) kn
                                  rw [hcu1, hcu2] at hB
                                  rw [hz] at hB
                                  refine AWP.skip ?_
                                  refine AWP.seq ?_
                                  refine AWP.region ?_
                                  refine AOps.call (o_loadRef _ rfl rfl Tryd.sizeOf24 Tryd.isAgg24 rfl rfl rfl) ?_
                                  refine AOps.call (o_loadRef _ rfl rfl Tryd.sizeOf54 Tryd.isAgg54 rfl rfl rfl) ?_
                                  refine AOps.call (o_move _ rfl rfl) ?_
                                  refine AOps.call (o_call (hB) Tryd.call51 rfl rfl) ?_
                                  refine AOps.call (o_move _ rfl rfl) ?_
                                  refine AOps.call (o_extract _ rfl rfl rfl rfl) ?_
                                  refine AOps.call (o_extract _ rfl rfl rfl rfl) ?_
                                  refine AOps.call (o_alloc ze40 rfl rfl) ?_
                                  refine AOps.cons (o_store _ _ rfl rfl Tryd.sizeOf40 rfl rfl rfl rfl rfl) ?_
                                  refine AOps.call (o_assign _ rfl rfl) ?_
                                  refine AOps.nil ?_
                                  refine AWP.seq ?_
                                  refine AWP.region ?_
                                  refine AOps.call (o_loadRef _ rfl rfl Tryd.sizeOf40 Tryd.isAgg40 rfl rfl rfl) ?_
                                  refine AOps.call (o_loadRef _ rfl rfl Tryd.sizeOf40 Tryd.isAgg40 rfl rfl rfl) ?_
                                  refine AOps.call (o_bin _ _ rfl rfl (spanEqS _ _ _ _) rfl) ?_
                                  refine AOps.call (o_move _ rfl rfl) ?_
                                  refine AOps.split rfl rfl rfl (fun h149 => ?_) (fun h149 => ?_)
                                  · skip
                                    refine AOps.go rfl rfl rfl h149 (o_move _ rfl rfl) ?_
                                    refine AOps.go rfl rfl rfl h149 (o_move _ rfl rfl) ?_
                                    refine AOps.go rfl rfl rfl h149 (o_bin _ _ rfl rfl (fun _ => rfl) rfl) ?_
                                    refine AOps.call (o_pickT _ _ _ rfl h149 rfl rfl) ?_
                                    refine AOps.call (o_assign _ rfl rfl) ?_
                                    refine AOps.nil ?_
                                    refine AWP.ret ?_
                                    first
                                    | exact postQ.ret1 Tryd.results10 rfl rfl
                                    | (exfalso; simp at *; done)
                                    | (exfalso; simp_all; done)
                                    | (refine postQ.ret1 Tryd.results10 rfl ?_; simp [AV.close, B]; done)
                                  · skip
                                    refine AOps.pass rfl rfl rfl h149 rfl ?_
                                    refine AOps.pass rfl rfl rfl h149 rfl ?_
                                    refine AOps.pass rfl rfl rfl h149 rfl ?_
                                    refine AOps.call (o_pickF _ _ _ rfl h149 rfl rfl) ?_
                                    refine AOps.call (o_assign _ rfl rfl) ?_
                                    refine AOps.nil ?_
                                    refine AWP.ret ?_
                                    first
                                    | exact postQ.ret1 Tryd.results10 rfl rfl
                                    | (exfalso; simp at *; done)
                                    | (exfalso; simp_all; done)
                                    | (refine postQ.ret1 Tryd.results10 rfl ?_; simp [AV.close, B]; done)
                              · skip
                                refine AOps.pass rfl rfl rfl h134 rfl ?_
                                refine AOps.pass rfl rfl rfl h134 rfl ?_
                                refine AOps.pass rfl rfl rfl h134 rfl ?_
                                refine AOps.call (o_pickT _ _ _ rfl h134 rfl rfl) ?_
                                refine AOps.nil ?_
                                refine AWP.condT rfl ?_
                                refine AWP.seq ?_
                                refine AWP.region ?_
                                refine AOps.call (o_assign _ rfl rfl) ?_
                                refine AOps.nil ?_
                                refine AWP.ret ?_
                                first
                                | exact postQ.ret1 Tryd.results10 rfl rfl
                                | (exfalso; simp at *; done)
                                | (exfalso; simp_all; done)
                                | (refine postQ.ret1 Tryd.results10 rfl ?_; simp [AV.close, B]; done)
                        · skip
                          refine AOps.pass rfl rfl rfl h86 rfl ?_
                          refine AOps.pass rfl rfl rfl h86 rfl ?_
                          refine AOps.call (o_pickT _ _ _ rfl h86 rfl rfl) ?_
                          refine AOps.nil ?_
                          refine AWP.condT rfl ?_
                          refine AWP.seq ?_
                          refine AWP.region ?_
                          refine AOps.call (o_assign _ rfl rfl) ?_
                          refine AOps.nil ?_
                          refine AWP.ret ?_
                          first
                          | exact postQ.ret1 Tryd.results10 rfl rfl
                          | (exfalso; simp at *; done)
                          | (exfalso; simp_all; done)
                          | (refine postQ.ret1 Tryd.results10 rfl ?_; simp [AV.close, B]; done)
                    · skip
                      refine AHead.pass rfl rfl rfl h77 rfl ?_
                      refine AHead.pass rfl rfl rfl h77 rfl ?_
                      refine AHead.pass rfl rfl rfl h77 rfl ?_
                      refine AHead.pass rfl rfl rfl h77 rfl ?_
                      refine AHead.pass rfl rfl rfl h77 rfl ?_
                      refine AHead.call (o_pickT _ _ _ rfl h77 rfl rfl) rfl ?_
                      refine AHead.nil ?_
                      refine AOps.nil ?_
                      refine AWP.condT rfl ?_
                      exfalso
                      first
                      | (have hq := of_decide_eq_true HYP; omega)
                      | (simp at HYP; omega)
                      | (simp only [Bool.not_false, decide_eq_true_eq, gt_iff_lt, beq_iff_eq] at *; omega)
                      | (simp at *; done)
                      | (simp at *; omega)
                  · skip
                    refine AHead.pass rfl rfl rfl h70 rfl ?_
                    refine AHead.pass rfl rfl rfl h70 rfl ?_
                    refine AHead.pass rfl rfl rfl h70 rfl ?_
                    refine AHead.pass rfl rfl rfl h70 rfl ?_
                    refine AHead.pass rfl rfl rfl h70 rfl ?_
                    refine AHead.pass rfl rfl rfl h70 rfl ?_
                    refine AHead.pass rfl rfl rfl h70 rfl ?_
                    refine AHead.pass rfl rfl rfl h70 rfl ?_
                    refine AHead.pass rfl rfl rfl h70 rfl ?_
                    refine AHead.call (o_pickT _ _ _ rfl h70 rfl rfl) rfl ?_
                    refine AHead.call (o_move _ rfl rfl) rfl ?_
                    refine AHead.pass rfl rfl rfl rfl rfl ?_
                    refine AHead.pass rfl rfl rfl rfl rfl ?_
                    refine AHead.pass rfl rfl rfl rfl rfl ?_
                    refine AHead.pass rfl rfl rfl rfl rfl ?_
                    refine AHead.pass rfl rfl rfl rfl rfl ?_
                    refine AHead.call (o_pickT _ _ _ rfl rfl rfl rfl) rfl ?_
                    refine AHead.nil ?_
                    refine AOps.nil ?_
                    refine AWP.condT rfl ?_
                    exfalso
                    first
                    | (have hq := of_decide_eq_true HYP; omega)
                    | (simp at HYP; omega)
                    | (simp only [Bool.not_false, decide_eq_true_eq, gt_iff_lt, beq_iff_eq] at *; omega)
                    | (simp at *; done)
                    | (simp at *; omega)
                · skip
                  refine AHead.pass rfl rfl rfl h64 rfl ?_
                  refine AHead.pass rfl rfl rfl h64 rfl ?_
                  refine AHead.pass rfl rfl rfl h64 rfl ?_
                  refine AHead.pass rfl rfl rfl h64 rfl ?_
                  refine AHead.pass rfl rfl rfl h64 rfl ?_
                  refine AHead.pass rfl rfl rfl h64 rfl ?_
                  refine AHead.pass rfl rfl rfl h64 rfl ?_
                  refine AHead.pass rfl rfl rfl h64 rfl ?_
                  refine AHead.call (o_pickT _ _ _ rfl h64 rfl rfl) rfl ?_
                  refine AHead.call (o_move _ rfl rfl) rfl ?_
                  refine AHead.pass rfl rfl rfl rfl rfl ?_
                  refine AHead.pass rfl rfl rfl rfl rfl ?_
                  refine AHead.pass rfl rfl rfl rfl rfl ?_
                  refine AHead.pass rfl rfl rfl rfl rfl ?_
                  refine AHead.pass rfl rfl rfl rfl rfl ?_
                  refine AHead.pass rfl rfl rfl rfl rfl ?_
                  refine AHead.pass rfl rfl rfl rfl rfl ?_
                  refine AHead.pass rfl rfl rfl rfl rfl ?_
                  refine AHead.pass rfl rfl rfl rfl rfl ?_
                  refine AHead.call (o_pickT _ _ _ rfl rfl rfl rfl) rfl ?_
                  refine AHead.call (o_move _ rfl rfl) rfl ?_
                  refine AHead.pass rfl rfl rfl rfl rfl ?_
                  refine AHead.pass rfl rfl rfl rfl rfl ?_
                  refine AHead.pass rfl rfl rfl rfl rfl ?_
                  refine AHead.pass rfl rfl rfl rfl rfl ?_
                  refine AHead.pass rfl rfl rfl rfl rfl ?_
                  refine AHead.call (o_pickT _ _ _ rfl rfl rfl rfl) rfl ?_
                  refine AHead.nil ?_
                  refine AOps.nil ?_
                  refine AWP.condT rfl ?_
                  exfalso
                  first
                  | (have hq := of_decide_eq_true HYP; omega)
                  | (simp at HYP; omega)
                  | (simp only [Bool.not_false, decide_eq_true_eq, gt_iff_lt, beq_iff_eq] at *; omega)
                  | (simp at *; done)
                  | (simp at *; omega)
              · skip
                refine AHead.pass rfl rfl rfl h59 rfl ?_
                refine AHead.pass rfl rfl rfl h59 rfl ?_
                refine AHead.pass rfl rfl rfl h59 rfl ?_
                refine AHead.pass rfl rfl rfl h59 rfl ?_
                refine AHead.pass rfl rfl rfl h59 rfl ?_
                refine AHead.pass rfl rfl rfl h59 rfl ?_
                refine AHead.call (o_pickT _ _ _ rfl h59 rfl rfl) rfl ?_
                refine AHead.call (o_move _ rfl rfl) rfl ?_
                refine AHead.pass rfl rfl rfl rfl rfl ?_
                refine AHead.pass rfl rfl rfl rfl rfl ?_
                refine AHead.pass rfl rfl rfl rfl rfl ?_
                refine AHead.pass rfl rfl rfl rfl rfl ?_
                refine AHead.pass rfl rfl rfl rfl rfl ?_
                refine AHead.pass rfl rfl rfl rfl rfl ?_
                refine AHead.pass rfl rfl rfl rfl rfl ?_
                refine AHead.pass rfl rfl rfl rfl rfl ?_
                refine AHead.call (o_pickT _ _ _ rfl rfl rfl rfl) rfl ?_
                refine AHead.call (o_move _ rfl rfl) rfl ?_
                refine AHead.pass rfl rfl rfl rfl rfl ?_
                refine AHead.pass rfl rfl rfl rfl rfl ?_
                refine AHead.pass rfl rfl rfl rfl rfl ?_
                refine AHead.pass rfl rfl rfl rfl rfl ?_
                refine AHead.pass rfl rfl rfl rfl rfl ?_
                refine AHead.pass rfl rfl rfl rfl rfl ?_
                refine AHead.pass rfl rfl rfl rfl rfl ?_
                refine AHead.pass rfl rfl rfl rfl rfl ?_
                refine AHead.pass rfl rfl rfl rfl rfl ?_
                refine AHead.call (o_pickT _ _ _ rfl rfl rfl rfl) rfl ?_
                refine AHead.call (o_move _ rfl rfl) rfl ?_
                refine AHead.pass rfl rfl rfl rfl rfl ?_
                refine AHead.pass rfl rfl rfl rfl rfl ?_
                refine AHead.pass rfl rfl rfl rfl rfl ?_
                refine AHead.pass rfl rfl rfl rfl rfl ?_
                refine AHead.pass rfl rfl rfl rfl rfl ?_
                refine AHead.call (o_pickT _ _ _ rfl rfl rfl rfl) rfl ?_
                refine AHead.nil ?_
                refine AOps.nil ?_
                refine AWP.condT rfl ?_
                exfalso
                first
                | (have hq := of_decide_eq_true HYP; omega)
                | (simp at HYP; omega)
                | (simp only [Bool.not_false, decide_eq_true_eq, gt_iff_lt, beq_iff_eq] at *; omega)
                | (simp at *; done)
                | (simp at *; omega)
            · skip
              refine AHead.pass rfl rfl rfl h53 rfl ?_
              refine AHead.pass rfl rfl rfl h53 rfl ?_
              refine AHead.pass rfl rfl rfl h53 rfl ?_
              refine AHead.pass rfl rfl rfl h53 rfl ?_
              refine AHead.pass rfl rfl rfl h53 rfl ?_
              refine AHead.pass rfl rfl rfl h53 rfl ?_
              refine AHead.pass rfl rfl rfl h53 rfl ?_
              refine AHead.pass rfl rfl rfl h53 rfl ?_
              refine AHead.call (o_pickT _ _ _ rfl h53 rfl rfl) rfl ?_
              refine AHead.call (o_move _ rfl rfl) rfl ?_
              refine AHead.pass rfl rfl rfl rfl rfl ?_
              refine AHead.pass rfl rfl rfl rfl rfl ?_
              refine AHead.pass rfl rfl rfl rfl rfl ?_
              refine AHead.pass rfl rfl rfl rfl rfl ?_
              refine AHead.pass rfl rfl rfl rfl rfl ?_
              refine AHead.pass rfl rfl rfl rfl rfl ?_
              refine AHead.call (o_pickT _ _ _ rfl rfl rfl rfl) rfl ?_
              refine AHead.call (o_move _ rfl rfl) rfl ?_
              refine AHead.pass rfl rfl rfl rfl rfl ?_
              refine AHead.pass rfl rfl rfl rfl rfl ?_
              refine AHead.pass rfl rfl rfl rfl rfl ?_
              refine AHead.pass rfl rfl rfl rfl rfl ?_
              refine AHead.pass rfl rfl rfl rfl rfl ?_
              refine AHead.pass rfl rfl rfl rfl rfl ?_
              refine AHead.pass rfl rfl rfl rfl rfl ?_
              refine AHead.pass rfl rfl rfl rfl rfl ?_
              refine AHead.call (o_pickT _ _ _ rfl rfl rfl rfl) rfl ?_
              refine AHead.call (o_move _ rfl rfl) rfl ?_
              refine AHead.pass rfl rfl rfl rfl rfl ?_
              refine AHead.pass rfl rfl rfl rfl rfl ?_
              refine AHead.pass rfl rfl rfl rfl rfl ?_
              refine AHead.pass rfl rfl rfl rfl rfl ?_
              refine AHead.pass rfl rfl rfl rfl rfl ?_
              refine AHead.pass rfl rfl rfl rfl rfl ?_
              refine AHead.pass rfl rfl rfl rfl rfl ?_
              refine AHead.pass rfl rfl rfl rfl rfl ?_
              refine AHead.pass rfl rfl rfl rfl rfl ?_
              refine AHead.call (o_pickT _ _ _ rfl rfl rfl rfl) rfl ?_
              refine AHead.call (o_move _ rfl rfl) rfl ?_
              refine AHead.pass rfl rfl rfl rfl rfl ?_
              refine AHead.pass rfl rfl rfl rfl rfl ?_
              refine AHead.pass rfl rfl rfl rfl rfl ?_
              refine AHead.pass rfl rfl rfl rfl rfl ?_
              refine AHead.pass rfl rfl rfl rfl rfl ?_
              refine AHead.call (o_pickT _ _ _ rfl rfl rfl rfl) rfl ?_
              refine AHead.nil ?_
              refine AOps.nil ?_
              refine AWP.condT rfl ?_
              exfalso
              first
              | (have hq := of_decide_eq_true HYP; omega)
              | (simp at HYP; omega)
              | (simp only [Bool.not_false, decide_eq_true_eq, gt_iff_lt, beq_iff_eq] at *; omega)
              | (simp at *; done)
              | (simp at *; omega)
        · skip
          exfalso
          simp at h24
    · skip
      refine AOps.pass rfl rfl rfl h10 rfl ?_
      refine AOps.pass rfl rfl rfl h10 rfl ?_
      refine AOps.pass rfl rfl rfl h10 rfl ?_
      refine AOps.pass rfl rfl rfl h10 rfl ?_
      refine AOps.call (o_pickT _ _ _ rfl h10 rfl rfl) ?_
      refine AOps.nil ?_
      refine AWP.condT rfl ?_
      refine AWP.seq ?_
      refine AWP.region ?_
      refine AOps.call (o_assign _ rfl rfl) ?_
      refine AOps.nil ?_
      refine AWP.ret ?_
      first
      | exact postQ.ret1 Tryd.results10 rfl rfl
      | (exfalso; simp at *; done)
      | (exfalso; simp_all; done)
      | (refine postQ.ret1 Tryd.results10 rfl ?_; simp [AV.close, B]; done)

set_option maxRecDepth 20000 in
theorem CourseAdds_b (c : Scl) (h : Sht) (kn m : Int) (hz : ¬ watE c h 0 kn = 0) (hne : h.stakes ≠ []) : FSpecG Tryd.prog TAB 10 [.agg (eS c), .agg (eH h), I kn, I m] (B true) (none) := by
  refine FSpecG.of_body tab_stable Tryd.func10 rfl (leB rfl) fun w0 M0 hG => ?_
  have hsl := stakes_len h.stakes
  have hA := Course_s c h kn
  have hl1 : 1 ≤ h.stakes.length := Nat.one_le_iff_ne_zero.2 (by simpa using hne)
  refine AWP.seq ?_
  refine AWP.region ?_
  refine AOps.call (o_box _ rfl rfl rfl) ?_
  refine AOps.call (o_box _ rfl rfl rfl) ?_
  refine AOps.call (o_assign _ rfl rfl) ?_
  refine AOps.nil ?_
  refine AWP.seq ?_
  refine AWP.seq ?_
  refine AWP.region ?_
  refine AOps.call (o_callG (sane_s) hG Tryd.call12 rfl rfl) ?_
  refine AOps.call (o_un _ rfl (fun _ => rfl) rfl) ?_
  refine AOps.nil ?_
  refine AWP.cond _ rfl (fun h5 => ?_) (fun h5 => ?_)
  · skip
    refine AWP.seq ?_
    refine AWP.region ?_
    refine AOps.call (o_assign _ rfl rfl) ?_
    refine AOps.nil ?_
    refine AWP.ret ?_
    first
    | exact postQ.ret1 Tryd.results10 rfl rfl
    | (exfalso; simp at *; done)
    | (exfalso; simp_all; done)
    | (refine postQ.ret1 Tryd.results10 rfl ?_; simp [AV.close, B]; done)
  · skip
    refine AWP.skip ?_
    refine AWP.seq ?_
    refine AWP.seq ?_
    refine AWP.region ?_
    refine AOps.call (o_fieldRef _ rfl fa24_2 rfl rfl) ?_
    refine AOps.call (o_loadRef _ rfl rfl Tryd.sizeOf22 Tryd.isAgg22 rfl rfl rfl) ?_
    refine AOps.call (o_len _ Tryd.underlying22 rfl rfl) ?_
    refine AOps.call (o_bin _ _ rfl rfl (fun _ => rfl) rfl) ?_
    refine AOps.call (o_move _ rfl rfl) ?_
    refine AOps.split rfl rfl rfl (fun h10 => ?_) (fun h10 => ?_)
    · skip
      refine AOps.go rfl rfl rfl h10 (o_fieldRef _ rfl fa54_8 rfl rfl) ?_
      refine AOps.go rfl rfl rfl h10 (o_loadRef _ rfl rfl Tryd.sizeOf52 Tryd.isAgg52 rfl rfl rfl) ?_
      refine AOps.go rfl rfl rfl h10 (o_len _ Tryd.underlying52 rfl rfl) ?_
      refine AOps.go rfl rfl rfl h10 (o_bin _ _ rfl rfl (fun _ => rfl) rfl) ?_
      refine AOps.call (o_pickF _ _ _ rfl h10 rfl rfl) ?_
      refine AOps.nil ?_
      refine AWP.cond _ rfl (fun h15 => ?_) (fun h15 => ?_)
      · skip
        refine AWP.seq ?_
        refine AWP.region ?_
        refine AOps.call (o_assign _ rfl rfl) ?_
        refine AOps.nil ?_
        refine AWP.ret ?_
        first
        | exact postQ.ret1 Tryd.results10 rfl rfl
        | (exfalso; simp at *; done)
        | (exfalso; simp_all; done)
        | (refine postQ.ret1 Tryd.results10 rfl ?_; simp [AV.close, B]; done)
      · skip
        have hs100 : h.stakes.length ≤ 100 := by simp [stakes_len] at h15; omega
        refine AWP.skip ?_
        refine AWP.seq ?_
        refine AWP.region ?_
        refine AOps.call (o_loadRef _ rfl rfl Tryd.sizeOf24 Tryd.isAgg24 rfl rfl rfl) ?_
        refine AOps.call (o_loadRef _ rfl rfl Tryd.sizeOf54 Tryd.isAgg54 rfl rfl rfl) ?_
        refine AOps.call (o_move _ rfl rfl) ?_
        refine AOps.call (o_call (hA) Tryd.call51 rfl rfl) ?_
        refine AOps.call (o_move _ rfl rfl) ?_
        refine AOps.call (o_extract _ rfl rfl rfl rfl) ?_
        refine AOps.call (o_extract _ rfl rfl rfl rfl) ?_
        refine AOps.call (o_alloc ze40 rfl rfl) ?_
        refine AOps.cons (o_store _ _ rfl rfl Tryd.sizeOf40 rfl rfl rfl rfl rfl) ?_
        refine AOps.call (o_assign _ rfl rfl) ?_
        refine AOps.nil ?_
        refine AWP.seq ?_
        refine AWP.seq ?_
        refine AWP.region ?_
        refine AOps.call (o_move _ rfl rfl) ?_
        refine AOps.call (o_bin _ _ rfl rfl (fun _ => rfl) rfl) ?_
        refine AOps.nil ?_
        refine AWP.cond _ rfl (fun h24 => ?_) (fun h24 => ?_)
        · skip
          exfalso
          simp at h24
          exact hz h24
        · skip
          refine AWP.skip ?_
          refine AWP.seq ?_
          refine AWP.seq ?_
          refine AWP.region ?_
          refine AOps.call (o_move _ rfl rfl) ?_
          refine AOps.call (o_bin _ _ rfl rfl (fun _ => rfl) rfl) ?_
          refine AOps.call (o_move _ rfl rfl) ?_
          refine AOps.split rfl rfl rfl (fun h27 => ?_) (fun h27 => ?_)
          · skip
            have hm1 := of_decide_eq_false h27
            refine AOps.go rfl rfl rfl h27 (o_move _ rfl rfl) ?_
            refine AOps.go rfl rfl rfl h27 (o_bin _ _ rfl rfl (fun _ => rfl) rfl) ?_
            refine AOps.call (o_pickF _ _ _ rfl h27 rfl rfl) ?_
            refine AOps.nil ?_
            refine AWP.cond _ rfl (fun h30 => ?_) (fun h30 => ?_)
            · skip
              refine AWP.seq ?_
              refine AWP.region ?_
              refine AOps.call (o_assign _ rfl rfl) ?_
              refine AOps.nil ?_
              refine AWP.ret ?_
              first
              | exact postQ.ret1 Tryd.results10 rfl rfl
              | (exfalso; simp at *; done)
              | (exfalso; simp_all; done)
              | (refine postQ.ret1 Tryd.results10 rfl ?_; simp [AV.close, B]; done)
            · skip
              have hm2 := of_decide_eq_false h30
              refine AWP.skip ?_
              refine AWP.seq ?_
              refine AWP.region ?_
              refine AOps.call (o_loadRef _ rfl rfl Tryd.sizeOf54 Tryd.isAgg54 rfl rfl rfl) ?_
              refine AOps.call (o_alloc ze54 rfl rfl) ?_
              refine AOps.cons (o_store _ _ rfl rfl Tryd.sizeOf54 rfl rfl rfl rfl rfl) ?_
              refine AOps.nil ?_
              refine AWP.seq ?_
              refine AWP.region ?_
              refine AOps.call (o_fieldRef _ rfl fa54_6 rfl rfl) ?_
              refine AOps.call (o_loadRef _ rfl rfl Tryd.sizeOf3 Tryd.isAgg3 rfl rfl rfl) ?_
              refine AOps.call (o_move _ rfl rfl) ?_
              refine AOps.call (o_addW _ _ rfl rfl rfl) ?_
              refine AOps.call (o_fieldRef _ rfl fa54_6 rfl rfl) ?_
              refine AOps.cons (o_store _ _ rfl rfl Tryd.sizeOf3 rfl rfl rfl rfl rfl) ?_
              refine AOps.nil ?_
              refine AWP.seq ?_
              refine AWP.region ?_
              refine AOps.call (o_fieldRef _ rfl fa54_8 rfl rfl) ?_
              refine AOps.call (o_loadRef _ rfl rfl Tryd.sizeOf52 Tryd.isAgg52 rfl rfl rfl) ?_
              refine AOps.call (ok_callArr (Clone53_s h.stakes (by omega)) (fun _ _ => trivial) Tryd.call53 rfl (by omega) stakes_z (stakes_scs _) rfl) ?_
              refine AOps.call (o_fieldRef _ rfl fa54_8 rfl rfl) ?_
              refine AOps.cons (o_store _ _ rfl rfl Tryd.sizeOf52 rfl rfl rfl rfl rfl) ?_
              refine AOps.nil ?_
              refine AWP.seq ?_
              refine AWP.seq ?_
              refine AWP.region ?_
              refine AOps.call (o_fieldRef _ rfl fa54_8 rfl rfl) ?_
              refine AOps.call (o_loadRef _ rfl rfl Tryd.sizeOf52 Tryd.isAgg52 rfl rfl rfl) ?_
              refine AOps.call (o_lenArr _ Tryd.underlying52 rfl rfl) ?_
              refine AOps.call (o_move _ rfl rfl) ?_
              refine AOps.nil ?_
              refine AWP.block ?_
              refine AWP.loop (ι := Nat) (fun i => AS.mk' 190 [(2, I kn), (3, I m), (4, .ref (4, 0) 0), (5, .ref (5, 0) 0), (9, .ref (9, 0) 0), (10, I (watE c h 0 kn)), (17, .ref (17, 0) 0), (136, I (stakes h.stakes).length), (137, I i)] [((4, 0), eS c), ((5, 0), eH h), ((9, 0), eP (couR c h kn)), ((17, 0), [I h.no, I h.cell, I h.day, I h.known, I h.scale, I h.mouth, I (IntKind.i64.wrap (h.empty + m)), I h.emptyDay, .arr (132, 0) 0 (stakes h.stakes).length]), ((132, 0), (stakes (mixL m i h.stakes)).flatten)] [] [(4, 1), (5, 1), (9, 1), (17, 1), (132, 1)]) (fun i => i ≤ h.stakes.length) (fun i => h.stakes.length - i) (0) (Weak.mk' rfl ⟨⟨.refl rfl, rfl⟩, ⟨⟨.refl rfl, rfl⟩, ⟨⟨.refl rfl, rfl⟩, ⟨⟨.refl rfl, rfl⟩, ⟨⟨.refl rfl, rfl⟩, ⟨⟨.refl rfl, rfl⟩, ⟨⟨.refl rfl, rfl⟩, ⟨⟨.refl rfl, rfl⟩, ⟨⟨.refl rfl, rfl⟩, trivial⟩⟩⟩⟩⟩⟩⟩⟩⟩ ⟨⟨rfl, rfl, rfl⟩, ⟨⟨rfl, rfl, rfl⟩, ⟨⟨rfl, rfl, rfl⟩, ⟨⟨rfl, rfl, rfl⟩, ⟨⟨rfl, lowL_sc _ _ (stakes_scs _), rfl⟩, trivial⟩⟩⟩⟩⟩ trivial) (Nat.zero_le _) ?_
              rintro k hk
              try dsimp only at *
              refine AWP.seq ?_
              refine AWP.region ?_
              refine AOps.call (o_bin _ _ rfl rfl (fun _ => rfl) rfl) ?_
              refine AOps.nil ?_
              refine AWP.seq ?_
              refine AWP.cond _ rfl (fun h47 => ?_) (fun h47 => ?_)
              · skip
                have hlt : k < h.stakes.length := by simp at h47; omega
                refine AWP.skip ?_
                refine AWP.seq ?_
                refine AWP.block ?_
                refine AWP.seq ?_
                refine AWP.region ?_
                refine AOps.call (o_move _ rfl rfl) ?_
                refine AOps.call (o_assign _ rfl rfl) ?_
                refine AOps.nil ?_
                refine AWP.seq ?_
                refine AWP.seq ?_
                refine AWP.region ?_
                refine AOps.call (o_fieldRef _ rfl fa54_8 rfl rfl) ?_
                refine AOps.call (o_loadRef _ rfl rfl Tryd.sizeOf52 Tryd.isAgg52 rfl rfl rfl) ?_
                refine AOps.call (o_move _ rfl rfl) ?_
                refine AOps.call (o_indexArr _ _ Tryd.underlying52 Tryd.sizeOf79 rfl rfl (by omega) (by omega) rfl rfl) ?_
                refine AOps.call (o_fieldRef _ rfl fa79_2 rfl rfl) ?_
                refine AOps.call (o_loadRefE _ rfl rfl Tryd.sizeOf3 Tryd.isAgg3 (part1 (mixF_get hlt)) rfl) ?_
                refine AOps.call (o_bin _ _ rfl rfl (fun _ => rfl) rfl) ?_
                refine AOps.call (o_move _ rfl rfl) ?_
                refine AOps.split rfl rfl rfl (fun h54 => ?_) (fun h54 => ?_)
                · skip
                  have hf1 := of_decide_eq_false h54
                  refine AOps.go rfl rfl rfl h54 (o_fieldRef _ rfl fa54_8 rfl rfl) ?_
                  refine AOps.go rfl rfl rfl h54 (o_loadRef _ rfl rfl Tryd.sizeOf52 Tryd.isAgg52 rfl rfl rfl) ?_
                  refine AOps.go rfl rfl rfl h54 (o_move _ rfl rfl) ?_
                  refine AOps.go rfl rfl rfl h54 (o_indexArr _ _ Tryd.underlying52 Tryd.sizeOf79 rfl rfl (by omega) (by omega) rfl rfl) ?_
                  refine AOps.go rfl rfl rfl h54 (o_fieldRef _ rfl fa79_2 rfl rfl) ?_
                  refine AOps.go rfl rfl rfl h54 (o_loadRefE _ rfl rfl Tryd.sizeOf3 Tryd.isAgg3 (part1 (mixF_get hlt)) rfl) ?_
                  refine AOps.go rfl rfl rfl h54 (o_bin _ _ rfl rfl (fun _ => rfl) rfl) ?_
                  refine AOps.call (o_pickF _ _ _ rfl h54 rfl rfl) ?_
                  refine AOps.nil ?_
                  refine AWP.cond _ rfl (fun h61 => ?_) (fun h61 => ?_)
                  · skip
                    refine AWP.seq ?_
                    refine AWP.region ?_
                    refine AOps.call (o_assign _ rfl rfl) ?_
                    refine AOps.nil ?_
                    refine AWP.ret ?_
                    first
                    | exact postQ.ret1 Tryd.results10 rfl rfl
                    | (exfalso; simp at *; done)
                    | (exfalso; simp_all; done)
                    | (refine postQ.ret1 Tryd.results10 rfl ?_; simp [AV.close, B]; done)
                  · skip
                    have hf2 := of_decide_eq_false h61
                    refine AWP.skip ?_
                    refine AWP.region ?_
                    refine AOps.call (o_fieldRef _ rfl fa54_8 rfl rfl) ?_
                    refine AOps.call (o_loadRef _ rfl rfl Tryd.sizeOf52 Tryd.isAgg52 rfl rfl rfl) ?_
                    refine AOps.call (o_move _ rfl rfl) ?_
                    refine AOps.call (o_indexArr _ _ Tryd.underlying52 Tryd.sizeOf79 rfl rfl (by omega) (by omega) rfl rfl) ?_
                    refine AOps.call (o_fieldRef _ rfl fa79_2 rfl rfl) ?_
                    refine AOps.call (o_loadRefE _ rfl rfl Tryd.sizeOf3 Tryd.isAgg3 (part1 (mixF_get hlt)) rfl) ?_
                    refine AOps.call (o_move _ rfl rfl) ?_
                    refine AOps.call (o_add _ _ rfl rfl ⟨by (try dsimp only); omega, by (try dsimp only); omega⟩ rfl) ?_
                    refine AOps.call (o_indexArr _ _ Tryd.underlying52 Tryd.sizeOf79 rfl rfl (by omega) (by omega) rfl rfl) ?_
                    refine AOps.call (o_fieldRef _ rfl fa79_2 rfl rfl) ?_
                    refine AOps.cons (o_storeE _ _ rfl rfl Tryd.sizeOf3 rfl rfl (by rw [mixF_len]; omega) rfl rfl) ?_
                    refine AOps.nil ?_
                    refine AWP.region ?_
                    refine AOps.call (o_add _ _ rfl rfl ⟨by (try dsimp only); omega, by (try dsimp only); omega⟩ rfl) ?_
                    refine AOps.call (o_move _ rfl rfl) ?_
                    refine AOps.nil ?_
                    refine ⟨k + 1, ?_, (Weak.mk' rfl ⟨⟨.refl rfl, rfl⟩, ⟨⟨.refl rfl, rfl⟩, ⟨⟨.refl rfl, rfl⟩, ⟨⟨.refl rfl, rfl⟩, ⟨⟨.refl rfl, rfl⟩, ⟨⟨.refl rfl, rfl⟩, ⟨⟨.refl rfl, rfl⟩, ⟨⟨.refl rfl, rfl⟩, ⟨⟨.refl rfl, rfl⟩, trivial⟩⟩⟩⟩⟩⟩⟩⟩⟩ ⟨⟨rfl, rfl, rfl⟩, ⟨⟨rfl, rfl, rfl⟩, ⟨⟨rfl, rfl, rfl⟩, ⟨⟨rfl, rfl, rfl⟩, ⟨⟨(congrArg some (mixF_set hlt)), lowL_sc _ _ (stakes_scs _), rfl⟩, trivial⟩⟩⟩⟩⟩ trivial)⟩
                    exact ⟨by omega, by omega⟩
                · skip
                  refine AOps.pass rfl rfl rfl h54 rfl ?_
                  refine AOps.pass rfl rfl rfl h54 rfl ?_
                  refine AOps.pass rfl rfl rfl h54 rfl ?_
                  refine AOps.pass rfl rfl rfl h54 rfl ?_
                  refine AOps.pass rfl rfl rfl h54 rfl ?_
                  refine AOps.pass rfl rfl rfl h54 rfl ?_
                  refine AOps.pass rfl rfl rfl h54 rfl ?_
                  refine AOps.call (o_pickT _ _ _ rfl h54 rfl rfl) ?_
                  refine AOps.nil ?_
                  refine AWP.condT rfl ?_
                  refine AWP.seq ?_
                  refine AWP.region ?_
                  refine AOps.call (o_assign _ rfl rfl) ?_
                  refine AOps.nil ?_
                  refine AWP.ret ?_
                  first
                  | exact postQ.ret1 Tryd.results10 rfl rfl
                  | (exfalso; simp at *; done)
                  | (exfalso; simp_all; done)
                  | (refine postQ.ret1 Tryd.results10 rfl ?_; simp [AV.close, B]; done)
              · skip
                have hkl : k = h.stakes.length := by simp at h47; omega
                have hmx : mixL m k h.stakes = h.stakes.map (addK m) := by rw [hkl]; exact mixL_all _ _
                refine AWP.weak (Weak.frzVa (id := (132, 0)) (id' := (17, 0)) (j := 8) (z := 5) (es := stakes (h.stakes.map (addK m))) (ds' := eH (addH m h)) rfl rfl rfl rfl (closeL_scs _ (stakes_scs _)) (by rw [hmx]) stakes_z (by simp [stakes_len]) rfl) ?_
                refine AWP.exit ?_
                refine AWP.seq ?_
                refine AWP.seq ?_
                refine AWP.region ?_
                refine AOps.call (o_loadRef _ rfl rfl Tryd.sizeOf54 Tryd.isAgg54 rfl rfl rfl) ?_
                refine AOps.call (o_call (CheckSheet_s h) Tryd.call35 rfl rfl) ?_
                refine AOps.call (o_bin _ _ rfl rfl (fun _ => rfl) rfl) ?_
                refine AOps.call (o_move _ rfl rfl) ?_
                refine AOps.split rfl rfl rfl (fun h75 => ?_) (fun h75 => ?_)
                · skip
                  have hs1 : sheetB h = true := by
                    cases hh : sheetB h with
                    | true => rfl
                    | false => rw [hh] at h75; simp at h75
                  refine AOps.go rfl rfl rfl h75 (o_loadRef _ rfl rfl Tryd.sizeOf54 Tryd.isAgg54 rfl rfl rfl) ?_
                  refine AOps.go rfl rfl rfl h75 (o_call (CheckSheet_s (addH m h)) Tryd.call35 rfl rfl) ?_
                  refine AOps.go rfl rfl rfl h75 (o_bin _ _ rfl rfl (fun _ => rfl) rfl) ?_
                  refine AOps.call (o_pickF _ _ _ rfl h75 rfl rfl) ?_
                  refine AOps.nil ?_
                  refine AWP.cond _ rfl (fun h79 => ?_) (fun h79 => ?_)
                  · skip
                    refine AWP.seq ?_
                    refine AWP.region ?_
                    refine AOps.call (o_assign _ rfl rfl) ?_
                    refine AOps.nil ?_
                    refine AWP.ret ?_
                    first
                    | exact postQ.ret1 Tryd.results10 rfl rfl
                    | (exfalso; simp at *; done)
                    | (exfalso; simp_all; done)
                    | (refine postQ.ret1 Tryd.results10 rfl ?_; simp [AV.close, B]; done)
                  · skip
                    have hs2 : sheetB (addH m h) = true := by
                      cases hh : sheetB (addH m h) with
                      | true => rfl
                      | false => rw [hh] at h79; simp at h79
                    obtain ⟨hcu1, hcu2⟩ := cou_add (c := c) (k := kn) hs1 hs2 ⟨by omega, by omega⟩
                    have hB := Course_s c (addH m h) kn
                    rw [hcu1, hcu2] at hB
                    refine AWP.skip ?_
                    refine AWP.seq ?_
                    refine AWP.region ?_
                    refine AOps.call (o_loadRef _ rfl rfl Tryd.sizeOf24 Tryd.isAgg24 rfl rfl rfl) ?_
                    refine AOps.call (o_loadRef _ rfl rfl Tryd.sizeOf54 Tryd.isAgg54 rfl rfl rfl) ?_
                    refine AOps.call (o_move _ rfl rfl) ?_
                    refine AOps.call (o_call (hB) Tryd.call51 rfl rfl) ?_
                    refine AOps.call (o_move _ rfl rfl) ?_
                    refine AOps.call (o_extract _ rfl rfl rfl rfl) ?_
                    refine AOps.call (o_extract _ rfl rfl rfl rfl) ?_
                    refine AOps.call (o_alloc ze40 rfl rfl) ?_
                    refine AOps.cons (o_store _ _ rfl rfl Tryd.sizeOf40 rfl rfl rfl rfl rfl) ?_
                    refine AOps.call (o_assign _ rfl rfl) ?_
                    refine AOps.nil ?_
                    refine AWP.seq ?_
                    refine AWP.region ?_
                    refine AOps.call (o_loadRef _ rfl rfl Tryd.sizeOf40 Tryd.isAgg40 rfl rfl rfl) ?_
                    refine AOps.call (o_loadRef _ rfl rfl Tryd.sizeOf40 Tryd.isAgg40 rfl rfl rfl) ?_
                    refine AOps.call (o_bin _ _ rfl rfl (spanEqS _ _ _ _) rfl) ?_
                    refine AOps.call (o_move _ rfl rfl) ?_
                    refine AOps.split rfl rfl rfl (fun h90 => ?_) (fun h90 => ?_)
                    · skip
                      refine AOps.go rfl rfl rfl h90 (o_move _ rfl rfl) ?_
                      refine AOps.go rfl rfl rfl h90 (o_move _ rfl rfl) ?_
                      refine AOps.go rfl rfl rfl h90 (o_bin _ _ rfl rfl (fun _ => rfl) rfl) ?_
                      refine AOps.call (o_pickT _ _ _ rfl h90 rfl rfl) ?_
                      refine AOps.call (o_assign _ rfl rfl) ?_
                      refine AOps.nil ?_
                      refine AWP.ret ?_
                      first
                      | exact postQ.ret1 Tryd.results10 rfl rfl
                      | (exfalso; simp at *; done)
                      | (exfalso; simp_all; done)
                      | (refine postQ.ret1 Tryd.results10 rfl ?_; simp [AV.close, B]; done)
                    · skip
                      refine AOps.pass rfl rfl rfl h90 rfl ?_
                      refine AOps.pass rfl rfl rfl h90 rfl ?_
                      refine AOps.pass rfl rfl rfl h90 rfl ?_
                      refine AOps.call (o_pickF _ _ _ rfl h90 rfl rfl) ?_
                      refine AOps.call (o_assign _ rfl rfl) ?_
                      refine AOps.nil ?_
                      refine AWP.ret ?_
                      first
                      | exact postQ.ret1 Tryd.results10 rfl rfl
                      | (exfalso; simp at *; done)
                      | (exfalso; simp_all; done)
                      | (refine postQ.ret1 Tryd.results10 rfl ?_; simp [AV.close, B]; done)
                · skip
                  refine AOps.pass rfl rfl rfl h75 rfl ?_
                  refine AOps.pass rfl rfl rfl h75 rfl ?_
                  refine AOps.pass rfl rfl rfl h75 rfl ?_
                  refine AOps.call (o_pickT _ _ _ rfl h75 rfl rfl) ?_
                  refine AOps.nil ?_
                  refine AWP.condT rfl ?_
                  refine AWP.seq ?_
                  refine AWP.region ?_
                  refine AOps.call (o_assign _ rfl rfl) ?_
                  refine AOps.nil ?_
                  refine AWP.ret ?_
                  first
                  | exact postQ.ret1 Tryd.results10 rfl rfl
                  | (exfalso; simp at *; done)
                  | (exfalso; simp_all; done)
                  | (refine postQ.ret1 Tryd.results10 rfl ?_; simp [AV.close, B]; done)
          · skip
            refine AOps.pass rfl rfl rfl h27 rfl ?_
            refine AOps.pass rfl rfl rfl h27 rfl ?_
            refine AOps.call (o_pickT _ _ _ rfl h27 rfl rfl) ?_
            refine AOps.nil ?_
            refine AWP.condT rfl ?_
            refine AWP.seq ?_
            refine AWP.region ?_
            refine AOps.call (o_assign _ rfl rfl) ?_
            refine AOps.nil ?_
            refine AWP.ret ?_
            first
            | exact postQ.ret1 Tryd.results10 rfl rfl
            | (exfalso; simp at *; done)
            | (exfalso; simp_all; done)
            | (refine postQ.ret1 Tryd.results10 rfl ?_; simp [AV.close, B]; done)
    · skip
      refine AOps.pass rfl rfl rfl h10 rfl ?_
      refine AOps.pass rfl rfl rfl h10 rfl ?_
      refine AOps.pass rfl rfl rfl h10 rfl ?_
      refine AOps.pass rfl rfl rfl h10 rfl ?_
      refine AOps.call (o_pickT _ _ _ rfl h10 rfl rfl) ?_
      refine AOps.nil ?_
      refine AWP.condT rfl ?_
      refine AWP.seq ?_
      refine AWP.region ?_
      refine AOps.call (o_assign _ rfl rfl) ?_
      refine AOps.nil ?_
      refine AWP.ret ?_
      first
      | exact postQ.ret1 Tryd.results10 rfl rfl
      | (exfalso; simp at *; done)
      | (exfalso; simp_all; done)
      | (refine postQ.ret1 Tryd.results10 rfl ?_; simp [AV.close, B]; done)

set_option maxRecDepth 20000 in
theorem CourseAdds_c (c : Scl) (no cell day known scale mouth empty ed : Int) (kn m : Int) : FSpecG Tryd.prog TAB 10 [.agg (eS c), .agg (eH (⟨no, cell, day, known, scale, mouth, empty, ed, []⟩ : Sht)), I kn, I m] (B true) (none) := by
  refine FSpecG.of_body tab_stable Tryd.func10 rfl (leB rfl) fun w0 M0 hG => ?_
  have hbad : sheetB (⟨no, cell, day, known, scale, mouth, empty, ed, []⟩ : Sht) = false := by simp [sheetB]
  have hz : ¬ watE c (⟨no, cell, day, known, scale, mouth, empty, ed, []⟩ : Sht) 0 kn = 0 := fun hh => by
    have := (stake_z (wat_0 hh).1).2
    rw [hbad] at this; cases this
  have hA := Course_s c (⟨no, cell, day, known, scale, mouth, empty, ed, []⟩ : Sht) kn
  have hC := CheckSheet_s (⟨no, cell, day, known, scale, mouth, empty, ed, []⟩ : Sht)
  rw [hbad] at hC
  refine AWP.seq ?_
  refine AWP.region ?_
  refine AOps.call (o_box _ rfl rfl rfl) ?_
  refine AOps.call (o_box _ rfl rfl rfl) ?_
  refine AOps.call (o_assign _ rfl rfl) ?_
  refine AOps.nil ?_
  refine AWP.seq ?_
  refine AWP.seq ?_
  refine AWP.region ?_
  refine AOps.call (o_callG (sane_s) hG Tryd.call12 rfl rfl) ?_
  refine AOps.call (o_un _ rfl (fun _ => rfl) rfl) ?_
  refine AOps.nil ?_
  refine AWP.cond _ rfl (fun h5 => ?_) (fun h5 => ?_)
  · skip
    refine AWP.seq ?_
    refine AWP.region ?_
    refine AOps.call (o_assign _ rfl rfl) ?_
    refine AOps.nil ?_
    refine AWP.ret ?_
    first
    | exact postQ.ret1 Tryd.results10 rfl rfl
    | (exfalso; simp at *; done)
    | (exfalso; simp_all; done)
    | (refine postQ.ret1 Tryd.results10 rfl ?_; simp [AV.close, B]; done)
  · skip
    refine AWP.skip ?_
    refine AWP.seq ?_
    refine AWP.seq ?_
    refine AWP.region ?_
    refine AOps.call (o_fieldRef _ rfl fa24_2 rfl rfl) ?_
    refine AOps.call (o_loadRef _ rfl rfl Tryd.sizeOf22 Tryd.isAgg22 rfl rfl rfl) ?_
    refine AOps.call (o_len _ Tryd.underlying22 rfl rfl) ?_
    refine AOps.call (o_bin _ _ rfl rfl (fun _ => rfl) rfl) ?_
    refine AOps.call (o_move _ rfl rfl) ?_
    refine AOps.split rfl rfl rfl (fun h10 => ?_) (fun h10 => ?_)
    · skip
      refine AOps.go rfl rfl rfl h10 (o_fieldRef _ rfl fa54_8 rfl rfl) ?_
      refine AOps.go rfl rfl rfl h10 (o_loadRef _ rfl rfl Tryd.sizeOf52 Tryd.isAgg52 rfl rfl rfl) ?_
      refine AOps.go rfl rfl rfl h10 (o_len _ Tryd.underlying52 rfl rfl) ?_
      refine AOps.go rfl rfl rfl h10 (o_bin _ _ rfl rfl (fun _ => rfl) rfl) ?_
      refine AOps.call (o_pickF _ _ _ rfl h10 rfl rfl) ?_
      refine AOps.nil ?_
      refine AWP.cond _ rfl (fun h15 => ?_) (fun h15 => ?_)
      · skip
        refine AWP.seq ?_
        refine AWP.region ?_
        refine AOps.call (o_assign _ rfl rfl) ?_
        refine AOps.nil ?_
        refine AWP.ret ?_
        first
        | exact postQ.ret1 Tryd.results10 rfl rfl
        | (exfalso; simp at *; done)
        | (exfalso; simp_all; done)
        | (refine postQ.ret1 Tryd.results10 rfl ?_; simp [AV.close, B]; done)
      · skip
        refine AWP.skip ?_
        refine AWP.seq ?_
        refine AWP.region ?_
        refine AOps.call (o_loadRef _ rfl rfl Tryd.sizeOf24 Tryd.isAgg24 rfl rfl rfl) ?_
        refine AOps.call (o_loadRef _ rfl rfl Tryd.sizeOf54 Tryd.isAgg54 rfl rfl rfl) ?_
        refine AOps.call (o_move _ rfl rfl) ?_
        refine AOps.call (o_call (hA) Tryd.call51 rfl rfl) ?_
        refine AOps.call (o_move _ rfl rfl) ?_
        refine AOps.call (o_extract _ rfl rfl rfl rfl) ?_
        refine AOps.call (o_extract _ rfl rfl rfl rfl) ?_
        refine AOps.call (o_alloc ze40 rfl rfl) ?_
        refine AOps.cons (o_store _ _ rfl rfl Tryd.sizeOf40 rfl rfl rfl rfl rfl) ?_
        refine AOps.call (o_assign _ rfl rfl) ?_
        refine AOps.nil ?_
        refine AWP.seq ?_
        refine AWP.seq ?_
        refine AWP.region ?_
        refine AOps.call (o_move _ rfl rfl) ?_
        refine AOps.call (o_bin _ _ rfl rfl (fun _ => rfl) rfl) ?_
        refine AOps.nil ?_
        refine AWP.cond _ rfl (fun h24 => ?_) (fun h24 => ?_)
        · skip
          exfalso
          simp at h24
          exact hz h24
        · skip
          refine AWP.skip ?_
          refine AWP.seq ?_
          refine AWP.seq ?_
          refine AWP.region ?_
          refine AOps.call (o_move _ rfl rfl) ?_
          refine AOps.call (o_bin _ _ rfl rfl (fun _ => rfl) rfl) ?_
          refine AOps.call (o_move _ rfl rfl) ?_
          refine AOps.split rfl rfl rfl (fun h27 => ?_) (fun h27 => ?_)
          · skip
            refine AOps.go rfl rfl rfl h27 (o_move _ rfl rfl) ?_
            refine AOps.go rfl rfl rfl h27 (o_bin _ _ rfl rfl (fun _ => rfl) rfl) ?_
            refine AOps.call (o_pickF _ _ _ rfl h27 rfl rfl) ?_
            refine AOps.nil ?_
            refine AWP.cond _ rfl (fun h30 => ?_) (fun h30 => ?_)
            · skip
              refine AWP.seq ?_
              refine AWP.region ?_
              refine AOps.call (o_assign _ rfl rfl) ?_
              refine AOps.nil ?_
              refine AWP.ret ?_
              first
              | exact postQ.ret1 Tryd.results10 rfl rfl
              | (exfalso; simp at *; done)
              | (exfalso; simp_all; done)
              | (refine postQ.ret1 Tryd.results10 rfl ?_; simp [AV.close, B]; done)
            · skip
              refine AWP.skip ?_
              refine AWP.seq ?_
              refine AWP.region ?_
              refine AOps.call (o_loadRef _ rfl rfl Tryd.sizeOf54 Tryd.isAgg54 rfl rfl rfl) ?_
              refine AOps.call (o_alloc ze54 rfl rfl) ?_
              refine AOps.cons (o_store _ _ rfl rfl Tryd.sizeOf54 rfl rfl rfl rfl rfl) ?_
              refine AOps.nil ?_
              refine AWP.seq ?_
              refine AWP.region ?_
              refine AOps.call (o_fieldRef _ rfl fa54_6 rfl rfl) ?_
              refine AOps.call (o_loadRef _ rfl rfl Tryd.sizeOf3 Tryd.isAgg3 rfl rfl rfl) ?_
              refine AOps.call (o_move _ rfl rfl) ?_
              refine AOps.call (o_addW _ _ rfl rfl rfl) ?_
              refine AOps.call (o_fieldRef _ rfl fa54_6 rfl rfl) ?_
              refine AOps.cons (o_store _ _ rfl rfl Tryd.sizeOf3 rfl rfl rfl rfl rfl) ?_
              refine AOps.nil ?_
              refine AWP.seq ?_
              refine AWP.region ?_
              refine AOps.call (o_fieldRef _ rfl fa54_8 rfl rfl) ?_
              refine AOps.call (o_loadRef _ rfl rfl Tryd.sizeOf52 Tryd.isAgg52 rfl rfl rfl) ?_
              refine AOps.call (o_call (Clone53_s [] (by simp)) Tryd.call53 rfl rfl) ?_
              refine AOps.call (o_fieldRef _ rfl fa54_8 rfl rfl) ?_
              refine AOps.cons (o_store _ _ rfl rfl Tryd.sizeOf52 rfl rfl rfl rfl rfl) ?_
              refine AOps.nil ?_
              refine AWP.seq ?_
              refine AWP.seq ?_
              refine AWP.region ?_
              refine AOps.call (o_fieldRef _ rfl fa54_8 rfl rfl) ?_
              refine AOps.call (o_loadRef _ rfl rfl Tryd.sizeOf52 Tryd.isAgg52 rfl rfl rfl) ?_
              refine AOps.call (o_len _ Tryd.underlying52 rfl rfl) ?_
              refine AOps.call (o_move _ rfl rfl) ?_
              refine AOps.nil ?_
              refine AWP.block ?_
              refine AWP.loop (ι := Nat) (fun i => AS.mk' 190 [(2, I kn), (3, I m), (4, .ref (4, 0) 0), (5, .ref (5, 0) 0), (9, .ref (9, 0) 0), (10, I (watE c (⟨no, cell, day, known, scale, mouth, empty, ed, []⟩ : Sht) 0 kn)), (17, .ref (17, 0) 0), (136, I 0), (137, I i)] [((4, 0), eS c), ((5, 0), eH (⟨no, cell, day, known, scale, mouth, empty, ed, []⟩ : Sht)), ((9, 0), eP (couR c (⟨no, cell, day, known, scale, mouth, empty, ed, []⟩ : Sht) kn)), ((17, 0), [I no, I cell, I day, I known, I scale, I mouth, I (IntKind.i64.wrap (empty + m)), I ed, .own (132, 0) (stakes [])])] [] [(4, 1), (5, 1), (9, 1), (17, 1), (132, 1)]) (fun i => i ≤ 0) (fun i => 0 - i) (0) (Weak.mk' rfl ⟨⟨.refl rfl, rfl⟩, ⟨⟨.refl rfl, rfl⟩, ⟨⟨.refl rfl, rfl⟩, ⟨⟨.refl rfl, rfl⟩, ⟨⟨.refl rfl, rfl⟩, ⟨⟨.refl rfl, rfl⟩, ⟨⟨.refl rfl, rfl⟩, ⟨⟨.refl rfl, rfl⟩, ⟨⟨.refl rfl, rfl⟩, trivial⟩⟩⟩⟩⟩⟩⟩⟩⟩ ⟨⟨rfl, rfl, rfl⟩, ⟨⟨rfl, rfl, rfl⟩, ⟨⟨rfl, rfl, rfl⟩, ⟨⟨rfl, rfl, rfl⟩, trivial⟩⟩⟩⟩ trivial) (Nat.le_refl _) ?_
              rintro k hk
              try dsimp only at *
              refine AWP.seq ?_
              refine AWP.region ?_
              refine AOps.call (o_bin _ _ rfl rfl (fun _ => rfl) rfl) ?_
              refine AOps.nil ?_
              refine AWP.seq ?_
              refine AWP.cond _ rfl (fun h47 => ?_) (fun h47 => ?_)
              · skip
                exfalso
                simp at h47
                omega
              · skip
                refine AWP.exit ?_
                refine AWP.seq ?_
                refine AWP.seq ?_
                refine AWP.region ?_
                refine AOps.call (o_loadRef _ rfl rfl Tryd.sizeOf54 Tryd.isAgg54 rfl rfl rfl) ?_
                refine AOps.call (o_call (hC) Tryd.call35 rfl rfl) ?_
                refine AOps.call (o_bin _ _ rfl rfl (fun _ => rfl) rfl) ?_
                refine AOps.call (o_move _ rfl rfl) ?_
                refine AOps.split rfl rfl rfl (fun h51 => ?_) (fun h51 => ?_)
                · skip
                  exfalso
                  simp at h51
                · skip
                  refine AOps.pass rfl rfl rfl h51 rfl ?_
                  refine AOps.pass rfl rfl rfl h51 rfl ?_
                  refine AOps.pass rfl rfl rfl h51 rfl ?_
                  refine AOps.call (o_pickT _ _ _ rfl h51 rfl rfl) ?_
                  refine AOps.nil ?_
                  refine AWP.condT rfl ?_
                  refine AWP.seq ?_
                  refine AWP.region ?_
                  refine AOps.call (o_assign _ rfl rfl) ?_
                  refine AOps.nil ?_
                  refine AWP.ret ?_
                  first
                  | exact postQ.ret1 Tryd.results10 rfl rfl
                  | (exfalso; simp at *; done)
                  | (exfalso; simp_all; done)
                  | (refine postQ.ret1 Tryd.results10 rfl ?_; simp [AV.close, B]; done)
          · skip
            refine AOps.pass rfl rfl rfl h27 rfl ?_
            refine AOps.pass rfl rfl rfl h27 rfl ?_
            refine AOps.call (o_pickT _ _ _ rfl h27 rfl rfl) ?_
            refine AOps.nil ?_
            refine AWP.condT rfl ?_
            refine AWP.seq ?_
            refine AWP.region ?_
            refine AOps.call (o_assign _ rfl rfl) ?_
            refine AOps.nil ?_
            refine AWP.ret ?_
            first
            | exact postQ.ret1 Tryd.results10 rfl rfl
            | (exfalso; simp at *; done)
            | (exfalso; simp_all; done)
            | (refine postQ.ret1 Tryd.results10 rfl ?_; simp [AV.close, B]; done)
    · skip
      refine AOps.pass rfl rfl rfl h10 rfl ?_
      refine AOps.pass rfl rfl rfl h10 rfl ?_
      refine AOps.pass rfl rfl rfl h10 rfl ?_
      refine AOps.pass rfl rfl rfl h10 rfl ?_
      refine AOps.call (o_pickT _ _ _ rfl h10 rfl rfl) ?_
      refine AOps.nil ?_
      refine AWP.condT rfl ?_
      refine AWP.seq ?_
      refine AWP.region ?_
      refine AOps.call (o_assign _ rfl rfl) ?_
      refine AOps.nil ?_
      refine AWP.ret ?_
      first
      | exact postQ.ret1 Tryd.results10 rfl rfl
      | (exfalso; simp at *; done)
      | (exfalso; simp_all; done)
      | (refine postQ.ret1 Tryd.results10 rfl ?_; simp [AV.close, B]; done)

theorem CourseAdds_s (c : Scl) (h : Sht) (kn m : Int) : FSpecG Tryd.prog TAB 10 [.agg (eS c), .agg (eH h), I kn, I m] (B true) none := by
  by_cases hz : watE c h 0 kn = 0
  · exact CourseAdds_a c h kn m hz
  · by_cases hne : h.stakes = []
    · obtain ⟨no, cell, day, known, scale, mouth, empty, ed, l⟩ := h
      obtain rfl : l = [] := hne
      exact CourseAdds_c c no cell day known scale mouth empty ed kn m
    · exact CourseAdds_b c h kn m hz hne

end Go.Proofs.YtphoomnonenalaaDoor
