import Derived.Test.YtgagfmjpmdgfdaaDoorQ16
import Derived.Test.YtgagfmjpmdgfdaaDoorX13
import Derived.Test.YtgagfmjpmdgfdaaDoorAc4
set_option linter.unusedSimpArgs false
set_option linter.unusedVariables false
namespace Go.Proofs.YtgagfmjpmdgfdaaDoor
open Go.Ab

set_option maxHeartbeats 4000000 in
set_option maxRecDepth 20000 in
theorem PackRun_s (p : List Lay) (l : List Stp) (cut : Int) : FSpecG Tryd.prog TAB 17 [.agg (eK p), .sl (stpsL l), I cut] (B true) (none) := by
  refine FSpecG.of_body tab_stable Tryd.func17 rfl (leB rfl) fun w0 M0 hG => ?_
  have hsl := stpsL_len l
  refine AWP.seq ?_
  refine AWP.region ?_
  refine AOps.call (o_box _ rfl rfl rfl) ?_
  refine AOps.call (o_assign _ rfl rfl) ?_
  refine AOps.nil ?_
  refine AWP.seq ?_
  refine AWP.seq ?_
  refine AWP.region ?_
  refine AOps.call (o_callG (sane_s) hG Tryd.call18 rfl rfl) ?_
  refine AOps.call (o_un _ rfl (fun _ => rfl) rfl) ?_
  refine AOps.nil ?_
  refine AWP.cond _ rfl (fun h4 => ?_) (fun h4 => ?_)
  · skip
    exfalso
    simp at h4
  · skip
    refine AWP.skip ?_
    refine AWP.seq ?_
    refine AWP.seq ?_
    refine AWP.region ?_
    refine AOps.call (o_move _ rfl rfl) ?_
    refine AOps.call (o_len _ Tryd.underlying43 rfl rfl) ?_
    refine AOps.call (o_bin _ _ rfl rfl (fun _ => rfl) rfl) ?_
    refine AOps.call (o_move _ rfl rfl) ?_
    refine AOps.split rfl rfl rfl (fun h8 => ?_) (fun h8 => ?_)
    · skip
      have g1 := of_decide_eq_false h8
      refine AOps.go rfl rfl rfl h8 (o_move _ rfl rfl) ?_
      refine AOps.go rfl rfl rfl h8 (o_bin _ _ rfl rfl (fun _ => rfl) rfl) ?_
      refine AOps.call (o_pickF _ _ _ rfl h8 rfl rfl) ?_
      refine AOps.call (o_move _ rfl rfl) ?_
      refine AOps.split rfl rfl rfl (fun h11 => ?_) (fun h11 => ?_)
      · skip
        have g2 := of_decide_eq_false h11
        refine AOps.go rfl rfl rfl h11 (o_move _ rfl rfl) ?_
        refine AOps.go rfl rfl rfl h11 (o_move _ rfl rfl) ?_
        refine AOps.go rfl rfl rfl h11 (o_len _ Tryd.underlying43 rfl rfl) ?_
        refine AOps.go rfl rfl rfl h11 (o_bin _ _ rfl rfl (fun _ => rfl) rfl) ?_
        refine AOps.call (o_pickF _ _ _ rfl h11 rfl rfl) ?_
        refine AOps.nil ?_
        refine AWP.cond _ rfl (fun h16 => ?_) (fun h16 => ?_)
        · skip
          refine AWP.seq ?_
          refine AWP.region ?_
          refine AOps.call (o_assign _ rfl rfl) ?_
          refine AOps.nil ?_
          refine AWP.ret ?_
          first
          | exact postQ.ret1 Tryd.results17 rfl rfl
          | (refine postQ.ret1 Tryd.results17 rfl ?_; simp [AV.close, AV.close.closeL, B, I]; done)
          | (refine postQ.ret1 Tryd.results17 rfl ?_; simp [AV.close, AV.close.closeL, B, I]; omega)
          | (refine postQ.ret1 Tryd.results17 rfl ?_; simp_all [AV.close, AV.close.closeL, B, I]; done)
          | (refine postQ.ret1 Tryd.results17 rfl ?_; simp_all [AV.close, AV.close.closeL, B, I]; omega)
        · skip
          have g3 := of_decide_eq_false h16
          obtain ⟨k, rfl⟩ : ∃ k : Nat, cut = (k : Int) := ⟨cut.toNat, by omega⟩
          have hk : k ≤ l.length := by omega
          have hcut := run_cut (p := p) (l := l) (k := k) (by omega) hk
          have n1 := run_len p (l.take k)
          have n2 := run_len (runM p (l.take k)).1 (l.drop k)
          have hcat : ∀ a b : List Int, ints a ++ ints b = ints (a ++ b) := fun a b => by unfold ints; rw [List.map_append]
          refine AWP.skip ?_
          refine AWP.seq ?_
          refine AWP.region ?_
          refine AOps.call (o_loadRef _ rfl rfl Tryd.sizeOf24 Tryd.isAgg24 rfl rfl rfl) ?_
          refine AOps.call (o_move _ rfl rfl) ?_
          refine AOps.call (o_call (Run_s p l) Tryd.call34 rfl rfl) ?_
          refine AOps.call (o_move _ rfl rfl) ?_
          refine AOps.call (o_extract _ rfl rfl rfl rfl) ?_
          refine AOps.call (o_extract _ rfl rfl rfl rfl) ?_
          refine AOps.call (o_extract _ rfl rfl rfl rfl) ?_
          refine AOps.call (o_alloc ze24 rfl rfl) ?_
          refine AOps.cons (o_store _ _ rfl rfl Tryd.sizeOf24 rfl rfl rfl rfl rfl) ?_
          refine AOps.call (o_assign _ rfl rfl) ?_
          refine AOps.call (o_assign _ rfl rfl) ?_
          refine AOps.nil ?_
          refine AWP.seq ?_
          refine AWP.drawnT 11 (fun i => Nat.beq i 8 || Nat.beq i 9 || Nat.beq i 12 || Nat.beq i 13) (10, 0) (eK (runM p (l.take k)).1) mixed (by kernel_rfl) ?_
          refine AHeadT.call (o_loadRef _ rfl rfl Tryd.sizeOf24 Tryd.isAgg24 rfl rfl rfl) rfl rfl rfl ?_
          refine AHeadT.call (o_move _ rfl rfl) rfl rfl rfl ?_
          refine AHeadT.call (o_move _ rfl rfl) rfl rfl rfl ?_
          refine AHeadT.call (o_move _ rfl rfl) rfl rfl rfl ?_
          refine AHeadT.call (o_slice3S (h := k) _ _ _ Tryd.underlying43 Tryd.sizeOf26 rfl (boundA_some rfl (by omega) (by omega)) (boundA_some rfl (by omega) (by omega)) (by omega) rfl) rfl rfl rfl ?_
          refine AHeadT.call (o_call (run_take p l k) Tryd.call34 rfl rfl) rfl rfl rfl ?_
          refine AHeadT.call (o_move _ rfl rfl) rfl rfl rfl ?_
          refine AHeadT.call (o_extract _ rfl rfl rfl rfl) rfl rfl rfl ?_
          refine AHeadT.callL (o_extract _ rfl rfl rfl rfl) rfl rfl ?_
          refine AHeadT.callL (o_extract _ rfl rfl rfl rfl) rfl rfl ?_
          refine AHeadT.call (o_alloc ze24 rfl rfl) rfl rfl rfl ?_
          refine AHeadT.store (ok_storeAny _ _ rfl rfl Tryd.sizeOf24 rfl rfl rfl rfl rfl) rfl ?_
          refine AHeadT.callL (o_assign _ rfl rfl) rfl rfl ?_
          refine AHeadT.callL (o_assign _ rfl rfl) rfl rfl ?_
          refine AHeadT.nil ?_
          refine AWP.seq ?_
          refine AWP.seq ?_
          refine AWP.region ?_
          refine AOps.call (o_move _ rfl rfl) ?_
          refine AOps.call (o_bin _ _ rfl rfl (fun _ => rfl) rfl) ?_
          refine AOps.nil ?_
          refine AWP.cond _ rfl (fun h35 => ?_) (fun h35 => ?_)
          · skip
            have hn : ¬ (runM p (l.take k)).2.2 = 0 := by simpa using h35
            have r1 := hcut.1 hn
            have hl0 := lays_nil (congrArg Prod.fst r1)
            have hi0 : ints (runM p l).2.1 = [] := by rw [r1]; rfl
            refine AWP.seq ?_
            refine AWP.region ?_
            refine AOps.call (o_move _ rfl rfl) ?_
            refine AOps.call (o_move _ rfl rfl) ?_
            refine AOps.call (o_bin _ _ rfl rfl (fun _ => rfl) rfl) ?_
            refine AOps.call (o_move _ rfl rfl) ?_
            refine AOps.split rfl rfl rfl (fun h37 => ?_) (fun h37 => ?_)
            · skip
              refine AOps.go rfl rfl rfl h37 (o_move _ rfl rfl) ?_
              refine AOps.go rfl rfl rfl h37 (o_len _ Tryd.underlying44 rfl rfl) ?_
              refine AOps.go rfl rfl rfl h37 (o_bin _ _ rfl rfl (fun _ => rfl) rfl) ?_
              refine AOps.call (o_pickT _ _ _ rfl h37 rfl rfl) ?_
              refine AOps.call (o_move _ rfl rfl) ?_
              refine AOps.split rfl rfl rfl (fun h40 => ?_) (fun h40 => ?_)
              · skip
                refine AOps.go rfl rfl rfl h40 (o_fieldRef _ rfl fa24_0 rfl rfl) ?_
                refine AOps.go rfl rfl rfl h40 (o_loadRef _ rfl rfl Tryd.sizeOf22 Tryd.isAgg22 rfl rfl rfl) ?_
                refine AOps.go rfl rfl rfl h40 (o_len _ Tryd.underlying22 rfl rfl) ?_
                refine AOps.go rfl rfl rfl h40 (o_bin _ _ rfl rfl (fun _ => rfl) rfl) ?_
                refine AOps.call (o_pickT _ _ _ rfl h40 rfl rfl) ?_
                refine AOps.call (o_assign _ rfl rfl) ?_
                refine AOps.nil ?_
                refine AWP.ret ?_
                first
                | exact postQ.ret1 Tryd.results17 rfl rfl
                | (refine postQ.ret1 Tryd.results17 rfl ?_; simp [AV.close, AV.close.closeL, B, I]; done)
                | (refine postQ.ret1 Tryd.results17 rfl ?_; simp [AV.close, AV.close.closeL, B, I]; omega)
                | (refine postQ.ret1 Tryd.results17 rfl ?_; simp_all [AV.close, AV.close.closeL, B, I]; done)
                | (refine postQ.ret1 Tryd.results17 rfl ?_; simp_all [AV.close, AV.close.closeL, B, I]; omega)
              · skip
                exfalso
                simp [hi0] at h40
            · skip
              exfalso
              rw [r1] at h37
              simp at h37
          · skip
            have hok : (runM p (l.take k)).2.2 = 0 := by simpa using h35
            have r2 := hcut.2 hok
            refine AWP.skip ?_
            refine AWP.seq ?_
            refine AWP.drawnT 10 (fun i => Nat.beq i 7 || Nat.beq i 8 || Nat.beq i 11 || Nat.beq i 12) (13, 0) (eK (runM (runM p (l.take k)).1 (l.drop k)).1) mixed (by kernel_rfl) ?_
            refine AHeadT.call (o_loadRef _ rfl rfl Tryd.sizeOf24 Tryd.isAgg24 rfl rfl rfl) rfl rfl rfl ?_
            refine AHeadT.call (o_move _ rfl rfl) rfl rfl rfl ?_
            refine AHeadT.call (o_move _ rfl rfl) rfl rfl rfl ?_
            refine AHeadT.call (o_sliceE (l := k) (hh := (stpsL l).length) (rs := stpsL (l.drop k)) _ _ _ Tryd.underlying43 Tryd.sizeOf26 rfl (boundA_some rfl (by omega) (by omega)) rfl (by omega) (by omega) stpsL_z (by unfold stpsL; rw [← List.map_drop, List.take_of_length_le (by simp)]) rfl) rfl rfl rfl ?_
            refine AHeadT.call (o_call (Run_s (runM p (l.take k)).1 (l.drop k)) Tryd.call34 rfl rfl) rfl rfl rfl ?_
            refine AHeadT.call (o_move _ rfl rfl) rfl rfl rfl ?_
            refine AHeadT.call (o_extract _ rfl rfl rfl rfl) rfl rfl rfl ?_
            refine AHeadT.callL (o_extract _ rfl rfl rfl rfl) rfl rfl ?_
            refine AHeadT.callL (o_extract _ rfl rfl rfl rfl) rfl rfl ?_
            refine AHeadT.call (o_alloc ze24 rfl rfl) rfl rfl rfl ?_
            refine AHeadT.store (ok_storeAny _ _ rfl rfl Tryd.sizeOf24 rfl rfl rfl rfl rfl) rfl ?_
            refine AHeadT.callL (o_assign _ rfl rfl) rfl rfl ?_
            refine AHeadT.callL (o_assign _ rfl rfl) rfl rfl ?_
            refine AHeadT.nil ?_
            refine AWP.seq ?_
            refine AWP.region ?_
            refine AOps.call (o_move _ rfl rfl) ?_
            refine AOps.call (o_move _ rfl rfl) ?_
            refine AOps.call (o_bin _ _ rfl rfl (fun _ => rfl) rfl) ?_
            refine AOps.call (o_move _ rfl rfl) ?_
            refine AOps.split rfl rfl rfl (fun h55 => ?_) (fun h55 => ?_)
            · skip
              refine AOps.go rfl rfl rfl h55 (o_loadRef _ rfl rfl Tryd.sizeOf24 Tryd.isAgg24 rfl rfl rfl) ?_
              refine AOps.go rfl rfl rfl h55 (o_loadRef _ rfl rfl Tryd.sizeOf24 Tryd.isAgg24 rfl rfl rfl) ?_
              refine AOps.go rfl rfl rfl h55 (o_call (Same_s _ _ (by have := (run_len p l).1; omega)) Tryd.call33 rfl rfl) ?_
              refine AOps.call (o_pickT _ _ _ rfl h55 rfl rfl) ?_
              refine AOps.call (o_move _ rfl rfl) ?_
              refine AOps.split rfl rfl rfl (fun h59 => ?_) (fun h59 => ?_)
              · skip
                refine AOps.go rfl rfl rfl h59 (o_move _ rfl rfl) ?_
                refine AOps.go rfl rfl rfl h59 (o_bin _ _ rfl rfl (fun _ => rfl) rfl) ?_
                refine AOps.go rfl rfl rfl h59 (o_move _ rfl rfl) ?_
                refine AOps.split rfl rfl rfl (fun h61 => ?_) (fun h61 => ?_)
                · skip
                  have h0 : (runM p l).2.2 = 0 := by simpa using h61
                  have r3 := r2.2.2 h0
                  refine AOps.go rfl rfl rfl h61 (o_move _ rfl rfl) ?_
                  refine AOps.go rfl rfl rfl h61 (o_lit Tryd.underlying44 Tryd.sizeOf3 Tryd.zeroValue3 rfl rfl rfl rfl rfl rfl rfl) ?_
                  refine AOps.go rfl rfl rfl h61 (o_move _ rfl rfl) ?_
                  refine AOps.goS rfl rfl rfl h61 (o_append _ _ Tryd.underlying44 info3 rfl rfl rfl rfl rfl rfl rfl rfl ints_z (fun c hc => by cases hc) (by rw [ints_len]; simp [Tryd.t3]; omega) rfl (List.nil_append _) rfl) ?_
                  refine AOps.go rfl rfl rfl h61 (o_move _ rfl rfl) ?_
                  refine AOps.goS rfl rfl rfl h61 (o_append _ _ Tryd.underlying44 info3 rfl rfl rfl rfl rfl rfl rfl rfl ints_z ints_z (by rw [ints_len, ints_len]; simp [Tryd.t3]; omega) rfl (hcat _ _) rfl) ?_
                  refine AOps.go rfl rfl rfl h61 (o_call (ints_s (runM p l).2.1 ((runM p (l.take k)).2.1 ++ (runM (runM p (l.take k)).1 (l.drop k)).2.1) (by have := (run_len p l).2; omega)) Tryd.call36 rfl rfl) ?_
                  refine AOps.go rfl rfl rfl h59 (o_pickF _ _ _ rfl h61 rfl rfl) ?_
                  refine AOps.call (o_pickT _ _ _ rfl h59 rfl rfl) ?_
                  refine AOps.call (o_assign _ rfl rfl) ?_
                  refine AOps.nil ?_
                  refine AWP.ret ?_
                  first
                  | exact postQ.ret1 Tryd.results17 rfl rfl
                  | (refine postQ.ret1 Tryd.results17 rfl ?_; simp [AV.close, AV.close.closeL, B, I]; done)
                  | (refine postQ.ret1 Tryd.results17 rfl ?_; simp [AV.close, AV.close.closeL, B, I]; omega)
                  | (refine postQ.ret1 Tryd.results17 rfl ?_; simp_all [AV.close, AV.close.closeL, B, I]; done)
                  | (refine postQ.ret1 Tryd.results17 rfl ?_; simp_all [AV.close, AV.close.closeL, B, I]; omega)
                · skip
                  refine AOps.pass rfl rfl rfl h61 rfl ?_
                  refine AOps.pass rfl rfl rfl h61 rfl ?_
                  refine AOps.pass rfl rfl rfl h61 rfl ?_
                  refine AOps.pass rfl rfl rfl h61 rfl ?_
                  refine AOps.pass rfl rfl rfl h61 rfl ?_
                  refine AOps.pass rfl rfl rfl h61 rfl ?_
                  refine AOps.pass rfl rfl rfl h61 rfl ?_
                  refine AOps.go rfl rfl rfl h59 (o_pickT _ _ _ rfl h61 rfl rfl) ?_
                  refine AOps.call (o_pickT _ _ _ rfl h59 rfl rfl) ?_
                  refine AOps.call (o_assign _ rfl rfl) ?_
                  refine AOps.nil ?_
                  refine AWP.ret ?_
                  first
                  | exact postQ.ret1 Tryd.results17 rfl rfl
                  | (refine postQ.ret1 Tryd.results17 rfl ?_; simp [AV.close, AV.close.closeL, B, I]; done)
                  | (refine postQ.ret1 Tryd.results17 rfl ?_; simp [AV.close, AV.close.closeL, B, I]; omega)
                  | (refine postQ.ret1 Tryd.results17 rfl ?_; simp_all [AV.close, AV.close.closeL, B, I]; done)
                  | (refine postQ.ret1 Tryd.results17 rfl ?_; simp_all [AV.close, AV.close.closeL, B, I]; omega)
              · skip
                exfalso
                rw [same_yes r2.2.1] at h59
                cases h59
            · skip
              exfalso
              rw [r2.1] at h55
              simp at h55
      · skip
        refine AOps.pass rfl rfl rfl h11 rfl ?_
        refine AOps.pass rfl rfl rfl h11 rfl ?_
        refine AOps.pass rfl rfl rfl h11 rfl ?_
        refine AOps.pass rfl rfl rfl h11 rfl ?_
        refine AOps.call (o_pickT _ _ _ rfl h11 rfl rfl) ?_
        refine AOps.nil ?_
        refine AWP.condT rfl ?_
        refine AWP.seq ?_
        refine AWP.region ?_
        refine AOps.call (o_assign _ rfl rfl) ?_
        refine AOps.nil ?_
        refine AWP.ret ?_
        first
        | exact postQ.ret1 Tryd.results17 rfl rfl
        | (refine postQ.ret1 Tryd.results17 rfl ?_; simp [AV.close, AV.close.closeL, B, I]; done)
        | (refine postQ.ret1 Tryd.results17 rfl ?_; simp [AV.close, AV.close.closeL, B, I]; omega)
        | (refine postQ.ret1 Tryd.results17 rfl ?_; simp_all [AV.close, AV.close.closeL, B, I]; done)
        | (refine postQ.ret1 Tryd.results17 rfl ?_; simp_all [AV.close, AV.close.closeL, B, I]; omega)
    · skip
      refine AOps.pass rfl rfl rfl h8 rfl ?_
      refine AOps.pass rfl rfl rfl h8 rfl ?_
      refine AOps.call (o_pickT _ _ _ rfl h8 rfl rfl) ?_
      refine AOps.call (o_move _ rfl rfl) ?_
      refine AOps.pass rfl rfl rfl rfl rfl ?_
      refine AOps.pass rfl rfl rfl rfl rfl ?_
      refine AOps.pass rfl rfl rfl rfl rfl ?_
      refine AOps.pass rfl rfl rfl rfl rfl ?_
      refine AOps.call (o_pickT _ _ _ rfl rfl rfl rfl) ?_
      refine AOps.nil ?_
      refine AWP.condT rfl ?_
      refine AWP.seq ?_
      refine AWP.region ?_
      refine AOps.call (o_assign _ rfl rfl) ?_
      refine AOps.nil ?_
      refine AWP.ret ?_
      first
      | exact postQ.ret1 Tryd.results17 rfl rfl
      | (refine postQ.ret1 Tryd.results17 rfl ?_; simp [AV.close, AV.close.closeL, B, I]; done)
      | (refine postQ.ret1 Tryd.results17 rfl ?_; simp [AV.close, AV.close.closeL, B, I]; omega)
      | (refine postQ.ret1 Tryd.results17 rfl ?_; simp_all [AV.close, AV.close.closeL, B, I]; done)
      | (refine postQ.ret1 Tryd.results17 rfl ?_; simp_all [AV.close, AV.close.closeL, B, I]; omega)

end Go.Proofs.YtgagfmjpmdgfdaaDoor
