import Derived.Test.YtgagfmjpmdgfdaaDoorQ25
import Derived.Test.YtgagfmjpmdgfdaaDoorX11
import Derived.Test.YtgagfmjpmdgfdaaDoorQ18
set_option linter.unusedSimpArgs false
set_option linter.unusedVariables false
namespace Go.Proofs.YtgagfmjpmdgfdaaDoor
open Go.Ab

theorem drf_len (p q : List Lay) (m : Int) : (drfM p q m).1.length ≤ 64 ∧ (drfM p q m).2.1.length ≤ 64 := by
  by_cases h : (drfM p q m).2.2 = 0
  · obtain ⟨_, _, a3, a4, _⟩ := drf_ok h
    exact ⟨(packE_bd a3).1, (packE_bd a4).1⟩
  · rw [(drf_no h).1, (drf_no h).2]; exact ⟨by simp, by simp⟩

set_option maxHeartbeats 4000000 in
set_option maxRecDepth 20000 in
theorem PackOrders_s (p q : List Lay) (n much : Int) : FSpecG Tryd.prog TAB 8 [.agg (eK p), .agg (eK q), I n, I much] (B true) (none) := by
  refine FSpecG.of_body tab_stable Tryd.func8 rfl (leB rfl) fun w0 M0 hG => ?_
  refine AWP.seq ?_
  refine AWP.region ?_
  refine AOps.call (o_box _ rfl rfl rfl) ?_
  refine AOps.call (o_box _ rfl rfl rfl) ?_
  refine AOps.call (o_assign _ rfl rfl) ?_
  refine AOps.nil ?_
  refine AWP.seq ?_
  refine AWP.seq ?_
  refine AWP.region ?_
  refine AOps.call (o_callG (sane_s) hG Tryd.call18 rfl rfl) ?_
  refine AOps.call (o_un _ rfl (fun _ => rfl) rfl) ?_
  refine AOps.nil ?_
  refine AWP.cond _ rfl (fun h5 => ?_) (fun h5 => ?_)
  · skip
    exfalso
    simp at h5
  · skip
    refine AWP.skip ?_
    refine AWP.seq ?_
    refine AWP.seq ?_
    refine AWP.region ?_
    refine AOps.call (o_loadRef _ rfl rfl Tryd.sizeOf24 Tryd.isAgg24 rfl rfl rfl) ?_
    refine AOps.call (o_loadRef _ rfl rfl Tryd.sizeOf24 Tryd.isAgg24 rfl rfl rfl) ?_
    refine AOps.call (o_lit Tryd.underlying73 Tryd.sizeOf24 Tryd.zeroValue24 rfl rfl rfl rfl rfl rfl rfl) ?_
    refine AOps.call (o_call (few_s [p, q] (leB rfl)) Tryd.call19 rfl rfl) ?_
    refine AOps.call (o_un _ rfl (fun _ => rfl) rfl) ?_
    refine AOps.call (o_move _ rfl rfl) ?_
    refine AOps.split rfl rfl rfl (fun h11 => ?_) (fun h11 => ?_)
    · skip
      refine AOps.go rfl rfl rfl h11 (o_move _ rfl rfl) ?_
      refine AOps.go rfl rfl rfl h11 (o_bin _ _ rfl rfl (fun _ => rfl) rfl) ?_
      refine AOps.go rfl rfl rfl h11 (o_move _ rfl rfl) ?_
      refine AOps.split rfl rfl rfl (fun h14 => ?_) (fun h14 => ?_)
      · skip
        refine AOps.go rfl rfl rfl h14 (o_move _ rfl rfl) ?_
        refine AOps.go rfl rfl rfl h14 (o_bin _ _ rfl rfl (fun _ => rfl) rfl) ?_
        refine AOps.go rfl rfl rfl h11 (o_pickT _ _ _ rfl h14 rfl rfl) ?_
        refine AOps.call (o_pickF _ _ _ rfl h11 rfl rfl) ?_
        refine AOps.nil ?_
        refine AWP.cond _ rfl (fun h17 => ?_) (fun h17 => ?_)
        · skip
          refine AWP.seq ?_
          refine AWP.region ?_
          refine AOps.call (o_assign _ rfl rfl) ?_
          refine AOps.nil ?_
          refine AWP.ret ?_
          first
          | exact postQ.ret1 Tryd.results8 rfl rfl
          | (refine postQ.ret1 Tryd.results8 rfl ?_; simp [AV.close, AV.close.closeL, B, I]; done)
          | (refine postQ.ret1 Tryd.results8 rfl ?_; simp [AV.close, AV.close.closeL, B, I]; omega)
          | (refine postQ.ret1 Tryd.results8 rfl ?_; simp_all [AV.close, AV.close.closeL, B, I]; done)
          | (refine postQ.ret1 Tryd.results8 rfl ?_; simp_all [AV.close, AV.close.closeL, B, I]; omega)
        · skip
          refine AWP.skip ?_
          refine AWP.seq ?_
          refine AWP.region ?_
          refine AOps.call (o_loadRef _ rfl rfl Tryd.sizeOf24 Tryd.isAgg24 rfl rfl rfl) ?_
          refine AOps.call (o_loadRef _ rfl rfl Tryd.sizeOf24 Tryd.isAgg24 rfl rfl rfl) ?_
          refine AOps.call (o_call (Less_s p q) Tryd.call50 rfl rfl) ?_
          refine AOps.call (o_move _ rfl rfl) ?_
          refine AOps.call (o_extract _ rfl rfl rfl rfl) ?_
          refine AOps.call (o_extract _ rfl rfl rfl rfl) ?_
          refine AOps.call (o_assign _ rfl rfl) ?_
          refine AOps.call (o_assign _ rfl rfl) ?_
          refine AOps.nil ?_
          refine AWP.seq ?_
          refine AWP.region ?_
          refine AOps.call (o_loadRef _ rfl rfl Tryd.sizeOf24 Tryd.isAgg24 rfl rfl rfl) ?_
          refine AOps.call (o_loadRef _ rfl rfl Tryd.sizeOf24 Tryd.isAgg24 rfl rfl rfl) ?_
          refine AOps.call (o_call (rLess_s p q) Tryd.call51 rfl rfl) ?_
          refine AOps.call (o_move _ rfl rfl) ?_
          refine AOps.call (o_extract _ rfl rfl rfl rfl) ?_
          refine AOps.call (o_extract _ rfl rfl rfl rfl) ?_
          refine AOps.call (o_assign _ rfl rfl) ?_
          refine AOps.call (o_assign _ rfl rfl) ?_
          refine AOps.nil ?_
          refine AWP.seq ?_
          refine AWP.region ?_
          refine AOps.call (o_loadRef _ rfl rfl Tryd.sizeOf24 Tryd.isAgg24 rfl rfl rfl) ?_
          refine AOps.call (o_move _ rfl rfl) ?_
          refine AOps.call (o_call (Joined_s p n) Tryd.call52 rfl rfl) ?_
          refine AOps.call (o_move _ rfl rfl) ?_
          refine AOps.call (o_extract _ rfl rfl rfl rfl) ?_
          refine AOps.call (o_extract _ rfl rfl rfl rfl) ?_
          refine AOps.call (o_alloc ze24 rfl rfl) ?_
          refine AOps.cons (o_store _ _ rfl rfl Tryd.sizeOf24 rfl rfl rfl rfl rfl) ?_
          refine AOps.call (o_assign _ rfl rfl) ?_
          refine AOps.nil ?_
          refine AWP.seq ?_
          refine AWP.region ?_
          refine AOps.call (o_loadRef _ rfl rfl Tryd.sizeOf24 Tryd.isAgg24 rfl rfl rfl) ?_
          refine AOps.call (o_move _ rfl rfl) ?_
          refine AOps.call (o_call (rJoined_s p n) Tryd.call53 rfl rfl) ?_
          refine AOps.call (o_move _ rfl rfl) ?_
          refine AOps.call (o_extract _ rfl rfl rfl rfl) ?_
          refine AOps.call (o_extract _ rfl rfl rfl rfl) ?_
          refine AOps.call (o_alloc ze24 rfl rfl) ?_
          refine AOps.cons (o_store _ _ rfl rfl Tryd.sizeOf24 rfl rfl rfl rfl rfl) ?_
          refine AOps.call (o_assign _ rfl rfl) ?_
          refine AOps.nil ?_
          refine AWP.seq ?_
          refine AWP.region ?_
          refine AOps.call (o_loadRef _ rfl rfl Tryd.sizeOf24 Tryd.isAgg24 rfl rfl rfl) ?_
          refine AOps.call (o_loadRef _ rfl rfl Tryd.sizeOf24 Tryd.isAgg24 rfl rfl rfl) ?_
          refine AOps.call (o_move _ rfl rfl) ?_
          refine AOps.call (o_call (Drift_s p q much) Tryd.call54 rfl rfl) ?_
          refine AOps.call (o_move _ rfl rfl) ?_
          refine AOps.call (o_extract _ rfl rfl rfl rfl) ?_
          refine AOps.call (o_extract _ rfl rfl rfl rfl) ?_
          refine AOps.call (o_extract _ rfl rfl rfl rfl) ?_
          refine AOps.call (o_alloc ze24 rfl rfl) ?_
          refine AOps.call (o_alloc ze24 rfl rfl) ?_
          refine AOps.cons (o_store _ _ rfl rfl Tryd.sizeOf24 rfl rfl rfl rfl rfl) ?_
          refine AOps.cons (o_store _ _ rfl rfl Tryd.sizeOf24 rfl rfl rfl rfl rfl) ?_
          refine AOps.call (o_assign _ rfl rfl) ?_
          refine AOps.nil ?_
          refine AWP.seq ?_
          refine AWP.region ?_
          refine AOps.call (o_loadRef _ rfl rfl Tryd.sizeOf24 Tryd.isAgg24 rfl rfl rfl) ?_
          refine AOps.call (o_loadRef _ rfl rfl Tryd.sizeOf24 Tryd.isAgg24 rfl rfl rfl) ?_
          refine AOps.call (o_move _ rfl rfl) ?_
          refine AOps.call (o_call (rDrift_s p q much) Tryd.call55 rfl rfl) ?_
          refine AOps.call (o_move _ rfl rfl) ?_
          refine AOps.call (o_extract _ rfl rfl rfl rfl) ?_
          refine AOps.call (o_extract _ rfl rfl rfl rfl) ?_
          refine AOps.call (o_extract _ rfl rfl rfl rfl) ?_
          refine AOps.call (o_alloc ze24 rfl rfl) ?_
          refine AOps.call (o_alloc ze24 rfl rfl) ?_
          refine AOps.cons (o_store _ _ rfl rfl Tryd.sizeOf24 rfl rfl rfl rfl rfl) ?_
          refine AOps.cons (o_store _ _ rfl rfl Tryd.sizeOf24 rfl rfl rfl rfl rfl) ?_
          refine AOps.call (o_assign _ rfl rfl) ?_
          refine AOps.nil ?_
          refine AWP.seq ?_
          refine AWP.region ?_
          refine AOps.call (o_move _ rfl rfl) ?_
          refine AOps.call (o_move _ rfl rfl) ?_
          refine AOps.call (o_bin _ _ rfl rfl (fun _ => rfl) rfl) ?_
          refine AOps.call (o_move _ rfl rfl) ?_
          refine AOps.split rfl rfl rfl (fun h59 => ?_) (fun h59 => ?_)
          · skip
            refine AOps.go rfl rfl rfl h59 (o_move _ rfl rfl) ?_
            refine AOps.go rfl rfl rfl h59 (o_move _ rfl rfl) ?_
            refine AOps.go rfl rfl rfl h59 (o_bin _ _ rfl rfl (fun _ => rfl) rfl) ?_
            refine AOps.call (o_pickT _ _ _ rfl h59 rfl rfl) ?_
            refine AOps.call (o_move _ rfl rfl) ?_
            refine AOps.split rfl rfl rfl (fun h61 => ?_) (fun h61 => ?_)
            · skip
              refine AOps.go rfl rfl rfl h61 (o_loadRef _ rfl rfl Tryd.sizeOf24 Tryd.isAgg24 rfl rfl rfl) ?_
              refine AOps.go rfl rfl rfl h61 (o_loadRef _ rfl rfl Tryd.sizeOf24 Tryd.isAgg24 rfl rfl rfl) ?_
              refine AOps.go rfl rfl rfl h61 (o_call (Same_s (joiM p n).1 (joiM p n).1 (by have := joi_len p n; omega)) Tryd.call33 rfl rfl) ?_
              refine AOps.call (o_pickT _ _ _ rfl h61 rfl rfl) ?_
              refine AOps.call (o_move _ rfl rfl) ?_
              refine AOps.split rfl rfl rfl (fun h65 => ?_) (fun h65 => ?_)
              · skip
                refine AOps.go rfl rfl rfl h65 (o_move _ rfl rfl) ?_
                refine AOps.go rfl rfl rfl h65 (o_move _ rfl rfl) ?_
                refine AOps.go rfl rfl rfl h65 (o_bin _ _ rfl rfl (fun _ => rfl) rfl) ?_
                refine AOps.call (o_pickT _ _ _ rfl h65 rfl rfl) ?_
                refine AOps.call (o_move _ rfl rfl) ?_
                refine AOps.split rfl rfl rfl (fun h67 => ?_) (fun h67 => ?_)
                · skip
                  refine AOps.go rfl rfl rfl h67 (o_loadRef _ rfl rfl Tryd.sizeOf24 Tryd.isAgg24 rfl rfl rfl) ?_
                  refine AOps.go rfl rfl rfl h67 (o_loadRef _ rfl rfl Tryd.sizeOf24 Tryd.isAgg24 rfl rfl rfl) ?_
                  refine AOps.go rfl rfl rfl h67 (o_call (Same_s (drfM p q much).1 (drfM p q much).1 (by have := (drf_len p q much).1; omega)) Tryd.call33 rfl rfl) ?_
                  refine AOps.call (o_pickT _ _ _ rfl h67 rfl rfl) ?_
                  refine AOps.call (o_move _ rfl rfl) ?_
                  refine AOps.split rfl rfl rfl (fun h71 => ?_) (fun h71 => ?_)
                  · skip
                    refine AOps.go rfl rfl rfl h71 (o_loadRef _ rfl rfl Tryd.sizeOf24 Tryd.isAgg24 rfl rfl rfl) ?_
                    refine AOps.go rfl rfl rfl h71 (o_loadRef _ rfl rfl Tryd.sizeOf24 Tryd.isAgg24 rfl rfl rfl) ?_
                    refine AOps.go rfl rfl rfl h71 (o_call (Same_s (drfM p q much).2.1 (drfM p q much).2.1 (by have := (drf_len p q much).2; omega)) Tryd.call33 rfl rfl) ?_
                    refine AOps.call (o_pickT _ _ _ rfl h71 rfl rfl) ?_
                    refine AOps.call (o_move _ rfl rfl) ?_
                    refine AOps.split rfl rfl rfl (fun h75 => ?_) (fun h75 => ?_)
                    · skip
                      refine AOps.go rfl rfl rfl h75 (o_move _ rfl rfl) ?_
                      refine AOps.go rfl rfl rfl h75 (o_move _ rfl rfl) ?_
                      refine AOps.go rfl rfl rfl h75 (o_bin _ _ rfl rfl (fun _ => rfl) rfl) ?_
                      refine AOps.call (o_pickT _ _ _ rfl h75 rfl rfl) ?_
                      refine AOps.call (o_assign _ rfl rfl) ?_
                      refine AOps.nil ?_
                      refine AWP.ret ?_
                      first
                      | exact postQ.ret1 Tryd.results8 rfl rfl
                      | (refine postQ.ret1 Tryd.results8 rfl ?_; simp [AV.close, AV.close.closeL, B, I]; done)
                      | (refine postQ.ret1 Tryd.results8 rfl ?_; simp [AV.close, AV.close.closeL, B, I]; omega)
                      | (refine postQ.ret1 Tryd.results8 rfl ?_; simp_all [AV.close, AV.close.closeL, B, I]; done)
                      | (refine postQ.ret1 Tryd.results8 rfl ?_; simp_all [AV.close, AV.close.closeL, B, I]; omega)
                    · skip
                      exfalso
                      rw [same_yes rfl] at h75
                      cases h75
                  · skip
                    exfalso
                    rw [same_yes rfl] at h71
                    cases h71
                · skip
                  exfalso
                  simp at h67
              · skip
                exfalso
                rw [same_yes rfl] at h65
                cases h65
            · skip
              exfalso
              simp at h61
          · skip
            exfalso
            simp at h59
      · skip
        refine AOps.pass rfl rfl rfl h14 rfl ?_
        refine AOps.pass rfl rfl rfl h14 rfl ?_
        refine AOps.go rfl rfl rfl h11 (o_pickF _ _ _ rfl h14 rfl rfl) ?_
        refine AOps.call (o_pickF _ _ _ rfl h11 rfl rfl) ?_
        refine AOps.nil ?_
        refine AWP.condF rfl ?_
        refine AWP.skip ?_
        refine AWP.seq ?_
        refine AWP.region ?_
        refine AOps.call (o_loadRef _ rfl rfl Tryd.sizeOf24 Tryd.isAgg24 rfl rfl rfl) ?_
        refine AOps.call (o_loadRef _ rfl rfl Tryd.sizeOf24 Tryd.isAgg24 rfl rfl rfl) ?_
        refine AOps.call (o_call (Less_s p q) Tryd.call50 rfl rfl) ?_
        refine AOps.call (o_move _ rfl rfl) ?_
        refine AOps.call (o_extract _ rfl rfl rfl rfl) ?_
        refine AOps.call (o_extract _ rfl rfl rfl rfl) ?_
        refine AOps.call (o_assign _ rfl rfl) ?_
        refine AOps.call (o_assign _ rfl rfl) ?_
        refine AOps.nil ?_
        refine AWP.seq ?_
        refine AWP.region ?_
        refine AOps.call (o_loadRef _ rfl rfl Tryd.sizeOf24 Tryd.isAgg24 rfl rfl rfl) ?_
        refine AOps.call (o_loadRef _ rfl rfl Tryd.sizeOf24 Tryd.isAgg24 rfl rfl rfl) ?_
        refine AOps.call (o_call (rLess_s p q) Tryd.call51 rfl rfl) ?_
        refine AOps.call (o_move _ rfl rfl) ?_
        refine AOps.call (o_extract _ rfl rfl rfl rfl) ?_
        refine AOps.call (o_extract _ rfl rfl rfl rfl) ?_
        refine AOps.call (o_assign _ rfl rfl) ?_
        refine AOps.call (o_assign _ rfl rfl) ?_
        refine AOps.nil ?_
        refine AWP.seq ?_
        refine AWP.region ?_
        refine AOps.call (o_loadRef _ rfl rfl Tryd.sizeOf24 Tryd.isAgg24 rfl rfl rfl) ?_
        refine AOps.call (o_move _ rfl rfl) ?_
        refine AOps.call (o_call (Joined_s p n) Tryd.call52 rfl rfl) ?_
        refine AOps.call (o_move _ rfl rfl) ?_
        refine AOps.call (o_extract _ rfl rfl rfl rfl) ?_
        refine AOps.call (o_extract _ rfl rfl rfl rfl) ?_
        refine AOps.call (o_alloc ze24 rfl rfl) ?_
        refine AOps.cons (o_store _ _ rfl rfl Tryd.sizeOf24 rfl rfl rfl rfl rfl) ?_
        refine AOps.call (o_assign _ rfl rfl) ?_
        refine AOps.nil ?_
        refine AWP.seq ?_
        refine AWP.region ?_
        refine AOps.call (o_loadRef _ rfl rfl Tryd.sizeOf24 Tryd.isAgg24 rfl rfl rfl) ?_
        refine AOps.call (o_move _ rfl rfl) ?_
        refine AOps.call (o_call (rJoined_s p n) Tryd.call53 rfl rfl) ?_
        refine AOps.call (o_move _ rfl rfl) ?_
        refine AOps.call (o_extract _ rfl rfl rfl rfl) ?_
        refine AOps.call (o_extract _ rfl rfl rfl rfl) ?_
        refine AOps.call (o_alloc ze24 rfl rfl) ?_
        refine AOps.cons (o_store _ _ rfl rfl Tryd.sizeOf24 rfl rfl rfl rfl rfl) ?_
        refine AOps.call (o_assign _ rfl rfl) ?_
        refine AOps.nil ?_
        refine AWP.seq ?_
        refine AWP.region ?_
        refine AOps.call (o_loadRef _ rfl rfl Tryd.sizeOf24 Tryd.isAgg24 rfl rfl rfl) ?_
        refine AOps.call (o_loadRef _ rfl rfl Tryd.sizeOf24 Tryd.isAgg24 rfl rfl rfl) ?_
        refine AOps.call (o_move _ rfl rfl) ?_
        refine AOps.call (o_call (Drift_s p q much) Tryd.call54 rfl rfl) ?_
        refine AOps.call (o_move _ rfl rfl) ?_
        refine AOps.call (o_extract _ rfl rfl rfl rfl) ?_
        refine AOps.call (o_extract _ rfl rfl rfl rfl) ?_
        refine AOps.call (o_extract _ rfl rfl rfl rfl) ?_
        refine AOps.call (o_alloc ze24 rfl rfl) ?_
        refine AOps.call (o_alloc ze24 rfl rfl) ?_
        refine AOps.cons (o_store _ _ rfl rfl Tryd.sizeOf24 rfl rfl rfl rfl rfl) ?_
        refine AOps.cons (o_store _ _ rfl rfl Tryd.sizeOf24 rfl rfl rfl rfl rfl) ?_
        refine AOps.call (o_assign _ rfl rfl) ?_
        refine AOps.nil ?_
        refine AWP.seq ?_
        refine AWP.region ?_
        refine AOps.call (o_loadRef _ rfl rfl Tryd.sizeOf24 Tryd.isAgg24 rfl rfl rfl) ?_
        refine AOps.call (o_loadRef _ rfl rfl Tryd.sizeOf24 Tryd.isAgg24 rfl rfl rfl) ?_
        refine AOps.call (o_move _ rfl rfl) ?_
        refine AOps.call (o_call (rDrift_s p q much) Tryd.call55 rfl rfl) ?_
        refine AOps.call (o_move _ rfl rfl) ?_
        refine AOps.call (o_extract _ rfl rfl rfl rfl) ?_
        refine AOps.call (o_extract _ rfl rfl rfl rfl) ?_
        refine AOps.call (o_extract _ rfl rfl rfl rfl) ?_
        refine AOps.call (o_alloc ze24 rfl rfl) ?_
        refine AOps.call (o_alloc ze24 rfl rfl) ?_
        refine AOps.cons (o_store _ _ rfl rfl Tryd.sizeOf24 rfl rfl rfl rfl rfl) ?_
        refine AOps.cons (o_store _ _ rfl rfl Tryd.sizeOf24 rfl rfl rfl rfl rfl) ?_
        refine AOps.call (o_assign _ rfl rfl) ?_
        refine AOps.nil ?_
        refine AWP.seq ?_
        refine AWP.region ?_
        refine AOps.call (o_move _ rfl rfl) ?_
        refine AOps.call (o_move _ rfl rfl) ?_
        refine AOps.call (o_bin _ _ rfl rfl (fun _ => rfl) rfl) ?_
        refine AOps.call (o_move _ rfl rfl) ?_
        refine AOps.split rfl rfl rfl (fun h118 => ?_) (fun h118 => ?_)
        · skip
          refine AOps.go rfl rfl rfl h118 (o_move _ rfl rfl) ?_
          refine AOps.go rfl rfl rfl h118 (o_move _ rfl rfl) ?_
          refine AOps.go rfl rfl rfl h118 (o_bin _ _ rfl rfl (fun _ => rfl) rfl) ?_
          refine AOps.call (o_pickT _ _ _ rfl h118 rfl rfl) ?_
          refine AOps.call (o_move _ rfl rfl) ?_
          refine AOps.split rfl rfl rfl (fun h120 => ?_) (fun h120 => ?_)
          · skip
            refine AOps.go rfl rfl rfl h120 (o_loadRef _ rfl rfl Tryd.sizeOf24 Tryd.isAgg24 rfl rfl rfl) ?_
            refine AOps.go rfl rfl rfl h120 (o_loadRef _ rfl rfl Tryd.sizeOf24 Tryd.isAgg24 rfl rfl rfl) ?_
            refine AOps.go rfl rfl rfl h120 (o_call (Same_s (joiM p n).1 (joiM p n).1 (by have := joi_len p n; omega)) Tryd.call33 rfl rfl) ?_
            refine AOps.call (o_pickT _ _ _ rfl h120 rfl rfl) ?_
            refine AOps.call (o_move _ rfl rfl) ?_
            refine AOps.split rfl rfl rfl (fun h124 => ?_) (fun h124 => ?_)
            · skip
              refine AOps.go rfl rfl rfl h124 (o_move _ rfl rfl) ?_
              refine AOps.go rfl rfl rfl h124 (o_move _ rfl rfl) ?_
              refine AOps.go rfl rfl rfl h124 (o_bin _ _ rfl rfl (fun _ => rfl) rfl) ?_
              refine AOps.call (o_pickT _ _ _ rfl h124 rfl rfl) ?_
              refine AOps.call (o_move _ rfl rfl) ?_
              refine AOps.split rfl rfl rfl (fun h126 => ?_) (fun h126 => ?_)
              · skip
                refine AOps.go rfl rfl rfl h126 (o_loadRef _ rfl rfl Tryd.sizeOf24 Tryd.isAgg24 rfl rfl rfl) ?_
                refine AOps.go rfl rfl rfl h126 (o_loadRef _ rfl rfl Tryd.sizeOf24 Tryd.isAgg24 rfl rfl rfl) ?_
                refine AOps.go rfl rfl rfl h126 (o_call (Same_s (drfM p q much).1 (drfM p q much).1 (by have := (drf_len p q much).1; omega)) Tryd.call33 rfl rfl) ?_
                refine AOps.call (o_pickT _ _ _ rfl h126 rfl rfl) ?_
                refine AOps.call (o_move _ rfl rfl) ?_
                refine AOps.split rfl rfl rfl (fun h130 => ?_) (fun h130 => ?_)
                · skip
                  refine AOps.go rfl rfl rfl h130 (o_loadRef _ rfl rfl Tryd.sizeOf24 Tryd.isAgg24 rfl rfl rfl) ?_
                  refine AOps.go rfl rfl rfl h130 (o_loadRef _ rfl rfl Tryd.sizeOf24 Tryd.isAgg24 rfl rfl rfl) ?_
                  refine AOps.go rfl rfl rfl h130 (o_call (Same_s (drfM p q much).2.1 (drfM p q much).2.1 (by have := (drf_len p q much).2; omega)) Tryd.call33 rfl rfl) ?_
                  refine AOps.call (o_pickT _ _ _ rfl h130 rfl rfl) ?_
                  refine AOps.call (o_move _ rfl rfl) ?_
                  refine AOps.split rfl rfl rfl (fun h134 => ?_) (fun h134 => ?_)
                  · skip
                    refine AOps.go rfl rfl rfl h134 (o_move _ rfl rfl) ?_
                    refine AOps.go rfl rfl rfl h134 (o_move _ rfl rfl) ?_
                    refine AOps.go rfl rfl rfl h134 (o_bin _ _ rfl rfl (fun _ => rfl) rfl) ?_
                    refine AOps.call (o_pickT _ _ _ rfl h134 rfl rfl) ?_
                    refine AOps.call (o_assign _ rfl rfl) ?_
                    refine AOps.nil ?_
                    refine AWP.ret ?_
                    first
                    | exact postQ.ret1 Tryd.results8 rfl rfl
                    | (refine postQ.ret1 Tryd.results8 rfl ?_; simp [AV.close, AV.close.closeL, B, I]; done)
                    | (refine postQ.ret1 Tryd.results8 rfl ?_; simp [AV.close, AV.close.closeL, B, I]; omega)
                    | (refine postQ.ret1 Tryd.results8 rfl ?_; simp_all [AV.close, AV.close.closeL, B, I]; done)
                    | (refine postQ.ret1 Tryd.results8 rfl ?_; simp_all [AV.close, AV.close.closeL, B, I]; omega)
                  · skip
                    exfalso
                    rw [same_yes rfl] at h134
                    cases h134
                · skip
                  exfalso
                  rw [same_yes rfl] at h130
                  cases h130
              · skip
                exfalso
                simp at h126
            · skip
              exfalso
              rw [same_yes rfl] at h124
              cases h124
          · skip
            exfalso
            simp at h120
        · skip
          exfalso
          simp at h118
    · skip
      refine AOps.pass rfl rfl rfl h11 rfl ?_
      refine AOps.pass rfl rfl rfl h11 rfl ?_
      refine AOps.pass rfl rfl rfl h11 rfl ?_
      refine AOps.passU rfl rfl rfl rfl ?_
      refine AOps.passU rfl rfl rfl rfl ?_
      refine AOps.pass rfl rfl rfl h11 rfl ?_
      refine AOps.call (o_pickT _ _ _ rfl h11 rfl rfl) ?_
      refine AOps.nil ?_
      refine AWP.condT rfl ?_
      refine AWP.seq ?_
      refine AWP.region ?_
      refine AOps.call (o_assign _ rfl rfl) ?_
      refine AOps.nil ?_
      refine AWP.ret ?_
      first
      | exact postQ.ret1 Tryd.results8 rfl rfl
      | (refine postQ.ret1 Tryd.results8 rfl ?_; simp [AV.close, AV.close.closeL, B, I]; done)
      | (refine postQ.ret1 Tryd.results8 rfl ?_; simp [AV.close, AV.close.closeL, B, I]; omega)
      | (refine postQ.ret1 Tryd.results8 rfl ?_; simp_all [AV.close, AV.close.closeL, B, I]; done)
      | (refine postQ.ret1 Tryd.results8 rfl ?_; simp_all [AV.close, AV.close.closeL, B, I]; omega)

end Go.Proofs.YtgagfmjpmdgfdaaDoor
