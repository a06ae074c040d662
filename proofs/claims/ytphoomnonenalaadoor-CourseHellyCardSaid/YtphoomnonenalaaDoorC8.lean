import Derived.Test.YtphoomnonenalaaDoorC7
import Derived.Test.YtphoomnonenalaaDoorM3
set_option linter.unusedSimpArgs false
set_option linter.unusedVariables false
namespace Go.Proofs.YtphoomnonenalaaDoor
open Go.Ab
theorem sheetB_eq (h : Sht) : sheetB h = (headB h && (mouthB h && (decide (1 ≤ h.stakes.length ∧ h.stakes.length ≤ 32) && h.stakes.all stakeB))) := by
  unfold sheetB
  rw [Bool.eq_iff_iff]
  simp only [Bool.and_eq_true, Bool.not_eq_true', decide_eq_true_eq, decide_eq_false_iff_not]
  constructor
  · rintro ⟨⟨⟨⟨a, b⟩, c⟩, d⟩, e⟩; exact ⟨a, b, ⟨by omega, by omega⟩, e⟩
  · rintro ⟨a, b, ⟨c, d⟩, e⟩; exact ⟨⟨⟨⟨a, b⟩, by omega⟩, by omega⟩, e⟩

set_option maxRecDepth 20000 in
theorem validStake_s (k : Stk) : FSpec Tryd.prog 100 [.agg (eK k)] (B (stakeB k)) (none) := by
  refine FSpec.of_body Tryd.func100 rfl (leB rfl) fun w0 M0 => ?_
  refine AWP.seq ?_
  refine AWP.region ?_
  refine AOps.call (o_box _ rfl rfl rfl) ?_
  refine AOps.call (o_assign _ rfl rfl) ?_
  refine AOps.nil ?_
  refine AWP.seq ?_
  refine AWP.seq ?_
  refine AWP.region ?_
  refine AOps.call (o_fieldRef _ rfl fa79_0 rfl rfl) ?_
  refine AOps.call (o_loadRef _ rfl rfl Tryd.sizeOf3 Tryd.isAgg3 rfl rfl rfl) ?_
  refine AOps.call (o_bin _ _ rfl rfl (fun _ => rfl) rfl) ?_
  refine AOps.call (o_move _ rfl rfl) ?_
  refine AOps.split rfl rfl rfl (fun h5 => ?_) (fun h5 => ?_)
  · skip
    refine AOps.go rfl rfl rfl h5 (o_fieldRef _ rfl fa79_0 rfl rfl) ?_
    refine AOps.go rfl rfl rfl h5 (o_loadRef _ rfl rfl Tryd.sizeOf3 Tryd.isAgg3 rfl rfl rfl) ?_
    refine AOps.go rfl rfl rfl h5 (o_bin _ _ rfl rfl (fun _ => rfl) rfl) ?_
    refine AOps.call (o_pickF _ _ _ rfl h5 rfl rfl) ?_
    refine AOps.call (o_move _ rfl rfl) ?_
    refine AOps.split rfl rfl rfl (fun h9 => ?_) (fun h9 => ?_)
    · skip
      refine AOps.go rfl rfl rfl h9 (o_fieldRef _ rfl fa79_2 rfl rfl) ?_
      refine AOps.go rfl rfl rfl h9 (o_loadRef _ rfl rfl Tryd.sizeOf3 Tryd.isAgg3 rfl rfl rfl) ?_
      refine AOps.go rfl rfl rfl h9 (o_call (isWeight_s _) Tryd.call99 rfl rfl) ?_
      refine AOps.go rfl rfl rfl h9 (o_un _ rfl (fun _ => rfl) rfl) ?_
      refine AOps.call (o_pickF _ _ _ rfl h9 rfl rfl) ?_
      refine AOps.call (o_move _ rfl rfl) ?_
      refine AOps.split rfl rfl rfl (fun h14 => ?_) (fun h14 => ?_)
      · skip
        refine AOps.go rfl rfl rfl h14 (o_fieldRef _ rfl fa79_4 rfl rfl) ?_
        refine AOps.go rfl rfl rfl h14 (o_loadRef _ rfl rfl Tryd.sizeOf3 Tryd.isAgg3 rfl rfl rfl) ?_
        refine AOps.go rfl rfl rfl h14 (o_call (isWeight_s _) Tryd.call99 rfl rfl) ?_
        refine AOps.go rfl rfl rfl h14 (o_un _ rfl (fun _ => rfl) rfl) ?_
        refine AOps.call (o_pickF _ _ _ rfl h14 rfl rfl) ?_
        refine AOps.nil ?_
        refine AWP.cond _ rfl (fun h19 => ?_) (fun h19 => ?_)
        · skip
          have hbad : stakeB k = false := by unfold stakeB; simp_all
          try omega
          refine AWP.seq ?_
          refine AWP.region ?_
          refine AOps.call (o_assign _ rfl rfl) ?_
          refine AOps.nil ?_
          refine AWP.ret ?_
          refine postQ.ret1 Tryd.results100 rfl ?_
          first
          | (rw [hbad]; rfl)
          | (unfold stakeB; simp_all [AV.close, B]; try (intros; omega))
        · skip
          have hdep : 0 ≤ k.depth ∧ k.depth ≤ 20000 := by simp_all
          refine AWP.skip ?_
          refine AWP.seq ?_
          refine AWP.region ?_
          refine AOps.call (o_fieldRef _ rfl fa79_1 rfl rfl) ?_
          refine AOps.call (o_loadRef _ rfl rfl Tryd.sizeOf3 Tryd.isAgg3 rfl rfl rfl) ?_
          refine AOps.call (o_bin _ _ rfl rfl (fun _ => rfl) rfl) ?_
          refine AOps.call (o_move _ rfl rfl) ?_
          refine AOps.split rfl rfl rfl (fun h23 => ?_) (fun h23 => ?_)
          · skip
            refine AOps.go rfl rfl rfl h23 (o_fieldRef _ rfl fa79_1 rfl rfl) ?_
            refine AOps.go rfl rfl rfl h23 (o_loadRef _ rfl rfl Tryd.sizeOf3 Tryd.isAgg3 rfl rfl rfl) ?_
            refine AOps.go rfl rfl rfl h23 (o_fieldRef _ rfl fa79_0 rfl rfl) ?_
            refine AOps.go rfl rfl rfl h23 (o_loadRef _ rfl rfl Tryd.sizeOf3 Tryd.isAgg3 rfl rfl rfl) ?_
            refine AOps.go rfl rfl rfl h23 (o_bin _ _ rfl rfl (fun _ => rfl) rfl) ?_
            refine AOps.call (o_pickT _ _ _ rfl h23 rfl rfl) ?_
            refine AOps.call (o_move _ rfl rfl) ?_
            refine AOps.split rfl rfl rfl (fun h29 => ?_) (fun h29 => ?_)
            · skip
              refine AOps.go rfl rfl rfl h29 (o_fieldRef _ rfl fa79_3 rfl rfl) ?_
              refine AOps.go rfl rfl rfl h29 (o_loadRef _ rfl rfl Tryd.sizeOf3 Tryd.isAgg3 rfl rfl rfl) ?_
              refine AOps.go rfl rfl rfl h29 (o_bin _ _ rfl rfl (fun _ => rfl) rfl) ?_
              refine AOps.call (o_pickT _ _ _ rfl h29 rfl rfl) ?_
              refine AOps.call (o_move _ rfl rfl) ?_
              refine AOps.split rfl rfl rfl (fun h33 => ?_) (fun h33 => ?_)
              · skip
                have hcore : 0 ≤ k.core ∧ k.core ≤ k.depth := by simp_all
                refine AOps.go rfl rfl rfl h33 (o_fieldRef _ rfl fa79_3 rfl rfl) ?_
                refine AOps.go rfl rfl rfl h33 (o_loadRef _ rfl rfl Tryd.sizeOf3 Tryd.isAgg3 rfl rfl rfl) ?_
                refine AOps.go rfl rfl rfl h33 (o_fieldRef _ rfl fa79_0 rfl rfl) ?_
                refine AOps.go rfl rfl rfl h33 (o_loadRef _ rfl rfl Tryd.sizeOf3 Tryd.isAgg3 rfl rfl rfl) ?_
                refine AOps.go rfl rfl rfl h33 (o_fieldRef _ rfl fa79_1 rfl rfl) ?_
                refine AOps.go rfl rfl rfl h33 (o_loadRef _ rfl rfl Tryd.sizeOf3 Tryd.isAgg3 rfl rfl rfl) ?_
                refine AOps.go rfl rfl rfl h33 (o_sub _ _ rfl rfl ⟨by (try dsimp only); omega, by (try dsimp only); omega⟩ rfl) ?_
                refine AOps.go rfl rfl rfl h33 (o_bin _ _ rfl rfl (fun _ => rfl) rfl) ?_
                refine AOps.call (o_pickT _ _ _ rfl h33 rfl rfl) ?_
                refine AOps.call (o_assign _ rfl rfl) ?_
                refine AOps.nil ?_
                refine AWP.ret ?_
                refine postQ.ret1 Tryd.results100 rfl ?_
                first
                | (rw [hbad]; rfl)
                | (unfold stakeB; simp_all [AV.close, B]; try (intros; omega))
              · skip
                refine AOps.pass rfl rfl rfl h33 rfl ?_
                refine AOps.pass rfl rfl rfl h33 rfl ?_
                refine AOps.pass rfl rfl rfl h33 rfl ?_
                refine AOps.pass rfl rfl rfl h33 rfl ?_
                refine AOps.pass rfl rfl rfl h33 rfl ?_
                refine AOps.pass rfl rfl rfl h33 rfl ?_
                refine AOps.pass rfl rfl rfl h33 rfl ?_
                refine AOps.pass rfl rfl rfl h33 rfl ?_
                refine AOps.call (o_pickF _ _ _ rfl h33 rfl rfl) ?_
                refine AOps.call (o_assign _ rfl rfl) ?_
                refine AOps.nil ?_
                refine AWP.ret ?_
                refine postQ.ret1 Tryd.results100 rfl ?_
                first
                | (rw [hbad]; rfl)
                | (unfold stakeB; simp_all [AV.close, B]; try (intros; omega))
            · skip
              refine AOps.pass rfl rfl rfl h29 rfl ?_
              refine AOps.pass rfl rfl rfl h29 rfl ?_
              refine AOps.pass rfl rfl rfl h29 rfl ?_
              refine AOps.call (o_pickF _ _ _ rfl h29 rfl rfl) ?_
              refine AOps.call (o_move _ rfl rfl) ?_
              refine AOps.pass rfl rfl rfl rfl rfl ?_
              refine AOps.pass rfl rfl rfl rfl rfl ?_
              refine AOps.pass rfl rfl rfl rfl rfl ?_
              refine AOps.pass rfl rfl rfl rfl rfl ?_
              refine AOps.pass rfl rfl rfl rfl rfl ?_
              refine AOps.pass rfl rfl rfl rfl rfl ?_
              refine AOps.pass rfl rfl rfl rfl rfl ?_
              refine AOps.pass rfl rfl rfl rfl rfl ?_
              refine AOps.call (o_pickF _ _ _ rfl rfl rfl rfl) ?_
              refine AOps.call (o_assign _ rfl rfl) ?_
              refine AOps.nil ?_
              refine AWP.ret ?_
              refine postQ.ret1 Tryd.results100 rfl ?_
              first
              | (rw [hbad]; rfl)
              | (unfold stakeB; simp_all [AV.close, B]; try (intros; omega))
          · skip
            refine AOps.pass rfl rfl rfl h23 rfl ?_
            refine AOps.pass rfl rfl rfl h23 rfl ?_
            refine AOps.pass rfl rfl rfl h23 rfl ?_
            refine AOps.pass rfl rfl rfl h23 rfl ?_
            refine AOps.pass rfl rfl rfl h23 rfl ?_
            refine AOps.call (o_pickF _ _ _ rfl h23 rfl rfl) ?_
            refine AOps.call (o_move _ rfl rfl) ?_
            refine AOps.pass rfl rfl rfl rfl rfl ?_
            refine AOps.pass rfl rfl rfl rfl rfl ?_
            refine AOps.pass rfl rfl rfl rfl rfl ?_
            refine AOps.call (o_pickF _ _ _ rfl rfl rfl rfl) ?_
            refine AOps.call (o_move _ rfl rfl) ?_
            refine AOps.pass rfl rfl rfl rfl rfl ?_
            refine AOps.pass rfl rfl rfl rfl rfl ?_
            refine AOps.pass rfl rfl rfl rfl rfl ?_
            refine AOps.pass rfl rfl rfl rfl rfl ?_
            refine AOps.pass rfl rfl rfl rfl rfl ?_
            refine AOps.pass rfl rfl rfl rfl rfl ?_
            refine AOps.pass rfl rfl rfl rfl rfl ?_
            refine AOps.pass rfl rfl rfl rfl rfl ?_
            refine AOps.call (o_pickF _ _ _ rfl rfl rfl rfl) ?_
            refine AOps.call (o_assign _ rfl rfl) ?_
            refine AOps.nil ?_
            refine AWP.ret ?_
            refine postQ.ret1 Tryd.results100 rfl ?_
            first
            | (rw [hbad]; rfl)
            | (unfold stakeB; simp_all [AV.close, B]; try (intros; omega))
      · skip
        refine AOps.pass rfl rfl rfl h14 rfl ?_
        refine AOps.pass rfl rfl rfl h14 rfl ?_
        refine AOps.pass rfl rfl rfl h14 rfl ?_
        refine AOps.pass rfl rfl rfl h14 rfl ?_
        refine AOps.call (o_pickT _ _ _ rfl h14 rfl rfl) ?_
        refine AOps.nil ?_
        refine AWP.condT rfl ?_
        have hbad : stakeB k = false := by unfold stakeB; simp_all
        try omega
        refine AWP.seq ?_
        refine AWP.region ?_
        refine AOps.call (o_assign _ rfl rfl) ?_
        refine AOps.nil ?_
        refine AWP.ret ?_
        refine postQ.ret1 Tryd.results100 rfl ?_
        first
        | (rw [hbad]; rfl)
        | (unfold stakeB; simp_all [AV.close, B]; try (intros; omega))
    · skip
      refine AOps.pass rfl rfl rfl h9 rfl ?_
      refine AOps.pass rfl rfl rfl h9 rfl ?_
      refine AOps.pass rfl rfl rfl h9 rfl ?_
      refine AOps.pass rfl rfl rfl h9 rfl ?_
      refine AOps.call (o_pickT _ _ _ rfl h9 rfl rfl) ?_
      refine AOps.call (o_move _ rfl rfl) ?_
      refine AOps.pass rfl rfl rfl rfl rfl ?_
      refine AOps.pass rfl rfl rfl rfl rfl ?_
      refine AOps.pass rfl rfl rfl rfl rfl ?_
      refine AOps.pass rfl rfl rfl rfl rfl ?_
      refine AOps.call (o_pickT _ _ _ rfl rfl rfl rfl) ?_
      refine AOps.nil ?_
      refine AWP.condT rfl ?_
      have hbad : stakeB k = false := by unfold stakeB; simp_all
      try omega
      refine AWP.seq ?_
      refine AWP.region ?_
      refine AOps.call (o_assign _ rfl rfl) ?_
      refine AOps.nil ?_
      refine AWP.ret ?_
      refine postQ.ret1 Tryd.results100 rfl ?_
      first
      | (rw [hbad]; rfl)
      | (unfold stakeB; simp_all [AV.close, B]; try (intros; omega))
  · skip
    refine AOps.pass rfl rfl rfl h5 rfl ?_
    refine AOps.pass rfl rfl rfl h5 rfl ?_
    refine AOps.pass rfl rfl rfl h5 rfl ?_
    refine AOps.call (o_pickT _ _ _ rfl h5 rfl rfl) ?_
    refine AOps.call (o_move _ rfl rfl) ?_
    refine AOps.pass rfl rfl rfl rfl rfl ?_
    refine AOps.pass rfl rfl rfl rfl rfl ?_
    refine AOps.pass rfl rfl rfl rfl rfl ?_
    refine AOps.pass rfl rfl rfl rfl rfl ?_
    refine AOps.call (o_pickT _ _ _ rfl rfl rfl rfl) ?_
    refine AOps.call (o_move _ rfl rfl) ?_
    refine AOps.pass rfl rfl rfl rfl rfl ?_
    refine AOps.pass rfl rfl rfl rfl rfl ?_
    refine AOps.pass rfl rfl rfl rfl rfl ?_
    refine AOps.pass rfl rfl rfl rfl rfl ?_
    refine AOps.call (o_pickT _ _ _ rfl rfl rfl rfl) ?_
    refine AOps.nil ?_
    refine AWP.condT rfl ?_
    have hbad : stakeB k = false := by unfold stakeB; simp_all
    try omega
    refine AWP.seq ?_
    refine AWP.region ?_
    refine AOps.call (o_assign _ rfl rfl) ?_
    refine AOps.nil ?_
    refine AWP.ret ?_
    refine postQ.ret1 Tryd.results100 rfl ?_
    first
    | (rw [hbad]; rfl)
    | (unfold stakeB; simp_all [AV.close, B]; try (intros; omega))

set_option maxRecDepth 20000 in
theorem CheckSheet_s (h : Sht) : FSpec Tryd.prog 35 [.agg (eH h)] (I (if sheetB h then 0 else 12)) (none) := by
  refine FSpec.of_body Tryd.func35 rfl (leB rfl) fun w0 M0 => ?_
  refine AWP.seq ?_
  refine AWP.region ?_
  refine AOps.call (o_box _ rfl rfl rfl) ?_
  refine AOps.call (o_assign _ rfl rfl) ?_
  refine AOps.nil ?_
  refine AWP.seq ?_
  refine AWP.seq ?_
  refine AWP.region ?_
  refine AOps.call (o_fieldRef _ rfl fa54_0 rfl rfl) ?_
  refine AOps.call (o_loadRef _ rfl rfl Tryd.sizeOf3 Tryd.isAgg3 rfl rfl rfl) ?_
  refine AOps.call (o_call (isNo_s _) Tryd.call98 rfl rfl) ?_
  refine AOps.call (o_un _ rfl (fun _ => rfl) rfl) ?_
  refine AOps.call (o_move _ rfl rfl) ?_
  refine AOps.split rfl rfl rfl (fun h7 => ?_) (fun h7 => ?_)
  · skip
    refine AOps.go rfl rfl rfl h7 (o_fieldRef _ rfl fa54_1 rfl rfl) ?_
    refine AOps.go rfl rfl rfl h7 (o_loadRef _ rfl rfl Tryd.sizeOf3 Tryd.isAgg3 rfl rfl rfl) ?_
    refine AOps.go rfl rfl rfl h7 (o_call (isNo_s _) Tryd.call98 rfl rfl) ?_
    refine AOps.go rfl rfl rfl h7 (o_un _ rfl (fun _ => rfl) rfl) ?_
    refine AOps.call (o_pickF _ _ _ rfl h7 rfl rfl) ?_
    refine AOps.call (o_move _ rfl rfl) ?_
    refine AOps.split rfl rfl rfl (fun h12 => ?_) (fun h12 => ?_)
    · skip
      refine AOps.go rfl rfl rfl h12 (o_fieldRef _ rfl fa54_4 rfl rfl) ?_
      refine AOps.go rfl rfl rfl h12 (o_loadRef _ rfl rfl Tryd.sizeOf3 Tryd.isAgg3 rfl rfl rfl) ?_
      refine AOps.go rfl rfl rfl h12 (o_call (isNo_s _) Tryd.call98 rfl rfl) ?_
      refine AOps.go rfl rfl rfl h12 (o_un _ rfl (fun _ => rfl) rfl) ?_
      refine AOps.call (o_pickF _ _ _ rfl h12 rfl rfl) ?_
      refine AOps.call (o_move _ rfl rfl) ?_
      refine AOps.split rfl rfl rfl (fun h17 => ?_) (fun h17 => ?_)
      · skip
        refine AOps.go rfl rfl rfl h17 (o_fieldRef _ rfl fa54_2 rfl rfl) ?_
        refine AOps.go rfl rfl rfl h17 (o_loadRef _ rfl rfl Tryd.sizeOf3 Tryd.isAgg3 rfl rfl rfl) ?_
        refine AOps.go rfl rfl rfl h17 (o_call (isDay_s _) Tryd.call72 rfl rfl) ?_
        refine AOps.go rfl rfl rfl h17 (o_un _ rfl (fun _ => rfl) rfl) ?_
        refine AOps.call (o_pickF _ _ _ rfl h17 rfl rfl) ?_
        refine AOps.call (o_move _ rfl rfl) ?_
        refine AOps.split rfl rfl rfl (fun h22 => ?_) (fun h22 => ?_)
        · skip
          refine AOps.go rfl rfl rfl h22 (o_fieldRef _ rfl fa54_3 rfl rfl) ?_
          refine AOps.go rfl rfl rfl h22 (o_loadRef _ rfl rfl Tryd.sizeOf3 Tryd.isAgg3 rfl rfl rfl) ?_
          refine AOps.go rfl rfl rfl h22 (o_call (isDay_s _) Tryd.call72 rfl rfl) ?_
          refine AOps.go rfl rfl rfl h22 (o_un _ rfl (fun _ => rfl) rfl) ?_
          refine AOps.call (o_pickF _ _ _ rfl h22 rfl rfl) ?_
          refine AOps.call (o_move _ rfl rfl) ?_
          refine AOps.split rfl rfl rfl (fun h27 => ?_) (fun h27 => ?_)
          · skip
            refine AOps.go rfl rfl rfl h27 (o_fieldRef _ rfl fa54_7 rfl rfl) ?_
            refine AOps.go rfl rfl rfl h27 (o_loadRef _ rfl rfl Tryd.sizeOf3 Tryd.isAgg3 rfl rfl rfl) ?_
            refine AOps.go rfl rfl rfl h27 (o_call (isDay_s _) Tryd.call72 rfl rfl) ?_
            refine AOps.go rfl rfl rfl h27 (o_un _ rfl (fun _ => rfl) rfl) ?_
            refine AOps.call (o_pickF _ _ _ rfl h27 rfl rfl) ?_
            refine AOps.nil ?_
            refine AWP.cond _ rfl (fun h32 => ?_) (fun h32 => ?_)
            · skip
              have hbad : headB h = false := by unfold headB; simp_all
              refine AWP.seq ?_
              refine AWP.region ?_
              refine AOps.call (o_assign _ rfl rfl) ?_
              refine AOps.nil ?_
              refine AWP.ret ?_
              refine postQ.ret1 Tryd.results35 rfl ?_
              rw [sheetB_eq]
              first
              | (rw [hbad]; rfl)
              | (rw [hhead, hbad]; rfl)
              | (rw [decide_eq_false hlen]; simp only [Bool.false_and, Bool.and_false]; rfl)
              | (rw [hst]; simp only [Bool.and_false]; rfl)
              | (rw [hhead, hmouth, hinv, if_pos (by simp; omega)]; rfl)
            · skip
              have hhead : headB h = true := by unfold headB; simp_all
              refine AWP.skip ?_
              refine AWP.seq ?_
              refine AWP.seq ?_
              refine AWP.region ?_
              refine AOps.call (o_fieldRef _ rfl fa54_5 rfl rfl) ?_
              refine AOps.call (o_loadRef _ rfl rfl Tryd.sizeOf3 Tryd.isAgg3 rfl rfl rfl) ?_
              refine AOps.call (o_bin _ _ rfl rfl (fun _ => rfl) rfl) ?_
              refine AOps.call (o_move _ rfl rfl) ?_
              refine AOps.split rfl rfl rfl (fun h37 => ?_) (fun h37 => ?_)
              · skip
                refine AOps.go rfl rfl rfl h37 (o_fieldRef _ rfl fa54_5 rfl rfl) ?_
                refine AOps.go rfl rfl rfl h37 (o_loadRef _ rfl rfl Tryd.sizeOf3 Tryd.isAgg3 rfl rfl rfl) ?_
                refine AOps.go rfl rfl rfl h37 (o_bin _ _ rfl rfl (fun _ => rfl) rfl) ?_
                refine AOps.call (o_pickF _ _ _ rfl h37 rfl rfl) ?_
                refine AOps.call (o_move _ rfl rfl) ?_
                refine AOps.split rfl rfl rfl (fun h41 => ?_) (fun h41 => ?_)
                · skip
                  refine AOps.go rfl rfl rfl h41 (o_fieldRef _ rfl fa54_6 rfl rfl) ?_
                  refine AOps.go rfl rfl rfl h41 (o_loadRef _ rfl rfl Tryd.sizeOf3 Tryd.isAgg3 rfl rfl rfl) ?_
                  refine AOps.go rfl rfl rfl h41 (o_call (isWeight_s _) Tryd.call99 rfl rfl) ?_
                  refine AOps.go rfl rfl rfl h41 (o_un _ rfl (fun _ => rfl) rfl) ?_
                  refine AOps.call (o_pickF _ _ _ rfl h41 rfl rfl) ?_
                  refine AOps.nil ?_
                  refine AWP.cond _ rfl (fun h46 => ?_) (fun h46 => ?_)
                  · skip
                    have hbad : mouthB h = false := by unfold mouthB; simp_all
                    try omega
                    refine AWP.seq ?_
                    refine AWP.region ?_
                    refine AOps.call (o_assign _ rfl rfl) ?_
                    refine AOps.nil ?_
                    refine AWP.ret ?_
                    refine postQ.ret1 Tryd.results35 rfl ?_
                    rw [sheetB_eq]
                    first
                    | (rw [hbad]; rfl)
                    | (rw [hhead, hbad]; rfl)
                    | (rw [decide_eq_false hlen]; simp only [Bool.false_and, Bool.and_false]; rfl)
                    | (rw [hst]; simp only [Bool.and_false]; rfl)
                    | (rw [hhead, hmouth, hinv, if_pos (by simp; omega)]; rfl)
                  · skip
                    have hmouth : mouthB h = true := by unfold mouthB; simp_all
                    try omega
                    refine AWP.skip ?_
                    refine AWP.seq ?_
                    refine AWP.seq ?_
                    refine AWP.region ?_
                    refine AOps.call (o_fieldRef _ rfl fa54_8 rfl rfl) ?_
                    refine AOps.call (o_loadRef _ rfl rfl Tryd.sizeOf52 Tryd.isAgg52 rfl rfl rfl) ?_
                    refine AOps.call (o_len _ Tryd.underlying52 rfl rfl) ?_
                    refine AOps.call (o_bin _ _ rfl rfl (fun _ => rfl) rfl) ?_
                    refine AOps.call (o_move _ rfl rfl) ?_
                    refine AOps.split rfl rfl rfl (fun h52 => ?_) (fun h52 => ?_)
                    · skip
                      refine AOps.go rfl rfl rfl h52 (o_fieldRef _ rfl fa54_8 rfl rfl) ?_
                      refine AOps.go rfl rfl rfl h52 (o_loadRef _ rfl rfl Tryd.sizeOf52 Tryd.isAgg52 rfl rfl rfl) ?_
                      refine AOps.go rfl rfl rfl h52 (o_len _ Tryd.underlying52 rfl rfl) ?_
                      refine AOps.go rfl rfl rfl h52 (o_bin _ _ rfl rfl (fun _ => rfl) rfl) ?_
                      refine AOps.call (o_pickF _ _ _ rfl h52 rfl rfl) ?_
                      refine AOps.nil ?_
                      refine AWP.cond _ rfl (fun h57 => ?_) (fun h57 => ?_)
                      · skip
                        have hlen : ¬ (1 ≤ h.stakes.length ∧ h.stakes.length ≤ 32) := by simp_all [stakes_len] <;> omega
                        refine AWP.seq ?_
                        refine AWP.region ?_
                        refine AOps.call (o_assign _ rfl rfl) ?_
                        refine AOps.nil ?_
                        refine AWP.ret ?_
                        refine postQ.ret1 Tryd.results35 rfl ?_
                        rw [sheetB_eq]
                        first
                        | (rw [hbad]; rfl)
                        | (rw [hhead, hbad]; rfl)
                        | (rw [decide_eq_false hlen]; simp only [Bool.false_and, Bool.and_false]; rfl)
                        | (rw [hst]; simp only [Bool.and_false]; rfl)
                        | (rw [hhead, hmouth, hinv, if_pos (by simp; omega)]; rfl)
                      · skip
                        have hlen : 1 ≤ h.stakes.length ∧ h.stakes.length ≤ 32 := by simp_all [stakes_len] <;> omega
                        refine AWP.skip ?_
                        refine AWP.seq ?_
                        refine AWP.seq ?_
                        refine AWP.region ?_
                        refine AOps.call (o_fieldRef _ rfl fa54_8 rfl rfl) ?_
                        refine AOps.call (o_loadRef _ rfl rfl Tryd.sizeOf52 Tryd.isAgg52 rfl rfl rfl) ?_
                        refine AOps.call (o_len _ Tryd.underlying52 rfl rfl) ?_
                        refine AOps.call (o_move _ rfl rfl) ?_
                        refine AOps.nil ?_
                        refine AWP.block ?_
                        refine AWP.loop (ι := Nat) (fun i => AS.mk' 74 [(1, .ref (1, 0) 0), (64, .sl (stakes h.stakes)), (65, I (stakes h.stakes).length), (66, I i)] [((1, 0), eH h)] [] [(1, 1)]) (fun i => i ≤ h.stakes.length ∧ h.stakes.all stakeB = (h.stakes.drop i).all stakeB) (fun i => h.stakes.length - i) (0) (Weak.mk' rfl ⟨⟨.refl rfl, rfl⟩, ⟨⟨.refl rfl, rfl⟩, ⟨⟨.refl rfl, rfl⟩, ⟨⟨.refl rfl, rfl⟩, trivial⟩⟩⟩⟩ ⟨⟨rfl, rfl, rfl⟩, trivial⟩ trivial) (⟨Nat.zero_le _, rfl⟩) ?_
                        rintro k ⟨hk, hinv⟩
                        try dsimp only at *
                        refine AWP.seq ?_
                        refine AWP.region ?_
                        refine AOps.call (o_bin _ _ rfl rfl (fun _ => rfl) rfl) ?_
                        refine AOps.nil ?_
                        refine AWP.seq ?_
                        refine AWP.cond _ rfl (fun h64 => ?_) (fun h64 => ?_)
                        · skip
                          have hlt : k < h.stakes.length := by simpa [stakes] using h64
                          have hel := stakes_get hlt
                          refine AWP.skip ?_
                          refine AWP.seq ?_
                          refine AWP.block ?_
                          refine AWP.seq ?_
                          refine AWP.region ?_
                          refine AOps.call (o_index _ _ Tryd.underlying52 Tryd.sizeOf79 rfl rfl (by omega) (by assumption) rfl rfl) ?_
                          refine AOps.call (o_loadRd _ rfl Tryd.sizeOf79 Tryd.isAgg79 rfl rfl rfl) ?_
                          refine AOps.call (o_alloc ze79 rfl rfl) ?_
                          refine AOps.cons (o_store _ _ rfl rfl Tryd.sizeOf79 rfl rfl rfl rfl rfl) ?_
                          refine AOps.nil ?_
                          refine AWP.seq ?_
                          refine AWP.region ?_
                          refine AOps.call (o_loadRef _ rfl rfl Tryd.sizeOf79 Tryd.isAgg79 rfl rfl rfl) ?_
                          refine AOps.call (o_call (validStake_s h.stakes[k]) Tryd.call100 rfl rfl) ?_
                          refine AOps.call (o_un _ rfl (fun _ => rfl) rfl) ?_
                          refine AOps.nil ?_
                          refine AWP.cond _ rfl (fun h71 => ?_) (fun h71 => ?_)
                          · skip
                            have hst : h.stakes.all stakeB = false := by rw [hinv, alls_at hlt]; simp_all
                            refine AWP.seq ?_
                            refine AWP.region ?_
                            refine AOps.call (o_assign _ rfl rfl) ?_
                            refine AOps.nil ?_
                            refine AWP.ret ?_
                            refine postQ.ret1 Tryd.results35 rfl ?_
                            rw [sheetB_eq]
                            first
                            | (rw [hbad]; rfl)
                            | (rw [hhead, hbad]; rfl)
                            | (rw [decide_eq_false hlen]; simp only [Bool.false_and, Bool.and_false]; rfl)
                            | (rw [hst]; simp only [Bool.and_false]; rfl)
                            | (rw [hhead, hmouth, hinv, if_pos (by simp; omega)]; rfl)
                          · skip
                            refine AWP.skip ?_
                            refine AWP.region ?_
                            refine AOps.call (o_add _ _ rfl rfl ⟨by (try dsimp only); omega, by (try dsimp only); omega⟩ rfl) ?_
                            refine AOps.call (o_move _ rfl rfl) ?_
                            refine AOps.nil ?_
                            refine ⟨k + 1, ?_, (Weak.mk' rfl ⟨⟨.refl rfl, rfl⟩, ⟨⟨.refl rfl, rfl⟩, ⟨⟨.refl rfl, rfl⟩, ⟨⟨.refl rfl, rfl⟩, trivial⟩⟩⟩⟩ ⟨⟨rfl, rfl, rfl⟩, trivial⟩ trivial)⟩
                            exact ⟨⟨by omega, by rw [hinv, alls_at hlt]; simp_all⟩, by omega⟩
                        · skip
                          have hkl : k = h.stakes.length := by simp [stakes] at h64 hk; omega
                          subst hkl
                          rw [List.drop_length] at hinv
                          refine AWP.exit ?_
                          refine AWP.seq ?_
                          refine AWP.region ?_
                          refine AOps.call (o_assign _ rfl rfl) ?_
                          refine AOps.nil ?_
                          refine AWP.ret ?_
                          refine postQ.ret1 Tryd.results35 rfl ?_
                          rw [sheetB_eq]
                          first
                          | (rw [hbad]; rfl)
                          | (rw [hhead, hbad]; rfl)
                          | (rw [decide_eq_false hlen]; simp only [Bool.false_and, Bool.and_false]; rfl)
                          | (rw [hst]; simp only [Bool.and_false]; rfl)
                          | (rw [hhead, hmouth, hinv, if_pos (by simp; omega)]; rfl)
                    · skip
                      refine AOps.pass rfl rfl rfl h52 rfl ?_
                      refine AOps.pass rfl rfl rfl h52 rfl ?_
                      refine AOps.pass rfl rfl rfl h52 rfl ?_
                      refine AOps.pass rfl rfl rfl h52 rfl ?_
                      refine AOps.call (o_pickT _ _ _ rfl h52 rfl rfl) ?_
                      refine AOps.nil ?_
                      refine AWP.condT rfl ?_
                      have hlen : ¬ (1 ≤ h.stakes.length ∧ h.stakes.length ≤ 32) := by simp_all [stakes_len] <;> omega
                      refine AWP.seq ?_
                      refine AWP.region ?_
                      refine AOps.call (o_assign _ rfl rfl) ?_
                      refine AOps.nil ?_
                      refine AWP.ret ?_
                      refine postQ.ret1 Tryd.results35 rfl ?_
                      rw [sheetB_eq]
                      first
                      | (rw [hbad]; rfl)
                      | (rw [hhead, hbad]; rfl)
                      | (rw [decide_eq_false hlen]; simp only [Bool.false_and, Bool.and_false]; rfl)
                      | (rw [hst]; simp only [Bool.and_false]; rfl)
                      | (rw [hhead, hmouth, hinv, if_pos (by simp; omega)]; rfl)
                · skip
                  refine AOps.pass rfl rfl rfl h41 rfl ?_
                  refine AOps.pass rfl rfl rfl h41 rfl ?_
                  refine AOps.pass rfl rfl rfl h41 rfl ?_
                  refine AOps.pass rfl rfl rfl h41 rfl ?_
                  refine AOps.call (o_pickT _ _ _ rfl h41 rfl rfl) ?_
                  refine AOps.nil ?_
                  refine AWP.condT rfl ?_
                  have hbad : mouthB h = false := by unfold mouthB; simp_all
                  try omega
                  refine AWP.seq ?_
                  refine AWP.region ?_
                  refine AOps.call (o_assign _ rfl rfl) ?_
                  refine AOps.nil ?_
                  refine AWP.ret ?_
                  refine postQ.ret1 Tryd.results35 rfl ?_
                  rw [sheetB_eq]
                  first
                  | (rw [hbad]; rfl)
                  | (rw [hhead, hbad]; rfl)
                  | (rw [decide_eq_false hlen]; simp only [Bool.false_and, Bool.and_false]; rfl)
                  | (rw [hst]; simp only [Bool.and_false]; rfl)
                  | (rw [hhead, hmouth, hinv, if_pos (by simp; omega)]; rfl)
              · skip
                refine AOps.pass rfl rfl rfl h37 rfl ?_
                refine AOps.pass rfl rfl rfl h37 rfl ?_
                refine AOps.pass rfl rfl rfl h37 rfl ?_
                refine AOps.call (o_pickT _ _ _ rfl h37 rfl rfl) ?_
                refine AOps.call (o_move _ rfl rfl) ?_
                refine AOps.pass rfl rfl rfl rfl rfl ?_
                refine AOps.pass rfl rfl rfl rfl rfl ?_
                refine AOps.pass rfl rfl rfl rfl rfl ?_
                refine AOps.pass rfl rfl rfl rfl rfl ?_
                refine AOps.call (o_pickT _ _ _ rfl rfl rfl rfl) ?_
                refine AOps.nil ?_
                refine AWP.condT rfl ?_
                have hbad : mouthB h = false := by unfold mouthB; simp_all
                try omega
                refine AWP.seq ?_
                refine AWP.region ?_
                refine AOps.call (o_assign _ rfl rfl) ?_
                refine AOps.nil ?_
                refine AWP.ret ?_
                refine postQ.ret1 Tryd.results35 rfl ?_
                rw [sheetB_eq]
                first
                | (rw [hbad]; rfl)
                | (rw [hhead, hbad]; rfl)
                | (rw [decide_eq_false hlen]; simp only [Bool.false_and, Bool.and_false]; rfl)
                | (rw [hst]; simp only [Bool.and_false]; rfl)
                | (rw [hhead, hmouth, hinv, if_pos (by simp; omega)]; rfl)
          · skip
            refine AOps.pass rfl rfl rfl h27 rfl ?_
            refine AOps.pass rfl rfl rfl h27 rfl ?_
            refine AOps.pass rfl rfl rfl h27 rfl ?_
            refine AOps.pass rfl rfl rfl h27 rfl ?_
            refine AOps.call (o_pickT _ _ _ rfl h27 rfl rfl) ?_
            refine AOps.nil ?_
            refine AWP.condT rfl ?_
            have hbad : headB h = false := by unfold headB; simp_all
            refine AWP.seq ?_
            refine AWP.region ?_
            refine AOps.call (o_assign _ rfl rfl) ?_
            refine AOps.nil ?_
            refine AWP.ret ?_
            refine postQ.ret1 Tryd.results35 rfl ?_
            rw [sheetB_eq]
            first
            | (rw [hbad]; rfl)
            | (rw [hhead, hbad]; rfl)
            | (rw [decide_eq_false hlen]; simp only [Bool.false_and, Bool.and_false]; rfl)
            | (rw [hst]; simp only [Bool.and_false]; rfl)
            | (rw [hhead, hmouth, hinv, if_pos (by simp; omega)]; rfl)
        · skip
          refine AOps.pass rfl rfl rfl h22 rfl ?_
          refine AOps.pass rfl rfl rfl h22 rfl ?_
          refine AOps.pass rfl rfl rfl h22 rfl ?_
          refine AOps.pass rfl rfl rfl h22 rfl ?_
          refine AOps.call (o_pickT _ _ _ rfl h22 rfl rfl) ?_
          refine AOps.call (o_move _ rfl rfl) ?_
          refine AOps.pass rfl rfl rfl rfl rfl ?_
          refine AOps.pass rfl rfl rfl rfl rfl ?_
          refine AOps.pass rfl rfl rfl rfl rfl ?_
          refine AOps.pass rfl rfl rfl rfl rfl ?_
          refine AOps.call (o_pickT _ _ _ rfl rfl rfl rfl) ?_
          refine AOps.nil ?_
          refine AWP.condT rfl ?_
          have hbad : headB h = false := by unfold headB; simp_all
          refine AWP.seq ?_
          refine AWP.region ?_
          refine AOps.call (o_assign _ rfl rfl) ?_
          refine AOps.nil ?_
          refine AWP.ret ?_
          refine postQ.ret1 Tryd.results35 rfl ?_
          rw [sheetB_eq]
          first
          | (rw [hbad]; rfl)
          | (rw [hhead, hbad]; rfl)
          | (rw [decide_eq_false hlen]; simp only [Bool.false_and, Bool.and_false]; rfl)
          | (rw [hst]; simp only [Bool.and_false]; rfl)
          | (rw [hhead, hmouth, hinv, if_pos (by simp; omega)]; rfl)
      · skip
        refine AOps.pass rfl rfl rfl h17 rfl ?_
        refine AOps.pass rfl rfl rfl h17 rfl ?_
        refine AOps.pass rfl rfl rfl h17 rfl ?_
        refine AOps.pass rfl rfl rfl h17 rfl ?_
        refine AOps.call (o_pickT _ _ _ rfl h17 rfl rfl) ?_
        refine AOps.call (o_move _ rfl rfl) ?_
        refine AOps.pass rfl rfl rfl rfl rfl ?_
        refine AOps.pass rfl rfl rfl rfl rfl ?_
        refine AOps.pass rfl rfl rfl rfl rfl ?_
        refine AOps.pass rfl rfl rfl rfl rfl ?_
        refine AOps.call (o_pickT _ _ _ rfl rfl rfl rfl) ?_
        refine AOps.call (o_move _ rfl rfl) ?_
        refine AOps.pass rfl rfl rfl rfl rfl ?_
        refine AOps.pass rfl rfl rfl rfl rfl ?_
        refine AOps.pass rfl rfl rfl rfl rfl ?_
        refine AOps.pass rfl rfl rfl rfl rfl ?_
        refine AOps.call (o_pickT _ _ _ rfl rfl rfl rfl) ?_
        refine AOps.nil ?_
        refine AWP.condT rfl ?_
        have hbad : headB h = false := by unfold headB; simp_all
        refine AWP.seq ?_
        refine AWP.region ?_
        refine AOps.call (o_assign _ rfl rfl) ?_
        refine AOps.nil ?_
        refine AWP.ret ?_
        refine postQ.ret1 Tryd.results35 rfl ?_
        rw [sheetB_eq]
        first
        | (rw [hbad]; rfl)
        | (rw [hhead, hbad]; rfl)
        | (rw [decide_eq_false hlen]; simp only [Bool.false_and, Bool.and_false]; rfl)
        | (rw [hst]; simp only [Bool.and_false]; rfl)
        | (rw [hhead, hmouth, hinv, if_pos (by simp; omega)]; rfl)
    · skip
      refine AOps.pass rfl rfl rfl h12 rfl ?_
      refine AOps.pass rfl rfl rfl h12 rfl ?_
      refine AOps.pass rfl rfl rfl h12 rfl ?_
      refine AOps.pass rfl rfl rfl h12 rfl ?_
      refine AOps.call (o_pickT _ _ _ rfl h12 rfl rfl) ?_
      refine AOps.call (o_move _ rfl rfl) ?_
      refine AOps.pass rfl rfl rfl rfl rfl ?_
      refine AOps.pass rfl rfl rfl rfl rfl ?_
      refine AOps.pass rfl rfl rfl rfl rfl ?_
      refine AOps.pass rfl rfl rfl rfl rfl ?_
      refine AOps.call (o_pickT _ _ _ rfl rfl rfl rfl) ?_
      refine AOps.call (o_move _ rfl rfl) ?_
      refine AOps.pass rfl rfl rfl rfl rfl ?_
      refine AOps.pass rfl rfl rfl rfl rfl ?_
      refine AOps.pass rfl rfl rfl rfl rfl ?_
      refine AOps.pass rfl rfl rfl rfl rfl ?_
      refine AOps.call (o_pickT _ _ _ rfl rfl rfl rfl) ?_
      refine AOps.call (o_move _ rfl rfl) ?_
      refine AOps.pass rfl rfl rfl rfl rfl ?_
      refine AOps.pass rfl rfl rfl rfl rfl ?_
      refine AOps.pass rfl rfl rfl rfl rfl ?_
      refine AOps.pass rfl rfl rfl rfl rfl ?_
      refine AOps.call (o_pickT _ _ _ rfl rfl rfl rfl) ?_
      refine AOps.nil ?_
      refine AWP.condT rfl ?_
      have hbad : headB h = false := by unfold headB; simp_all
      refine AWP.seq ?_
      refine AWP.region ?_
      refine AOps.call (o_assign _ rfl rfl) ?_
      refine AOps.nil ?_
      refine AWP.ret ?_
      refine postQ.ret1 Tryd.results35 rfl ?_
      rw [sheetB_eq]
      first
      | (rw [hbad]; rfl)
      | (rw [hhead, hbad]; rfl)
      | (rw [decide_eq_false hlen]; simp only [Bool.false_and, Bool.and_false]; rfl)
      | (rw [hst]; simp only [Bool.and_false]; rfl)
      | (rw [hhead, hmouth, hinv, if_pos (by simp; omega)]; rfl)
  · skip
    refine AOps.pass rfl rfl rfl h7 rfl ?_
    refine AOps.pass rfl rfl rfl h7 rfl ?_
    refine AOps.pass rfl rfl rfl h7 rfl ?_
    refine AOps.pass rfl rfl rfl h7 rfl ?_
    refine AOps.call (o_pickT _ _ _ rfl h7 rfl rfl) ?_
    refine AOps.call (o_move _ rfl rfl) ?_
    refine AOps.pass rfl rfl rfl rfl rfl ?_
    refine AOps.pass rfl rfl rfl rfl rfl ?_
    refine AOps.pass rfl rfl rfl rfl rfl ?_
    refine AOps.pass rfl rfl rfl rfl rfl ?_
    refine AOps.call (o_pickT _ _ _ rfl rfl rfl rfl) ?_
    refine AOps.call (o_move _ rfl rfl) ?_
    refine AOps.pass rfl rfl rfl rfl rfl ?_
    refine AOps.pass rfl rfl rfl rfl rfl ?_
    refine AOps.pass rfl rfl rfl rfl rfl ?_
    refine AOps.pass rfl rfl rfl rfl rfl ?_
    refine AOps.call (o_pickT _ _ _ rfl rfl rfl rfl) ?_
    refine AOps.call (o_move _ rfl rfl) ?_
    refine AOps.pass rfl rfl rfl rfl rfl ?_
    refine AOps.pass rfl rfl rfl rfl rfl ?_
    refine AOps.pass rfl rfl rfl rfl rfl ?_
    refine AOps.pass rfl rfl rfl rfl rfl ?_
    refine AOps.call (o_pickT _ _ _ rfl rfl rfl rfl) ?_
    refine AOps.call (o_move _ rfl rfl) ?_
    refine AOps.pass rfl rfl rfl rfl rfl ?_
    refine AOps.pass rfl rfl rfl rfl rfl ?_
    refine AOps.pass rfl rfl rfl rfl rfl ?_
    refine AOps.pass rfl rfl rfl rfl rfl ?_
    refine AOps.call (o_pickT _ _ _ rfl rfl rfl rfl) ?_
    refine AOps.nil ?_
    refine AWP.condT rfl ?_
    have hbad : headB h = false := by unfold headB; simp_all
    refine AWP.seq ?_
    refine AWP.region ?_
    refine AOps.call (o_assign _ rfl rfl) ?_
    refine AOps.nil ?_
    refine AWP.ret ?_
    refine postQ.ret1 Tryd.results35 rfl ?_
    rw [sheetB_eq]
    first
    | (rw [hbad]; rfl)
    | (rw [hhead, hbad]; rfl)
    | (rw [decide_eq_false hlen]; simp only [Bool.false_and, Bool.and_false]; rfl)
    | (rw [hst]; simp only [Bool.and_false]; rfl)
    | (rw [hhead, hmouth, hinv, if_pos (by simp; omega)]; rfl)

end Go.Proofs.YtphoomnonenalaaDoor
