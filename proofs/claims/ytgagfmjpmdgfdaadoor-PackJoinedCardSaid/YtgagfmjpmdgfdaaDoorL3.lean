import Derived.Test.YtgagfmjpmdgfdaaDoorQ16
import Derived.Test.YtgagfmjpmdgfdaaDoorX11
set_option linter.unusedSimpArgs false
set_option linter.unusedVariables false
namespace Go.Proofs.YtgagfmjpmdgfdaaDoor
open Go.Ab

set_option maxRecDepth 20000 in
theorem PackReady_s (p : List Lay) (rain : Int) : FSpecG Tryd.prog TAB 11 [.agg (eK p), I rain] (B true) (none) := by
  refine FSpecG.of_body tab_stable Tryd.func11 rfl (leB rfl) fun w0 M0 hG => ?_
  refine AWP.seq ?_
  refine AWP.region ?_
  refine AOps.call (o_box _ rfl rfl rfl) ?_
  refine AOps.call (o_assign _ rfl rfl) ?_
  refine AOps.nil ?_
  refine AWP.seq ?_
  refine AWP.seq ?_
  refine AWP.region ?_
  refine AOps.call (o_callG (sane_s) hG Tryd.call18 rfl rfl) ?_
  refine AOps.call (o_un _ rfl (fun _ => rfl) rfl) ?_
  refine AOps.nil ?_
  refine AWP.cond _ rfl (fun h4 => ?_) (fun h4 => ?_)
  · skip
    exfalso
    simp at h4
  · skip
    refine AWP.skip ?_
    refine AWP.seq ?_
    refine AWP.region ?_
    refine AOps.call (o_loadRef _ rfl rfl Tryd.sizeOf24 Tryd.isAgg24 rfl rfl rfl) ?_
    refine AOps.call (o_call (Ready_s p) Tryd.call38 rfl rfl) ?_
    refine AOps.call (o_move _ rfl rfl) ?_
    refine AOps.call (o_extract _ rfl rfl rfl rfl) ?_
    refine AOps.call (o_extract _ rfl rfl rfl rfl) ?_
    refine AOps.call (o_assign _ rfl rfl) ?_
    refine AOps.call (o_assign _ rfl rfl) ?_
    refine AOps.nil ?_
    refine AWP.seq ?_
    refine AWP.seq ?_
    refine AWP.region ?_
    refine AOps.call (o_move _ rfl rfl) ?_
    refine AOps.call (o_bin _ _ rfl rfl (fun _ => rfl) rfl) ?_
    refine AOps.nil ?_
    refine AWP.cond _ rfl (fun h10 => ?_) (fun h10 => ?_)
    · skip
      have hp : ¬ packE p = 0 := by simpa using h10
      have hE : (if packE p = 0 then rdyL p else 0) = 0 := if_neg hp
      refine AWP.seq ?_
      refine AWP.region ?_
      refine AOps.call (o_move _ rfl rfl) ?_
      refine AOps.call (o_bin _ _ rfl rfl (fun _ => rfl) rfl) ?_
      refine AOps.call (o_move _ rfl rfl) ?_
      refine AOps.split rfl rfl rfl (fun h12 => ?_) (fun h12 => ?_)
      · skip
        refine AOps.go rfl rfl rfl h12 (o_loadRef _ rfl rfl Tryd.sizeOf24 Tryd.isAgg24 rfl rfl rfl) ?_
        refine AOps.go rfl rfl rfl h12 (o_call (Check_s p) Tryd.call26 rfl rfl) ?_
        refine AOps.go rfl rfl rfl h12 (o_bin _ _ rfl rfl (fun _ => rfl) rfl) ?_
        refine AOps.call (o_pickT _ _ _ rfl h12 rfl rfl) ?_
        refine AOps.call (o_assign _ rfl rfl) ?_
        refine AOps.nil ?_
        refine AWP.ret ?_
        first
        | exact postQ.ret1 Tryd.results11 rfl rfl
        | (refine postQ.ret1 Tryd.results11 rfl ?_; simp [AV.close, AV.close.closeL, B, I]; done)
        | (refine postQ.ret1 Tryd.results11 rfl ?_; simp [AV.close, AV.close.closeL, B, I]; omega)
        | (refine postQ.ret1 Tryd.results11 rfl ?_; simp_all [AV.close, AV.close.closeL, B, I]; done)
        | (refine postQ.ret1 Tryd.results11 rfl ?_; simp_all [AV.close, AV.close.closeL, B, I]; omega)
      · skip
        exfalso
        simp [hE] at h12
    · skip
      have hp : packE p = 0 := by simpa using h10
      have hE : (if packE p = 0 then rdyL p else 0) = rdyL p := if_pos hp
      have hb := packE_bd hp
      have hr := rdyL_bd (packE_0.1 hp).2.1
      refine AWP.skip ?_
      refine AWP.seq ?_
      refine AWP.region ?_
      refine AOps.call (o_loadRef _ rfl rfl Tryd.sizeOf24 Tryd.isAgg24 rfl rfl rfl) ?_
      refine AOps.call (o_move _ rfl rfl) ?_
      refine AOps.call (o_build bu26 rfl rfl rfl) ?_
      refine AOps.call (o_call (Apply_s p ⟨2, rain, 0⟩) Tryd.call31 rfl rfl) ?_
      refine AOps.call (o_move _ rfl rfl) ?_
      refine AOps.call (o_extract _ rfl rfl rfl rfl) ?_
      refine AOps.call (o_extract _ rfl rfl rfl rfl) ?_
      refine AOps.call (o_extract _ rfl rfl rfl rfl) ?_
      refine AOps.call (o_alloc ze24 rfl rfl) ?_
      refine AOps.cons (o_store _ _ rfl rfl Tryd.sizeOf24 rfl rfl rfl rfl rfl) ?_
      refine AOps.call (o_assign _ rfl rfl) ?_
      refine AOps.call (o_assign _ rfl rfl) ?_
      refine AOps.nil ?_
      refine AWP.seq ?_
      refine AWP.seq ?_
      refine AWP.region ?_
      refine AOps.call (o_move _ rfl rfl) ?_
      refine AOps.call (o_bin _ _ rfl rfl (fun _ => rfl) rfl) ?_
      refine AOps.nil ?_
      refine AWP.cond _ rfl (fun h25 => ?_) (fun h25 => ?_)
      · skip
        have hn : ¬ (appM p ⟨2, rain, 0⟩).2.2 = 0 := by simpa using h25
        have h2 := app_rainE hp hn
        refine AWP.seq ?_
        refine AWP.region ?_
        refine AOps.call (o_move _ rfl rfl) ?_
        refine AOps.call (o_bin _ _ rfl rfl (fun _ => rfl) rfl) ?_
        refine AOps.call (o_move _ rfl rfl) ?_
        refine AOps.split rfl rfl rfl (fun h27 => ?_) (fun h27 => ?_)
        · skip
          have h3 : ¬ (appM p ⟨2, rain, 0⟩).2.2 = 2 := by simpa using h27
          have h4 := h2.resolve_left h3
          refine AOps.go rfl rfl rfl h27 (o_move _ rfl rfl) ?_
          refine AOps.go rfl rfl rfl h27 (o_bin _ _ rfl rfl (fun _ => rfl) rfl) ?_
          refine AOps.call (o_pickF _ _ _ rfl h27 rfl rfl) ?_
          refine AOps.call (o_assign _ rfl rfl) ?_
          refine AOps.nil ?_
          refine AWP.ret ?_
          first
          | exact postQ.ret1 Tryd.results11 rfl rfl
          | (refine postQ.ret1 Tryd.results11 rfl ?_; simp [AV.close, AV.close.closeL, B, I]; done)
          | (refine postQ.ret1 Tryd.results11 rfl ?_; simp [AV.close, AV.close.closeL, B, I]; omega)
          | (refine postQ.ret1 Tryd.results11 rfl ?_; simp_all [AV.close, AV.close.closeL, B, I]; done)
          | (refine postQ.ret1 Tryd.results11 rfl ?_; simp_all [AV.close, AV.close.closeL, B, I]; omega)
        · skip
          refine AOps.pass rfl rfl rfl h27 rfl ?_
          refine AOps.pass rfl rfl rfl h27 rfl ?_
          refine AOps.call (o_pickT _ _ _ rfl h27 rfl rfl) ?_
          refine AOps.call (o_assign _ rfl rfl) ?_
          refine AOps.nil ?_
          refine AWP.ret ?_
          first
          | exact postQ.ret1 Tryd.results11 rfl rfl
          | (refine postQ.ret1 Tryd.results11 rfl ?_; simp [AV.close, AV.close.closeL, B, I]; done)
          | (refine postQ.ret1 Tryd.results11 rfl ?_; simp [AV.close, AV.close.closeL, B, I]; omega)
          | (refine postQ.ret1 Tryd.results11 rfl ?_; simp_all [AV.close, AV.close.closeL, B, I]; done)
          | (refine postQ.ret1 Tryd.results11 rfl ?_; simp_all [AV.close, AV.close.closeL, B, I]; omega)
      · skip
        have hok : (appM p ⟨2, rain, 0⟩).2.2 = 0 := by simpa using h25
        have h2 := app_rain hok
        have hs := (stepE_0.1 (appM_ok hok).2.1).1
        simp only [] at hs
        refine AWP.skip ?_
        refine AWP.seq ?_
        refine AWP.region ?_
        refine AOps.call (o_move _ rfl rfl) ?_
        refine AOps.call (o_bin _ _ rfl rfl (fun _ => rfl) rfl) ?_
        refine AOps.call (o_move _ rfl rfl) ?_
        refine AOps.split rfl rfl rfl (fun h30 => ?_) (fun h30 => ?_)
        · skip
          refine AOps.go rfl rfl rfl h30 (o_move _ rfl rfl) ?_
          refine AOps.go rfl rfl rfl h30 (o_move _ rfl rfl) ?_
          refine AOps.go rfl rfl rfl h30 (o_move _ rfl rfl) ?_
          refine AOps.go rfl rfl rfl h30 (o_sub _ _ rfl rfl ⟨by (try dsimp only); omega, by (try dsimp only); omega⟩ rfl) ?_
          refine AOps.go rfl rfl rfl h30 (o_maxI _ _ rfl rfl rfl) ?_
          refine AOps.go rfl rfl rfl h30 (o_bin _ _ rfl rfl (fun _ => rfl) rfl) ?_
          refine AOps.call (o_pickT _ _ _ rfl h30 rfl rfl) ?_
          refine AOps.call (o_assign _ rfl rfl) ?_
          refine AOps.nil ?_
          refine AWP.ret ?_
          first
          | exact postQ.ret1 Tryd.results11 rfl rfl
          | (refine postQ.ret1 Tryd.results11 rfl ?_; simp [AV.close, AV.close.closeL, B, I]; done)
          | (refine postQ.ret1 Tryd.results11 rfl ?_; simp [AV.close, AV.close.closeL, B, I]; omega)
          | (refine postQ.ret1 Tryd.results11 rfl ?_; simp_all [AV.close, AV.close.closeL, B, I]; done)
          | (refine postQ.ret1 Tryd.results11 rfl ?_; simp_all [AV.close, AV.close.closeL, B, I]; omega)
        · skip
          exfalso
          have hq := of_decide_eq_false h30
          rw [hE] at hq
          omega

set_option maxRecDepth 20000 in
theorem PackJoined_s (p : List Lay) (n m : Int) : FSpecG Tryd.prog TAB 15 [.agg (eK p), I n, I m] (B true) (none) := by
  refine FSpecG.of_body tab_stable Tryd.func15 rfl (leB rfl) fun w0 M0 hG => ?_
  have hpl := lays_len p
  have hjl := lays_len (joiM p n).1
  refine AWP.seq ?_
  refine AWP.region ?_
  refine AOps.call (o_box _ rfl rfl rfl) ?_
  refine AOps.call (o_assign _ rfl rfl) ?_
  refine AOps.nil ?_
  refine AWP.seq ?_
  refine AWP.seq ?_
  refine AWP.region ?_
  refine AOps.call (o_callG (sane_s) hG Tryd.call18 rfl rfl) ?_
  refine AOps.call (o_un _ rfl (fun _ => rfl) rfl) ?_
  refine AOps.nil ?_
  refine AWP.cond _ rfl (fun h4 => ?_) (fun h4 => ?_)
  · skip
    exfalso
    simp at h4
  · skip
    refine AWP.skip ?_
    refine AWP.seq ?_
    refine AWP.region ?_
    refine AOps.call (o_loadRef _ rfl rfl Tryd.sizeOf24 Tryd.isAgg24 rfl rfl rfl) ?_
    refine AOps.call (o_move _ rfl rfl) ?_
    refine AOps.call (o_call (Joined_s p n) Tryd.call52 rfl rfl) ?_
    refine AOps.call (o_move _ rfl rfl) ?_
    refine AOps.call (o_extract _ rfl rfl rfl rfl) ?_
    refine AOps.call (o_extract _ rfl rfl rfl rfl) ?_
    refine AOps.call (o_alloc ze24 rfl rfl) ?_
    refine AOps.cons (o_store _ _ rfl rfl Tryd.sizeOf24 rfl rfl rfl rfl rfl) ?_
    refine AOps.call (o_assign _ rfl rfl) ?_
    refine AOps.nil ?_
    refine AWP.seq ?_
    refine AWP.seq ?_
    refine AWP.region ?_
    refine AOps.call (o_move _ rfl rfl) ?_
    refine AOps.call (o_bin _ _ rfl rfl (fun _ => rfl) rfl) ?_
    refine AOps.nil ?_
    refine AWP.cond _ rfl (fun h12 => ?_) (fun h12 => ?_)
    · skip
      have hn : ¬ (joiM p n).2 = 0 := by simpa using h12
      have hl0 := lays_nil (joiM_no hn)
      refine AWP.seq ?_
      refine AWP.region ?_
      refine AOps.call (o_fieldRef _ rfl fa24_0 rfl rfl) ?_
      refine AOps.call (o_loadRef _ rfl rfl Tryd.sizeOf22 Tryd.isAgg22 rfl rfl rfl) ?_
      refine AOps.call (o_len _ Tryd.underlying22 rfl rfl) ?_
      refine AOps.call (o_bin _ _ rfl rfl (fun _ => rfl) rfl) ?_
      refine AOps.call (o_assign _ rfl rfl) ?_
      refine AOps.nil ?_
      refine AWP.ret ?_
      first
      | exact postQ.ret1 Tryd.results15 rfl rfl
      | (refine postQ.ret1 Tryd.results15 rfl ?_; simp [AV.close, AV.close.closeL, B, I]; done)
      | (refine postQ.ret1 Tryd.results15 rfl ?_; simp [AV.close, AV.close.closeL, B, I]; omega)
      | (refine postQ.ret1 Tryd.results15 rfl ?_; simp_all [AV.close, AV.close.closeL, B, I]; done)
      | (refine postQ.ret1 Tryd.results15 rfl ?_; simp_all [AV.close, AV.close.closeL, B, I]; omega)
    · skip
      have hok : (joiM p n).2 = 0 := by simpa using h12
      obtain ⟨a1, a0, a2, a3, a4, a5⟩ := joiM_ok hok
      have b1 := packE_bd a1
      have b2 := packE_bd a2
      have g1 := (packE_0.1 a1).2.1
      have g2 := (packE_0.1 a2).2.1
      have c1 := cwL_bd g1
      refine AWP.skip ?_
      refine AWP.seq ?_
      refine AWP.region ?_
      refine AOps.call (o_loadRef _ rfl rfl Tryd.sizeOf24 Tryd.isAgg24 rfl rfl rfl) ?_
      refine AOps.call (o_call (water_ok a1) Tryd.call22 rfl rfl) ?_
      refine AOps.call (o_move _ rfl rfl) ?_
      refine AOps.call (o_extract _ rfl rfl rfl rfl) ?_
      refine AOps.call (o_extract _ rfl rfl rfl rfl) ?_
      refine AOps.call (o_assign _ rfl rfl) ?_
      refine AOps.call (o_assign _ rfl rfl) ?_
      refine AOps.nil ?_
      refine AWP.seq ?_
      refine AWP.region ?_
      refine AOps.call (o_loadRef _ rfl rfl Tryd.sizeOf24 Tryd.isAgg24 rfl rfl rfl) ?_
      refine AOps.call (o_call (water_ok a2) Tryd.call22 rfl rfl) ?_
      refine AOps.call (o_move _ rfl rfl) ?_
      refine AOps.call (o_extract _ rfl rfl rfl rfl) ?_
      refine AOps.call (o_extract _ rfl rfl rfl rfl) ?_
      refine AOps.call (o_assign _ rfl rfl) ?_
      refine AOps.call (o_assign _ rfl rfl) ?_
      refine AOps.nil ?_
      refine AWP.seq ?_
      refine AWP.seq ?_
      refine AWP.region ?_
      refine AOps.call (o_move _ rfl rfl) ?_
      refine AOps.call (o_bin _ _ rfl rfl (fun _ => rfl) rfl) ?_
      refine AOps.call (o_move _ rfl rfl) ?_
      refine AOps.split rfl rfl rfl (fun h26 => ?_) (fun h26 => ?_)
      · skip
        refine AOps.go rfl rfl rfl h26 (o_move _ rfl rfl) ?_
        refine AOps.go rfl rfl rfl h26 (o_bin _ _ rfl rfl (fun _ => rfl) rfl) ?_
        refine AOps.call (o_pickF _ _ _ rfl h26 rfl rfl) ?_
        refine AOps.call (o_move _ rfl rfl) ?_
        refine AOps.split rfl rfl rfl (fun h28 => ?_) (fun h28 => ?_)
        · skip
          refine AOps.go rfl rfl rfl h28 (o_move _ rfl rfl) ?_
          refine AOps.go rfl rfl rfl h28 (o_move _ rfl rfl) ?_
          refine AOps.go rfl rfl rfl h28 (o_bin _ _ rfl rfl (fun _ => rfl) rfl) ?_
          refine AOps.call (o_pickF _ _ _ rfl h28 rfl rfl) ?_
          refine AOps.call (o_move _ rfl rfl) ?_
          refine AOps.split rfl rfl rfl (fun h30 => ?_) (fun h30 => ?_)
          · skip
            refine AOps.go rfl rfl rfl h30 (o_fieldRef _ rfl fa24_0 rfl rfl) ?_
            refine AOps.go rfl rfl rfl h30 (o_loadRef _ rfl rfl Tryd.sizeOf22 Tryd.isAgg22 rfl rfl rfl) ?_
            refine AOps.go rfl rfl rfl h30 (o_len _ Tryd.underlying22 rfl rfl) ?_
            refine AOps.go rfl rfl rfl h30 (o_move _ rfl rfl) ?_
            refine AOps.go rfl rfl rfl h30 (o_fieldRef _ rfl fa24_0 rfl rfl) ?_
            refine AOps.go rfl rfl rfl h30 (o_loadRef _ rfl rfl Tryd.sizeOf22 Tryd.isAgg22 rfl rfl rfl) ?_
            refine AOps.go rfl rfl rfl h30 (o_len _ Tryd.underlying22 rfl rfl) ?_
            refine AOps.go rfl rfl rfl h30 (o_minI _ _ rfl rfl rfl) ?_
            refine AOps.go rfl rfl rfl h30 (o_bin _ _ rfl rfl (fun _ => rfl) rfl) ?_
            refine AOps.call (o_pickF _ _ _ rfl h30 rfl rfl) ?_
            refine AOps.nil ?_
            refine AWP.cond _ rfl (fun h40 => ?_) (fun h40 => ?_)
            · skip
              exfalso
              have hq : ¬ (((lays (joiM p n).1).length : Nat) : Int) = if ((lays p).length : Int) < n then ((lays p).length : Int) else n := by simpa using h40
              split at hq <;> omega
            · skip
              refine AWP.skip ?_
              refine AWP.seq ?_
              refine AWP.region ?_
              refine AOps.call (o_assign _ rfl rfl) ?_
              refine AOps.nil ?_
              refine AWP.seq ?_
              refine AWP.seq ?_
              refine AWP.region ?_
              refine AOps.call (o_assign _ rfl rfl) ?_
              refine AOps.nil ?_
              refine AWP.block ?_
              refine AWP.loop (ι := Nat) (fun i => AS.mk' 135 [(1, I n), (2, I m), (3, .ref (3, 0) 0), (7, .ref (7, 0) 0), (13, I (cwL (p.take i))), (14, I i)] [((3, 0), eK p), ((7, 0), eK (joiM p n).1)] [] [(3, 1), (7, 1)]) (fun i => i ≤ p.length) (fun i => p.length - i) (0) (Weak.mk' rfl ⟨⟨.refl rfl, rfl⟩, ⟨⟨.refl rfl, rfl⟩, ⟨⟨.refl rfl, rfl⟩, ⟨⟨.refl rfl, rfl⟩, ⟨⟨.refl rfl, rfl⟩, ⟨⟨.refl rfl, rfl⟩, trivial⟩⟩⟩⟩⟩⟩ ⟨⟨rfl, rfl, rfl⟩, ⟨⟨rfl, rfl, rfl⟩, trivial⟩⟩ trivial) (Nat.zero_le _) ?_
              rintro k hk
              try dsimp only at *
              refine AWP.seq ?_
              refine AWP.seq ?_
              refine AWP.region ?_
              refine AOps.call (o_move _ rfl rfl) ?_
              refine AOps.call (o_fieldRef _ rfl fa24_0 rfl rfl) ?_
              refine AOps.call (o_loadRef _ rfl rfl Tryd.sizeOf22 Tryd.isAgg22 rfl rfl rfl) ?_
              refine AOps.call (o_len _ Tryd.underlying22 rfl rfl) ?_
              refine AOps.call (o_bin _ _ rfl rfl (fun _ => rfl) rfl) ?_
              refine AOps.nil ?_
              refine AWP.cond _ rfl (fun h47 => ?_) (fun h47 => ?_)
              · skip
                have hlt : k < p.length := by have hq := of_decide_eq_true h47; omega
                have hel := lays_at hlt
                have hb := (layB_iff.1 (g1 _ (List.getElem_mem hlt))).1
                have hw := cwL_bd (all_take (n := k) g1)
                have hwl : (p.take k).length ≤ 64 := by rw [List.length_take]; omega
                refine AWP.skip ?_
                refine AWP.seq ?_
                refine AWP.block ?_
                refine AWP.drawn 15 mixed (by kernel_rfl) ?_
                refine AHead.call (o_move _ rfl rfl) rfl ?_
                refine AHead.call (o_fieldRef _ rfl fa24_0 rfl rfl) rfl ?_
                refine AHead.call (o_loadRef _ rfl rfl Tryd.sizeOf22 Tryd.isAgg22 rfl rfl rfl) rfl ?_
                refine AHead.call (o_move _ rfl rfl) rfl ?_
                refine AHead.call (o_index _ _ Tryd.underlying22 Tryd.sizeOf28 rfl rfl (by omega) (by assumption) rfl rfl) rfl ?_
                refine AHead.call (o_fieldRd _ rfl fa28_2 rfl) rfl ?_
                refine AHead.call (o_loadRd _ rfl Tryd.sizeOf3 Tryd.isAgg3 rfl rfl rfl) rfl ?_
                refine AHead.call (o_add _ _ rfl rfl ⟨by (try dsimp only); omega, by (try dsimp only); omega⟩ rfl) rfl ?_
                refine AHead.call (o_fieldRef _ rfl fa24_0 rfl rfl) rfl ?_
                refine AHead.call (o_loadRef _ rfl rfl Tryd.sizeOf22 Tryd.isAgg22 rfl rfl rfl) rfl ?_
                refine AHead.call (o_move _ rfl rfl) rfl ?_
                refine AHead.call (o_index _ _ Tryd.underlying22 Tryd.sizeOf28 rfl rfl (by omega) (by assumption) rfl rfl) rfl ?_
                refine AHead.call (o_fieldRd _ rfl fa28_1 rfl) rfl ?_
                refine AHead.call (o_loadRd _ rfl Tryd.sizeOf3 Tryd.isAgg3 rfl rfl rfl) rfl ?_
                refine AHead.call (o_sub _ _ rfl rfl ⟨by (try dsimp only); omega, by (try dsimp only); omega⟩ rfl) rfl ?_
                refine AHead.nil ?_
                refine AOps.call (o_assign _ rfl rfl) ?_
                refine AOps.nil ?_
                refine AWP.region ?_
                refine AOps.call (o_move _ rfl rfl) ?_
                refine AOps.call (o_add _ _ rfl rfl ⟨by (try dsimp only); omega, by (try dsimp only); omega⟩ rfl) ?_
                refine AOps.call (o_assign _ rfl rfl) ?_
                refine AOps.nil ?_
                refine ⟨k + 1, ?_, (Weak.mk' rfl ⟨⟨.refl rfl, rfl⟩, ⟨⟨.refl rfl, rfl⟩, ⟨⟨.refl rfl, rfl⟩, ⟨⟨.refl rfl, rfl⟩, ⟨⟨.refl (by rw [cwL_take hlt]; show I (cwL (p.take k) + p[k].cold - p[k].wet) = I _; congr 1; omega), rfl⟩, ⟨⟨.refl rfl, rfl⟩, trivial⟩⟩⟩⟩⟩⟩ ⟨⟨rfl, rfl, rfl⟩, ⟨⟨rfl, rfl, rfl⟩, trivial⟩⟩ trivial)⟩
                exact ⟨by omega, by omega⟩
              · skip
                have hkl : k = p.length := by have hq := of_decide_eq_false h47; omega
                subst hkl
                refine AWP.exit ?_
                refine AWP.seq ?_
                refine AWP.seq ?_
                refine AWP.region ?_
                refine AOps.call (o_assign _ rfl rfl) ?_
                refine AOps.nil ?_
                refine AWP.block ?_
                refine AWP.loop (ι := Nat) (fun i => AS.mk' 135 [(1, I n), (2, I m), (3, .ref (3, 0) 0), (7, .ref (7, 0) 0), (13, I (cwL p - cwL ((joiM p n).1.take i))), (15, I i)] [((3, 0), eK p), ((7, 0), eK (joiM p n).1)] [] [(3, 1), (7, 1)]) (fun i => i ≤ (joiM p n).1.length) (fun i => (joiM p n).1.length - i) (0) (Weak.mk' rfl ⟨⟨.refl rfl, rfl⟩, ⟨⟨.refl rfl, rfl⟩, ⟨⟨.refl rfl, rfl⟩, ⟨⟨.refl rfl, rfl⟩, ⟨⟨.refl (by rw [List.take_length, List.take_zero]; show I (cwL p) = I (cwL p - cwL []); congr 1; simp [cwL]), rfl⟩, ⟨⟨.refl rfl, rfl⟩, trivial⟩⟩⟩⟩⟩⟩ ⟨⟨rfl, rfl, rfl⟩, ⟨⟨rfl, rfl, rfl⟩, trivial⟩⟩ trivial) (Nat.zero_le _) ?_
                rintro k2 hk2
                try dsimp only at *
                refine AWP.seq ?_
                refine AWP.seq ?_
                refine AWP.region ?_
                refine AOps.call (o_move _ rfl rfl) ?_
                refine AOps.call (o_fieldRef _ rfl fa24_0 rfl rfl) ?_
                refine AOps.call (o_loadRef _ rfl rfl Tryd.sizeOf22 Tryd.isAgg22 rfl rfl rfl) ?_
                refine AOps.call (o_len _ Tryd.underlying22 rfl rfl) ?_
                refine AOps.call (o_bin _ _ rfl rfl (fun _ => rfl) rfl) ?_
                refine AOps.nil ?_
                refine AWP.cond _ rfl (fun h67 => ?_) (fun h67 => ?_)
                · skip
                  have hlt2 : k2 < (joiM p n).1.length := by have hq := of_decide_eq_true h67; omega
                  have hel2 := lays_at hlt2
                  have hb2 := (layB_iff.1 (g2 _ (List.getElem_mem hlt2))).1
                  have hw2 := cwL_bd (all_take (n := k2) g2)
                  have hwl2 : ((joiM p n).1.take k2).length ≤ 64 := by rw [List.length_take]; omega
                  refine AWP.skip ?_
                  refine AWP.seq ?_
                  refine AWP.block ?_
                  refine AWP.drawn 15 mixed (by kernel_rfl) ?_
                  refine AHead.call (o_move _ rfl rfl) rfl ?_
                  refine AHead.call (o_fieldRef _ rfl fa24_0 rfl rfl) rfl ?_
                  refine AHead.call (o_loadRef _ rfl rfl Tryd.sizeOf22 Tryd.isAgg22 rfl rfl rfl) rfl ?_
                  refine AHead.call (o_move _ rfl rfl) rfl ?_
                  refine AHead.call (o_index _ _ Tryd.underlying22 Tryd.sizeOf28 rfl rfl (by omega) (by assumption) rfl rfl) rfl ?_
                  refine AHead.call (o_fieldRd _ rfl fa28_2 rfl) rfl ?_
                  refine AHead.call (o_loadRd _ rfl Tryd.sizeOf3 Tryd.isAgg3 rfl rfl rfl) rfl ?_
                  refine AHead.call (o_sub _ _ rfl rfl ⟨by (try dsimp only); omega, by (try dsimp only); omega⟩ rfl) rfl ?_
                  refine AHead.call (o_fieldRef _ rfl fa24_0 rfl rfl) rfl ?_
                  refine AHead.call (o_loadRef _ rfl rfl Tryd.sizeOf22 Tryd.isAgg22 rfl rfl rfl) rfl ?_
                  refine AHead.call (o_move _ rfl rfl) rfl ?_
                  refine AHead.call (o_index _ _ Tryd.underlying22 Tryd.sizeOf28 rfl rfl (by omega) (by assumption) rfl rfl) rfl ?_
                  refine AHead.call (o_fieldRd _ rfl fa28_1 rfl) rfl ?_
                  refine AHead.call (o_loadRd _ rfl Tryd.sizeOf3 Tryd.isAgg3 rfl rfl rfl) rfl ?_
                  refine AHead.call (o_add _ _ rfl rfl ⟨by (try dsimp only); omega, by (try dsimp only); omega⟩ rfl) rfl ?_
                  refine AHead.nil ?_
                  refine AOps.call (o_assign _ rfl rfl) ?_
                  refine AOps.nil ?_
                  refine AWP.region ?_
                  refine AOps.call (o_move _ rfl rfl) ?_
                  refine AOps.call (o_add _ _ rfl rfl ⟨by (try dsimp only); omega, by (try dsimp only); omega⟩ rfl) ?_
                  refine AOps.call (o_assign _ rfl rfl) ?_
                  refine AOps.nil ?_
                  refine ⟨k2 + 1, ?_, (Weak.mk' rfl ⟨⟨.refl rfl, rfl⟩, ⟨⟨.refl rfl, rfl⟩, ⟨⟨.refl rfl, rfl⟩, ⟨⟨.refl rfl, rfl⟩, ⟨⟨.refl (by rw [cwL_take hlt2]; show I (cwL p - cwL ((joiM p n).1.take k2) - (joiM p n).1[k2].cold + (joiM p n).1[k2].wet) = I _; congr 1; omega), rfl⟩, ⟨⟨.refl rfl, rfl⟩, trivial⟩⟩⟩⟩⟩⟩ ⟨⟨rfl, rfl, rfl⟩, ⟨⟨rfl, rfl, rfl⟩, trivial⟩⟩ trivial)⟩
                  exact ⟨by omega, by omega⟩
                · skip
                  have hkl : k2 = (joiM p n).1.length := by have hq := of_decide_eq_false h67; omega
                  subst hkl
                  have hz : cwL p - cwL ((joiM p n).1.take (joiM p n).1.length) = 0 := by rw [List.take_length]; omega
                  refine AWP.exit ?_
                  refine AWP.seq ?_
                  refine AWP.seq ?_
                  refine AWP.region ?_
                  refine AOps.call (o_move _ rfl rfl) ?_
                  refine AOps.call (o_bin _ _ rfl rfl (fun _ => rfl) rfl) ?_
                  refine AOps.nil ?_
                  refine AWP.cond _ rfl (fun h84 => ?_) (fun h84 => ?_)
                  · skip
                    exfalso
                    rw [hz] at h84
                    exact absurd h84 (by decide)
                  · skip
                    refine AWP.skip ?_
                    refine AWP.seq ?_
                    refine AWP.seq ?_
                    refine AWP.region ?_
                    refine AOps.call (o_move _ rfl rfl) ?_
                    refine AOps.call (o_move _ rfl rfl) ?_
                    refine AOps.call (o_bin _ _ rfl rfl (fun _ => rfl) rfl) ?_
                    refine AOps.nil ?_
                    refine AWP.cond _ rfl (fun h88 => ?_) (fun h88 => ?_)
                    · skip
                      refine AWP.seq ?_
                      refine AWP.region ?_
                      refine AOps.call (o_assign _ rfl rfl) ?_
                      refine AOps.nil ?_
                      refine AWP.ret ?_
                      first
                      | exact postQ.ret1 Tryd.results15 rfl rfl
                      | (refine postQ.ret1 Tryd.results15 rfl ?_; simp [AV.close, AV.close.closeL, B, I]; done)
                      | (refine postQ.ret1 Tryd.results15 rfl ?_; simp [AV.close, AV.close.closeL, B, I]; omega)
                      | (refine postQ.ret1 Tryd.results15 rfl ?_; simp_all [AV.close, AV.close.closeL, B, I]; done)
                      | (refine postQ.ret1 Tryd.results15 rfl ?_; simp_all [AV.close, AV.close.closeL, B, I]; omega)
                    · skip
                      have hmn : m ≤ n := by have hq := of_decide_eq_false h88; omega
                      have hT := joiM_two hok hmn
                      have hS := same_yes (congrArg Prod.fst hT)
                      refine AWP.skip ?_
                      refine AWP.seq ?_
                      refine AWP.region ?_
                      refine AOps.call (o_loadRef _ rfl rfl Tryd.sizeOf24 Tryd.isAgg24 rfl rfl rfl) ?_
                      refine AOps.call (o_move _ rfl rfl) ?_
                      refine AOps.call (o_call (Joined_s (joiM p n).1 m) Tryd.call52 rfl rfl) ?_
                      refine AOps.call (o_move _ rfl rfl) ?_
                      refine AOps.call (o_extract _ rfl rfl rfl rfl) ?_
                      refine AOps.call (o_extract _ rfl rfl rfl rfl) ?_
                      refine AOps.call (o_alloc ze24 rfl rfl) ?_
                      refine AOps.cons (o_store _ _ rfl rfl Tryd.sizeOf24 rfl rfl rfl rfl rfl) ?_
                      refine AOps.call (o_assign _ rfl rfl) ?_
                      refine AOps.nil ?_
                      refine AWP.seq ?_
                      refine AWP.region ?_
                      refine AOps.call (o_loadRef _ rfl rfl Tryd.sizeOf24 Tryd.isAgg24 rfl rfl rfl) ?_
                      refine AOps.call (o_move _ rfl rfl) ?_
                      refine AOps.call (o_call (Joined_s p m) Tryd.call52 rfl rfl) ?_
                      refine AOps.call (o_move _ rfl rfl) ?_
                      refine AOps.call (o_extract _ rfl rfl rfl rfl) ?_
                      refine AOps.call (o_extract _ rfl rfl rfl rfl) ?_
                      refine AOps.call (o_alloc ze24 rfl rfl) ?_
                      refine AOps.cons (o_store _ _ rfl rfl Tryd.sizeOf24 rfl rfl rfl rfl rfl) ?_
                      refine AOps.call (o_assign _ rfl rfl) ?_
                      refine AOps.nil ?_
                      refine AWP.seq ?_
                      refine AWP.region ?_
                      refine AOps.call (o_move _ rfl rfl) ?_
                      refine AOps.call (o_move _ rfl rfl) ?_
                      refine AOps.call (o_bin _ _ rfl rfl (fun _ => rfl) rfl) ?_
                      refine AOps.call (o_move _ rfl rfl) ?_
                      refine AOps.split rfl rfl rfl (fun h102 => ?_) (fun h102 => ?_)
                      · skip
                        refine AOps.go rfl rfl rfl h102 (o_loadRef _ rfl rfl Tryd.sizeOf24 Tryd.isAgg24 rfl rfl rfl) ?_
                        refine AOps.go rfl rfl rfl h102 (o_loadRef _ rfl rfl Tryd.sizeOf24 Tryd.isAgg24 rfl rfl rfl) ?_
                        refine AOps.go rfl rfl rfl h102 (o_call (Same_s (joiM (joiM p n).1 m).1 (joiM p m).1 (by have := joi_len (joiM p n).1 m; omega)) Tryd.call33 rfl rfl) ?_
                        refine AOps.call (o_pickT _ _ _ rfl h102 rfl rfl) ?_
                        refine AOps.call (o_assign _ rfl rfl) ?_
                        refine AOps.nil ?_
                        refine AWP.ret ?_
                        first
                        | exact postQ.ret1 Tryd.results15 rfl rfl
                        | (refine postQ.ret1 Tryd.results15 rfl ?_; simp [AV.close, AV.close.closeL, B, I]; done)
                        | (refine postQ.ret1 Tryd.results15 rfl ?_; simp [AV.close, AV.close.closeL, B, I]; omega)
                        | (refine postQ.ret1 Tryd.results15 rfl ?_; simp_all [AV.close, AV.close.closeL, B, I]; done)
                        | (refine postQ.ret1 Tryd.results15 rfl ?_; simp_all [AV.close, AV.close.closeL, B, I]; omega)
                      · skip
                        exfalso
                        rw [hT] at h102
                        simp at h102
          · skip
            exfalso
            have hq : ¬ watL p = watL (joiM p n).1 := by simpa using h30
            omega
        · skip
          exfalso
          exact absurd h28 (by decide)
      · skip
        exfalso
        exact absurd h26 (by decide)

end Go.Proofs.YtgagfmjpmdgfdaaDoor
