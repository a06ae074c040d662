import Derived.Test.YtphoomnonenalaaDoorM5
import Derived.Test.YtphoomnonenalaaDoorAbB
import Derived.Test.YtphoomnonenalaaDoorC14
set_option linter.unusedSimpArgs false
set_option linter.unusedVariables false
namespace Go.Proofs.YtphoomnonenalaaDoor
open Go.Ab
theorem bdB {n : Int} (h : 0 ≤ n ∧ n ≤ 1048576) : dayB n = true := by simp [dayB]; exact h
theorem askE_ok2 {s : Scl} {a b : Int} (hz : scaleE s = 0) (ha : dayB a = true) (hb : dayB b = true) : askE s [a, b] = 0 := by
  unfold askE; rw [if_pos hz]; simp [ha, hb]
theorem askE_ok3 {s : Scl} {a b c : Int} (hz : scaleE s = 0) (ha : dayB a = true) (hb : dayB b = true) (hc : dayB c = true) : askE s [a, b, c] = 0 := by
  unfold askE; rw [if_pos hz]; simp [ha, hb, hc]
theorem givenE_ok {s : Scl} {k : Int} {days grams : List Int} (hz : scaleE s = 0) (hk : dayB k = true) (hd : daysB days = true) (hl : days.length = grams.length) : givenE s k days grams = 0 := by
  have h1 : askE s [k] = 0 := by unfold askE; rw [if_pos hz]; simp [hk]
  unfold givenE; rw [if_pos h1, if_pos ⟨hl, hd⟩]
theorem daysB1 {a : Int} (ha : 0 ≤ a ∧ a ≤ 1048576) : daysB [a] = true := by simp [daysB, incB]; omega
theorem daysB2 {a b : Int} (ha : 0 ≤ a ∧ a ≤ 1048576) (hb : 0 ≤ b ∧ b ≤ 1048576) (h : a < b) : daysB [a, b] = true := by simp [daysB, incB]; omega

set_option maxRecDepth 20000 in
theorem endsReach_s (s : Scl) (n fr to day : Int) (hz : scaleE s = 0) (hf : 0 ≤ fr ∧ fr ≤ 1048576) (ht : 0 ≤ to ∧ to ≤ 1048576) (hd : dayB day = true) (hne : fr ≠ to) : FSpec Tryd.prog 43 [I n, .rd (eS s), .rd [I to], .rd [I day], .rd (eP (drS s fr day)), .rd [I fr]] (.tup [B (decide ((tnS s fr to day).lo ≤ n ∧ n ≤ (tnS s fr to day).hi)), B true]) (none) := by
  refine FSpec.of_body Tryd.func43 rfl (leB rfl) fun w0 M0 => ?_
  have hs := scaleE_0 hz
  have hdX := drS_bd (k := day) hs hf
  have hdZ := drS_bd (k := day) hs ht
  have hD := Drift_s s to day
  rw [if_pos (askE_ok2 hz (bdB ht) hd)] at hD
  have hTB := tnS_bd (k := day) hs hf ht
  refine AWP.seq ?_
  refine AWP.region ?_
  refine AOps.call (o_assign _ rfl rfl) ?_
  refine AOps.call (o_assign _ rfl rfl) ?_
  refine AOps.nil ?_
  refine AWP.seq ?_
  refine AWP.seq ?_
  refine AWP.region ?_
  refine AOps.call (o_move _ rfl rfl) ?_
  refine AOps.call (o_bin _ _ rfl rfl (fun _ => rfl) rfl) ?_
  refine AOps.call (o_move _ rfl rfl) ?_
  refine AOps.split rfl rfl rfl (fun h3 => ?_) (fun h3 => ?_)
  · skip
    refine AOps.go rfl rfl rfl h3 (o_move _ rfl rfl) ?_
    refine AOps.go rfl rfl rfl h3 (o_bin _ _ rfl rfl (fun _ => rfl) rfl) ?_
    refine AOps.call (o_pickF _ _ _ rfl h3 rfl rfl) ?_
    refine AOps.nil ?_
    refine AWP.cond _ rfl (fun h6 => ?_) (fun h6 => ?_)
    · skip
      have hfal : decide ((tnS s fr to day).lo ≤ n ∧ n ≤ (tnS s fr to day).hi) = false := by
        rw [decide_eq_false_iff_not]
        intro hh
        first
        | (simp at h6; omega)
        | (simp at *; omega)
      refine AWP.seq ?_
      refine AWP.region ?_
      refine AOps.call (o_assign _ rfl rfl) ?_
      refine AOps.call (o_assign _ rfl rfl) ?_
      refine AOps.nil ?_
      refine AWP.ret ?_
      refine postQ.ret2 Tryd.results43 rfl rfl ?_
      first
      | (rw [hfal]; rfl)
      | (rw [hval]; rfl)
      | (exfalso; simp at *; done)
      | (exfalso; simp_all; done)
    · skip
      have hnb : -4194304 ≤ n ∧ n ≤ 4194304 := by first | (simp at h6; omega) | (simp_all; done) | (simp at *; omega)
      refine AWP.skip ?_
      refine AWP.seq ?_
      refine AWP.region ?_
      refine AOps.call (o_loadRd _ rfl Tryd.sizeOf24 Tryd.isAgg24 rfl rfl rfl) ?_
      refine AOps.call (o_loadRd _ rfl Tryd.sizeOf3 Tryd.isAgg3 rfl rfl rfl) ?_
      refine AOps.call (o_loadRd _ rfl Tryd.sizeOf3 Tryd.isAgg3 rfl rfl rfl) ?_
      refine AOps.call (o_call (hD) Tryd.call22 rfl rfl) ?_
      refine AOps.call (o_move _ rfl rfl) ?_
      refine AOps.call (o_extract _ rfl rfl rfl rfl) ?_
      refine AOps.call (o_extract _ rfl rfl rfl rfl) ?_
      refine AOps.call (o_alloc ze40 rfl rfl) ?_
      refine AOps.cons (o_store _ _ rfl rfl Tryd.sizeOf40 rfl rfl rfl rfl rfl) ?_
      refine AOps.call (o_assign _ rfl rfl) ?_
      refine AOps.nil ?_
      refine AWP.seq ?_
      refine AWP.drawn 16 mixed (by kernel_rfl) ?_
      refine AHead.call (o_fieldRd _ rfl fa40_0 rfl) rfl ?_
      refine AHead.call (o_loadRd _ rfl Tryd.sizeOf3 Tryd.isAgg3 rfl rfl rfl) rfl ?_
      refine AHead.call (o_fieldRef _ rfl fa40_0 rfl rfl) rfl ?_
      refine AHead.call (o_loadRef _ rfl rfl Tryd.sizeOf3 Tryd.isAgg3 rfl rfl rfl) rfl ?_
      refine AHead.call (o_move _ rfl rfl) rfl ?_
      refine AHead.call (o_sub _ _ rfl rfl ⟨by (try dsimp only); omega, by (try dsimp only); omega⟩ rfl) rfl ?_
      refine AHead.call (o_maxI _ _ rfl rfl rfl) rfl ?_
      refine AHead.call (o_fieldRd _ rfl fa40_1 rfl) rfl ?_
      refine AHead.call (o_loadRd _ rfl Tryd.sizeOf3 Tryd.isAgg3 rfl rfl rfl) rfl ?_
      refine AHead.call (o_fieldRef _ rfl fa40_1 rfl rfl) rfl ?_
      refine AHead.call (o_loadRef _ rfl rfl Tryd.sizeOf3 Tryd.isAgg3 rfl rfl rfl) rfl ?_
      refine AHead.call (o_move _ rfl rfl) rfl ?_
      refine AHead.call (o_sub _ _ rfl rfl ⟨by (try dsimp only); omega, by (try dsimp only); omega⟩ rfl) rfl ?_
      refine AHead.call (o_minI _ _ rfl rfl rfl) rfl ?_
      refine AHead.call (o_assign _ rfl rfl) rfl ?_
      refine AHead.call (o_assign _ rfl rfl) rfl ?_
      refine AHead.nil ?_
      refine AOps.nil ?_
      refine AWP.seq ?_
      refine AWP.seq ?_
      refine AWP.region ?_
      refine AOps.call (o_move _ rfl rfl) ?_
      refine AOps.call (o_bin _ _ rfl rfl (fun _ => rfl) rfl) ?_
      refine AOps.call (o_move _ rfl rfl) ?_
      refine AOps.split rfl rfl rfl (fun h29 => ?_) (fun h29 => ?_)
      · skip
        refine AOps.go rfl rfl rfl h29 (o_move _ rfl rfl) ?_
        refine AOps.go rfl rfl rfl h29 (o_move _ rfl rfl) ?_
        refine AOps.go rfl rfl rfl h29 (o_bin _ _ rfl rfl (fun _ => rfl) rfl) ?_
        refine AOps.call (o_pickF _ _ _ rfl h29 rfl rfl) ?_
        refine AOps.nil ?_
        refine AWP.cond _ rfl (fun h31 => ?_) (fun h31 => ?_)
        · skip
          have hfal : decide ((tnS s fr to day).lo ≤ n ∧ n ≤ (tnS s fr to day).hi) = false := by
            rw [decide_eq_false_iff_not, reach_iff hz hf ht]
            rintro ⟨hh, _⟩
            first
            | exact absurd hh (Int.not_le.2 (of_decide_eq_true (by assumption)))
            | (exfalso; simp at *; done)
          refine AWP.seq ?_
          refine AWP.region ?_
          refine AOps.call (o_move _ rfl rfl) ?_
          refine AOps.call (o_bin _ _ rfl rfl (fun _ => rfl) rfl) ?_
          refine AOps.call (o_assign _ rfl rfl) ?_
          refine AOps.call (o_assign _ rfl rfl) ?_
          refine AOps.nil ?_
          refine AWP.ret ?_
          refine postQ.ret2 Tryd.results43 rfl rfl ?_
          first
          | (rw [hfal]; rfl)
          | (rw [hval]; rfl)
          | (exfalso; simp at *; done)
          | (exfalso; simp_all; done)
        · skip
          have hlh : mx (drS s fr day).lo [(drS s to day).lo - n] ≤ mn (drS s fr day).hi [(drS s to day).hi - n] := Int.not_lt.1 (of_decide_eq_false (by assumption))
          refine AWP.skip ?_
          refine AWP.seq ?_
          refine AWP.region ?_
          refine AOps.call (o_loadRd _ rfl Tryd.sizeOf3 Tryd.isAgg3 rfl rfl rfl) ?_
          refine AOps.call (o_loadRd _ rfl Tryd.sizeOf3 Tryd.isAgg3 rfl rfl rfl) ?_
          refine AOps.call (o_lit Tryd.underlying45 Tryd.sizeOf3 Tryd.zeroValue3 rfl rfl rfl rfl rfl rfl rfl) ?_
          refine AOps.call (o_move _ rfl rfl) ?_
          refine AOps.call (o_move _ rfl rfl) ?_
          refine AOps.call (o_move _ rfl rfl) ?_
          refine AOps.call (o_add _ _ rfl rfl ⟨by (try dsimp only); split <;> omega, by (try dsimp only); split <;> omega⟩ rfl) ?_
          refine AOps.call (o_lit Tryd.underlying45 Tryd.sizeOf3 Tryd.zeroValue3 rfl rfl rfl rfl rfl rfl rfl) ?_
          refine AOps.call (o_assign _ rfl rfl) ?_
          refine AOps.call (o_assign _ rfl rfl) ?_
          refine AOps.nil ?_
          refine AWP.seq ?_
          refine AWP.seq ?_
          refine AWP.region ?_
          refine AOps.call (o_loadRd _ rfl Tryd.sizeOf3 Tryd.isAgg3 rfl rfl rfl) ?_
          refine AOps.call (o_loadRd _ rfl Tryd.sizeOf3 Tryd.isAgg3 rfl rfl rfl) ?_
          refine AOps.call (o_bin _ _ rfl rfl (fun _ => rfl) rfl) ?_
          refine AOps.nil ?_
          refine AWP.cond _ rfl (fun h42 => ?_) (fun h42 => ?_)
          · skip
            have hlt' : to < fr := by simp at h42; omega
            have hH := History_s s day [to, fr] [(if (drS s to day).lo - n > (drS s fr day).lo then (drS s to day).lo - n else (drS s fr day).lo) + n, (if (drS s to day).lo - n > (drS s fr day).lo then (drS s to day).lo - n else (drS s fr day).lo)]
            rw [if_pos (givenE_ok (grams := [(if (drS s to day).lo - n > (drS s fr day).lo then (drS s to day).lo - n else (drS s fr day).lo) + n, (if (drS s to day).lo - n > (drS s fr day).lo then (drS s to day).lo - n else (drS s fr day).lo)]) hz hd (daysB2 ht hf hlt') rfl), pin2 hz] at hH
            have hval : decide ((tnS s fr to day).lo ≤ n ∧ n ≤ (tnS s fr to day).hi) = decide (((drS s to day).lo ≤ (if (drS s to day).lo - n > (drS s fr day).lo then (drS s to day).lo - n else (drS s fr day).lo) + n ∧ (if (drS s to day).lo - n > (drS s fr day).lo then (drS s to day).lo - n else (drS s fr day).lo) + n ≤ (drS s to day).hi) ∧ ((drS s fr day).lo ≤ (if (drS s to day).lo - n > (drS s fr day).lo then (drS s to day).lo - n else (drS s fr day).lo) ∧ (if (drS s to day).lo - n > (drS s fr day).lo then (drS s to day).lo - n else (drS s fr day).lo) ≤ (drS s fr day).hi) ∧ (if (drS s to day).lo - n > (drS s fr day).lo then (drS s to day).lo - n else (drS s fr day).lo) - ((if (drS s to day).lo - n > (drS s fr day).lo then (drS s to day).lo - n else (drS s fr day).lo) + n) ≤ s.rate * far fr to ∧ (if (drS s to day).lo - n > (drS s fr day).lo then (drS s to day).lo - n else (drS s fr day).lo) + n - ((if (drS s to day).lo - n > (drS s fr day).lo then (drS s to day).lo - n else (drS s fr day).lo)) ≤ s.rate * far fr to) := by
              rw [decide_eq_decide, reach_iff hz hf ht]
              have h3 := dr_le (k := day) hz hf
              have h4 := dr_le (k := day) hz ht
              
              rw [mx1_le, le_mn1, le_mn1]
              rw [mx1_le, le_mn1, le_mn1] at hlh
              generalize s.rate * far fr to = ff
              constructor
              · rintro ⟨_, g1, g2⟩
                refine ⟨⟨?_, ?_⟩, ⟨?_, ?_⟩, ?_, ?_⟩ <;> split <;> omega
              · rintro ⟨⟨_, _⟩, ⟨_, _⟩, g1, g2⟩
                exact ⟨by omega, by omega, by omega⟩
            refine AWP.region ?_
            refine AOps.call (o_loadRd _ rfl Tryd.sizeOf3 Tryd.isAgg3 rfl rfl rfl) ?_
            refine AOps.call (o_loadRd _ rfl Tryd.sizeOf3 Tryd.isAgg3 rfl rfl rfl) ?_
            refine AOps.call (o_lit Tryd.underlying45 Tryd.sizeOf3 Tryd.zeroValue3 rfl rfl rfl rfl rfl rfl rfl) ?_
            refine AOps.call (o_move _ rfl rfl) ?_
            refine AOps.call (o_move _ rfl rfl) ?_
            refine AOps.call (o_add _ _ rfl rfl ⟨by (try dsimp only); split <;> omega, by (try dsimp only); split <;> omega⟩ rfl) ?_
            refine AOps.call (o_move _ rfl rfl) ?_
            refine AOps.call (o_lit Tryd.underlying45 Tryd.sizeOf3 Tryd.zeroValue3 rfl rfl rfl rfl rfl rfl rfl) ?_
            refine AOps.call (o_assign _ rfl rfl) ?_
            refine AOps.call (o_assign _ rfl rfl) ?_
            refine AOps.nil ?_
            refine AWP.seq ?_
            refine AWP.region ?_
            refine AOps.call (o_loadRd _ rfl Tryd.sizeOf24 Tryd.isAgg24 rfl rfl rfl) ?_
            refine AOps.call (o_loadRd _ rfl Tryd.sizeOf3 Tryd.isAgg3 rfl rfl rfl) ?_
            refine AOps.call (o_move _ rfl rfl) ?_
            refine AOps.call (o_move _ rfl rfl) ?_
            refine AOps.call (o_call (hH) Tryd.call26 rfl rfl) ?_
            refine AOps.call (o_move _ rfl rfl) ?_
            refine AOps.call (o_extract _ rfl rfl rfl rfl) ?_
            refine AOps.call (o_extract _ rfl rfl rfl rfl) ?_
            refine AOps.call (o_assign _ rfl rfl) ?_
            refine AOps.call (o_assign _ rfl rfl) ?_
            refine AOps.nil ?_
            refine AWP.seq ?_
            refine AWP.region ?_
            refine AOps.call (o_move _ rfl rfl) ?_
            refine AOps.call (o_move _ rfl rfl) ?_
            refine AOps.call (o_bin _ _ rfl rfl (fun _ => rfl) rfl) ?_
            refine AOps.call (o_assign _ rfl rfl) ?_
            refine AOps.call (o_assign _ rfl rfl) ?_
            refine AOps.nil ?_
            refine AWP.ret ?_
            refine postQ.ret2 Tryd.results43 rfl rfl ?_
            first
            | (rw [hfal]; rfl)
            | (rw [hval]; rfl)
            | (exfalso; simp at *; done)
            | (exfalso; simp_all; done)
          · skip
            have hlt' : fr < to := by simp at h42; omega
            have hH := History_s s day [fr, to] [(if (drS s to day).lo - n > (drS s fr day).lo then (drS s to day).lo - n else (drS s fr day).lo), (if (drS s to day).lo - n > (drS s fr day).lo then (drS s to day).lo - n else (drS s fr day).lo) + n]
            rw [if_pos (givenE_ok (grams := [(if (drS s to day).lo - n > (drS s fr day).lo then (drS s to day).lo - n else (drS s fr day).lo), (if (drS s to day).lo - n > (drS s fr day).lo then (drS s to day).lo - n else (drS s fr day).lo) + n]) hz hd (daysB2 hf ht hlt') rfl), pin2 hz] at hH
            have hval : decide ((tnS s fr to day).lo ≤ n ∧ n ≤ (tnS s fr to day).hi) = decide (((drS s fr day).lo ≤ (if (drS s to day).lo - n > (drS s fr day).lo then (drS s to day).lo - n else (drS s fr day).lo) ∧ (if (drS s to day).lo - n > (drS s fr day).lo then (drS s to day).lo - n else (drS s fr day).lo) ≤ (drS s fr day).hi) ∧ ((drS s to day).lo ≤ (if (drS s to day).lo - n > (drS s fr day).lo then (drS s to day).lo - n else (drS s fr day).lo) + n ∧ (if (drS s to day).lo - n > (drS s fr day).lo then (drS s to day).lo - n else (drS s fr day).lo) + n ≤ (drS s to day).hi) ∧ (if (drS s to day).lo - n > (drS s fr day).lo then (drS s to day).lo - n else (drS s fr day).lo) + n - ((if (drS s to day).lo - n > (drS s fr day).lo then (drS s to day).lo - n else (drS s fr day).lo)) ≤ s.rate * far to fr ∧ (if (drS s to day).lo - n > (drS s fr day).lo then (drS s to day).lo - n else (drS s fr day).lo) - ((if (drS s to day).lo - n > (drS s fr day).lo then (drS s to day).lo - n else (drS s fr day).lo) + n) ≤ s.rate * far to fr) := by
              rw [decide_eq_decide, reach_iff hz hf ht]
              have h3 := dr_le (k := day) hz hf
              have h4 := dr_le (k := day) hz ht
              rw [far_comm to fr]
              rw [mx1_le, le_mn1, le_mn1]
              rw [mx1_le, le_mn1, le_mn1] at hlh
              generalize s.rate * far fr to = ff
              constructor
              · rintro ⟨_, g1, g2⟩
                refine ⟨⟨?_, ?_⟩, ⟨?_, ?_⟩, ?_, ?_⟩ <;> split <;> omega
              · rintro ⟨⟨_, _⟩, ⟨_, _⟩, g1, g2⟩
                exact ⟨by omega, by omega, by omega⟩
            refine AWP.skip ?_
            refine AWP.seq ?_
            refine AWP.region ?_
            refine AOps.call (o_loadRd _ rfl Tryd.sizeOf24 Tryd.isAgg24 rfl rfl rfl) ?_
            refine AOps.call (o_loadRd _ rfl Tryd.sizeOf3 Tryd.isAgg3 rfl rfl rfl) ?_
            refine AOps.call (o_move _ rfl rfl) ?_
            refine AOps.call (o_move _ rfl rfl) ?_
            refine AOps.call (o_call (hH) Tryd.call26 rfl rfl) ?_
            refine AOps.call (o_move _ rfl rfl) ?_
            refine AOps.call (o_extract _ rfl rfl rfl rfl) ?_
            refine AOps.call (o_extract _ rfl rfl rfl rfl) ?_
            refine AOps.call (o_assign _ rfl rfl) ?_
            refine AOps.call (o_assign _ rfl rfl) ?_
            refine AOps.nil ?_
            refine AWP.seq ?_
            refine AWP.region ?_
            refine AOps.call (o_move _ rfl rfl) ?_
            refine AOps.call (o_move _ rfl rfl) ?_
            refine AOps.call (o_bin _ _ rfl rfl (fun _ => rfl) rfl) ?_
            refine AOps.call (o_assign _ rfl rfl) ?_
            refine AOps.call (o_assign _ rfl rfl) ?_
            refine AOps.nil ?_
            refine AWP.ret ?_
            refine postQ.ret2 Tryd.results43 rfl rfl ?_
            first
            | (rw [hfal]; rfl)
            | (rw [hval]; rfl)
            | (exfalso; simp at *; done)
            | (exfalso; simp_all; done)
      · skip
        refine AOps.pass rfl rfl rfl h29 rfl ?_
        refine AOps.pass rfl rfl rfl h29 rfl ?_
        refine AOps.pass rfl rfl rfl h29 rfl ?_
        refine AOps.call (o_pickT _ _ _ rfl h29 rfl rfl) ?_
        refine AOps.nil ?_
        refine AWP.condT rfl ?_
        have hfal : decide ((tnS s fr to day).lo ≤ n ∧ n ≤ (tnS s fr to day).hi) = false := by
          rw [decide_eq_false_iff_not, reach_iff hz hf ht]
          rintro ⟨hh, _⟩
          first
          | exact absurd hh (Int.not_le.2 (of_decide_eq_true (by assumption)))
          | (exfalso; simp at *; done)
        refine AWP.seq ?_
        refine AWP.region ?_
        refine AOps.call (o_move _ rfl rfl) ?_
        refine AOps.call (o_bin _ _ rfl rfl (fun _ => rfl) rfl) ?_
        refine AOps.call (o_assign _ rfl rfl) ?_
        refine AOps.call (o_assign _ rfl rfl) ?_
        refine AOps.nil ?_
        refine AWP.ret ?_
        refine postQ.ret2 Tryd.results43 rfl rfl ?_
        first
        | (rw [hfal]; rfl)
        | (rw [hval]; rfl)
        | (exfalso; simp at *; done)
        | (exfalso; simp_all; done)
  · skip
    refine AOps.pass rfl rfl rfl h3 rfl ?_
    refine AOps.pass rfl rfl rfl h3 rfl ?_
    refine AOps.call (o_pickT _ _ _ rfl h3 rfl rfl) ?_
    refine AOps.nil ?_
    refine AWP.condT rfl ?_
    have hfal : decide ((tnS s fr to day).lo ≤ n ∧ n ≤ (tnS s fr to day).hi) = false := by
      rw [decide_eq_false_iff_not]
      intro hh
      first
      | (simp at HYP; omega)
      | (simp at *; omega)
    refine AWP.seq ?_
    refine AWP.region ?_
    refine AOps.call (o_assign _ rfl rfl) ?_
    refine AOps.call (o_assign _ rfl rfl) ?_
    refine AOps.nil ?_
    refine AWP.ret ?_
    refine postQ.ret2 Tryd.results43 rfl rfl ?_
    first
    | (rw [hfal]; rfl)
    | (rw [hval]; rfl)
    | (exfalso; simp at *; done)
    | (exfalso; simp_all; done)

end Go.Proofs.YtphoomnonenalaaDoor
