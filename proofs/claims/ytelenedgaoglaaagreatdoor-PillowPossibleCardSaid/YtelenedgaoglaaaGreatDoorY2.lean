/- Y2. -/
import Derived.Test.YtelenedgaoglaaaGreatDoorY1
import Derived.Test.YtelenedgaoglaaaGreatDoorZ4
import Derived.Test.YtelenedgaoglaaaGreatDoorL6
set_option linter.unusedSimpArgs false
set_option linter.unusedVariables false
namespace Go.Proofs.YtelenedgaoglaaaGreatDoor
open Go.Ab
open Go.Pil Go.RowKit
theorem okW_iff {p : Plw} {w : List Sp} : okW p w = true ↔ w.length = p.log.length - 1 ∧ w.all spB = true := by
  simp only [okW, Bool.and_eq_true, decide_eq_true_eq]
theorem okW_no {p : Plw} {w : List Sp} (h : ¬ (w.length = p.log.length - 1 ∧ w.all spB = true)) : okW p w = false := by
  cases hc : okW p w with
  | false => rfl
  | true => exact absurd (okW_iff.1 hc) h
theorem spB_at {w : List Sp} {k : Nat} (hk : k < w.length) (h : w.all spB = true) : spB w[k] = true := List.all_eq_true.1 h _ (List.getElem_mem hk)
theorem all_take {w : List Sp} {k : Nat} (hk : k < w.length) (h : (w.take k).all spB = true) (h2 : spB w[k] = true) : (w.take (k + 1)).all spB = true := by
  rw [List.take_succ_eq_append_getElem hk, List.all_append, h, List.all_cons, h2]; rfl
set_option maxHeartbeats 4000000 in
set_option maxRecDepth 20000 in
theorem Weather_s (p : Plw) (w : List Sp) (h32 : p.log.length ≤ 32) (hw1 : w.length ≤ 9223372036854775807) : FSpec Tryz.prog 93 [.agg (eP p), .sl (sps w)] (B (okW p w)) (none) := by
  refine FSpec.of_body Tryz.func93 rfl (leB rfl) fun w0 M0 => ?_
  have hpl := shws_len p.log
  have hsl := sps_len w
  refine AWP.seq ?_
  refine AWP.region ?_
  refine AOps.call (o_box _ rfl rfl rfl) ?_
  refine AOps.call (o_assign _ rfl rfl) ?_
  refine AOps.nil ?_
  refine AWP.seq ?_
  refine AWP.seq ?_
  refine AWP.region ?_
  refine AOps.call (o_move _ rfl rfl) ?_
  refine AOps.call (o_len _ Tryz.underlying38 rfl rfl) ?_
  refine AOps.call (o_fieldRef _ rfl fa24_6 rfl rfl) ?_
  refine AOps.call (o_loadRef _ rfl rfl Tryz.sizeOf22 Tryz.isAgg22 rfl rfl rfl) ?_
  refine AOps.call (o_len _ Tryz.underlying22 rfl rfl) ?_
  refine AOps.call (o_sub _ _ rfl rfl ⟨by (try dsimp only); omega, by (try dsimp only); omega⟩ rfl) ?_
  refine AOps.call (o_maxZ _ _ rfl rfl rfl) ?_
  refine AOps.call (o_bin _ _ rfl rfl (fun _ => rfl) rfl) ?_
  refine AOps.nil ?_
  refine AWP.cond _ rfl (fun h10 => ?_) (fun h10 => ?_)
  · skip
    have hno : okW p w = false := okW_no fun h => by
      have h1 := h.1
      have h2 := h10
      simp at h2
      omega
    refine AWP.seq ?_
    refine AWP.region ?_
    refine AOps.call (o_assign _ rfl rfl) ?_
    refine AOps.nil ?_
    refine AWP.ret ?_
    refine postQ.ret1 Tryz.results93 rfl ?_
    first
    | (rw [hno]; rfl)
    | (rw [hyes]; rfl)
  · skip
    have hwl : w.length = p.log.length - 1 := by
      have h2 := h10
      simp at h2
      omega
    refine AWP.skip ?_
    refine AWP.seq ?_
    refine AWP.seq ?_
    refine AWP.region ?_
    refine AOps.call (o_assign _ rfl rfl) ?_
    refine AOps.nil ?_
    refine AWP.block ?_
    refine AWP.loop (ι := Nat) (fun i => AS.mk' 47 [(1, .sl (sps w)), (2, .ref (2, 0) 0), (5, I i)] [((2, 0), eP p)] [] [(2, 1)]) (fun i => i ≤ w.length ∧ (w.take i).all spB = true) (fun i => w.length - i) (0) (Weak.mk' rfl ⟨⟨.refl rfl, rfl⟩, ⟨⟨.refl rfl, rfl⟩, ⟨⟨.refl rfl, rfl⟩, trivial⟩⟩⟩ ⟨⟨rfl, rfl, rfl⟩, trivial⟩ trivial) (⟨Nat.zero_le _, rfl⟩) ?_
    rintro k ⟨hk, hv⟩
    try dsimp only at *
    refine AWP.seq ?_
    refine AWP.seq ?_
    refine AWP.region ?_
    refine AOps.call (o_move _ rfl rfl) ?_
    refine AOps.call (o_move _ rfl rfl) ?_
    refine AOps.call (o_len _ Tryz.underlying38 rfl rfl) ?_
    refine AOps.call (o_bin _ _ rfl rfl (fun _ => rfl) rfl) ?_
    refine AOps.nil ?_
    refine AWP.cond _ rfl (fun h15 => ?_) (fun h15 => ?_)
    · skip
      have hlt : k < w.length := by have := of_decide_eq_true h15; omega
      have hel := sps_at hlt
      refine AWP.skip ?_
      refine AWP.seq ?_
      refine AWP.block ?_
      refine AWP.seq ?_
      refine AWP.drawn 27 mixed (by kernel_rfl) ?_
      refine AHead.call (o_move _ rfl rfl) rfl ?_
      refine AHead.call (o_move _ rfl rfl) rfl ?_
      refine AHead.call (o_index _ _ Tryz.underlying38 Tryz.sizeOf54 rfl rfl (by omega) hel rfl rfl) rfl ?_
      refine AHead.call (o_fieldRd _ rfl fa54_0 rfl) rfl ?_
      refine AHead.call (o_loadRd _ rfl Tryz.sizeOf3 Tryz.isAgg3 rfl rfl rfl) rfl ?_
      refine AHead.call (o_move _ rfl rfl) rfl ?_
      refine AHead.call (o_move _ rfl rfl) rfl ?_
      refine AHead.call (o_index _ _ Tryz.underlying38 Tryz.sizeOf54 rfl rfl (by omega) hel rfl rfl) rfl ?_
      refine AHead.call (o_fieldRd _ rfl fa54_1 rfl) rfl ?_
      refine AHead.call (o_loadRd _ rfl Tryz.sizeOf3 Tryz.isAgg3 rfl rfl rfl) rfl ?_
      refine AHead.call (o_bin _ _ rfl rfl (fun _ => rfl) rfl) rfl ?_
      refine AHead.call (o_move _ rfl rfl) rfl ?_
      refine AHead.split rfl rfl rfl (fun h25 => ?_) (fun h25 => ?_)
      · skip
        refine AHead.go rfl rfl rfl h25 (o_move _ rfl rfl) rfl ?_
        refine AHead.go rfl rfl rfl h25 (o_move _ rfl rfl) rfl ?_
        refine AHead.go rfl rfl rfl h25 (o_index _ _ Tryz.underlying38 Tryz.sizeOf54 rfl rfl (by omega) hel rfl rfl) rfl ?_
        refine AHead.go rfl rfl rfl h25 (o_fieldRd _ rfl fa54_0 rfl) rfl ?_
        refine AHead.go rfl rfl rfl h25 (o_loadRd _ rfl Tryz.sizeOf3 Tryz.isAgg3 rfl rfl rfl) rfl ?_
        refine AHead.go rfl rfl rfl h25 (o_bin _ _ rfl rfl (fun _ => rfl) rfl) rfl ?_
        refine AHead.call (o_pickF _ _ _ rfl h25 rfl rfl) rfl ?_
        refine AHead.call (o_move _ rfl rfl) rfl ?_
        refine AHead.split rfl rfl rfl (fun h31 => ?_) (fun h31 => ?_)
        · skip
          refine AHead.go rfl rfl rfl h31 (o_move _ rfl rfl) rfl ?_
          refine AHead.go rfl rfl rfl h31 (o_move _ rfl rfl) rfl ?_
          refine AHead.go rfl rfl rfl h31 (o_index _ _ Tryz.underlying38 Tryz.sizeOf54 rfl rfl (by omega) hel rfl rfl) rfl ?_
          refine AHead.go rfl rfl rfl h31 (o_fieldRd _ rfl fa54_1 rfl) rfl ?_
          refine AHead.go rfl rfl rfl h31 (o_loadRd _ rfl Tryz.sizeOf3 Tryz.isAgg3 rfl rfl rfl) rfl ?_
          refine AHead.go rfl rfl rfl h31 (o_bin _ _ rfl rfl (fun _ => rfl) rfl) rfl ?_
          refine AHead.call (o_pickF _ _ _ rfl h31 rfl rfl) rfl ?_
          refine AHead.nil ?_
          refine AOps.nil ?_
          refine AWP.cond _ rfl (fun h37 => ?_) (fun h37 => ?_)
          · skip
            have hsp : spB w[k] = false := by
              cases hc : spB w[k] with
              | false => rfl
              | true =>
                simp only [spB, Bool.and_eq_true, decide_eq_true_eq] at hc
                simp_all [AV.close, B, I, eN]
                try omega
            have hno : okW p w = false := okW_no fun h => by
              have h2 := spB_at hlt h.2
              rw [hsp] at h2; cases h2
            refine AWP.seq ?_
            refine AWP.region ?_
            refine AOps.call (o_assign _ rfl rfl) ?_
            refine AOps.nil ?_
            refine AWP.ret ?_
            refine postQ.ret1 Tryz.results93 rfl ?_
            first
            | (rw [hno]; rfl)
            | (rw [hyes]; rfl)
          · skip
            have hsp : spB w[k] = true := by
              simp only [spB, Bool.and_eq_true, decide_eq_true_eq]
              simp_all [AV.close, B, I, eN]
              try omega
            refine AWP.skip ?_
            refine AWP.region ?_
            refine AOps.call (o_move _ rfl rfl) ?_
            refine AOps.call (o_add _ _ rfl rfl ⟨by (try dsimp only); omega, by (try dsimp only); omega⟩ rfl) ?_
            refine AOps.call (o_assign _ rfl rfl) ?_
            refine AOps.nil ?_
            refine ⟨k + 1, ?_, (Weak.mk' rfl ⟨⟨.refl rfl, rfl⟩, ⟨⟨.refl rfl, rfl⟩, ⟨⟨.refl rfl, rfl⟩, trivial⟩⟩⟩ ⟨⟨rfl, rfl, rfl⟩, trivial⟩ trivial)⟩
            exact ⟨⟨by omega, all_take hlt hv hsp⟩, by omega⟩
        · skip
          refine AHead.pass rfl rfl rfl h31 rfl ?_
          refine AHead.pass rfl rfl rfl h31 rfl ?_
          refine AHead.pass rfl rfl rfl h31 rfl ?_
          refine AHead.pass rfl rfl rfl h31 rfl ?_
          refine AHead.pass rfl rfl rfl h31 rfl ?_
          refine AHead.pass rfl rfl rfl h31 rfl ?_
          refine AHead.call (o_pickT _ _ _ rfl h31 rfl rfl) rfl ?_
          refine AHead.nil ?_
          refine AOps.nil ?_
          refine AWP.condT rfl ?_
          have hsp : spB w[k] = false := by
            cases hc : spB w[k] with
            | false => rfl
            | true =>
              simp only [spB, Bool.and_eq_true, decide_eq_true_eq] at hc
              simp_all [AV.close, B, I, eN]
              try omega
          have hno : okW p w = false := okW_no fun h => by
            have h2 := spB_at hlt h.2
            rw [hsp] at h2; cases h2
          refine AWP.seq ?_
          refine AWP.region ?_
          refine AOps.call (o_assign _ rfl rfl) ?_
          refine AOps.nil ?_
          refine AWP.ret ?_
          refine postQ.ret1 Tryz.results93 rfl ?_
          first
          | (rw [hno]; rfl)
          | (rw [hyes]; rfl)
      · skip
        refine AHead.pass rfl rfl rfl h25 rfl ?_
        refine AHead.pass rfl rfl rfl h25 rfl ?_
        refine AHead.pass rfl rfl rfl h25 rfl ?_
        refine AHead.pass rfl rfl rfl h25 rfl ?_
        refine AHead.pass rfl rfl rfl h25 rfl ?_
        refine AHead.pass rfl rfl rfl h25 rfl ?_
        refine AHead.call (o_pickT _ _ _ rfl h25 rfl rfl) rfl ?_
        refine AHead.call (o_move _ rfl rfl) rfl ?_
        refine AHead.pass rfl rfl rfl rfl rfl ?_
        refine AHead.pass rfl rfl rfl rfl rfl ?_
        refine AHead.pass rfl rfl rfl rfl rfl ?_
        refine AHead.pass rfl rfl rfl rfl rfl ?_
        refine AHead.pass rfl rfl rfl rfl rfl ?_
        refine AHead.pass rfl rfl rfl rfl rfl ?_
        refine AHead.call (o_pickT _ _ _ rfl rfl rfl rfl) rfl ?_
        refine AHead.nil ?_
        refine AOps.nil ?_
        refine AWP.condT rfl ?_
        have hsp : spB w[k] = false := by
          cases hc : spB w[k] with
          | false => rfl
          | true =>
            simp only [spB, Bool.and_eq_true, decide_eq_true_eq] at hc
            simp_all [AV.close, B, I, eN]
            try omega
        have hno : okW p w = false := okW_no fun h => by
          have h2 := spB_at hlt h.2
          rw [hsp] at h2; cases h2
        refine AWP.seq ?_
        refine AWP.region ?_
        refine AOps.call (o_assign _ rfl rfl) ?_
        refine AOps.nil ?_
        refine AWP.ret ?_
        refine postQ.ret1 Tryz.results93 rfl ?_
        first
        | (rw [hno]; rfl)
        | (rw [hyes]; rfl)
    · skip
      have hkl : k = w.length := by have := of_decide_eq_false h15; omega
      have hyes : okW p w = true := okW_iff.2 ⟨hwl, by rw [hkl, List.take_length] at hv; exact hv⟩
      refine AWP.exit ?_
      refine AWP.seq ?_
      refine AWP.region ?_
      refine AOps.call (o_assign _ rfl rfl) ?_
      refine AOps.nil ?_
      refine AWP.ret ?_
      refine postQ.ret1 Tryz.results93 rfl ?_
      first
      | (rw [hno]; rfl)
      | (rw [hyes]; rfl)
def rgt (p : Plw) (l : List Int) : Bool := decide (l.length = p.log.length ∧ Rt (p.pb []) l)
theorem rgt_iff {p : Plw} {l : List Int} : rgt p l = true ↔ l.length = p.log.length ∧ (∀ i, i < l.length → stB (p.pb []) l i = true) ∧ flt l ≤ p.faults := by
  unfold rgt; rw [decide_eq_true_eq, rt_stB]; exact Iff.rfl
theorem rgt_no {p : Plw} {l : List Int} (h : ¬ (l.length = p.log.length ∧ (∀ i, i < l.length → stB (p.pb []) l i = true) ∧ flt l ≤ p.faults)) : rgt p l = false := by
  cases hc : rgt p l with
  | false => rfl
  | true => exact absurd (rgt_iff.1 hc) h
theorem rgt_st {p : Plw} {l : List Int} {k : Nat} (hk : k < l.length) (h : stB (p.pb []) l k = false) : rgt p l = false := rgt_no fun hc => by
  have := hc.2.1 k hk
  rw [h] at this; cases this
theorem stB_yes {p : Plw} {l : List Int} {k : Nat} (h1 : (0 ≤ l.getD k 0 ∧ l.getD k 0 ≤ 2) ∧ (k = 0 → ¬ l.getD 0 0 = 2)) (h2 : k = 0 ∨ l.getD k 0 = l.getD (k - 1) 0 ∨ p.shift (k - 1) = true) : stB (p.pb []) l k = true := by
  simp only [stB, Bool.and_eq_true, Bool.or_eq_true, Bool.not_eq_true', Bool.and_eq_false_iff, decide_eq_true_eq, decide_eq_false_iff_not]
  refine ⟨⟨h1.1, ?_⟩, ?_⟩
  · by_cases h0 : k = 0
    · exact .inr (h1.2 h0)
    · exact .inl h0
  · rcases h2 with h | h | h
    · exact .inl (.inl h)
    · exact .inl (.inr h)
    · exact .inr h
theorem stB_no1 {p : Plw} {l : List Int} {k : Nat} (h1 : ¬ ((0 ≤ l.getD k 0 ∧ l.getD k 0 ≤ 2) ∧ (k = 0 → ¬ l.getD 0 0 = 2))) : stB (p.pb []) l k = false := by
  cases hc : stB (p.pb []) l k with
  | false => rfl
  | true =>
    simp only [stB, Bool.and_eq_true, Bool.or_eq_true, Bool.not_eq_true', Bool.and_eq_false_iff, decide_eq_true_eq, decide_eq_false_iff_not] at hc
    refine absurd ⟨hc.1.1, fun h0 => ?_⟩ h1
    rcases hc.1.2 with h | h
    · exact absurd h0 h
    · exact h
theorem stB_no2 {p : Plw} {l : List Int} {k : Nat} (h2 : ¬ (k = 0 ∨ l.getD k 0 = l.getD (k - 1) 0 ∨ p.shift (k - 1) = true)) : stB (p.pb []) l k = false := by
  cases hc : stB (p.pb []) l k with
  | false => rfl
  | true =>
    simp only [stB, Bool.and_eq_true, Bool.or_eq_true, Bool.not_eq_true', Bool.and_eq_false_iff, decide_eq_true_eq, decide_eq_false_iff_not] at hc
    rcases hc.2 with (h | h) | h
    · exact absurd (.inl h) h2
    · exact absurd (.inr (.inl h)) h2
    · exact absurd (.inr (.inr h)) h2
set_option maxHeartbeats 4000000 in
set_option maxRecDepth 20000 in
theorem right_s (p : Plw) (l : List Int) (hp : OkP p) (hl1 : l.length ≤ 9223372036854775807) : FSpec Tryz.prog 64 [.agg (eP p), .sl (ints l)] (B (rgt p l)) (none) := by
  refine FSpec.of_body Tryz.func64 rfl (leB rfl) fun w0 M0 => ?_
  have hpl := shws_len p.log
  have hil := ints_len l
  have h32 := hp.len
  have hnf := flt_nonneg l
  refine AWP.seq ?_
  refine AWP.region ?_
  refine AOps.call (o_box _ rfl rfl rfl) ?_
  refine AOps.call (o_assign _ rfl rfl) ?_
  refine AOps.nil ?_
  refine AWP.seq ?_
  refine AWP.seq ?_
  refine AWP.region ?_
  refine AOps.call (o_move _ rfl rfl) ?_
  refine AOps.call (o_len _ Tryz.underlying25 rfl rfl) ?_
  refine AOps.call (o_fieldRef _ rfl fa24_6 rfl rfl) ?_
  refine AOps.call (o_loadRef _ rfl rfl Tryz.sizeOf22 Tryz.isAgg22 rfl rfl rfl) ?_
  refine AOps.call (o_len _ Tryz.underlying22 rfl rfl) ?_
  refine AOps.call (o_bin _ _ rfl rfl (fun _ => rfl) rfl) ?_
  refine AOps.nil ?_
  refine AWP.cond _ rfl (fun h8 => ?_) (fun h8 => ?_)
  · skip
    have hno : rgt p l = false := rgt_no fun h => by
      have h1 := h.1
      have h2 := h8
      simp at h2
      omega
    refine AWP.seq ?_
    refine AWP.region ?_
    refine AOps.call (o_assign _ rfl rfl) ?_
    refine AOps.nil ?_
    refine AWP.ret ?_
    refine postQ.ret1 Tryz.results64 rfl ?_
    first
    | (rw [hno]; rfl)
    | (rw [hres]; rfl)
  · skip
    have hll : l.length = p.log.length := by
      have h2 := h8
      simp at h2
      omega
    refine AWP.skip ?_
    refine AWP.seq ?_
    refine AWP.region ?_
    refine AOps.call (o_assign _ rfl rfl) ?_
    refine AOps.nil ?_
    refine AWP.seq ?_
    refine AWP.seq ?_
    refine AWP.region ?_
    refine AOps.call (o_assign _ rfl rfl) ?_
    refine AOps.nil ?_
    refine AWP.block ?_
    refine AWP.loop (ι := Nat) (fun i => AS.mk' 67 [(1, .sl (ints l)), (2, .ref (2, 0) 0), (5, I (flt (l.take i))), (6, I i)] [((2, 0), eP p)] [] [(2, 1)]) (fun i => i ≤ l.length ∧ ∀ j, j < i → stB (p.pb []) l j = true) (fun i => l.length - i) (0) (Weak.mk' rfl ⟨⟨.refl rfl, rfl⟩, ⟨⟨.refl rfl, rfl⟩, ⟨⟨.refl rfl, rfl⟩, ⟨⟨.refl rfl, rfl⟩, trivial⟩⟩⟩⟩ ⟨⟨rfl, rfl, rfl⟩, trivial⟩ trivial) (⟨Nat.zero_le _, fun j h => absurd h (Nat.not_lt_zero _)⟩) ?_
    rintro k ⟨hk, hall⟩
    try dsimp only at *
    refine AWP.seq ?_
    refine AWP.seq ?_
    refine AWP.region ?_
    refine AOps.call (o_move _ rfl rfl) ?_
    refine AOps.call (o_move _ rfl rfl) ?_
    refine AOps.call (o_len _ Tryz.underlying25 rfl rfl) ?_
    refine AOps.call (o_bin _ _ rfl rfl (fun _ => rfl) rfl) ?_
    refine AOps.nil ?_
    refine AWP.cond _ rfl (fun h14 => ?_) (fun h14 => ?_)
    · skip
      have hlt : k < l.length := by have := of_decide_eq_true h14; omega
      have hel := ints_gY hlt
      have hel0 : (ints l)[(0 : Int).toNat]? = some [I (l.getD 0 0)] := ints_gD rfl (by omega)
      have hfs := flt_take_succ hlt
      have hfl := flt_take_le l k
      have hfn := flt_nonneg (l.take k)
      refine AWP.skip ?_
      refine AWP.seq ?_
      refine AWP.block ?_
      refine AWP.seq ?_
      refine AWP.seq ?_
      refine AWP.region ?_
      refine AOps.call (o_move _ rfl rfl) ?_
      refine AOps.call (o_move _ rfl rfl) ?_
      refine AOps.call (o_index _ _ Tryz.underlying25 Tryz.sizeOf3 rfl rfl (by omega) hel rfl rfl) ?_
      refine AOps.call (o_loadRd _ rfl Tryz.sizeOf3 Tryz.isAgg3 rfl rfl rfl) ?_
      refine AOps.call (o_call (within_s _ _ _) Tryz.call59 rfl rfl) ?_
      refine AOps.call (o_un _ rfl (fun _ => rfl) rfl) ?_
      refine AOps.call (o_move _ rfl rfl) ?_
      refine AOps.split rfl rfl rfl (fun h20 => ?_) (fun h20 => ?_)
      · skip
        refine AOps.go rfl rfl rfl h20 (o_move _ rfl rfl) ?_
        refine AOps.go rfl rfl rfl h20 (o_bin _ _ rfl rfl (fun _ => rfl) rfl) ?_
        refine AOps.go rfl rfl rfl h20 (o_move _ rfl rfl) ?_
        refine AOps.split rfl rfl rfl (fun h22 => ?_) (fun h22 => ?_)
        · skip
          refine AOps.go rfl rfl rfl h22 (o_move _ rfl rfl) ?_
          refine AOps.go rfl rfl rfl h22 (o_index _ _ Tryz.underlying25 Tryz.sizeOf3 rfl rfl (by decide) hel0 rfl rfl) ?_
          refine AOps.go rfl rfl rfl h22 (o_loadRd _ rfl Tryz.sizeOf3 Tryz.isAgg3 rfl rfl rfl) ?_
          refine AOps.go rfl rfl rfl h22 (o_bin _ _ rfl rfl (fun _ => rfl) rfl) ?_
          refine AOps.go rfl rfl rfl h20 (o_pickT _ _ _ rfl h22 rfl rfl) ?_
          refine AOps.call (o_pickF _ _ _ rfl h20 rfl rfl) ?_
          refine AOps.nil ?_
          refine AWP.cond _ rfl (fun h27 => ?_) (fun h27 => ?_)
          · skip
            have hs1 : ¬ ((0 ≤ l.getD k 0 ∧ l.getD k 0 ≤ 2) ∧ (k = 0 → ¬ l.getD 0 0 = 2)) := by
              have hq := h27
              have hin := @inB_iff (l.getD k 0) 0 2
              simp_all
              try omega
            have hno : rgt p l = false := rgt_st hlt (stB_no1 hs1)
            refine AWP.seq ?_
            refine AWP.region ?_
            refine AOps.call (o_assign _ rfl rfl) ?_
            refine AOps.nil ?_
            refine AWP.ret ?_
            refine postQ.ret1 Tryz.results64 rfl ?_
            first
            | (rw [hno]; rfl)
            | (rw [hres]; rfl)
          · skip
            have hs1 : ((0 ≤ l.getD k 0 ∧ l.getD k 0 ≤ 2) ∧ (k = 0 → ¬ l.getD 0 0 = 2)) := by
              have hq := h27
              have hin := @inB_iff (l.getD k 0) 0 2
              simp_all
              try omega
            refine AWP.skip ?_
            refine AWP.seq ?_
            refine AWP.seq ?_
            refine AWP.drawn 21 mixed (by kernel_rfl) ?_
            refine AHead.call (o_move _ rfl rfl) rfl ?_
            refine AHead.call (o_bin _ _ rfl rfl (fun _ => rfl) rfl) rfl ?_
            refine AHead.call (o_move _ rfl rfl) rfl ?_
            refine AHead.split rfl rfl rfl (fun h29 => ?_) (fun h29 => ?_)
            · skip
              have hk0 : 0 < k := by have := of_decide_eq_true h29; omega
              have hel1 : (ints l)[(((k : Nat) : Int) - 1).toNat]? = some [I (l.getD (k - 1) 0)] := ints_gD (by omega) (by omega)
              have hkn : (((k : Nat) : Int) - 1).toNat = k - 1 := by omega
              refine AHead.go rfl rfl rfl h29 (o_move _ rfl rfl) rfl ?_
              refine AHead.go rfl rfl rfl h29 (o_move _ rfl rfl) rfl ?_
              refine AHead.go rfl rfl rfl h29 (o_index _ _ Tryz.underlying25 Tryz.sizeOf3 rfl rfl (by omega) hel rfl rfl) rfl ?_
              refine AHead.go rfl rfl rfl h29 (o_loadRd _ rfl Tryz.sizeOf3 Tryz.isAgg3 rfl rfl rfl) rfl ?_
              refine AHead.go rfl rfl rfl h29 (o_move _ rfl rfl) rfl ?_
              refine AHead.go rfl rfl rfl h29 (o_move _ rfl rfl) rfl ?_
              refine AHead.go rfl rfl rfl h29 (o_sub _ _ rfl rfl ⟨by (try dsimp only); omega, by (try dsimp only); omega⟩ rfl) rfl ?_
              refine AHead.go rfl rfl rfl h29 (o_index _ _ Tryz.underlying25 Tryz.sizeOf3 rfl rfl (by omega) hel1 rfl rfl) rfl ?_
              refine AHead.go rfl rfl rfl h29 (o_loadRd _ rfl Tryz.sizeOf3 Tryz.isAgg3 rfl rfl rfl) rfl ?_
              refine AHead.go rfl rfl rfl h29 (o_bin _ _ rfl rfl (fun _ => rfl) rfl) rfl ?_
              refine AHead.call (o_pickT _ _ _ rfl h29 rfl rfl) rfl ?_
              refine AHead.call (o_move _ rfl rfl) rfl ?_
              refine AHead.split rfl rfl rfl (fun h38 => ?_) (fun h38 => ?_)
              · skip
                refine AHead.go rfl rfl rfl h38 (o_loadRef _ rfl rfl Tryz.sizeOf24 Tryz.isAgg24 rfl rfl rfl) rfl ?_
                refine AHead.go rfl rfl rfl h38 (o_move _ rfl rfl) rfl ?_
                refine AHead.go rfl rfl rfl h38 (o_sub _ _ rfl rfl ⟨by (try dsimp only); omega, by (try dsimp only); omega⟩ rfl) rfl ?_
                refine AHead.go rfl rfl rfl h38 (o_call (shiftR_s p hp (((k : Nat) : Int) - 1) (by omega) (by omega)) Tryz.call60 rfl rfl) rfl ?_
                refine AHead.go rfl rfl rfl h38 (o_un _ rfl (fun _ => rfl) rfl) rfl ?_
                refine AHead.call (o_pickT _ _ _ rfl h38 rfl rfl) rfl ?_
                refine AHead.nil ?_
                refine AOps.nil ?_
                refine AWP.cond _ rfl (fun h43 => ?_) (fun h43 => ?_)
                · skip
                  have hs2 : ¬ (k = 0 ∨ l.getD k 0 = l.getD (k - 1) 0 ∨ p.shift (k - 1) = true) := by
                    have hq := h43
                    simp_all
                    try omega
                  have hno : rgt p l = false := rgt_st hlt (stB_no2 hs2)
                  refine AWP.seq ?_
                  refine AWP.region ?_
                  refine AOps.call (o_assign _ rfl rfl) ?_
                  refine AOps.nil ?_
                  refine AWP.ret ?_
                  refine postQ.ret1 Tryz.results64 rfl ?_
                  first
                  | (rw [hno]; rfl)
                  | (rw [hres]; rfl)
                · skip
                  have hs2 : (k = 0 ∨ l.getD k 0 = l.getD (k - 1) 0 ∨ p.shift (k - 1) = true) := by
                    have hq := h43
                    simp_all
                    try omega
                  have hst : stB (p.pb []) l k = true := stB_yes hs1 hs2
                  refine AWP.skip ?_
                  refine AWP.seq ?_
                  refine AWP.region ?_
                  refine AOps.call (o_move _ rfl rfl) ?_
                  refine AOps.call (o_move _ rfl rfl) ?_
                  refine AOps.call (o_index _ _ Tryz.underlying25 Tryz.sizeOf3 rfl rfl (by omega) hel rfl rfl) ?_
                  refine AOps.call (o_loadRd _ rfl Tryz.sizeOf3 Tryz.isAgg3 rfl rfl rfl) ?_
                  refine AOps.call (o_bin _ _ rfl rfl (fun _ => rfl) rfl) ?_
                  refine AOps.nil ?_
                  refine AWP.cond _ rfl (fun h48 => ?_) (fun h48 => ?_)
                  · skip
                    have h2 := of_decide_eq_true h48
                    rw [if_pos h2] at hfs
                    refine AWP.region ?_
                    refine AOps.call (o_move _ rfl rfl) ?_
                    refine AOps.call (o_add _ _ rfl rfl ⟨by (try dsimp only); omega, by (try dsimp only); omega⟩ rfl) ?_
                    refine AOps.call (o_assign _ rfl rfl) ?_
                    refine AOps.nil ?_
                    refine AWP.region ?_
                    refine AOps.call (o_move _ rfl rfl) ?_
                    refine AOps.call (o_add _ _ rfl rfl ⟨by (try dsimp only); omega, by (try dsimp only); omega⟩ rfl) ?_
                    refine AOps.call (o_assign _ rfl rfl) ?_
                    refine AOps.nil ?_
                    refine ⟨k + 1, ?_, (Weak.mk' rfl ⟨⟨.refl rfl, rfl⟩, ⟨⟨.refl rfl, rfl⟩, ⟨⟨.refl (congrArg I (by (try dsimp only); omega)), rfl⟩, ⟨⟨.refl rfl, rfl⟩, trivial⟩⟩⟩⟩ ⟨⟨rfl, rfl, rfl⟩, trivial⟩ trivial)⟩
                    refine ⟨⟨by omega, fun j hj => ?_⟩, by omega⟩
                    by_cases e : j = k
                    · subst e; exact hst
                    · exact hall j (by omega)
                  · skip
                    have h2 := of_decide_eq_false h48
                    rw [if_neg h2] at hfs
                    refine AWP.skip ?_
                    refine AWP.region ?_
                    refine AOps.call (o_move _ rfl rfl) ?_
                    refine AOps.call (o_add _ _ rfl rfl ⟨by (try dsimp only); omega, by (try dsimp only); omega⟩ rfl) ?_
                    refine AOps.call (o_assign _ rfl rfl) ?_
                    refine AOps.nil ?_
                    refine ⟨k + 1, ?_, (Weak.mk' rfl ⟨⟨.refl rfl, rfl⟩, ⟨⟨.refl rfl, rfl⟩, ⟨⟨.refl (congrArg I (by (try dsimp only); omega)), rfl⟩, ⟨⟨.refl rfl, rfl⟩, trivial⟩⟩⟩⟩ ⟨⟨rfl, rfl, rfl⟩, trivial⟩ trivial)⟩
                    refine ⟨⟨by omega, fun j hj => ?_⟩, by omega⟩
                    by_cases e : j = k
                    · subst e; exact hst
                    · exact hall j (by omega)
              · skip
                refine AHead.pass rfl rfl rfl h38 rfl ?_
                refine AHead.pass rfl rfl rfl h38 rfl ?_
                refine AHead.pass rfl rfl rfl h38 rfl ?_
                refine AHead.pass rfl rfl rfl h38 rfl ?_
                refine AHead.pass rfl rfl rfl h38 rfl ?_
                refine AHead.call (o_pickF _ _ _ rfl h38 rfl rfl) rfl ?_
                refine AHead.nil ?_
                refine AOps.nil ?_
                refine AWP.condF rfl ?_
                have hs2 : (k = 0 ∨ l.getD k 0 = l.getD (k - 1) 0 ∨ p.shift (k - 1) = true) := by
                  simp_all
                  try omega
                have hst : stB (p.pb []) l k = true := stB_yes hs1 hs2
                refine AWP.skip ?_
                refine AWP.seq ?_
                refine AWP.region ?_
                refine AOps.call (o_move _ rfl rfl) ?_
                refine AOps.call (o_move _ rfl rfl) ?_
                refine AOps.call (o_index _ _ Tryz.underlying25 Tryz.sizeOf3 rfl rfl (by omega) hel rfl rfl) ?_
                refine AOps.call (o_loadRd _ rfl Tryz.sizeOf3 Tryz.isAgg3 rfl rfl rfl) ?_
                refine AOps.call (o_bin _ _ rfl rfl (fun _ => rfl) rfl) ?_
                refine AOps.nil ?_
                refine AWP.cond _ rfl (fun h57 => ?_) (fun h57 => ?_)
                · skip
                  have h2 := of_decide_eq_true h57
                  rw [if_pos h2] at hfs
                  refine AWP.region ?_
                  refine AOps.call (o_move _ rfl rfl) ?_
                  refine AOps.call (o_add _ _ rfl rfl ⟨by (try dsimp only); omega, by (try dsimp only); omega⟩ rfl) ?_
                  refine AOps.call (o_assign _ rfl rfl) ?_
                  refine AOps.nil ?_
                  refine AWP.region ?_
                  refine AOps.call (o_move _ rfl rfl) ?_
                  refine AOps.call (o_add _ _ rfl rfl ⟨by (try dsimp only); omega, by (try dsimp only); omega⟩ rfl) ?_
                  refine AOps.call (o_assign _ rfl rfl) ?_
                  refine AOps.nil ?_
                  refine ⟨k + 1, ?_, (Weak.mk' rfl ⟨⟨.refl rfl, rfl⟩, ⟨⟨.refl rfl, rfl⟩, ⟨⟨.refl (congrArg I (by (try dsimp only); omega)), rfl⟩, ⟨⟨.refl rfl, rfl⟩, trivial⟩⟩⟩⟩ ⟨⟨rfl, rfl, rfl⟩, trivial⟩ trivial)⟩
                  refine ⟨⟨by omega, fun j hj => ?_⟩, by omega⟩
                  by_cases e : j = k
                  · subst e; exact hst
                  · exact hall j (by omega)
                · skip
                  have h2 := of_decide_eq_false h57
                  rw [if_neg h2] at hfs
                  refine AWP.skip ?_
                  refine AWP.region ?_
                  refine AOps.call (o_move _ rfl rfl) ?_
                  refine AOps.call (o_add _ _ rfl rfl ⟨by (try dsimp only); omega, by (try dsimp only); omega⟩ rfl) ?_
                  refine AOps.call (o_assign _ rfl rfl) ?_
                  refine AOps.nil ?_
                  refine ⟨k + 1, ?_, (Weak.mk' rfl ⟨⟨.refl rfl, rfl⟩, ⟨⟨.refl rfl, rfl⟩, ⟨⟨.refl (congrArg I (by (try dsimp only); omega)), rfl⟩, ⟨⟨.refl rfl, rfl⟩, trivial⟩⟩⟩⟩ ⟨⟨rfl, rfl, rfl⟩, trivial⟩ trivial)⟩
                  refine ⟨⟨by omega, fun j hj => ?_⟩, by omega⟩
                  by_cases e : j = k
                  · subst e; exact hst
                  · exact hall j (by omega)
            · skip
              have hk0 : k = 0 := by have := of_decide_eq_false h29; omega
              refine AHead.pass rfl rfl rfl h29 rfl ?_
              refine AHead.pass rfl rfl rfl h29 rfl ?_
              refine AHead.pass rfl rfl rfl h29 rfl ?_
              refine AHead.pass rfl rfl rfl h29 rfl ?_
              refine AHead.pass rfl rfl rfl h29 rfl ?_
              refine AHead.pass rfl rfl rfl h29 rfl ?_
              refine AHead.pass rfl rfl rfl h29 rfl ?_
              refine AHead.pass rfl rfl rfl h29 rfl ?_
              refine AHead.pass rfl rfl rfl h29 rfl ?_
              refine AHead.pass rfl rfl rfl h29 rfl ?_
              refine AHead.call (o_pickF _ _ _ rfl h29 rfl rfl) rfl ?_
              refine AHead.call (o_move _ rfl rfl) rfl ?_
              refine AHead.pass rfl rfl rfl rfl rfl ?_
              refine AHead.pass rfl rfl rfl rfl rfl ?_
              refine AHead.pass rfl rfl rfl rfl rfl ?_
              refine AHead.pass rfl rfl rfl rfl rfl ?_
              refine AHead.pass rfl rfl rfl rfl rfl ?_
              refine AHead.call (o_pickF _ _ _ rfl rfl rfl rfl) rfl ?_
              refine AHead.nil ?_
              refine AOps.nil ?_
              refine AWP.condF rfl ?_
              have hs2 : (k = 0 ∨ l.getD k 0 = l.getD (k - 1) 0 ∨ p.shift (k - 1) = true) := by
                simp_all
                try omega
              have hst : stB (p.pb []) l k = true := stB_yes hs1 hs2
              refine AWP.skip ?_
              refine AWP.seq ?_
              refine AWP.region ?_
              refine AOps.call (o_move _ rfl rfl) ?_
              refine AOps.call (o_move _ rfl rfl) ?_
              refine AOps.call (o_index _ _ Tryz.underlying25 Tryz.sizeOf3 rfl rfl (by omega) hel rfl rfl) ?_
              refine AOps.call (o_loadRd _ rfl Tryz.sizeOf3 Tryz.isAgg3 rfl rfl rfl) ?_
              refine AOps.call (o_bin _ _ rfl rfl (fun _ => rfl) rfl) ?_
              refine AOps.nil ?_
              refine AWP.cond _ rfl (fun h66 => ?_) (fun h66 => ?_)
              · skip
                have h2 := of_decide_eq_true h66
                rw [if_pos h2] at hfs
                refine AWP.region ?_
                refine AOps.call (o_move _ rfl rfl) ?_
                refine AOps.call (o_add _ _ rfl rfl ⟨by (try dsimp only); omega, by (try dsimp only); omega⟩ rfl) ?_
                refine AOps.call (o_assign _ rfl rfl) ?_
                refine AOps.nil ?_
                refine AWP.region ?_
                refine AOps.call (o_move _ rfl rfl) ?_
                refine AOps.call (o_add _ _ rfl rfl ⟨by (try dsimp only); omega, by (try dsimp only); omega⟩ rfl) ?_
                refine AOps.call (o_assign _ rfl rfl) ?_
                refine AOps.nil ?_
                refine ⟨k + 1, ?_, (Weak.mk' rfl ⟨⟨.refl rfl, rfl⟩, ⟨⟨.refl rfl, rfl⟩, ⟨⟨.refl (congrArg I (by (try dsimp only); omega)), rfl⟩, ⟨⟨.refl rfl, rfl⟩, trivial⟩⟩⟩⟩ ⟨⟨rfl, rfl, rfl⟩, trivial⟩ trivial)⟩
                refine ⟨⟨by omega, fun j hj => ?_⟩, by omega⟩
                by_cases e : j = k
                · subst e; exact hst
                · exact hall j (by omega)
              · skip
                have h2 := of_decide_eq_false h66
                rw [if_neg h2] at hfs
                refine AWP.skip ?_
                refine AWP.region ?_
                refine AOps.call (o_move _ rfl rfl) ?_
                refine AOps.call (o_add _ _ rfl rfl ⟨by (try dsimp only); omega, by (try dsimp only); omega⟩ rfl) ?_
                refine AOps.call (o_assign _ rfl rfl) ?_
                refine AOps.nil ?_
                refine ⟨k + 1, ?_, (Weak.mk' rfl ⟨⟨.refl rfl, rfl⟩, ⟨⟨.refl rfl, rfl⟩, ⟨⟨.refl (congrArg I (by (try dsimp only); omega)), rfl⟩, ⟨⟨.refl rfl, rfl⟩, trivial⟩⟩⟩⟩ ⟨⟨rfl, rfl, rfl⟩, trivial⟩ trivial)⟩
                refine ⟨⟨by omega, fun j hj => ?_⟩, by omega⟩
                by_cases e : j = k
                · subst e; exact hst
                · exact hall j (by omega)
        · skip
          refine AOps.pass rfl rfl rfl h22 rfl ?_
          refine AOps.pass rfl rfl rfl h22 rfl ?_
          refine AOps.pass rfl rfl rfl h22 rfl ?_
          refine AOps.pass rfl rfl rfl h22 rfl ?_
          refine AOps.go rfl rfl rfl h20 (o_pickF _ _ _ rfl h22 rfl rfl) ?_
          refine AOps.call (o_pickF _ _ _ rfl h20 rfl rfl) ?_
          refine AOps.nil ?_
          refine AWP.condF rfl ?_
          have hs1 : ((0 ≤ l.getD k 0 ∧ l.getD k 0 ≤ 2) ∧ (k = 0 → ¬ l.getD 0 0 = 2)) := by
            have hin := @inB_iff (l.getD k 0) 0 2
            simp_all
            try omega
          refine AWP.skip ?_
          refine AWP.seq ?_
          refine AWP.seq ?_
          refine AWP.drawn 21 mixed (by kernel_rfl) ?_
          refine AHead.call (o_move _ rfl rfl) rfl ?_
          refine AHead.call (o_bin _ _ rfl rfl (fun _ => rfl) rfl) rfl ?_
          refine AHead.call (o_move _ rfl rfl) rfl ?_
          refine AHead.split rfl rfl rfl (fun h72 => ?_) (fun h72 => ?_)
          · skip
            have hk0 : 0 < k := by have := of_decide_eq_true h72; omega
            have hel1 : (ints l)[(((k : Nat) : Int) - 1).toNat]? = some [I (l.getD (k - 1) 0)] := ints_gD (by omega) (by omega)
            have hkn : (((k : Nat) : Int) - 1).toNat = k - 1 := by omega
            refine AHead.go rfl rfl rfl h72 (o_move _ rfl rfl) rfl ?_
            refine AHead.go rfl rfl rfl h72 (o_move _ rfl rfl) rfl ?_
            refine AHead.go rfl rfl rfl h72 (o_index _ _ Tryz.underlying25 Tryz.sizeOf3 rfl rfl (by omega) hel rfl rfl) rfl ?_
            refine AHead.go rfl rfl rfl h72 (o_loadRd _ rfl Tryz.sizeOf3 Tryz.isAgg3 rfl rfl rfl) rfl ?_
            refine AHead.go rfl rfl rfl h72 (o_move _ rfl rfl) rfl ?_
            refine AHead.go rfl rfl rfl h72 (o_move _ rfl rfl) rfl ?_
            refine AHead.go rfl rfl rfl h72 (o_sub _ _ rfl rfl ⟨by (try dsimp only); omega, by (try dsimp only); omega⟩ rfl) rfl ?_
            refine AHead.go rfl rfl rfl h72 (o_index _ _ Tryz.underlying25 Tryz.sizeOf3 rfl rfl (by omega) hel1 rfl rfl) rfl ?_
            refine AHead.go rfl rfl rfl h72 (o_loadRd _ rfl Tryz.sizeOf3 Tryz.isAgg3 rfl rfl rfl) rfl ?_
            refine AHead.go rfl rfl rfl h72 (o_bin _ _ rfl rfl (fun _ => rfl) rfl) rfl ?_
            refine AHead.call (o_pickT _ _ _ rfl h72 rfl rfl) rfl ?_
            refine AHead.call (o_move _ rfl rfl) rfl ?_
            refine AHead.split rfl rfl rfl (fun h81 => ?_) (fun h81 => ?_)
            · skip
              refine AHead.go rfl rfl rfl h81 (o_loadRef _ rfl rfl Tryz.sizeOf24 Tryz.isAgg24 rfl rfl rfl) rfl ?_
              refine AHead.go rfl rfl rfl h81 (o_move _ rfl rfl) rfl ?_
              refine AHead.go rfl rfl rfl h81 (o_sub _ _ rfl rfl ⟨by (try dsimp only); omega, by (try dsimp only); omega⟩ rfl) rfl ?_
              refine AHead.go rfl rfl rfl h81 (o_call (shiftR_s p hp (((k : Nat) : Int) - 1) (by omega) (by omega)) Tryz.call60 rfl rfl) rfl ?_
              refine AHead.go rfl rfl rfl h81 (o_un _ rfl (fun _ => rfl) rfl) rfl ?_
              refine AHead.call (o_pickT _ _ _ rfl h81 rfl rfl) rfl ?_
              refine AHead.nil ?_
              refine AOps.nil ?_
              refine AWP.cond _ rfl (fun h86 => ?_) (fun h86 => ?_)
              · skip
                have hs2 : ¬ (k = 0 ∨ l.getD k 0 = l.getD (k - 1) 0 ∨ p.shift (k - 1) = true) := by
                  have hq := h86
                  simp_all
                  try omega
                have hno : rgt p l = false := rgt_st hlt (stB_no2 hs2)
                refine AWP.seq ?_
                refine AWP.region ?_
                refine AOps.call (o_assign _ rfl rfl) ?_
                refine AOps.nil ?_
                refine AWP.ret ?_
                refine postQ.ret1 Tryz.results64 rfl ?_
                first
                | (rw [hno]; rfl)
                | (rw [hres]; rfl)
              · skip
                have hs2 : (k = 0 ∨ l.getD k 0 = l.getD (k - 1) 0 ∨ p.shift (k - 1) = true) := by
                  have hq := h86
                  simp_all
                  try omega
                have hst : stB (p.pb []) l k = true := stB_yes hs1 hs2
                refine AWP.skip ?_
                refine AWP.seq ?_
                refine AWP.region ?_
                refine AOps.call (o_move _ rfl rfl) ?_
                refine AOps.call (o_move _ rfl rfl) ?_
                refine AOps.call (o_index _ _ Tryz.underlying25 Tryz.sizeOf3 rfl rfl (by omega) hel rfl rfl) ?_
                refine AOps.call (o_loadRd _ rfl Tryz.sizeOf3 Tryz.isAgg3 rfl rfl rfl) ?_
                refine AOps.call (o_bin _ _ rfl rfl (fun _ => rfl) rfl) ?_
                refine AOps.nil ?_
                refine AWP.cond _ rfl (fun h91 => ?_) (fun h91 => ?_)
                · skip
                  have h2 := of_decide_eq_true h91
                  rw [if_pos h2] at hfs
                  refine AWP.region ?_
                  refine AOps.call (o_move _ rfl rfl) ?_
                  refine AOps.call (o_add _ _ rfl rfl ⟨by (try dsimp only); omega, by (try dsimp only); omega⟩ rfl) ?_
                  refine AOps.call (o_assign _ rfl rfl) ?_
                  refine AOps.nil ?_
                  refine AWP.region ?_
                  refine AOps.call (o_move _ rfl rfl) ?_
                  refine AOps.call (o_add _ _ rfl rfl ⟨by (try dsimp only); omega, by (try dsimp only); omega⟩ rfl) ?_
                  refine AOps.call (o_assign _ rfl rfl) ?_
                  refine AOps.nil ?_
                  refine ⟨k + 1, ?_, (Weak.mk' rfl ⟨⟨.refl rfl, rfl⟩, ⟨⟨.refl rfl, rfl⟩, ⟨⟨.refl (congrArg I (by (try dsimp only); omega)), rfl⟩, ⟨⟨.refl rfl, rfl⟩, trivial⟩⟩⟩⟩ ⟨⟨rfl, rfl, rfl⟩, trivial⟩ trivial)⟩
                  refine ⟨⟨by omega, fun j hj => ?_⟩, by omega⟩
                  by_cases e : j = k
                  · subst e; exact hst
                  · exact hall j (by omega)
                · skip
                  have h2 := of_decide_eq_false h91
                  rw [if_neg h2] at hfs
                  refine AWP.skip ?_
                  refine AWP.region ?_
                  refine AOps.call (o_move _ rfl rfl) ?_
                  refine AOps.call (o_add _ _ rfl rfl ⟨by (try dsimp only); omega, by (try dsimp only); omega⟩ rfl) ?_
                  refine AOps.call (o_assign _ rfl rfl) ?_
                  refine AOps.nil ?_
                  refine ⟨k + 1, ?_, (Weak.mk' rfl ⟨⟨.refl rfl, rfl⟩, ⟨⟨.refl rfl, rfl⟩, ⟨⟨.refl (congrArg I (by (try dsimp only); omega)), rfl⟩, ⟨⟨.refl rfl, rfl⟩, trivial⟩⟩⟩⟩ ⟨⟨rfl, rfl, rfl⟩, trivial⟩ trivial)⟩
                  refine ⟨⟨by omega, fun j hj => ?_⟩, by omega⟩
                  by_cases e : j = k
                  · subst e; exact hst
                  · exact hall j (by omega)
            · skip
              refine AHead.pass rfl rfl rfl h81 rfl ?_
              refine AHead.pass rfl rfl rfl h81 rfl ?_
              refine AHead.pass rfl rfl rfl h81 rfl ?_
              refine AHead.pass rfl rfl rfl h81 rfl ?_
              refine AHead.pass rfl rfl rfl h81 rfl ?_
              refine AHead.call (o_pickF _ _ _ rfl h81 rfl rfl) rfl ?_
              refine AHead.nil ?_
              refine AOps.nil ?_
              refine AWP.condF rfl ?_
              have hs2 : (k = 0 ∨ l.getD k 0 = l.getD (k - 1) 0 ∨ p.shift (k - 1) = true) := by
                simp_all
                try omega
              have hst : stB (p.pb []) l k = true := stB_yes hs1 hs2
              refine AWP.skip ?_
              refine AWP.seq ?_
              refine AWP.region ?_
              refine AOps.call (o_move _ rfl rfl) ?_
              refine AOps.call (o_move _ rfl rfl) ?_
              refine AOps.call (o_index _ _ Tryz.underlying25 Tryz.sizeOf3 rfl rfl (by omega) hel rfl rfl) ?_
              refine AOps.call (o_loadRd _ rfl Tryz.sizeOf3 Tryz.isAgg3 rfl rfl rfl) ?_
              refine AOps.call (o_bin _ _ rfl rfl (fun _ => rfl) rfl) ?_
              refine AOps.nil ?_
              refine AWP.cond _ rfl (fun h100 => ?_) (fun h100 => ?_)
              · skip
                have h2 := of_decide_eq_true h100
                rw [if_pos h2] at hfs
                refine AWP.region ?_
                refine AOps.call (o_move _ rfl rfl) ?_
                refine AOps.call (o_add _ _ rfl rfl ⟨by (try dsimp only); omega, by (try dsimp only); omega⟩ rfl) ?_
                refine AOps.call (o_assign _ rfl rfl) ?_
                refine AOps.nil ?_
                refine AWP.region ?_
                refine AOps.call (o_move _ rfl rfl) ?_
                refine AOps.call (o_add _ _ rfl rfl ⟨by (try dsimp only); omega, by (try dsimp only); omega⟩ rfl) ?_
                refine AOps.call (o_assign _ rfl rfl) ?_
                refine AOps.nil ?_
                refine ⟨k + 1, ?_, (Weak.mk' rfl ⟨⟨.refl rfl, rfl⟩, ⟨⟨.refl rfl, rfl⟩, ⟨⟨.refl (congrArg I (by (try dsimp only); omega)), rfl⟩, ⟨⟨.refl rfl, rfl⟩, trivial⟩⟩⟩⟩ ⟨⟨rfl, rfl, rfl⟩, trivial⟩ trivial)⟩
                refine ⟨⟨by omega, fun j hj => ?_⟩, by omega⟩
                by_cases e : j = k
                · subst e; exact hst
                · exact hall j (by omega)
              · skip
                have h2 := of_decide_eq_false h100
                rw [if_neg h2] at hfs
                refine AWP.skip ?_
                refine AWP.region ?_
                refine AOps.call (o_move _ rfl rfl) ?_
                refine AOps.call (o_add _ _ rfl rfl ⟨by (try dsimp only); omega, by (try dsimp only); omega⟩ rfl) ?_
                refine AOps.call (o_assign _ rfl rfl) ?_
                refine AOps.nil ?_
                refine ⟨k + 1, ?_, (Weak.mk' rfl ⟨⟨.refl rfl, rfl⟩, ⟨⟨.refl rfl, rfl⟩, ⟨⟨.refl (congrArg I (by (try dsimp only); omega)), rfl⟩, ⟨⟨.refl rfl, rfl⟩, trivial⟩⟩⟩⟩ ⟨⟨rfl, rfl, rfl⟩, trivial⟩ trivial)⟩
                refine ⟨⟨by omega, fun j hj => ?_⟩, by omega⟩
                by_cases e : j = k
                · subst e; exact hst
                · exact hall j (by omega)
          · skip
            have hk0 : k = 0 := by have := of_decide_eq_false h72; omega
            refine AHead.pass rfl rfl rfl h72 rfl ?_
            refine AHead.pass rfl rfl rfl h72 rfl ?_
            refine AHead.pass rfl rfl rfl h72 rfl ?_
            refine AHead.pass rfl rfl rfl h72 rfl ?_
            refine AHead.pass rfl rfl rfl h72 rfl ?_
            refine AHead.pass rfl rfl rfl h72 rfl ?_
            refine AHead.pass rfl rfl rfl h72 rfl ?_
            refine AHead.pass rfl rfl rfl h72 rfl ?_
            refine AHead.pass rfl rfl rfl h72 rfl ?_
            refine AHead.pass rfl rfl rfl h72 rfl ?_
            refine AHead.call (o_pickF _ _ _ rfl h72 rfl rfl) rfl ?_
            refine AHead.call (o_move _ rfl rfl) rfl ?_
            refine AHead.pass rfl rfl rfl rfl rfl ?_
            refine AHead.pass rfl rfl rfl rfl rfl ?_
            refine AHead.pass rfl rfl rfl rfl rfl ?_
            refine AHead.pass rfl rfl rfl rfl rfl ?_
            refine AHead.pass rfl rfl rfl rfl rfl ?_
            refine AHead.call (o_pickF _ _ _ rfl rfl rfl rfl) rfl ?_
            refine AHead.nil ?_
            refine AOps.nil ?_
            refine AWP.condF rfl ?_
            have hs2 : (k = 0 ∨ l.getD k 0 = l.getD (k - 1) 0 ∨ p.shift (k - 1) = true) := by
              simp_all
              try omega
            have hst : stB (p.pb []) l k = true := stB_yes hs1 hs2
            refine AWP.skip ?_
            refine AWP.seq ?_
            refine AWP.region ?_
            refine AOps.call (o_move _ rfl rfl) ?_
            refine AOps.call (o_move _ rfl rfl) ?_
            refine AOps.call (o_index _ _ Tryz.underlying25 Tryz.sizeOf3 rfl rfl (by omega) hel rfl rfl) ?_
            refine AOps.call (o_loadRd _ rfl Tryz.sizeOf3 Tryz.isAgg3 rfl rfl rfl) ?_
            refine AOps.call (o_bin _ _ rfl rfl (fun _ => rfl) rfl) ?_
            refine AOps.nil ?_
            refine AWP.cond _ rfl (fun h109 => ?_) (fun h109 => ?_)
            · skip
              have h2 := of_decide_eq_true h109
              rw [if_pos h2] at hfs
              refine AWP.region ?_
              refine AOps.call (o_move _ rfl rfl) ?_
              refine AOps.call (o_add _ _ rfl rfl ⟨by (try dsimp only); omega, by (try dsimp only); omega⟩ rfl) ?_
              refine AOps.call (o_assign _ rfl rfl) ?_
              refine AOps.nil ?_
              refine AWP.region ?_
              refine AOps.call (o_move _ rfl rfl) ?_
              refine AOps.call (o_add _ _ rfl rfl ⟨by (try dsimp only); omega, by (try dsimp only); omega⟩ rfl) ?_
              refine AOps.call (o_assign _ rfl rfl) ?_
              refine AOps.nil ?_
              refine ⟨k + 1, ?_, (Weak.mk' rfl ⟨⟨.refl rfl, rfl⟩, ⟨⟨.refl rfl, rfl⟩, ⟨⟨.refl (congrArg I (by (try dsimp only); omega)), rfl⟩, ⟨⟨.refl rfl, rfl⟩, trivial⟩⟩⟩⟩ ⟨⟨rfl, rfl, rfl⟩, trivial⟩ trivial)⟩
              refine ⟨⟨by omega, fun j hj => ?_⟩, by omega⟩
              by_cases e : j = k
              · subst e; exact hst
              · exact hall j (by omega)
            · skip
              have h2 := of_decide_eq_false h109
              rw [if_neg h2] at hfs
              refine AWP.skip ?_
              refine AWP.region ?_
              refine AOps.call (o_move _ rfl rfl) ?_
              refine AOps.call (o_add _ _ rfl rfl ⟨by (try dsimp only); omega, by (try dsimp only); omega⟩ rfl) ?_
              refine AOps.call (o_assign _ rfl rfl) ?_
              refine AOps.nil ?_
              refine ⟨k + 1, ?_, (Weak.mk' rfl ⟨⟨.refl rfl, rfl⟩, ⟨⟨.refl rfl, rfl⟩, ⟨⟨.refl (congrArg I (by (try dsimp only); omega)), rfl⟩, ⟨⟨.refl rfl, rfl⟩, trivial⟩⟩⟩⟩ ⟨⟨rfl, rfl, rfl⟩, trivial⟩ trivial)⟩
              refine ⟨⟨by omega, fun j hj => ?_⟩, by omega⟩
              by_cases e : j = k
              · subst e; exact hst
              · exact hall j (by omega)
      · skip
        refine AOps.pass rfl rfl rfl h20 rfl ?_
        refine AOps.pass rfl rfl rfl h20 rfl ?_
        refine AOps.pass rfl rfl rfl h20 rfl ?_
        refine AOps.passU rfl rfl rfl rfl ?_
        refine AOps.passU rfl rfl rfl rfl ?_
        refine AOps.passU rfl rfl rfl rfl ?_
        refine AOps.passU rfl rfl rfl rfl ?_
        refine AOps.pass rfl rfl rfl h20 rfl ?_
        refine AOps.call (o_pickT _ _ _ rfl h20 rfl rfl) ?_
        refine AOps.nil ?_
        refine AWP.condT rfl ?_
        have hs1 : ¬ ((0 ≤ l.getD k 0 ∧ l.getD k 0 ≤ 2) ∧ (k = 0 → ¬ l.getD 0 0 = 2)) := by
          have hin := @inB_iff (l.getD k 0) 0 2
          simp_all
          try omega
        have hno : rgt p l = false := rgt_st hlt (stB_no1 hs1)
        refine AWP.seq ?_
        refine AWP.region ?_
        refine AOps.call (o_assign _ rfl rfl) ?_
        refine AOps.nil ?_
        refine AWP.ret ?_
        refine postQ.ret1 Tryz.results64 rfl ?_
        first
        | (rw [hno]; rfl)
        | (rw [hres]; rfl)
    · skip
      have hkl : k = l.length := by have := of_decide_eq_false h14; omega
      subst hkl
      rw [List.take_length]
      have hres : rgt p l = decide (flt l ≤ p.faults) := by
        rw [Bool.eq_iff_iff, rgt_iff, decide_eq_true_eq]
        exact ⟨fun h => h.2.2, fun h => ⟨hll, hall, h⟩⟩
      refine AWP.exit ?_
      refine AWP.seq ?_
      refine AWP.region ?_
      refine AOps.call (o_move _ rfl rfl) ?_
      refine AOps.call (o_fieldRef _ rfl fa24_5 rfl rfl) ?_
      refine AOps.call (o_loadRef _ rfl rfl Tryz.sizeOf3 Tryz.isAgg3 rfl rfl rfl) ?_
      refine AOps.call (o_bin _ _ rfl rfl (fun _ => rfl) rfl) ?_
      refine AOps.call (o_assign _ rfl rfl) ?_
      refine AOps.nil ?_
      refine AWP.ret ?_
      refine postQ.ret1 Tryz.results64 rfl ?_
      first
      | (rw [hno]; rfl)
      | (rw [hres]; rfl)
end Go.Proofs.YtelenedgaoglaaaGreatDoor
