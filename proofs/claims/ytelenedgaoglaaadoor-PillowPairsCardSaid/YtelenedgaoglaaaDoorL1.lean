/- L1. -/
import Derived.Test.YtelenedgaoglaaaDoorR27
import Derived.Test.YtelenedgaoglaaaDoorR14
set_option linter.unusedSimpArgs false
set_option linter.unusedVariables false
namespace Go.Proofs.YtelenedgaoglaaaDoor
open Go.Ab
open Go.Pil Go.RowKit

theorem against_no {p : Plw} {w : List Sp} {l : List Int} (h0 : rcE p w l = 0) (ha : aliveP p w l) (x y : Int) : ¬ refOk p w l x y := fun h => by
  obtain ⟨h1, h2, h3, h4⟩ := rcE_0.1 h0
  unfold refOk at h
  refine (alive_pairs (okP_iff.1 h1) h2).1 ha x.toNat y.toNat ?_ ?_ h.2.2.2
  · have := h.1; have := h.2.1; have := h.2.2.1; omega
  · have := h.1; have := h.2.1; have := h.2.2.1; omega
theorem against_yes {p : Plw} {w : List Sp} {l : List Int} (h0 : rcE p w l = 0) (ha : ¬ aliveP p w l) : ∃ i k : Nat, refuteP p w l = some (i, k) ∧ refOk p w l i k := by
  obtain ⟨h1, h2, h3, h4⟩ := rcE_0.1 h0
  cases hr : refuteP p w l with
  | none => exact absurd ((refute_none (okP_iff.1 h1) h2).1 hr) ha
  | some x =>
    obtain ⟨g1, g2, g3⟩ := refute_some hr
    refine ⟨x.1, x.2, rfl, ?_⟩
    unfold refOk
    refine ⟨by omega, by omega, by omega, ?_⟩
    simpa using g3

set_option maxHeartbeats 4000000 in
set_option maxRecDepth 20000 in
theorem PillowPairs_a (p : Plw) (w : List Sp) (l : List Int) (hw1 : w.length ≤ 9223372036854775807) (hl1 : l.length ≤ 9223372036854775807) (x y : Int) (hne : rcE p w l ≠ 0) : FSpecG Tryd.prog TAB 3 [.agg (eP p), .sl (sps w), .sl (ints l), .agg [I x, I y]] (B true) (none) := by
  refine FSpecG.of_body tab_stable Tryd.func3 rfl (leB rfl) fun w0 M0 hG => ?_
  have hA := Alive_s p w l hw1 hl1
  rw [decide_eq_false (fun h => hne h.1)] at hA
  have hR := Refute_s p w l hw1 hl1
  rw [if_neg hne, decide_eq_false hne] at hR
  refine AWP.seq ?_
  refine AWP.region ?_
  refine AOps.call (o_box _ rfl rfl rfl) ?_
  refine AOps.call (o_box _ rfl rfl rfl) ?_
  refine AOps.call (o_assign _ rfl rfl) ?_
  refine AOps.nil ?_
  refine AWP.seq ?_
  refine AWP.seq ?_
  refine AWP.region ?_
  refine AOps.call (o_callG (sane_s) hG Tryd.call8 rfl rfl) ?_
  refine AOps.call (o_un _ rfl (fun _ => rfl) rfl) ?_
  refine AOps.nil ?_
  refine AWP.cond _ rfl (fun h5 => ?_) (fun h5 => ?_)
  · skip
    exfalso
    simp at h5
  · skip
    refine AWP.skip ?_
    refine AWP.seq ?_
    refine AWP.region ?_
    refine AOps.call (o_loadRef _ rfl rfl Tryd.sizeOf24 Tryd.isAgg24 rfl rfl rfl) ?_
    refine AOps.call (o_move _ rfl rfl) ?_
    refine AOps.call (o_move _ rfl rfl) ?_
    refine AOps.call (o_call (hA) Tryd.call9 rfl rfl) ?_
    refine AOps.call (o_move _ rfl rfl) ?_
    refine AOps.call (o_extract _ rfl rfl rfl rfl) ?_
    refine AOps.call (o_extract _ rfl rfl rfl rfl) ?_
    refine AOps.call (o_assign _ rfl rfl) ?_
    refine AOps.call (o_assign _ rfl rfl) ?_
    refine AOps.nil ?_
    refine AWP.seq ?_
    refine AWP.region ?_
    refine AOps.call (o_loadRef _ rfl rfl Tryd.sizeOf24 Tryd.isAgg24 rfl rfl rfl) ?_
    refine AOps.call (o_move _ rfl rfl) ?_
    refine AOps.call (o_move _ rfl rfl) ?_
    refine AOps.call (o_call (hR) Tryd.call10 rfl rfl) ?_
    refine AOps.call (o_move _ rfl rfl) ?_
    refine AOps.call (o_extract _ rfl rfl rfl rfl) ?_
    refine AOps.call (o_extract _ rfl rfl rfl rfl) ?_
    refine AOps.call (o_extract _ rfl rfl rfl rfl) ?_
    refine AOps.call (o_alloc ze27 rfl rfl) ?_
    refine AOps.cons (o_store _ _ rfl rfl Tryd.sizeOf27 rfl rfl rfl rfl rfl) ?_
    refine AOps.call (o_assign _ rfl rfl) ?_
    refine AOps.call (o_assign _ rfl rfl) ?_
    refine AOps.nil ?_
    refine AWP.seq ?_
    refine AWP.seq ?_
    refine AWP.region ?_
    refine AOps.call (o_move _ rfl rfl) ?_
    refine AOps.call (o_bin _ _ rfl rfl (fun _ => rfl) rfl) ?_
    refine AOps.call (o_move _ rfl rfl) ?_
    refine AOps.split rfl rfl rfl (fun h21 => ?_) (fun h21 => ?_)
    · skip
      exfalso
      simp at h21
      exact hne h21
    · skip
      refine AOps.pass rfl rfl rfl h21 rfl ?_
      refine AOps.pass rfl rfl rfl h21 rfl ?_
      refine AOps.call (o_pickT _ _ _ rfl h21 rfl rfl) ?_
      refine AOps.nil ?_
      refine AWP.condT rfl ?_
      refine AWP.seq ?_
      refine AWP.region ?_
      refine AOps.call (o_move _ rfl rfl) ?_
      refine AOps.call (o_move _ rfl rfl) ?_
      refine AOps.call (o_bin _ _ rfl rfl (fun _ => rfl) rfl) ?_
      refine AOps.call (o_move _ rfl rfl) ?_
      refine AOps.split rfl rfl rfl (fun h23 => ?_) (fun h23 => ?_)
      · skip
        refine AOps.go rfl rfl rfl h23 (o_move _ rfl rfl) ?_
        refine AOps.go rfl rfl rfl h23 (o_un _ rfl (fun _ => rfl) rfl) ?_
        refine AOps.call (o_pickT _ _ _ rfl h23 rfl rfl) ?_
        refine AOps.call (o_move _ rfl rfl) ?_
        refine AOps.split rfl rfl rfl (fun h25 => ?_) (fun h25 => ?_)
        · skip
          refine AOps.go rfl rfl rfl h25 (o_move _ rfl rfl) ?_
          refine AOps.go rfl rfl rfl h25 (o_un _ rfl (fun _ => rfl) rfl) ?_
          refine AOps.call (o_pickT _ _ _ rfl h25 rfl rfl) ?_
          refine AOps.call (o_assign _ rfl rfl) ?_
          refine AOps.nil ?_
          refine AWP.ret ?_
          first
          | exact postQ.ret1 Tryd.results3 rfl rfl
          | (refine postQ.ret1 Tryd.results3 rfl ?_; simp [AV.close, AV.close.closeL, B, I]; done)
          | (refine postQ.ret1 Tryd.results3 rfl ?_; simp [AV.close, AV.close.closeL, B, I]; omega)
          | (refine postQ.ret1 Tryd.results3 rfl ?_; simp_all [AV.close, AV.close.closeL, B, I]; done)
          | (refine postQ.ret1 Tryd.results3 rfl ?_; simp_all [AV.close, AV.close.closeL, B, I]; omega)
        · skip
          refine AOps.pass rfl rfl rfl h25 rfl ?_
          refine AOps.pass rfl rfl rfl h25 rfl ?_
          refine AOps.call (o_pickF _ _ _ rfl h25 rfl rfl) ?_
          refine AOps.call (o_assign _ rfl rfl) ?_
          refine AOps.nil ?_
          refine AWP.ret ?_
          first
          | exact postQ.ret1 Tryd.results3 rfl rfl
          | (refine postQ.ret1 Tryd.results3 rfl ?_; simp [AV.close, AV.close.closeL, B, I]; done)
          | (refine postQ.ret1 Tryd.results3 rfl ?_; simp [AV.close, AV.close.closeL, B, I]; omega)
          | (refine postQ.ret1 Tryd.results3 rfl ?_; simp_all [AV.close, AV.close.closeL, B, I]; done)
          | (refine postQ.ret1 Tryd.results3 rfl ?_; simp_all [AV.close, AV.close.closeL, B, I]; omega)
      · skip
        refine AOps.pass rfl rfl rfl h23 rfl ?_
        refine AOps.pass rfl rfl rfl h23 rfl ?_
        refine AOps.call (o_pickF _ _ _ rfl h23 rfl rfl) ?_
        refine AOps.call (o_move _ rfl rfl) ?_
        refine AOps.pass rfl rfl rfl rfl rfl ?_
        refine AOps.pass rfl rfl rfl rfl rfl ?_
        refine AOps.call (o_pickF _ _ _ rfl rfl rfl rfl) ?_
        refine AOps.call (o_assign _ rfl rfl) ?_
        refine AOps.nil ?_
        refine AWP.ret ?_
        first
        | exact postQ.ret1 Tryd.results3 rfl rfl
        | (refine postQ.ret1 Tryd.results3 rfl ?_; simp [AV.close, AV.close.closeL, B, I]; done)
        | (refine postQ.ret1 Tryd.results3 rfl ?_; simp [AV.close, AV.close.closeL, B, I]; omega)
        | (refine postQ.ret1 Tryd.results3 rfl ?_; simp_all [AV.close, AV.close.closeL, B, I]; done)
        | (refine postQ.ret1 Tryd.results3 rfl ?_; simp_all [AV.close, AV.close.closeL, B, I]; omega)

set_option maxHeartbeats 4000000 in
set_option maxRecDepth 20000 in
theorem PillowPairs_b (p : Plw) (w : List Sp) (l : List Int) (hw1 : w.length ≤ 9223372036854775807) (hl1 : l.length ≤ 9223372036854775807) (x y : Int) (h0 : rcE p w l = 0) (ha : aliveP p w l) : FSpecG Tryd.prog TAB 3 [.agg (eP p), .sl (sps w), .sl (ints l), .agg [I x, I y]] (B true) (none) := by
  refine FSpecG.of_body tab_stable Tryd.func3 rfl (leB rfl) fun w0 M0 hG => ?_
  have hA := Alive_s p w l hw1 hl1
  rw [decide_eq_true ⟨h0, ha⟩, h0] at hA
  have hrn : refuteP p w l = none := by
    obtain ⟨h1, h2, h3, h4⟩ := rcE_0.1 h0
    exact (refute_none (okP_iff.1 h1) h2).2 ha
  have hR := Refute_s p w l hw1 hl1
  rw [if_pos h0, decide_eq_true h0, hrn, h0] at hR
  have hK := CheckRefute_s p w l hw1 hl1 x y
  rw [h0] at hK
  unfold crE at hK
  rw [if_pos rfl, if_neg (against_no h0 ha x y)] at hK
  refine AWP.seq ?_
  refine AWP.region ?_
  refine AOps.call (o_box _ rfl rfl rfl) ?_
  refine AOps.call (o_box _ rfl rfl rfl) ?_
  refine AOps.call (o_assign _ rfl rfl) ?_
  refine AOps.nil ?_
  refine AWP.seq ?_
  refine AWP.seq ?_
  refine AWP.region ?_
  refine AOps.call (o_callG (sane_s) hG Tryd.call8 rfl rfl) ?_
  refine AOps.call (o_un _ rfl (fun _ => rfl) rfl) ?_
  refine AOps.nil ?_
  refine AWP.cond _ rfl (fun h5 => ?_) (fun h5 => ?_)
  · skip
    exfalso
    simp at h5
  · skip
    refine AWP.skip ?_
    refine AWP.seq ?_
    refine AWP.region ?_
    refine AOps.call (o_loadRef _ rfl rfl Tryd.sizeOf24 Tryd.isAgg24 rfl rfl rfl) ?_
    refine AOps.call (o_move _ rfl rfl) ?_
    refine AOps.call (o_move _ rfl rfl) ?_
    refine AOps.call (o_call (hA) Tryd.call9 rfl rfl) ?_
    refine AOps.call (o_move _ rfl rfl) ?_
    refine AOps.call (o_extract _ rfl rfl rfl rfl) ?_
    refine AOps.call (o_extract _ rfl rfl rfl rfl) ?_
    refine AOps.call (o_assign _ rfl rfl) ?_
    refine AOps.call (o_assign _ rfl rfl) ?_
    refine AOps.nil ?_
    refine AWP.seq ?_
    refine AWP.region ?_
    refine AOps.call (o_loadRef _ rfl rfl Tryd.sizeOf24 Tryd.isAgg24 rfl rfl rfl) ?_
    refine AOps.call (o_move _ rfl rfl) ?_
    refine AOps.call (o_move _ rfl rfl) ?_
    refine AOps.call (o_call (hR) Tryd.call10 rfl rfl) ?_
    refine AOps.call (o_move _ rfl rfl) ?_
    refine AOps.call (o_extract _ rfl rfl rfl rfl) ?_
    refine AOps.call (o_extract _ rfl rfl rfl rfl) ?_
    refine AOps.call (o_extract _ rfl rfl rfl rfl) ?_
    refine AOps.call (o_alloc ze27 rfl rfl) ?_
    refine AOps.cons (o_store _ _ rfl rfl Tryd.sizeOf27 rfl rfl rfl rfl rfl) ?_
    refine AOps.call (o_assign _ rfl rfl) ?_
    refine AOps.call (o_assign _ rfl rfl) ?_
    refine AOps.nil ?_
    refine AWP.seq ?_
    refine AWP.seq ?_
    refine AWP.region ?_
    refine AOps.call (o_move _ rfl rfl) ?_
    refine AOps.call (o_bin _ _ rfl rfl (fun _ => rfl) rfl) ?_
    refine AOps.call (o_move _ rfl rfl) ?_
    refine AOps.split rfl rfl rfl (fun h21 => ?_) (fun h21 => ?_)
    · skip
      refine AOps.go rfl rfl rfl h21 (o_move _ rfl rfl) ?_
      refine AOps.go rfl rfl rfl h21 (o_bin _ _ rfl rfl (fun _ => rfl) rfl) ?_
      refine AOps.call (o_pickF _ _ _ rfl h21 rfl rfl) ?_
      refine AOps.nil ?_
      refine AWP.cond _ rfl (fun h23 => ?_) (fun h23 => ?_)
      · skip
        exfalso
        exact absurd h23 (by decide)
      · skip
        refine AWP.skip ?_
        refine AWP.seq ?_
        refine AWP.seq ?_
        refine AWP.region ?_
        refine AOps.call (o_move _ rfl rfl) ?_
        refine AOps.call (o_move _ rfl rfl) ?_
        refine AOps.call (o_bin _ _ rfl rfl (fun _ => rfl) rfl) ?_
        refine AOps.nil ?_
        refine AWP.cond _ rfl (fun h25 => ?_) (fun h25 => ?_)
        · skip
          exfalso
          exact absurd h25 (by decide)
        · skip
          refine AWP.skip ?_
          refine AWP.seq ?_
          refine AWP.seq ?_
          refine AWP.region ?_
          refine AOps.call (o_move _ rfl rfl) ?_
          refine AOps.nil ?_
          refine AWP.cond _ rfl (fun h26 => ?_) (fun h26 => ?_)
          · skip
            exfalso
            exact absurd h26 (by decide)
          · skip
            refine AWP.skip ?_
            refine AWP.seq ?_
            refine AWP.region ?_
            refine AOps.call (o_loadRef _ rfl rfl Tryd.sizeOf24 Tryd.isAgg24 rfl rfl rfl) ?_
            refine AOps.call (o_move _ rfl rfl) ?_
            refine AOps.call (o_move _ rfl rfl) ?_
            refine AOps.call (o_loadRef _ rfl rfl Tryd.sizeOf27 Tryd.isAgg27 rfl rfl rfl) ?_
            refine AOps.call (o_call (hK) Tryd.call11 rfl rfl) ?_
            refine AOps.call (o_bin _ _ rfl rfl (fun _ => rfl) rfl) ?_
            refine AOps.call (o_assign _ rfl rfl) ?_
            refine AOps.nil ?_
            refine AWP.ret ?_
            first
            | exact postQ.ret1 Tryd.results3 rfl rfl
            | (refine postQ.ret1 Tryd.results3 rfl ?_; simp [AV.close, AV.close.closeL, B, I]; done)
            | (refine postQ.ret1 Tryd.results3 rfl ?_; simp [AV.close, AV.close.closeL, B, I]; omega)
            | (refine postQ.ret1 Tryd.results3 rfl ?_; simp_all [AV.close, AV.close.closeL, B, I]; done)
            | (refine postQ.ret1 Tryd.results3 rfl ?_; simp_all [AV.close, AV.close.closeL, B, I]; omega)
    · skip
      exfalso
      exact absurd h21 (by decide)

set_option maxHeartbeats 4000000 in
set_option maxRecDepth 20000 in
theorem PillowPairs_c (p : Plw) (w : List Sp) (l : List Int) (hw1 : w.length ≤ 9223372036854775807) (hl1 : l.length ≤ 9223372036854775807) (x y : Int) (h0 : rcE p w l = 0) (ha : ¬ aliveP p w l) : FSpecG Tryd.prog TAB 3 [.agg (eP p), .sl (sps w), .sl (ints l), .agg [I x, I y]] (B true) (none) := by
  refine FSpecG.of_body tab_stable Tryd.func3 rfl (leB rfl) fun w0 M0 hG => ?_
  obtain ⟨i, k, hrs, hok⟩ := against_yes h0 ha
  have hA := Alive_s p w l hw1 hl1
  rw [decide_eq_false (fun h => ha h.2), h0] at hA
  have hR := Refute_s p w l hw1 hl1
  rw [if_pos h0, decide_eq_true h0, hrs, h0] at hR
  have hK := CheckRefute_s p w l hw1 hl1 i k
  rw [h0] at hK
  unfold crE at hK
  rw [if_pos rfl, if_pos hok] at hK
  refine AWP.seq ?_
  refine AWP.region ?_
  refine AOps.call (o_box _ rfl rfl rfl) ?_
  refine AOps.call (o_box _ rfl rfl rfl) ?_
  refine AOps.call (o_assign _ rfl rfl) ?_
  refine AOps.nil ?_
  refine AWP.seq ?_
  refine AWP.seq ?_
  refine AWP.region ?_
  refine AOps.call (o_callG (sane_s) hG Tryd.call8 rfl rfl) ?_
  refine AOps.call (o_un _ rfl (fun _ => rfl) rfl) ?_
  refine AOps.nil ?_
  refine AWP.cond _ rfl (fun h5 => ?_) (fun h5 => ?_)
  · skip
    exfalso
    simp at h5
  · skip
    refine AWP.skip ?_
    refine AWP.seq ?_
    refine AWP.region ?_
    refine AOps.call (o_loadRef _ rfl rfl Tryd.sizeOf24 Tryd.isAgg24 rfl rfl rfl) ?_
    refine AOps.call (o_move _ rfl rfl) ?_
    refine AOps.call (o_move _ rfl rfl) ?_
    refine AOps.call (o_call (hA) Tryd.call9 rfl rfl) ?_
    refine AOps.call (o_move _ rfl rfl) ?_
    refine AOps.call (o_extract _ rfl rfl rfl rfl) ?_
    refine AOps.call (o_extract _ rfl rfl rfl rfl) ?_
    refine AOps.call (o_assign _ rfl rfl) ?_
    refine AOps.call (o_assign _ rfl rfl) ?_
    refine AOps.nil ?_
    refine AWP.seq ?_
    refine AWP.region ?_
    refine AOps.call (o_loadRef _ rfl rfl Tryd.sizeOf24 Tryd.isAgg24 rfl rfl rfl) ?_
    refine AOps.call (o_move _ rfl rfl) ?_
    refine AOps.call (o_move _ rfl rfl) ?_
    refine AOps.call (o_call (hR) Tryd.call10 rfl rfl) ?_
    refine AOps.call (o_move _ rfl rfl) ?_
    refine AOps.call (o_extract _ rfl rfl rfl rfl) ?_
    refine AOps.call (o_extract _ rfl rfl rfl rfl) ?_
    refine AOps.call (o_extract _ rfl rfl rfl rfl) ?_
    refine AOps.call (o_alloc ze27 rfl rfl) ?_
    refine AOps.cons (o_store _ _ rfl rfl Tryd.sizeOf27 rfl rfl rfl rfl rfl) ?_
    refine AOps.call (o_assign _ rfl rfl) ?_
    refine AOps.call (o_assign _ rfl rfl) ?_
    refine AOps.nil ?_
    refine AWP.seq ?_
    refine AWP.seq ?_
    refine AWP.region ?_
    refine AOps.call (o_move _ rfl rfl) ?_
    refine AOps.call (o_bin _ _ rfl rfl (fun _ => rfl) rfl) ?_
    refine AOps.call (o_move _ rfl rfl) ?_
    refine AOps.split rfl rfl rfl (fun h21 => ?_) (fun h21 => ?_)
    · skip
      refine AOps.go rfl rfl rfl h21 (o_move _ rfl rfl) ?_
      refine AOps.go rfl rfl rfl h21 (o_bin _ _ rfl rfl (fun _ => rfl) rfl) ?_
      refine AOps.call (o_pickF _ _ _ rfl h21 rfl rfl) ?_
      refine AOps.nil ?_
      refine AWP.cond _ rfl (fun h23 => ?_) (fun h23 => ?_)
      · skip
        exfalso
        exact absurd h23 (by decide)
      · skip
        refine AWP.skip ?_
        refine AWP.seq ?_
        refine AWP.seq ?_
        refine AWP.region ?_
        refine AOps.call (o_move _ rfl rfl) ?_
        refine AOps.call (o_move _ rfl rfl) ?_
        refine AOps.call (o_bin _ _ rfl rfl (fun _ => rfl) rfl) ?_
        refine AOps.nil ?_
        refine AWP.cond _ rfl (fun h25 => ?_) (fun h25 => ?_)
        · skip
          exfalso
          simp at h25
        · skip
          refine AWP.skip ?_
          refine AWP.seq ?_
          refine AWP.seq ?_
          refine AWP.region ?_
          refine AOps.call (o_move _ rfl rfl) ?_
          refine AOps.nil ?_
          refine AWP.cond _ rfl (fun h26 => ?_) (fun h26 => ?_)
          · skip
            refine AWP.seq ?_
            refine AWP.region ?_
            refine AOps.call (o_loadRef _ rfl rfl Tryd.sizeOf24 Tryd.isAgg24 rfl rfl rfl) ?_
            refine AOps.call (o_move _ rfl rfl) ?_
            refine AOps.call (o_move _ rfl rfl) ?_
            refine AOps.call (o_loadRef _ rfl rfl Tryd.sizeOf27 Tryd.isAgg27 rfl rfl rfl) ?_
            refine AOps.call (o_call (hK) Tryd.call11 rfl rfl) ?_
            refine AOps.call (o_bin _ _ rfl rfl (fun _ => rfl) rfl) ?_
            refine AOps.call (o_assign _ rfl rfl) ?_
            refine AOps.nil ?_
            refine AWP.ret ?_
            first
            | exact postQ.ret1 Tryd.results3 rfl rfl
            | (refine postQ.ret1 Tryd.results3 rfl ?_; simp [AV.close, AV.close.closeL, B, I]; done)
            | (refine postQ.ret1 Tryd.results3 rfl ?_; simp [AV.close, AV.close.closeL, B, I]; omega)
            | (refine postQ.ret1 Tryd.results3 rfl ?_; simp_all [AV.close, AV.close.closeL, B, I]; done)
            | (refine postQ.ret1 Tryd.results3 rfl ?_; simp_all [AV.close, AV.close.closeL, B, I]; omega)
          · skip
            exfalso
            simp at h26
    · skip
      exfalso
      exact absurd h21 (by decide)

theorem PillowPairs_s (p : Plw) (w : List Sp) (l : List Int) (hw1 : w.length ≤ 9223372036854775807) (hl1 : l.length ≤ 9223372036854775807) (x y : Int) : FSpecG Tryd.prog TAB 3 [.agg (eP p), .sl (sps w), .sl (ints l), .agg [I x, I y]] (B true) none := by
  by_cases h0 : rcE p w l = 0
  · by_cases ha : aliveP p w l
    · exact PillowPairs_b p w l hw1 hl1 x y h0 ha
    · exact PillowPairs_c p w l hw1 hl1 x y h0 ha
  · exact PillowPairs_a p w l hw1 hl1 x y h0

end Go.Proofs.YtelenedgaoglaaaDoor
