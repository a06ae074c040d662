/- Y6. -/
import Derived.Test.YtelenedgaoglaaaGreatDoorY5
import Derived.Test.YtelenedgaoglaaaGreatDoorR14
import Derived.Test.YtelenedgaoglaaaGreatDoorR27
set_option linter.unusedSimpArgs false
set_option linter.unusedVariables false
namespace Go.Proofs.YtelenedgaoglaaaGreatDoor
open Go.Ab
open Go.Pil Go.RowKit
set_option maxHeartbeats 4000000 in
set_option maxRecDepth 20000 in
theorem RefuteR_s (p : Plw) (w : List Sp) (l : List Int) (hw1 : w.length ≤ 9223372036854775807) (hl1 : l.length ≤ 9223372036854775807) : FSpec Tryz.prog 36 [.agg (eP p), .sl (sps w), .sl (ints l)] (.tup [refA (if rcE p w l = 0 then refuteP p w l else none), B (decide (rcE p w l = 0) && (refuteP p w l).isSome), I (rcE p w l)]) (none) := by
  refine FSpec.of_body Tryz.func36 rfl (leB rfl) fun w0 M0 => ?_
  have hil := ints_len l
  refine AWP.seq ?_
  refine AWP.region ?_
  refine AOps.call (o_box _ rfl rfl rfl) ?_
  refine AOps.call (o_alloc ze56 rfl rfl) ?_
  refine AOps.call (o_assign _ rfl rfl) ?_
  refine AOps.call (o_assign _ rfl rfl) ?_
  refine AOps.nil ?_
  refine AWP.seq ?_
  refine AWP.region ?_
  refine AOps.call (o_loadRef _ rfl rfl Tryz.sizeOf24 Tryz.isAgg24 rfl rfl rfl) ?_
  refine AOps.call (o_move _ rfl rfl) ?_
  refine AOps.call (o_move _ rfl rfl) ?_
  refine AOps.call (o_lit Tryz.underlying40 Tryz.sizeOf25 Tryz.zeroValue25 rfl rfl rfl rfl rfl rfl rfl) ?_
  refine AOps.call (o_call (asked1_s p w l hw1 hl1) Tryz.call67 rfl rfl) ?_
  refine AOps.call (o_assign _ rfl rfl) ?_
  refine AOps.nil ?_
  refine AWP.seq ?_
  refine AWP.seq ?_
  refine AWP.region ?_
  refine AOps.call (o_move _ rfl rfl) ?_
  refine AOps.call (o_bin _ _ rfl rfl (fun _ => rfl) rfl) ?_
  refine AOps.nil ?_
  refine AWP.cond _ rfl (fun h10 => ?_) (fun h10 => ?_)
  · skip
    have hne : rcE p w l ≠ 0 := by simpa using h10
    refine AWP.seq ?_
    refine AWP.region ?_
    refine AOps.call (o_build bu56 rfl rfl rfl) ?_
    refine AOps.call (o_move _ rfl rfl) ?_
    refine AOps.cons (o_store _ _ rfl rfl Tryz.sizeOf56 rfl rfl rfl rfl rfl) ?_
    refine AOps.call (o_assign _ rfl rfl) ?_
    refine AOps.call (o_assign _ rfl rfl) ?_
    refine AOps.nil ?_
    refine AWP.ret ?_
    refine postQ.retC2 Tryz.results36 rfl rfl Tryz.sizeOf56 Tryz.isAgg56 rfl rfl rfl ?_
    first
    | (rw [if_neg hne, decide_eq_false hne]; rfl)
    | (rw [if_pos hz, decide_eq_true hz, hsome, hz]; rfl)
    | (rw [if_pos hz, decide_eq_true hz, hnone, hz]; rfl)
  · skip
    have hz : rcE p w l = 0 := by simpa using h10
    obtain ⟨hp, hq, hll⟩ := rcE_hyp hz
    have h32 := hp.len
    refine AWP.skip ?_
    refine AWP.seq ?_
    refine AWP.seq ?_
    refine AWP.region ?_
    refine AOps.call (o_assign _ rfl rfl) ?_
    refine AOps.nil ?_
    refine AWP.block ?_
    refine AWP.loop (ι := Nat) (fun i => AS.mk' 45 [(1, .sl (sps w)), (2, .sl (ints l)), (3, .ref (3, 0) 0), (6, .ref (6, 0) 0), (10, I i)] [((3, 0), eP p), ((6, 0), [I 0, I 0])] [] [(3, 1), (6, 1)]) (fun i => i ≤ l.length ∧ ∀ a b, a < i → a < b → b < l.length → ¬ againstP p w l a b) (fun i => l.length - i) (0) (Weak.mk' rfl ⟨⟨.refl rfl, rfl⟩, ⟨⟨.refl rfl, rfl⟩, ⟨⟨.refl rfl, rfl⟩, ⟨⟨.refl rfl, rfl⟩, ⟨⟨.refl rfl, rfl⟩, trivial⟩⟩⟩⟩⟩ ⟨⟨rfl, rfl, rfl⟩, ⟨⟨rfl, rfl, rfl⟩, trivial⟩⟩ trivial) (⟨Nat.zero_le _, fun a b h => absurd h (Nat.not_lt_zero _)⟩) ?_
    rintro k ⟨hk, hno⟩
    try dsimp only at *
    refine AWP.seq ?_
    refine AWP.seq ?_
    refine AWP.region ?_
    refine AOps.call (o_move _ rfl rfl) ?_
    refine AOps.call (o_move _ rfl rfl) ?_
    refine AOps.call (o_len _ Tryz.underlying25 rfl rfl) ?_
    refine AOps.call (o_bin _ _ rfl rfl (fun _ => rfl) rfl) ?_
    refine AOps.nil ?_
    refine AWP.cond _ rfl (fun h16 => ?_) (fun h16 => ?_)
    · skip
      have hlt : k < l.length := by have := of_decide_eq_true h16; omega
      refine AWP.skip ?_
      refine AWP.seq ?_
      refine AWP.block ?_
      refine AWP.seq ?_
      refine AWP.region ?_
      refine AOps.call (o_move _ rfl rfl) ?_
      refine AOps.call (o_add _ _ rfl rfl ⟨by (try dsimp only); omega, by (try dsimp only); omega⟩ rfl) ?_
      refine AOps.call (o_assign _ rfl rfl) ?_
      refine AOps.nil ?_
      refine AWP.block ?_
      refine AWP.loop (ι := Nat) (fun i => AS.mk' 45 [(1, .sl (sps w)), (2, .sl (ints l)), (3, .ref (3, 0) 0), (6, .ref (6, 0) 0), (10, I k), (11, I i)] [((3, 0), eP p), ((6, 0), [I 0, I 0])] [] [(3, 1), (6, 1)]) (fun i => k < i ∧ i ≤ l.length ∧ ∀ b, k < b → b < i → ¬ againstP p w l k b) (fun i => l.length - i) (k + 1) (Weak.mk' rfl ⟨⟨.refl rfl, rfl⟩, ⟨⟨.refl rfl, rfl⟩, ⟨⟨.refl rfl, rfl⟩, ⟨⟨.refl rfl, rfl⟩, ⟨⟨.refl rfl, rfl⟩, ⟨⟨.refl (congrArg I (by (try dsimp only); omega)), rfl⟩, trivial⟩⟩⟩⟩⟩⟩ ⟨⟨rfl, rfl, rfl⟩, ⟨⟨rfl, rfl, rfl⟩, trivial⟩⟩ trivial) (⟨by omega, by omega, fun b h1 h2 => by omega⟩) ?_
      rintro m ⟨hm0, hm, hno2⟩
      try dsimp only at *
      refine AWP.seq ?_
      refine AWP.seq ?_
      refine AWP.region ?_
      refine AOps.call (o_move _ rfl rfl) ?_
      refine AOps.call (o_move _ rfl rfl) ?_
      refine AOps.call (o_len _ Tryz.underlying25 rfl rfl) ?_
      refine AOps.call (o_bin _ _ rfl rfl (fun _ => rfl) rfl) ?_
      refine AOps.nil ?_
      refine AWP.cond _ rfl (fun h21 => ?_) (fun h21 => ?_)
      · skip
        have hmt : m < l.length := by have := of_decide_eq_true h21; omega
        refine AWP.skip ?_
        refine AWP.seq ?_
        refine AWP.block ?_
        refine AWP.seq ?_
        refine AWP.region ?_
        refine AOps.call (o_loadRef _ rfl rfl Tryz.sizeOf24 Tryz.isAgg24 rfl rfl rfl) ?_
        refine AOps.call (o_move _ rfl rfl) ?_
        refine AOps.call (o_move _ rfl rfl) ?_
        refine AOps.call (o_move _ rfl rfl) ?_
        refine AOps.call (o_move _ rfl rfl) ?_
        refine AOps.call (o_call (against_s p w l hp hq hll k m hm0 hmt) Tryz.call75 rfl rfl) ?_
        refine AOps.nil ?_
        refine AWP.cond _ rfl (fun h26 => ?_) (fun h26 => ?_)
        · skip
          have hag : againstP p w l k m := of_decide_eq_true h26
          have hsome : refuteP p w l = some (k, m) := refute_first hm0 hmt hag fun a b h1 h2 h3 => by
            rcases h3 with h3 | ⟨h3, h4⟩
            · exact hno a b h3 h1 h2
            · have h5 : a = k := h3
              subst h5
              exact hno2 b h1 h4
          refine AWP.seq ?_
          refine AWP.region ?_
          refine AOps.call (o_move _ rfl rfl) ?_
          refine AOps.call (o_move _ rfl rfl) ?_
          refine AOps.call (o_build bu56 rfl rfl rfl) ?_
          refine AOps.cons (o_store _ _ rfl rfl Tryz.sizeOf56 rfl rfl rfl rfl rfl) ?_
          refine AOps.call (o_assign _ rfl rfl) ?_
          refine AOps.call (o_assign _ rfl rfl) ?_
          refine AOps.nil ?_
          refine AWP.ret ?_
          refine postQ.retC2 Tryz.results36 rfl rfl Tryz.sizeOf56 Tryz.isAgg56 rfl rfl rfl ?_
          first
          | (rw [if_neg hne, decide_eq_false hne]; rfl)
          | (rw [if_pos hz, decide_eq_true hz, hsome, hz]; rfl)
          | (rw [if_pos hz, decide_eq_true hz, hnone, hz]; rfl)
        · skip
          have hnk : ¬ againstP p w l k m := of_decide_eq_false h26
          refine AWP.skip ?_
          refine AWP.region ?_
          refine AOps.call (o_move _ rfl rfl) ?_
          refine AOps.call (o_add _ _ rfl rfl ⟨by (try dsimp only); omega, by (try dsimp only); omega⟩ rfl) ?_
          refine AOps.call (o_assign _ rfl rfl) ?_
          refine AOps.nil ?_
          refine ⟨m + 1, ?_, (Weak.mk' rfl ⟨⟨.refl rfl, rfl⟩, ⟨⟨.refl rfl, rfl⟩, ⟨⟨.refl rfl, rfl⟩, ⟨⟨.refl rfl, rfl⟩, ⟨⟨.refl rfl, rfl⟩, ⟨⟨.refl (congrArg I (by (try dsimp only); omega)), rfl⟩, trivial⟩⟩⟩⟩⟩⟩ ⟨⟨rfl, rfl, rfl⟩, ⟨⟨rfl, rfl, rfl⟩, trivial⟩⟩ trivial)⟩
          refine ⟨⟨by omega, by omega, fun b h1 h2 => ?_⟩, by omega⟩
          by_cases e : b = m
          · subst e; exact hnk
          · exact hno2 b h1 (by omega)
      · skip
        have hmm : m = l.length := by have := of_decide_eq_false h21; omega
        refine AWP.exit ?_
        refine AWP.region ?_
        refine AOps.call (o_move _ rfl rfl) ?_
        refine AOps.call (o_add _ _ rfl rfl ⟨by (try dsimp only); omega, by (try dsimp only); omega⟩ rfl) ?_
        refine AOps.call (o_assign _ rfl rfl) ?_
        refine AOps.nil ?_
        refine ⟨k + 1, ?_, (Weak.mk' rfl ⟨⟨.refl rfl, rfl⟩, ⟨⟨.refl rfl, rfl⟩, ⟨⟨.refl rfl, rfl⟩, ⟨⟨.refl rfl, rfl⟩, ⟨⟨.refl rfl, rfl⟩, trivial⟩⟩⟩⟩⟩ ⟨⟨rfl, rfl, rfl⟩, ⟨⟨rfl, rfl, rfl⟩, trivial⟩⟩ trivial)⟩
        exact ⟨⟨by omega, fun a b h1 h2 h3 => by
          by_cases e : a = k
          · subst e; exact hno2 b h2 (by omega) 
          · exact hno a b (by omega) h2 h3⟩, by omega⟩
    · skip
      have hnone : refuteP p w l = none := refute_none' fun a b h1 h2 => hno a b (by have := of_decide_eq_false h16; omega) h1 h2
      refine AWP.exit ?_
      refine AWP.seq ?_
      refine AWP.region ?_
      refine AOps.call (o_build bu56 rfl rfl rfl) ?_
      refine AOps.cons (o_store _ _ rfl rfl Tryz.sizeOf56 rfl rfl rfl rfl rfl) ?_
      refine AOps.call (o_assign _ rfl rfl) ?_
      refine AOps.call (o_assign _ rfl rfl) ?_
      refine AOps.nil ?_
      refine AWP.ret ?_
      refine postQ.retC2 Tryz.results36 rfl rfl Tryz.sizeOf56 Tryz.isAgg56 rfl rfl rfl ?_
      first
      | (rw [if_neg hne, decide_eq_false hne]; rfl)
      | (rw [if_pos hz, decide_eq_true hz, hsome, hz]; rfl)
      | (rw [if_pos hz, decide_eq_true hz, hnone, hz]; rfl)
set_option maxHeartbeats 4000000 in
set_option maxRecDepth 20000 in
theorem CheckRefuteR_s (p : Plw) (w : List Sp) (l : List Int) (hw1 : w.length ≤ 9223372036854775807) (hl1 : l.length ≤ 9223372036854775807) (x y : Int) : FSpec Tryz.prog 38 [.agg (eP p), .sl (sps w), .sl (ints l), .agg [I x, I y]] (I (crE p w l x y (rcE p w l))) (none) := by
  refine FSpec.of_body Tryz.func38 rfl (leB rfl) fun w0 M0 => ?_
  have hil := ints_len l
  refine AWP.seq ?_
  refine AWP.region ?_
  refine AOps.call (o_box _ rfl rfl rfl) ?_
  refine AOps.call (o_box _ rfl rfl rfl) ?_
  refine AOps.call (o_assign _ rfl rfl) ?_
  refine AOps.nil ?_
  refine AWP.seq ?_
  refine AWP.region ?_
  refine AOps.call (o_loadRef _ rfl rfl Tryz.sizeOf24 Tryz.isAgg24 rfl rfl rfl) ?_
  refine AOps.call (o_move _ rfl rfl) ?_
  refine AOps.call (o_move _ rfl rfl) ?_
  refine AOps.call (o_lit Tryz.underlying40 Tryz.sizeOf25 Tryz.zeroValue25 rfl rfl rfl rfl rfl rfl rfl) ?_
  refine AOps.call (o_call (asked1_s p w l hw1 hl1) Tryz.call67 rfl rfl) ?_
  refine AOps.call (o_assign _ rfl rfl) ?_
  refine AOps.nil ?_
  refine AWP.seq ?_
  refine AWP.seq ?_
  refine AWP.region ?_
  refine AOps.call (o_move _ rfl rfl) ?_
  refine AOps.call (o_bin _ _ rfl rfl (fun _ => rfl) rfl) ?_
  refine AOps.nil ?_
  refine AWP.cond _ rfl (fun h10 => ?_) (fun h10 => ?_)
  · skip
    have hne : rcE p w l ≠ 0 := by simpa using h10
    refine AWP.seq ?_
    refine AWP.region ?_
    refine AOps.call (o_move _ rfl rfl) ?_
    refine AOps.call (o_assign _ rfl rfl) ?_
    refine AOps.nil ?_
    refine AWP.ret ?_
    refine postQ.ret1 Tryz.results38 rfl ?_
    unfold crE
    first
    | (rw [if_neg hne]; rfl)
    | (rw [if_pos hz, if_neg hr]; rfl)
    | (rw [if_pos hz, if_pos hr]; rfl)
  · skip
    have hz : rcE p w l = 0 := by simpa using h10
    obtain ⟨hp, hq, hll⟩ := rcE_hyp hz
    have h32 := hp.len
    refine AWP.skip ?_
    refine AWP.seq ?_
    refine AWP.seq ?_
    refine AWP.region ?_
    refine AOps.call (ok_indexAddr_arr _ _ Tryz.underlying56 Tryz.sizeOf3 rfl rfl (by omega) (by omega) (okD rfl)) ?_
    refine AOps.call (o_loadRef _ rfl rfl Tryz.sizeOf3 Tryz.isAgg3 rfl rfl rfl) ?_
    refine AOps.call (o_bin _ _ rfl rfl (fun _ => rfl) rfl) ?_
    refine AOps.call (o_move _ rfl rfl) ?_
    refine AOps.split rfl rfl rfl (fun h14 => ?_) (fun h14 => ?_)
    · skip
      have hx0 : 0 ≤ x := by have := of_decide_eq_false h14; omega
      refine AOps.go rfl rfl rfl h14 (ok_indexAddr_arr _ _ Tryz.underlying56 Tryz.sizeOf3 rfl rfl (by omega) (by omega) (okD rfl)) ?_
      refine AOps.go rfl rfl rfl h14 (o_loadRef _ rfl rfl Tryz.sizeOf3 Tryz.isAgg3 rfl rfl rfl) ?_
      refine AOps.go rfl rfl rfl h14 (ok_indexAddr_arr _ _ Tryz.underlying56 Tryz.sizeOf3 rfl rfl (by omega) (by omega) (okD rfl)) ?_
      refine AOps.go rfl rfl rfl h14 (o_loadRef _ rfl rfl Tryz.sizeOf3 Tryz.isAgg3 rfl rfl rfl) ?_
      refine AOps.go rfl rfl rfl h14 (o_bin _ _ rfl rfl (fun _ => rfl) rfl) ?_
      refine AOps.call (o_pickF _ _ _ rfl h14 rfl rfl) ?_
      refine AOps.call (o_move _ rfl rfl) ?_
      refine AOps.split rfl rfl rfl (fun h20 => ?_) (fun h20 => ?_)
      · skip
        have hxy : x < y := by have := of_decide_eq_false h20; omega
        refine AOps.go rfl rfl rfl h20 (ok_indexAddr_arr _ _ Tryz.underlying56 Tryz.sizeOf3 rfl rfl (by omega) (by omega) (okD rfl)) ?_
        refine AOps.go rfl rfl rfl h20 (o_loadRef _ rfl rfl Tryz.sizeOf3 Tryz.isAgg3 rfl rfl rfl) ?_
        refine AOps.go rfl rfl rfl h20 (o_move _ rfl rfl) ?_
        refine AOps.go rfl rfl rfl h20 (o_len _ Tryz.underlying25 rfl rfl) ?_
        refine AOps.go rfl rfl rfl h20 (o_bin _ _ rfl rfl (fun _ => rfl) rfl) ?_
        refine AOps.call (o_pickF _ _ _ rfl h20 rfl rfl) ?_
        refine AOps.call (o_move _ rfl rfl) ?_
        refine AOps.split rfl rfl rfl (fun h26 => ?_) (fun h26 => ?_)
        · skip
          have hyl : y < l.length := by have := of_decide_eq_false h26; omega
          have hAG := against_s p w l hp hq hll x.toNat y.toNat (by omega) (by omega)
          rw [Int.toNat_of_nonneg hx0, Int.toNat_of_nonneg (by omega)] at hAG
          refine AOps.go rfl rfl rfl h26 (o_loadRef _ rfl rfl Tryz.sizeOf24 Tryz.isAgg24 rfl rfl rfl) ?_
          refine AOps.go rfl rfl rfl h26 (o_move _ rfl rfl) ?_
          refine AOps.go rfl rfl rfl h26 (o_move _ rfl rfl) ?_
          refine AOps.go rfl rfl rfl h26 (ok_indexAddr_arr _ _ Tryz.underlying56 Tryz.sizeOf3 rfl rfl (by omega) (by omega) (okD rfl)) ?_
          refine AOps.go rfl rfl rfl h26 (o_loadRef _ rfl rfl Tryz.sizeOf3 Tryz.isAgg3 rfl rfl rfl) ?_
          refine AOps.go rfl rfl rfl h26 (ok_indexAddr_arr _ _ Tryz.underlying56 Tryz.sizeOf3 rfl rfl (by omega) (by omega) (okD rfl)) ?_
          refine AOps.go rfl rfl rfl h26 (o_loadRef _ rfl rfl Tryz.sizeOf3 Tryz.isAgg3 rfl rfl rfl) ?_
          refine AOps.go rfl rfl rfl h26 (o_call hAG Tryz.call75 rfl rfl) ?_
          refine AOps.go rfl rfl rfl h26 (o_un _ rfl (fun _ => rfl) rfl) ?_
          refine AOps.call (o_pickF _ _ _ rfl h26 rfl rfl) ?_
          refine AOps.nil ?_
          refine AWP.cond _ rfl (fun h36 => ?_) (fun h36 => ?_)
          · skip
            have hr : ¬ refOk p w l x y := fun h => by
              have h1 := h.1; have h2 := h.2.1; have h3 := h.2.2.1; have h4 := h.2.2.2
              simp_all
              try omega
            refine AWP.seq ?_
            refine AWP.region ?_
            refine AOps.call (o_assign _ rfl rfl) ?_
            refine AOps.nil ?_
            refine AWP.ret ?_
            refine postQ.ret1 Tryz.results38 rfl ?_
            unfold crE
            first
            | (rw [if_neg hne]; rfl)
            | (rw [if_pos hz, if_neg hr]; rfl)
            | (rw [if_pos hz, if_pos hr]; rfl)
          · skip
            have hr : refOk p w l x y := by
              unfold refOk
              simp_all
            refine AWP.skip ?_
            refine AWP.seq ?_
            refine AWP.region ?_
            refine AOps.call (o_assign _ rfl rfl) ?_
            refine AOps.nil ?_
            refine AWP.ret ?_
            refine postQ.ret1 Tryz.results38 rfl ?_
            unfold crE
            first
            | (rw [if_neg hne]; rfl)
            | (rw [if_pos hz, if_neg hr]; rfl)
            | (rw [if_pos hz, if_pos hr]; rfl)
        · skip
          refine AOps.pass rfl rfl rfl h26 rfl ?_
          refine AOps.pass rfl rfl rfl h26 rfl ?_
          refine AOps.pass rfl rfl rfl h26 rfl ?_
          refine AOps.pass rfl rfl rfl h26 rfl ?_
          refine AOps.pass rfl rfl rfl h26 rfl ?_
          refine AOps.pass rfl rfl rfl h26 rfl ?_
          refine AOps.pass rfl rfl rfl h26 rfl ?_
          refine AOps.pass rfl rfl rfl h26 rfl ?_
          refine AOps.pass rfl rfl rfl h26 rfl ?_
          refine AOps.call (o_pickT _ _ _ rfl h26 rfl rfl) ?_
          refine AOps.nil ?_
          refine AWP.condT rfl ?_
          have hr : ¬ refOk p w l x y := fun h => by
            have h1 := h.1; have h2 := h.2.1; have h3 := h.2.2.1
            simp_all
            try omega
          refine AWP.seq ?_
          refine AWP.region ?_
          refine AOps.call (o_assign _ rfl rfl) ?_
          refine AOps.nil ?_
          refine AWP.ret ?_
          refine postQ.ret1 Tryz.results38 rfl ?_
          unfold crE
          first
          | (rw [if_neg hne]; rfl)
          | (rw [if_pos hz, if_neg hr]; rfl)
          | (rw [if_pos hz, if_pos hr]; rfl)
      · skip
        refine AOps.pass rfl rfl rfl h20 rfl ?_
        refine AOps.pass rfl rfl rfl h20 rfl ?_
        refine AOps.pass rfl rfl rfl h20 rfl ?_
        refine AOps.pass rfl rfl rfl h20 rfl ?_
        refine AOps.pass rfl rfl rfl h20 rfl ?_
        refine AOps.call (o_pickT _ _ _ rfl h20 rfl rfl) ?_
        refine AOps.call (o_move _ rfl rfl) ?_
        refine AOps.pass rfl rfl rfl rfl rfl ?_
        refine AOps.pass rfl rfl rfl rfl rfl ?_
        refine AOps.pass rfl rfl rfl rfl rfl ?_
        refine AOps.pass rfl rfl rfl rfl rfl ?_
        refine AOps.pass rfl rfl rfl rfl rfl ?_
        refine AOps.pass rfl rfl rfl rfl rfl ?_
        refine AOps.pass rfl rfl rfl rfl rfl ?_
        refine AOps.pass rfl rfl rfl rfl rfl ?_
        refine AOps.pass rfl rfl rfl rfl rfl ?_
        refine AOps.call (o_pickT _ _ _ rfl rfl rfl rfl) ?_
        refine AOps.nil ?_
        refine AWP.condT rfl ?_
        have hr : ¬ refOk p w l x y := fun h => by
          have h1 := h.1; have h2 := h.2.1; have h3 := h.2.2.1
          simp_all
          try omega
        refine AWP.seq ?_
        refine AWP.region ?_
        refine AOps.call (o_assign _ rfl rfl) ?_
        refine AOps.nil ?_
        refine AWP.ret ?_
        refine postQ.ret1 Tryz.results38 rfl ?_
        unfold crE
        first
        | (rw [if_neg hne]; rfl)
        | (rw [if_pos hz, if_neg hr]; rfl)
        | (rw [if_pos hz, if_pos hr]; rfl)
    · skip
      refine AOps.pass rfl rfl rfl h14 rfl ?_
      refine AOps.pass rfl rfl rfl h14 rfl ?_
      refine AOps.pass rfl rfl rfl h14 rfl ?_
      refine AOps.pass rfl rfl rfl h14 rfl ?_
      refine AOps.pass rfl rfl rfl h14 rfl ?_
      refine AOps.call (o_pickT _ _ _ rfl h14 rfl rfl) ?_
      refine AOps.call (o_move _ rfl rfl) ?_
      refine AOps.pass rfl rfl rfl rfl rfl ?_
      refine AOps.pass rfl rfl rfl rfl rfl ?_
      refine AOps.pass rfl rfl rfl rfl rfl ?_
      refine AOps.pass rfl rfl rfl rfl rfl ?_
      refine AOps.pass rfl rfl rfl rfl rfl ?_
      refine AOps.call (o_pickT _ _ _ rfl rfl rfl rfl) ?_
      refine AOps.call (o_move _ rfl rfl) ?_
      refine AOps.pass rfl rfl rfl rfl rfl ?_
      refine AOps.pass rfl rfl rfl rfl rfl ?_
      refine AOps.pass rfl rfl rfl rfl rfl ?_
      refine AOps.pass rfl rfl rfl rfl rfl ?_
      refine AOps.pass rfl rfl rfl rfl rfl ?_
      refine AOps.pass rfl rfl rfl rfl rfl ?_
      refine AOps.pass rfl rfl rfl rfl rfl ?_
      refine AOps.pass rfl rfl rfl rfl rfl ?_
      refine AOps.pass rfl rfl rfl rfl rfl ?_
      refine AOps.call (o_pickT _ _ _ rfl rfl rfl rfl) ?_
      refine AOps.nil ?_
      refine AWP.condT rfl ?_
      have hr : ¬ refOk p w l x y := fun h => by
        have h1 := h.1; have h2 := h.2.1; have h3 := h.2.2.1
        simp_all
        try omega
      refine AWP.seq ?_
      refine AWP.region ?_
      refine AOps.call (o_assign _ rfl rfl) ?_
      refine AOps.nil ?_
      refine AWP.ret ?_
      refine postQ.ret1 Tryz.results38 rfl ?_
      unfold crE
      first
      | (rw [if_neg hne]; rfl)
      | (rw [if_pos hz, if_neg hr]; rfl)
      | (rw [if_pos hz, if_pos hr]; rfl)
theorem refA_ex (x : Option (Nat × Nat)) : ∃ a b : Int, refA x = .agg [I a, I b] := by
  cases x with
  | none => exact ⟨0, 0, rfl⟩
  | some y => exact ⟨y.1, y.2, rfl⟩
set_option maxHeartbeats 4000000 in
set_option maxRecDepth 20000 in
theorem PillowRefutes_s (p : Plw) (w : List Sp) (l : List Int) (hw1 : w.length ≤ 9223372036854775807) (hl1 : l.length ≤ 9223372036854775807) (x y : Int) : FSpecG Tryz.prog TAB 6 [.agg (eP p), .sl (sps w), .sl (ints l), .agg [I x, I y]] (B true) (none) := by
  refine FSpecG.of_body tab_stable Tryz.func6 rfl (leB rfl) fun w0 M0 hG => ?_
  have hR := Refute_s p w l hw1 hl1
  have hR2 := RefuteR_s p w l hw1 hl1
  obtain ⟨ra, rb, hrab⟩ := refA_ex (if rcE p w l = 0 then refuteP p w l else none)
  rw [hrab] at hR hR2
  generalize (decide (rcE p w l = 0) && (refuteP p w l).isSome) = rz at hR hR2
  refine AWP.seq ?_
  refine AWP.region ?_
  refine AOps.call (o_box _ rfl rfl rfl) ?_
  refine AOps.call (o_box _ rfl rfl rfl) ?_
  refine AOps.call (o_assign _ rfl rfl) ?_
  refine AOps.nil ?_
  refine AWP.seq ?_
  refine AWP.seq ?_
  refine AWP.region ?_
  refine AOps.call (o_callG (sane_s) hG Tryz.call12 rfl rfl) ?_
  refine AOps.call (o_un _ rfl (fun _ => rfl) rfl) ?_
  refine AOps.nil ?_
  refine AWP.cond _ rfl (fun h5 => ?_) (fun h5 => ?_)
  · skip
    exfalso
    simp at h5
  · skip
    refine AWP.skip ?_
    refine AWP.seq ?_
    refine AWP.region ?_
    refine AOps.call (o_loadRef _ rfl rfl Tryz.sizeOf24 Tryz.isAgg24 rfl rfl rfl) ?_
    refine AOps.call (o_move _ rfl rfl) ?_
    refine AOps.call (o_move _ rfl rfl) ?_
    refine AOps.call (o_call (hR) Tryz.call35 rfl rfl) ?_
    refine AOps.call (o_move _ rfl rfl) ?_
    refine AOps.call (o_extract _ rfl rfl rfl rfl) ?_
    refine AOps.call (o_extract _ rfl rfl rfl rfl) ?_
    refine AOps.call (o_extract _ rfl rfl rfl rfl) ?_
    refine AOps.call (o_alloc ze56 rfl rfl) ?_
    refine AOps.cons (o_store _ _ rfl rfl Tryz.sizeOf56 rfl rfl rfl rfl rfl) ?_
    refine AOps.call (o_assign _ rfl rfl) ?_
    refine AOps.call (o_assign _ rfl rfl) ?_
    refine AOps.nil ?_
    refine AWP.seq ?_
    refine AWP.region ?_
    refine AOps.call (o_loadRef _ rfl rfl Tryz.sizeOf24 Tryz.isAgg24 rfl rfl rfl) ?_
    refine AOps.call (o_move _ rfl rfl) ?_
    refine AOps.call (o_move _ rfl rfl) ?_
    refine AOps.call (o_call (hR2) Tryz.call36 rfl rfl) ?_
    refine AOps.call (o_move _ rfl rfl) ?_
    refine AOps.call (o_extract _ rfl rfl rfl rfl) ?_
    refine AOps.call (o_extract _ rfl rfl rfl rfl) ?_
    refine AOps.call (o_extract _ rfl rfl rfl rfl) ?_
    refine AOps.call (o_alloc ze56 rfl rfl) ?_
    refine AOps.cons (o_store _ _ rfl rfl Tryz.sizeOf56 rfl rfl rfl rfl rfl) ?_
    refine AOps.call (o_assign _ rfl rfl) ?_
    refine AOps.call (o_assign _ rfl rfl) ?_
    refine AOps.nil ?_
    refine AWP.seq ?_
    refine AWP.drawn 27 mixed (by kernel_rfl) ?_
    refine AHead.call (o_loadRef _ rfl rfl Tryz.sizeOf56 Tryz.isAgg56 rfl rfl rfl) rfl ?_
    refine AHead.call (o_loadRef _ rfl rfl Tryz.sizeOf56 Tryz.isAgg56 rfl rfl rfl) rfl ?_
    refine AHead.call (o_bin _ _ rfl rfl (el27 _ _ ra rb ra rb) rfl) rfl ?_
    refine AHead.call (o_move _ rfl rfl) rfl ?_
    refine AHead.split rfl rfl rfl (fun h25 => ?_) (fun h25 => ?_)
    · skip
      refine AHead.go rfl rfl rfl h25 (o_move _ rfl rfl) rfl ?_
      refine AHead.go rfl rfl rfl h25 (o_move _ rfl rfl) rfl ?_
      refine AHead.go rfl rfl rfl h25 (o_bin _ _ rfl rfl (fun _ => rfl) rfl) rfl ?_
      refine AHead.call (o_pickT _ _ _ rfl h25 rfl rfl) rfl ?_
      refine AHead.call (o_move _ rfl rfl) rfl ?_
      refine AHead.split rfl rfl rfl (fun h27 => ?_) (fun h27 => ?_)
      · skip
        refine AHead.go rfl rfl rfl h27 (o_move _ rfl rfl) rfl ?_
        refine AHead.go rfl rfl rfl h27 (o_move _ rfl rfl) rfl ?_
        refine AHead.go rfl rfl rfl h27 (o_bin _ _ rfl rfl (fun _ => rfl) rfl) rfl ?_
        refine AHead.call (o_pickT _ _ _ rfl h27 rfl rfl) rfl ?_
        refine AHead.call (o_move _ rfl rfl) rfl ?_
        refine AHead.split rfl rfl rfl (fun h29 => ?_) (fun h29 => ?_)
        · skip
          refine AHead.go rfl rfl rfl h29 (o_loadRef _ rfl rfl Tryz.sizeOf24 Tryz.isAgg24 rfl rfl rfl) rfl ?_
          refine AHead.go rfl rfl rfl h29 (o_move _ rfl rfl) rfl ?_
          refine AHead.go rfl rfl rfl h29 (o_move _ rfl rfl) rfl ?_
          refine AHead.go rfl rfl rfl h29 (o_loadRef _ rfl rfl Tryz.sizeOf56 Tryz.isAgg56 rfl rfl rfl) rfl ?_
          refine AHead.go rfl rfl rfl h29 (o_call (CheckRefute_s p w l hw1 hl1 x y) Tryz.call37 rfl rfl) rfl ?_
          refine AHead.go rfl rfl rfl h29 (o_loadRef _ rfl rfl Tryz.sizeOf24 Tryz.isAgg24 rfl rfl rfl) rfl ?_
          refine AHead.go rfl rfl rfl h29 (o_move _ rfl rfl) rfl ?_
          refine AHead.go rfl rfl rfl h29 (o_move _ rfl rfl) rfl ?_
          refine AHead.go rfl rfl rfl h29 (o_loadRef _ rfl rfl Tryz.sizeOf56 Tryz.isAgg56 rfl rfl rfl) rfl ?_
          refine AHead.go rfl rfl rfl h29 (o_call (CheckRefuteR_s p w l hw1 hl1 x y) Tryz.call38 rfl rfl) rfl ?_
          refine AHead.go rfl rfl rfl h29 (o_bin _ _ rfl rfl (fun _ => rfl) rfl) rfl ?_
          refine AHead.call (o_pickT _ _ _ rfl h29 rfl rfl) rfl ?_
          refine AHead.call (o_assign _ rfl rfl) rfl ?_
          refine AHead.nil ?_
          refine AOps.nil ?_
          refine AWP.ret ?_
          first
          | exact postQ.ret1 Tryz.results6 rfl rfl
          | (refine postQ.ret1 Tryz.results6 rfl ?_; simp [AV.close, AV.close.closeL, B, I]; done)
          | (refine postQ.ret1 Tryz.results6 rfl ?_; simp [AV.close, AV.close.closeL, B, I]; omega)
          | (refine postQ.ret1 Tryz.results6 rfl ?_; simp_all [AV.close, AV.close.closeL, B, I]; done)
          | (refine postQ.ret1 Tryz.results6 rfl ?_; simp_all [AV.close, AV.close.closeL, B, I]; omega)
        · skip
          exfalso
          simp at h29
      · skip
        exfalso
        simp at h27
    · skip
      exfalso
      simp at h25
end Go.Proofs.YtelenedgaoglaaaGreatDoor
