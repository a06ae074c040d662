/- R26. -/
import Derived.Test.YtelenedgaoglaaaGreatDoorR25
import Derived.Test.YtelenedgaoglaaaGreatDoorRA
import Derived.Test.YtelenedgaoglaaaGreatDoorK2
set_option linter.unusedSimpArgs false
set_option linter.unusedVariables false
namespace Go.Proofs.YtelenedgaoglaaaGreatDoor
open Go.Ab
open Go.Pil Go.RowKit
theorem sp_dec (a b : Sp) : (a.lo = b.lo ∧ a.hi = b.hi) ↔ a = b := by
  cases a; cases b; simp
set_option maxRecDepth 20000 in
theorem spans_s (a b : List Sp) (hl : a.length ≤ 1000000) : FSpec Tryz.prog 30 [.sl (sps a), .sl (sps b)] (B (decide (a = b))) (none) := by
  refine FSpec.of_body Tryz.func30 rfl (leB rfl) fun w0 M0 => ?_
  have hpl := sps_len a
  have hql := sps_len b
  refine AWP.seq ?_
  refine AWP.region ?_
  refine AOps.call (o_assign _ rfl rfl) ?_
  refine AOps.nil ?_
  refine AWP.seq ?_
  refine AWP.seq ?_
  refine AWP.region ?_
  refine AOps.call (o_move _ rfl rfl) ?_
  refine AOps.call (o_len _ Tryz.underlying38 rfl rfl) ?_
  refine AOps.call (o_move _ rfl rfl) ?_
  refine AOps.call (o_len _ Tryz.underlying38 rfl rfl) ?_
  refine AOps.call (o_bin _ _ rfl rfl (fun _ => rfl) rfl) ?_
  refine AOps.nil ?_
  refine AWP.cond _ rfl (fun h6 => ?_) (fun h6 => ?_)
  · skip
    have hne : ¬ a.length = b.length := by
      have hq : ¬(((sps a).length : Nat) : Int) = ((sps b).length : Nat) := by simpa using h6
      omega
    have hE : decide (a = b) = false := decide_eq_false fun h => hne (by rw [h])
    refine AWP.seq ?_
    refine AWP.region ?_
    refine AOps.call (o_assign _ rfl rfl) ?_
    refine AOps.nil ?_
    refine AWP.ret ?_
    refine postQ.ret1 Tryz.results30 rfl ?_
    rw [hE]
    rfl
  · skip
    have hlen : a.length = b.length := by
      have hq : (((sps a).length : Nat) : Int) = ((sps b).length : Nat) := by simpa using h6
      omega
    refine AWP.skip ?_
    refine AWP.seq ?_
    refine AWP.seq ?_
    refine AWP.region ?_
    refine AOps.call (o_assign _ rfl rfl) ?_
    refine AOps.nil ?_
    refine AWP.block ?_
    refine AWP.loop (ι := Nat) (fun i => AS.mk' 26 [(0, .sl (sps a)), (1, .sl (sps b)), (5, I i)] [] [] []) (fun i => i ≤ a.length ∧ a.take i = b.take i) (fun i => a.length - i) (0) (Weak.mk' rfl ⟨⟨.refl rfl, rfl⟩, ⟨⟨.refl rfl, rfl⟩, ⟨⟨.refl rfl, rfl⟩, trivial⟩⟩⟩ trivial trivial) (⟨Nat.zero_le _, rfl⟩) ?_
    rintro k ⟨hk, heq⟩
    try dsimp only at *
    refine AWP.seq ?_
    refine AWP.seq ?_
    refine AWP.region ?_
    refine AOps.call (o_move _ rfl rfl) ?_
    refine AOps.call (o_move _ rfl rfl) ?_
    refine AOps.call (o_len _ Tryz.underlying38 rfl rfl) ?_
    refine AOps.call (o_bin _ _ rfl rfl (fun _ => rfl) rfl) ?_
    refine AOps.nil ?_
    refine AWP.cond _ rfl (fun h11 => ?_) (fun h11 => ?_)
    · skip
      have hlt : k < a.length := by have hq := of_decide_eq_true h11; omega
      have hlt2 : k < b.length := by omega
      have hel := sps_at hlt
      have hel2 := sps_at hlt2
      refine AWP.skip ?_
      refine AWP.seq ?_
      refine AWP.block ?_
      refine AWP.seq ?_
      refine AWP.drawn 9 mixed (by kernel_rfl) ?_
      refine AHead.call (o_move _ rfl rfl) rfl ?_
      refine AHead.call (o_move _ rfl rfl) rfl ?_
      refine AHead.call (o_index _ _ Tryz.underlying38 Tryz.sizeOf54 rfl rfl (by omega) hel rfl rfl) rfl ?_
      refine AHead.call (o_loadRd _ rfl Tryz.sizeOf54 Tryz.isAgg54 rfl rfl rfl) rfl ?_
      refine AHead.call (o_move _ rfl rfl) rfl ?_
      refine AHead.call (o_move _ rfl rfl) rfl ?_
      refine AHead.call (o_index _ _ Tryz.underlying38 Tryz.sizeOf54 rfl rfl (by omega) hel2 rfl rfl) rfl ?_
      refine AHead.call (o_loadRd _ rfl Tryz.sizeOf54 Tryz.isAgg54 rfl rfl rfl) rfl ?_
      refine AHead.call (ok_bin _ _ rfl rfl (fun w => ne45 _ _ a[k].lo a[k].hi b[k].lo b[k].hi w) (okD rfl)) rfl ?_
      refine AHead.nil ?_
      refine AOps.nil ?_
      refine AWP.cond _ rfl (fun h19 => ?_) (fun h19 => ?_)
      · skip
        have hne : ¬ a[k] = b[k] := by
          intro h
          have h2 := (sp_dec _ _).2 h
          simp [h2.1, h2.2] at h19
        have hE : decide (a = b) = false := decide_eq_false fun h => hne (by subst h; rfl)
        refine AWP.seq ?_
        refine AWP.region ?_
        refine AOps.call (o_assign _ rfl rfl) ?_
        refine AOps.nil ?_
        refine AWP.ret ?_
        refine postQ.ret1 Tryz.results30 rfl ?_
        rw [hE]
        rfl
      · skip
        have hsame : a[k] = b[k] := by
          refine (sp_dec _ _).1 ?_
          simpa using h19
        refine AWP.skip ?_
        refine AWP.region ?_
        refine AOps.call (o_move _ rfl rfl) ?_
        refine AOps.call (o_add _ _ rfl rfl ⟨by (try dsimp only); omega, by (try dsimp only); omega⟩ rfl) ?_
        refine AOps.call (o_assign _ rfl rfl) ?_
        refine AOps.nil ?_
        refine ⟨k + 1, ?_, (Weak.mk' rfl ⟨⟨.refl rfl, rfl⟩, ⟨⟨.refl rfl, rfl⟩, ⟨⟨.refl rfl, rfl⟩, trivial⟩⟩⟩ trivial trivial)⟩
        exact ⟨⟨by omega, by rw [List.take_succ_eq_append_getElem hlt, List.take_succ_eq_append_getElem hlt2, heq, hsame]⟩, by omega⟩
    · skip
      have hkl : k = a.length := by have hq := of_decide_eq_false h11; omega
      have hE : decide (a = b) = true := decide_eq_true (by rw [hkl, List.take_length] at heq; rw [heq, hlen, List.take_length])
      refine AWP.exit ?_
      refine AWP.seq ?_
      refine AWP.region ?_
      refine AOps.call (o_assign _ rfl rfl) ?_
      refine AOps.nil ?_
      refine AWP.ret ?_
      refine postQ.ret1 Tryz.results30 rfl ?_
      rw [hE]
      rfl
set_option maxRecDepth 20000 in
theorem lists_s (a b : List (List Int)) (hl : a.length ≤ 1000000) (hm : ∀ l ∈ a, l.length ≤ 1000000) : FSpec Tryz.prog 29 [.sl (css a), .sl (css b)] (B (decide (a = b))) (none) := by
  refine FSpec.of_body Tryz.func29 rfl (leB rfl) fun w0 M0 => ?_
  have hpl := css_len a
  have hql := css_len b
  refine AWP.seq ?_
  refine AWP.region ?_
  refine AOps.call (o_assign _ rfl rfl) ?_
  refine AOps.nil ?_
  refine AWP.seq ?_
  refine AWP.seq ?_
  refine AWP.region ?_
  refine AOps.call (o_move _ rfl rfl) ?_
  refine AOps.call (o_len _ Tryz.underlying40 rfl rfl) ?_
  refine AOps.call (o_move _ rfl rfl) ?_
  refine AOps.call (o_len _ Tryz.underlying40 rfl rfl) ?_
  refine AOps.call (o_bin _ _ rfl rfl (fun _ => rfl) rfl) ?_
  refine AOps.nil ?_
  refine AWP.cond _ rfl (fun h6 => ?_) (fun h6 => ?_)
  · skip
    have hne : ¬ a.length = b.length := by
      have hq : ¬(((css a).length : Nat) : Int) = ((css b).length : Nat) := by simpa using h6
      omega
    have hE : decide (a = b) = false := decide_eq_false fun h => hne (by rw [h])
    refine AWP.seq ?_
    refine AWP.region ?_
    refine AOps.call (o_assign _ rfl rfl) ?_
    refine AOps.nil ?_
    refine AWP.ret ?_
    refine postQ.ret1 Tryz.results29 rfl ?_
    rw [hE]
    rfl
  · skip
    have hlen : a.length = b.length := by
      have hq : (((css a).length : Nat) : Int) = ((css b).length : Nat) := by simpa using h6
      omega
    refine AWP.skip ?_
    refine AWP.seq ?_
    refine AWP.seq ?_
    refine AWP.region ?_
    refine AOps.call (o_assign _ rfl rfl) ?_
    refine AOps.nil ?_
    refine AWP.block ?_
    refine AWP.loop (ι := Nat) (fun i => AS.mk' 27 [(0, .sl (css a)), (1, .sl (css b)), (5, I i)] [] [] []) (fun i => i ≤ a.length ∧ a.take i = b.take i) (fun i => a.length - i) (0) (Weak.mk' rfl ⟨⟨.refl rfl, rfl⟩, ⟨⟨.refl rfl, rfl⟩, ⟨⟨.refl rfl, rfl⟩, trivial⟩⟩⟩ trivial trivial) (⟨Nat.zero_le _, rfl⟩) ?_
    rintro k ⟨hk, heq⟩
    try dsimp only at *
    refine AWP.seq ?_
    refine AWP.seq ?_
    refine AWP.region ?_
    refine AOps.call (o_move _ rfl rfl) ?_
    refine AOps.call (o_move _ rfl rfl) ?_
    refine AOps.call (o_len _ Tryz.underlying40 rfl rfl) ?_
    refine AOps.call (o_bin _ _ rfl rfl (fun _ => rfl) rfl) ?_
    refine AOps.nil ?_
    refine AWP.cond _ rfl (fun h11 => ?_) (fun h11 => ?_)
    · skip
      have hlt : k < a.length := by have hq := of_decide_eq_true h11; omega
      have hlt2 : k < b.length := by omega
      have hel := css_at hlt
      have hel2 := css_at hlt2
      refine AWP.skip ?_
      refine AWP.seq ?_
      refine AWP.block ?_
      refine AWP.seq ?_
      refine AWP.drawn 10 mixed (by kernel_rfl) ?_
      refine AHead.call (o_move _ rfl rfl) rfl ?_
      refine AHead.call (o_move _ rfl rfl) rfl ?_
      refine AHead.call (o_index _ _ Tryz.underlying40 Tryz.sizeOf25 rfl rfl (by omega) hel rfl rfl) rfl ?_
      refine AHead.call (o_loadRd _ rfl Tryz.sizeOf25 Tryz.isAgg25 rfl rfl rfl) rfl ?_
      refine AHead.call (o_move _ rfl rfl) rfl ?_
      refine AHead.call (o_move _ rfl rfl) rfl ?_
      refine AHead.call (o_index _ _ Tryz.underlying40 Tryz.sizeOf25 rfl rfl (by omega) hel2 rfl rfl) rfl ?_
      refine AHead.call (o_loadRd _ rfl Tryz.sizeOf25 Tryz.isAgg25 rfl rfl rfl) rfl ?_
      refine AHead.call (o_call (ints_s a[k] b[k] (hm _ (List.getElem_mem hlt))) Tryz.call49 rfl rfl) rfl ?_
      refine AHead.call (o_un _ rfl (fun _ => rfl) rfl) rfl ?_
      refine AHead.nil ?_
      refine AOps.nil ?_
      refine AWP.cond _ rfl (fun h20 => ?_) (fun h20 => ?_)
      · skip
        have hne : ¬ a[k] = b[k] := by simpa using h20
        have hE : decide (a = b) = false := decide_eq_false fun h => hne (by subst h; rfl)
        refine AWP.seq ?_
        refine AWP.region ?_
        refine AOps.call (o_assign _ rfl rfl) ?_
        refine AOps.nil ?_
        refine AWP.ret ?_
        refine postQ.ret1 Tryz.results29 rfl ?_
        rw [hE]
        rfl
      · skip
        have hsame : a[k] = b[k] := by simpa using h20
        refine AWP.skip ?_
        refine AWP.region ?_
        refine AOps.call (o_move _ rfl rfl) ?_
        refine AOps.call (o_add _ _ rfl rfl ⟨by (try dsimp only); omega, by (try dsimp only); omega⟩ rfl) ?_
        refine AOps.call (o_assign _ rfl rfl) ?_
        refine AOps.nil ?_
        refine ⟨k + 1, ?_, (Weak.mk' rfl ⟨⟨.refl rfl, rfl⟩, ⟨⟨.refl rfl, rfl⟩, ⟨⟨.refl rfl, rfl⟩, trivial⟩⟩⟩ trivial trivial)⟩
        exact ⟨⟨by omega, by rw [List.take_succ_eq_append_getElem hlt, List.take_succ_eq_append_getElem hlt2, heq, hsame]⟩, by omega⟩
    · skip
      have hkl : k = a.length := by have hq := of_decide_eq_false h11; omega
      have hE : decide (a = b) = true := decide_eq_true (by rw [hkl, List.take_length] at heq; rw [heq, hlen, List.take_length])
      refine AWP.exit ?_
      refine AWP.seq ?_
      refine AWP.region ?_
      refine AOps.call (o_assign _ rfl rfl) ?_
      refine AOps.nil ?_
      refine AWP.ret ?_
      refine postQ.ret1 Tryz.results29 rfl ?_
      rw [hE]
      rfl
end Go.Proofs.YtelenedgaoglaaaGreatDoor
