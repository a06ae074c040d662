/- R26. -/
import Derived.Test.YtelenedgaoglaaaDoorR25
import Derived.Test.YtelenedgaoglaaaDoorRA
import Derived.Test.YtelenedgaoglaaaDoorK2
set_option linter.unusedSimpArgs false
set_option linter.unusedVariables false
namespace Go.Proofs.YtelenedgaoglaaaDoor
open Go.Ab
open Go.Pil Go.RowKit

theorem sp_dec (a b : Sp) : (a.lo = b.lo ∧ a.hi = b.hi) ↔ a = b := by
  cases a; cases b; simp

set_option maxRecDepth 20000 in
theorem spans_s (a b : List Sp) (hl : a.length ≤ 1000000) : FSpec Tryd.prog 24 [.sl (sps a), .sl (sps b)] (B (decide (a = b))) (none) := by
  refine FSpec.of_body Tryd.func24 rfl (leB rfl) fun w0 M0 => ?_
  have hpl := sps_len a
  have hql := sps_len b
  refine AWP.seq ?_
  refine AWP.region ?_
  refine AOps.call (o_assign _ rfl rfl) ?_
  refine AOps.nil ?_
  refine AWP.seq ?_
  refine AWP.seq ?_
  refine AWP.region ?_
  refine AOps.call (o_move _ rfl rfl) ?_
  refine AOps.call (o_len _ Tryd.underlying25 rfl rfl) ?_
  refine AOps.call (o_move _ rfl rfl) ?_
  refine AOps.call (o_len _ Tryd.underlying25 rfl rfl) ?_
  refine AOps.call (o_bin _ _ rfl rfl (fun _ => rfl) rfl) ?_
  refine AOps.nil ?_
  refine AWP.cond _ rfl (fun h6 => ?_) (fun h6 => ?_)
  · skip
    have hne : ¬ a.length = b.length := by
      have hq : ¬(((sps a).length : Nat) : Int) = ((sps b).length : Nat) := by simpa using h6
      omega
    have hE : decide (a = b) = false := decide_eq_false fun h => hne (by rw [h])
    refine AWP.seq ?_
    refine AWP.region ?_
    refine AOps.call (o_assign _ rfl rfl) ?_
    refine AOps.nil ?_
    refine AWP.ret ?_
    refine postQ.ret1 Tryd.results24 rfl ?_
    rw [hE]
    rfl
  · skip
    have hlen : a.length = b.length := by
      have hq : (((sps a).length : Nat) : Int) = ((sps b).length : Nat) := by simpa using h6
      omega
    refine AWP.skip ?_
    refine AWP.seq ?_
    refine AWP.seq ?_
    refine AWP.region ?_
    refine AOps.call (o_assign _ rfl rfl) ?_
    refine AOps.nil ?_
    refine AWP.block ?_
    refine AWP.loop (ι := Nat) (fun i => AS.mk' 26 [(0, .sl (sps a)), (1, .sl (sps b)), (5, I i)] [] [] []) (fun i => i ≤ a.length ∧ a.take i = b.take i) (fun i => a.length - i) (0) (Weak.mk' rfl ⟨⟨.refl rfl, rfl⟩, ⟨⟨.refl rfl, rfl⟩, ⟨⟨.refl rfl, rfl⟩, trivial⟩⟩⟩ trivial trivial) (⟨Nat.zero_le _, rfl⟩) ?_
    rintro k ⟨hk, heq⟩
    try dsimp only at *
    refine AWP.seq ?_
    refine AWP.seq ?_
    refine AWP.region ?_
    refine AOps.call (o_move _ rfl rfl) ?_
    refine AOps.call (o_move _ rfl rfl) ?_
    refine AOps.call (o_len _ Tryd.underlying25 rfl rfl) ?_
    refine AOps.call (o_bin _ _ rfl rfl (fun _ => rfl) rfl) ?_
    refine AOps.nil ?_
    refine AWP.cond _ rfl (fun h11 => ?_) (fun h11 => ?_)
    · skip
      have hlt : k < a.length := by have hq := of_decide_eq_true h11; omega
      have hlt2 : k < b.length := by omega
      have hel := sps_at hlt
      have hel2 := sps_at hlt2
      refine AWP.skip ?_
      refine AWP.seq ?_
      refine AWP.block ?_
      refine AWP.seq ?_
      refine AWP.drawn 9 mixed (by kernel_rfl) ?_
      refine AHead.call (o_move _ rfl rfl) rfl ?_
      refine AHead.call (o_move _ rfl rfl) rfl ?_
      refine AHead.call (o_index _ _ Tryd.underlying25 Tryd.sizeOf45 rfl rfl (by omega) hel rfl rfl) rfl ?_
      refine AHead.call (o_loadRd _ rfl Tryd.sizeOf45 Tryd.isAgg45 rfl rfl rfl) rfl ?_
      refine AHead.call (o_move _ rfl rfl) rfl ?_
      refine AHead.call (o_move _ rfl rfl) rfl ?_
      refine AHead.call (o_index _ _ Tryd.underlying25 Tryd.sizeOf45 rfl rfl (by omega) hel2 rfl rfl) rfl ?_
      refine AHead.call (o_loadRd _ rfl Tryd.sizeOf45 Tryd.isAgg45 rfl rfl rfl) rfl ?_
      refine AHead.call (ok_bin _ _ rfl rfl (fun w => ne45 _ _ a[k].lo a[k].hi b[k].lo b[k].hi w) (okD rfl)) rfl ?_
      refine AHead.nil ?_
      refine AOps.nil ?_
      refine AWP.cond _ rfl (fun h19 => ?_) (fun h19 => ?_)
      · skip
        have hne : ¬ a[k] = b[k] := by
          intro h
          have h2 := (sp_dec _ _).2 h
          simp [h2.1, h2.2] at h19
        have hE : decide (a = b) = false := decide_eq_false fun h => hne (by subst h; rfl)
        refine AWP.seq ?_
        refine AWP.region ?_
        refine AOps.call (o_assign _ rfl rfl) ?_
        refine AOps.nil ?_
        refine AWP.ret ?_
        refine postQ.ret1 Tryd.results24 rfl ?_
        rw [hE]
        rfl
      · skip
        have hsame : a[k] = b[k] := by
          refine (sp_dec _ _).1 ?_
          simpa using h19
        refine AWP.skip ?_
        refine AWP.region ?_
        refine AOps.call (o_move _ rfl rfl) ?_
        refine AOps.call (o_add _ _ rfl rfl ⟨by (try dsimp only); omega, by (try dsimp only); omega⟩ rfl) ?_
        refine AOps.call (o_assign _ rfl rfl) ?_
        refine AOps.nil ?_
        refine ⟨k + 1, ?_, (Weak.mk' rfl ⟨⟨.refl rfl, rfl⟩, ⟨⟨.refl rfl, rfl⟩, ⟨⟨.refl rfl, rfl⟩, trivial⟩⟩⟩ trivial trivial)⟩
        exact ⟨⟨by omega, by rw [List.take_succ_eq_append_getElem hlt, List.take_succ_eq_append_getElem hlt2, heq, hsame]⟩, by omega⟩
    · skip
      have hkl : k = a.length := by have hq := of_decide_eq_false h11; omega
      have hE : decide (a = b) = true := decide_eq_true (by rw [hkl, List.take_length] at heq; rw [heq, hlen, List.take_length])
      refine AWP.exit ?_
      refine AWP.seq ?_
      refine AWP.region ?_
      refine AOps.call (o_assign _ rfl rfl) ?_
      refine AOps.nil ?_
      refine AWP.ret ?_
      refine postQ.ret1 Tryd.results24 rfl ?_
      rw [hE]
      rfl

set_option maxRecDepth 20000 in
theorem lists_s (a b : List (List Int)) (hl : a.length ≤ 1000000) (hm : ∀ l ∈ a, l.length ≤ 1000000) : FSpec Tryd.prog 25 [.sl (css a), .sl (css b)] (B (decide (a = b))) (none) := by
  refine FSpec.of_body Tryd.func25 rfl (leB rfl) fun w0 M0 => ?_
  have hpl := css_len a
  have hql := css_len b
  refine AWP.seq ?_
  refine AWP.region ?_
  refine AOps.call (o_assign _ rfl rfl) ?_
  refine AOps.nil ?_
  refine AWP.seq ?_
  refine AWP.seq ?_
  refine AWP.region ?_
  refine AOps.call (o_move _ rfl rfl) ?_
  refine AOps.call (o_len _ Tryd.underlying36 rfl rfl) ?_
  refine AOps.call (o_move _ rfl rfl) ?_
  refine AOps.call (o_len _ Tryd.underlying36 rfl rfl) ?_
  refine AOps.call (o_bin _ _ rfl rfl (fun _ => rfl) rfl) ?_
  refine AOps.nil ?_
  refine AWP.cond _ rfl (fun h6 => ?_) (fun h6 => ?_)
  · skip
    have hne : ¬ a.length = b.length := by
      have hq : ¬(((css a).length : Nat) : Int) = ((css b).length : Nat) := by simpa using h6
      omega
    have hE : decide (a = b) = false := decide_eq_false fun h => hne (by rw [h])
    refine AWP.seq ?_
    refine AWP.region ?_
    refine AOps.call (o_assign _ rfl rfl) ?_
    refine AOps.nil ?_
    refine AWP.ret ?_
    refine postQ.ret1 Tryd.results25 rfl ?_
    rw [hE]
    rfl
  · skip
    have hlen : a.length = b.length := by
      have hq : (((css a).length : Nat) : Int) = ((css b).length : Nat) := by simpa using h6
      omega
    refine AWP.skip ?_
    refine AWP.seq ?_
    refine AWP.seq ?_
    refine AWP.region ?_
    refine AOps.call (o_assign _ rfl rfl) ?_
    refine AOps.nil ?_
    refine AWP.block ?_
    refine AWP.loop (ι := Nat) (fun i => AS.mk' 27 [(0, .sl (css a)), (1, .sl (css b)), (5, I i)] [] [] []) (fun i => i ≤ a.length ∧ a.take i = b.take i) (fun i => a.length - i) (0) (Weak.mk' rfl ⟨⟨.refl rfl, rfl⟩, ⟨⟨.refl rfl, rfl⟩, ⟨⟨.refl rfl, rfl⟩, trivial⟩⟩⟩ trivial trivial) (⟨Nat.zero_le _, rfl⟩) ?_
    rintro k ⟨hk, heq⟩
    try dsimp only at *
    refine AWP.seq ?_
    refine AWP.seq ?_
    refine AWP.region ?_
    refine AOps.call (o_move _ rfl rfl) ?_
    refine AOps.call (o_move _ rfl rfl) ?_
    refine AOps.call (o_len _ Tryd.underlying36 rfl rfl) ?_
    refine AOps.call (o_bin _ _ rfl rfl (fun _ => rfl) rfl) ?_
    refine AOps.nil ?_
    refine AWP.cond _ rfl (fun h11 => ?_) (fun h11 => ?_)
    · skip
      have hlt : k < a.length := by have hq := of_decide_eq_true h11; omega
      have hlt2 : k < b.length := by omega
      have hel := css_at hlt
      have hel2 := css_at hlt2
      refine AWP.skip ?_
      refine AWP.seq ?_
      refine AWP.block ?_
      refine AWP.seq ?_
      refine AWP.drawn 10 mixed (by kernel_rfl) ?_
      refine AHead.call (o_move _ rfl rfl) rfl ?_
      refine AHead.call (o_move _ rfl rfl) rfl ?_
      refine AHead.call (o_index _ _ Tryd.underlying36 Tryd.sizeOf26 rfl rfl (by omega) hel rfl rfl) rfl ?_
      refine AHead.call (o_loadRd _ rfl Tryd.sizeOf26 Tryd.isAgg26 rfl rfl rfl) rfl ?_
      refine AHead.call (o_move _ rfl rfl) rfl ?_
      refine AHead.call (o_move _ rfl rfl) rfl ?_
      refine AHead.call (o_index _ _ Tryd.underlying36 Tryd.sizeOf26 rfl rfl (by omega) hel2 rfl rfl) rfl ?_
      refine AHead.call (o_loadRd _ rfl Tryd.sizeOf26 Tryd.isAgg26 rfl rfl rfl) rfl ?_
      refine AHead.call (o_call (ints_s a[k] b[k] (hm _ (List.getElem_mem hlt))) Tryd.call14 rfl rfl) rfl ?_
      refine AHead.call (o_un _ rfl (fun _ => rfl) rfl) rfl ?_
      refine AHead.nil ?_
      refine AOps.nil ?_
      refine AWP.cond _ rfl (fun h20 => ?_) (fun h20 => ?_)
      · skip
        have hne : ¬ a[k] = b[k] := by simpa using h20
        have hE : decide (a = b) = false := decide_eq_false fun h => hne (by subst h; rfl)
        refine AWP.seq ?_
        refine AWP.region ?_
        refine AOps.call (o_assign _ rfl rfl) ?_
        refine AOps.nil ?_
        refine AWP.ret ?_
        refine postQ.ret1 Tryd.results25 rfl ?_
        rw [hE]
        rfl
      · skip
        have hsame : a[k] = b[k] := by simpa using h20
        refine AWP.skip ?_
        refine AWP.region ?_
        refine AOps.call (o_move _ rfl rfl) ?_
        refine AOps.call (o_add _ _ rfl rfl ⟨by (try dsimp only); omega, by (try dsimp only); omega⟩ rfl) ?_
        refine AOps.call (o_assign _ rfl rfl) ?_
        refine AOps.nil ?_
        refine ⟨k + 1, ?_, (Weak.mk' rfl ⟨⟨.refl rfl, rfl⟩, ⟨⟨.refl rfl, rfl⟩, ⟨⟨.refl rfl, rfl⟩, trivial⟩⟩⟩ trivial trivial)⟩
        exact ⟨⟨by omega, by rw [List.take_succ_eq_append_getElem hlt, List.take_succ_eq_append_getElem hlt2, heq, hsame]⟩, by omega⟩
    · skip
      have hkl : k = a.length := by have hq := of_decide_eq_false h11; omega
      have hE : decide (a = b) = true := decide_eq_true (by rw [hkl, List.take_length] at heq; rw [heq, hlen, List.take_length])
      refine AWP.exit ?_
      refine AWP.seq ?_
      refine AWP.region ?_
      refine AOps.call (o_assign _ rfl rfl) ?_
      refine AOps.nil ?_
      refine AWP.ret ?_
      refine postQ.ret1 Tryd.results25 rfl ?_
      rw [hE]
      rfl

theorem less_take {a b : List Int} {k : Nat} (h : a.take k = b.take k) (ha : k < a.length) (hb : k < b.length) (hne : ¬ a[k] = b[k]) : lessB a b = decide (a[k] < b[k]) := by
  induction k generalizing a b with
  | zero =>
    match a, b, ha, hb with
    | x :: a, y :: b, _, _ => show (if x = y then lessB a b else decide (x < y)) = _; rw [if_neg (show ¬ x = y from hne)]; rfl
  | succ k ih =>
    match a, b, ha, hb with
    | x :: a, y :: b, ha, hb =>
      simp only [List.take_succ_cons, List.cons.injEq] at h
      show (if x = y then lessB a b else decide (x < y)) = _
      rw [if_pos h.1]
      exact ih h.2 (by simpa using ha) (by simpa using hb) hne
theorem less_end {a b : List Int} {k : Nat} (h : a.take k = b.take k) (ha : k ≤ a.length) (hb : k ≤ b.length) (he : k = a.length ∨ k = b.length) : lessB a b = decide (a.length < b.length) := by
  induction k generalizing a b with
  | zero =>
    cases a with
    | nil => cases b <;> simp [lessB]
    | cons x a =>
      cases b with
      | nil => simp [lessB]
      | cons y b => simp at he
  | succ k ih =>
    match a, b, ha, hb with
    | x :: a, y :: b, ha, hb =>
      simp only [List.take_succ_cons, List.cons.injEq] at h
      show (if x = y then lessB a b else decide (x < y)) = _
      rw [if_pos h.1, ih h.2 (by simpa using ha) (by simpa using hb) (by simpa using he)]
      simp

set_option maxRecDepth 20000 in
theorem less_s (a b : List Int) (hl : a.length ≤ 1000000) (hl2 : b.length ≤ 1000000) : FSpec Tryd.prog 13 [.sl (ints a), .sl (ints b)] (B (lessB a b)) (none) := by
  refine FSpec.of_body Tryd.func13 rfl (leB rfl) fun w0 M0 => ?_
  have hpl := ints_len a
  have hql := ints_len b
  refine AWP.seq ?_
  refine AWP.region ?_
  refine AOps.call (o_assign _ rfl rfl) ?_
  refine AOps.nil ?_
  refine AWP.seq ?_
  refine AWP.seq ?_
  refine AWP.region ?_
  refine AOps.call (o_assign _ rfl rfl) ?_
  refine AOps.nil ?_
  refine AWP.block ?_
  refine AWP.loop (ι := Nat) (fun i => AS.mk' 41 [(0, .sl (ints a)), (1, .sl (ints b)), (5, I i)] [] [] []) (fun i => i ≤ a.length ∧ i ≤ b.length ∧ a.take i = b.take i) (fun i => a.length - i) (0) (Weak.mk' rfl ⟨⟨.refl rfl, rfl⟩, ⟨⟨.refl rfl, rfl⟩, ⟨⟨.refl rfl, rfl⟩, trivial⟩⟩⟩ trivial trivial) (⟨Nat.zero_le _, Nat.zero_le _, rfl⟩) ?_
  rintro k ⟨hk, hk2, heq⟩
  try dsimp only at *
  refine AWP.seq ?_
  refine AWP.seq ?_
  refine AWP.region ?_
  refine AOps.call (o_move _ rfl rfl) ?_
  refine AOps.call (o_move _ rfl rfl) ?_
  refine AOps.call (o_len _ Tryd.underlying26 rfl rfl) ?_
  refine AOps.call (o_bin _ _ rfl rfl (fun _ => rfl) rfl) ?_
  refine AOps.call (o_move _ rfl rfl) ?_
  refine AOps.split rfl rfl rfl (fun h5 => ?_) (fun h5 => ?_)
  · skip
    have hlt : k < a.length := by have hq := of_decide_eq_true h5; omega
    have hel := ints_at hlt
    refine AOps.go rfl rfl rfl h5 (o_move _ rfl rfl) ?_
    refine AOps.go rfl rfl rfl h5 (o_move _ rfl rfl) ?_
    refine AOps.go rfl rfl rfl h5 (o_len _ Tryd.underlying26 rfl rfl) ?_
    refine AOps.go rfl rfl rfl h5 (o_bin _ _ rfl rfl (fun _ => rfl) rfl) ?_
    refine AOps.call (o_pickT _ _ _ rfl h5 rfl rfl) ?_
    refine AOps.nil ?_
    refine AWP.cond _ rfl (fun h9 => ?_) (fun h9 => ?_)
    · skip
      have hlt2 : k < b.length := by have hq := of_decide_eq_true h9; omega
      have hel2 := ints_at hlt2
      refine AWP.skip ?_
      refine AWP.seq ?_
      refine AWP.block ?_
      refine AWP.seq ?_
      refine AWP.drawn 9 mixed (by kernel_rfl) ?_
      refine AHead.call (o_move _ rfl rfl) rfl ?_
      refine AHead.call (o_move _ rfl rfl) rfl ?_
      refine AHead.call (o_index _ _ Tryd.underlying26 Tryd.sizeOf3 rfl rfl (by omega) hel rfl rfl) rfl ?_
      refine AHead.call (o_loadRd _ rfl Tryd.sizeOf3 Tryd.isAgg3 rfl rfl rfl) rfl ?_
      refine AHead.call (o_move _ rfl rfl) rfl ?_
      refine AHead.call (o_move _ rfl rfl) rfl ?_
      refine AHead.call (o_index _ _ Tryd.underlying26 Tryd.sizeOf3 rfl rfl (by omega) hel2 rfl rfl) rfl ?_
      refine AHead.call (o_loadRd _ rfl Tryd.sizeOf3 Tryd.isAgg3 rfl rfl rfl) rfl ?_
      refine AHead.call (o_bin _ _ rfl rfl (fun _ => rfl) rfl) rfl ?_
      refine AHead.nil ?_
      refine AOps.nil ?_
      refine AWP.cond _ rfl (fun h17 => ?_) (fun h17 => ?_)
      · skip
        have hne : ¬ a[k] = b[k] := by simpa using h17
        have hE := less_take heq hlt hlt2 hne
        refine AWP.seq ?_
        refine AWP.drawn 10 mixed (by kernel_rfl) ?_
        refine AHead.call (o_move _ rfl rfl) rfl ?_
        refine AHead.call (o_move _ rfl rfl) rfl ?_
        refine AHead.call (o_index _ _ Tryd.underlying26 Tryd.sizeOf3 rfl rfl (by omega) hel rfl rfl) rfl ?_
        refine AHead.call (o_loadRd _ rfl Tryd.sizeOf3 Tryd.isAgg3 rfl rfl rfl) rfl ?_
        refine AHead.call (o_move _ rfl rfl) rfl ?_
        refine AHead.call (o_move _ rfl rfl) rfl ?_
        refine AHead.call (o_index _ _ Tryd.underlying26 Tryd.sizeOf3 rfl rfl (by omega) hel2 rfl rfl) rfl ?_
        refine AHead.call (o_loadRd _ rfl Tryd.sizeOf3 Tryd.isAgg3 rfl rfl rfl) rfl ?_
        refine AHead.call (o_bin _ _ rfl rfl (fun _ => rfl) rfl) rfl ?_
        refine AHead.call (o_assign _ rfl rfl) rfl ?_
        refine AHead.nil ?_
        refine AOps.nil ?_
        refine AWP.ret ?_
        refine postQ.ret1 Tryd.results13 rfl ?_
        first
        | (rw [hE]; rfl)
        | (rw [hE, hpl, hql, show decide ((a.length : Int) < b.length) = decide (a.length < b.length) from by simp]; rfl)
      · skip
        have hsame : a[k] = b[k] := by simpa using h17
        refine AWP.skip ?_
        refine AWP.region ?_
        refine AOps.call (o_move _ rfl rfl) ?_
        refine AOps.call (o_add _ _ rfl rfl ⟨by (try dsimp only); omega, by (try dsimp only); omega⟩ rfl) ?_
        refine AOps.call (o_assign _ rfl rfl) ?_
        refine AOps.nil ?_
        refine ⟨k + 1, ?_, (Weak.mk' rfl ⟨⟨.refl rfl, rfl⟩, ⟨⟨.refl rfl, rfl⟩, ⟨⟨.refl rfl, rfl⟩, trivial⟩⟩⟩ trivial trivial)⟩
        exact ⟨⟨by omega, by omega, by rw [List.take_succ_eq_append_getElem hlt, List.take_succ_eq_append_getElem hlt2, heq, hsame]⟩, by omega⟩
    · skip
      have hkb : k = b.length := by have hq := of_decide_eq_false h9; omega
      have hE := less_end heq hk hk2 (.inr hkb)
      refine AWP.exit ?_
      refine AWP.seq ?_
      refine AWP.region ?_
      refine AOps.call (o_move _ rfl rfl) ?_
      refine AOps.call (o_len _ Tryd.underlying26 rfl rfl) ?_
      refine AOps.call (o_move _ rfl rfl) ?_
      refine AOps.call (o_len _ Tryd.underlying26 rfl rfl) ?_
      refine AOps.call (o_bin _ _ rfl rfl (fun _ => rfl) rfl) ?_
      refine AOps.call (o_assign _ rfl rfl) ?_
      refine AOps.nil ?_
      refine AWP.ret ?_
      refine postQ.ret1 Tryd.results13 rfl ?_
      first
      | (rw [hE]; rfl)
      | (rw [hE, hpl, hql, show decide ((a.length : Int) < b.length) = decide (a.length < b.length) from by simp]; rfl)
  · skip
    have hka : k = a.length := by have hq := of_decide_eq_false h5; omega
    have hE := less_end heq hk hk2 (.inl hka)
    refine AOps.pass rfl rfl rfl h5 rfl ?_
    refine AOps.pass rfl rfl rfl h5 rfl ?_
    refine AOps.pass rfl rfl rfl h5 rfl ?_
    refine AOps.pass rfl rfl rfl h5 rfl ?_
    refine AOps.call (o_pickF _ _ _ rfl h5 rfl rfl) ?_
    refine AOps.nil ?_
    refine AWP.condF rfl ?_
    refine AWP.exit ?_
    refine AWP.seq ?_
    refine AWP.region ?_
    refine AOps.call (o_move _ rfl rfl) ?_
    refine AOps.call (o_len _ Tryd.underlying26 rfl rfl) ?_
    refine AOps.call (o_move _ rfl rfl) ?_
    refine AOps.call (o_len _ Tryd.underlying26 rfl rfl) ?_
    refine AOps.call (o_bin _ _ rfl rfl (fun _ => rfl) rfl) ?_
    refine AOps.call (o_assign _ rfl rfl) ?_
    refine AOps.nil ?_
    refine AWP.ret ?_
    refine postQ.ret1 Tryd.results13 rfl ?_
    first
    | (rw [hE]; rfl)
    | (rw [hE, hpl, hql, show decide ((a.length : Int) < b.length) = decide (a.length < b.length) from by simp]; rfl)

end Go.Proofs.YtelenedgaoglaaaDoor
