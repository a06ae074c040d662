import Derived.Test.YtphoomnonenalaaDoorC10
set_option linter.unusedSimpArgs false
set_option linter.unusedVariables false
namespace Go.Proofs.YtphoomnonenalaaDoor
open Go.Ab
def eqB : List Int → List Int → Bool
  | [], [] => true
  | x :: a, y :: b => decide (x = y) && eqB a b
  | _, _ => false
theorem eqB_at {a b : List Int} {k : Nat} (h : k < a.length) (h2 : k < b.length) : eqB (a.drop k) (b.drop k) = (decide (a[k] = b[k]) && eqB (a.drop (k + 1)) (b.drop (k + 1))) := by
  rw [List.drop_eq_getElem_cons h, List.drop_eq_getElem_cons h2]; rfl
theorem eqB_len : ∀ {a b : List Int}, a.length ≠ b.length → eqB a b = false := by
  intro a
  induction a with
  | nil => intro b h; cases b with
    | nil => exact absurd rfl h
    | cons => rfl
  | cons x a ih => intro b h; cases b with
    | nil => rfl
    | cons y b => simp only [eqB]; rw [ih (by simp at h; exact h), Bool.and_false]
def exS : Scl := ⟨0, 0, [⟨10, 10, 0, 0⟩]⟩
def exH : Sht := ⟨1, 2, 10, 11, 0, 10, 100, 10, [⟨300, 200, 1155, 40, 5⟩]⟩

set_option maxRecDepth 20000 in
theorem Equal_s (a b : List Int) (hl : a.length ≤ 1000000000000) : FSpec Tryd.prog 30 [.sl (ints a), .sl (ints b)] (B (eqB a b)) (none) := by
  refine FSpec.of_body Tryd.func30 rfl (leB rfl) fun w0 M0 => ?_
  refine AWP.seq ?_
  refine AWP.region ?_
  refine AOps.call (o_assign _ rfl rfl) ?_
  refine AOps.nil ?_
  refine AWP.seq ?_
  refine AWP.seq ?_
  refine AWP.region ?_
  refine AOps.call (o_move _ rfl rfl) ?_
  refine AOps.call (o_len _ Tryd.underlying45 rfl rfl) ?_
  refine AOps.call (o_move _ rfl rfl) ?_
  refine AOps.call (o_len _ Tryd.underlying45 rfl rfl) ?_
  refine AOps.call (o_bin _ _ rfl rfl (fun _ => rfl) rfl) ?_
  refine AOps.nil ?_
  refine AWP.cond _ rfl (fun h6 => ?_) (fun h6 => ?_)
  · skip
    have hne : eqB a b = false := eqB_len (by simp [ints_len] at h6; omega)
    refine AWP.seq ?_
    refine AWP.region ?_
    refine AOps.call (o_assign _ rfl rfl) ?_
    refine AOps.nil ?_
    refine AWP.ret ?_
    refine postQ.ret1 Tryd.results30 rfl ?_
    first
    | (rw [hne]; rfl)
    | (rw [hyes]; rfl)
  · skip
    have hlen : a.length = b.length := by simp [ints_len] at h6; omega
    refine AWP.skip ?_
    refine AWP.seq ?_
    refine AWP.seq ?_
    refine AWP.region ?_
    refine AOps.call (o_move _ rfl rfl) ?_
    refine AOps.call (o_len _ Tryd.underlying45 rfl rfl) ?_
    refine AOps.call (o_move _ rfl rfl) ?_
    refine AOps.nil ?_
    refine AWP.block ?_
    refine AWP.loop (ι := Nat) (fun i => AS.mk' 26 [(0, .sl (ints a)), (1, .sl (ints b)), (11, .sl (ints a)), (12, I (ints a).length), (13, I i)] [] [] []) (fun i => i ≤ a.length ∧ eqB a b = eqB (a.drop i) (b.drop i)) (fun i => a.length - i) (0) (Weak.mk' rfl ⟨⟨.refl rfl, rfl⟩, ⟨⟨.refl rfl, rfl⟩, ⟨⟨.refl rfl, rfl⟩, ⟨⟨.refl rfl, rfl⟩, ⟨⟨.refl rfl, rfl⟩, trivial⟩⟩⟩⟩⟩ trivial trivial) (⟨Nat.zero_le _, rfl⟩) ?_
    rintro k ⟨hk, hinv⟩
    try dsimp only at *
    refine AWP.seq ?_
    refine AWP.region ?_
    refine AOps.call (o_bin _ _ rfl rfl (fun _ => rfl) rfl) ?_
    refine AOps.nil ?_
    refine AWP.seq ?_
    refine AWP.cond _ rfl (fun h11 => ?_) (fun h11 => ?_)
    · skip
      have hlt : k < a.length := by simpa [ints] using h11
      have hel := ints_get hlt
      have hltb : k < b.length := by omega
      have helb := ints_get hltb
      refine AWP.skip ?_
      refine AWP.seq ?_
      refine AWP.block ?_
      refine AWP.seq ?_
      refine AWP.region ?_
      refine AOps.call (o_move _ rfl rfl) ?_
      refine AOps.call (o_assign _ rfl rfl) ?_
      refine AOps.nil ?_
      refine AWP.seq ?_
      refine AWP.drawn 9 mixed (by kernel_rfl) ?_
      refine AHead.call (o_move _ rfl rfl) rfl ?_
      refine AHead.call (o_move _ rfl rfl) rfl ?_
      refine AHead.call (o_index _ _ Tryd.underlying45 Tryd.sizeOf3 rfl rfl (by omega) (by assumption) rfl rfl) rfl ?_
      refine AHead.call (o_loadRd _ rfl Tryd.sizeOf3 Tryd.isAgg3 rfl rfl rfl) rfl ?_
      refine AHead.call (o_move _ rfl rfl) rfl ?_
      refine AHead.call (o_move _ rfl rfl) rfl ?_
      refine AHead.call (o_index _ _ Tryd.underlying45 Tryd.sizeOf3 rfl rfl (by omega) helb rfl rfl) rfl ?_
      refine AHead.call (o_loadRd _ rfl Tryd.sizeOf3 Tryd.isAgg3 rfl rfl rfl) rfl ?_
      refine AHead.call (o_bin _ _ rfl rfl (fun _ => rfl) rfl) rfl ?_
      refine AHead.nil ?_
      refine AOps.nil ?_
      refine AWP.cond _ rfl (fun h19 => ?_) (fun h19 => ?_)
      · skip
        have hne : eqB a b = false := by rw [hinv, eqB_at hlt hltb]; simp_all
        refine AWP.seq ?_
        refine AWP.region ?_
        refine AOps.call (o_assign _ rfl rfl) ?_
        refine AOps.nil ?_
        refine AWP.ret ?_
        refine postQ.ret1 Tryd.results30 rfl ?_
        first
        | (rw [hne]; rfl)
        | (rw [hyes]; rfl)
      · skip
        refine AWP.skip ?_
        refine AWP.region ?_
        refine AOps.call (o_add _ _ rfl rfl ⟨by (try dsimp only); omega, by (try dsimp only); omega⟩ rfl) ?_
        refine AOps.call (o_move _ rfl rfl) ?_
        refine AOps.nil ?_
        refine ⟨k + 1, ?_, (Weak.mk' rfl ⟨⟨.refl rfl, rfl⟩, ⟨⟨.refl rfl, rfl⟩, ⟨⟨.refl rfl, rfl⟩, ⟨⟨.refl rfl, rfl⟩, ⟨⟨.refl rfl, rfl⟩, trivial⟩⟩⟩⟩⟩ trivial trivial)⟩
        exact ⟨⟨by omega, by rw [hinv, eqB_at hlt hltb]; simp_all⟩, by omega⟩
    · skip
      have hkl : k = a.length := by simp [ints] at h11 hk; omega
      subst hkl
      have hyes : eqB a b = true := by rw [hinv, List.drop_length, hlen, List.drop_length]; rfl
      refine AWP.exit ?_
      refine AWP.seq ?_
      refine AWP.region ?_
      refine AOps.call (o_assign _ rfl rfl) ?_
      refine AOps.nil ?_
      refine AWP.ret ?_
      refine postQ.ret1 Tryd.results30 rfl ?_
      first
      | (rw [hne]; rfl)
      | (rw [hyes]; rfl)

set_option maxRecDepth 20000 in
theorem stakeNumbers_s (k : Stk) : FSpec Tryd.prog 121 [.agg (eK k)] (.agg [I k.depth, I k.core, I k.full, I k.lost, I k.soil]) (none) := by
  refine FSpec.of_body Tryd.func121 rfl (leB rfl) fun w0 M0 => ?_
  refine AWP.seq ?_
  refine AWP.region ?_
  refine AOps.call (o_box _ rfl rfl rfl) ?_
  refine AOps.call (o_alloc ze136 rfl rfl) ?_
  refine AOps.nil ?_
  refine AWP.seq ?_
  refine AWP.region ?_
  refine AOps.call (o_fieldRef _ rfl fa79_0 rfl rfl) ?_
  refine AOps.call (o_loadRef _ rfl rfl Tryd.sizeOf3 Tryd.isAgg3 rfl rfl rfl) ?_
  refine AOps.call (o_fieldRef _ rfl fa79_1 rfl rfl) ?_
  refine AOps.call (o_loadRef _ rfl rfl Tryd.sizeOf3 Tryd.isAgg3 rfl rfl rfl) ?_
  refine AOps.call (o_fieldRef _ rfl fa79_2 rfl rfl) ?_
  refine AOps.call (o_loadRef _ rfl rfl Tryd.sizeOf3 Tryd.isAgg3 rfl rfl rfl) ?_
  refine AOps.call (o_fieldRef _ rfl fa79_3 rfl rfl) ?_
  refine AOps.call (o_loadRef _ rfl rfl Tryd.sizeOf3 Tryd.isAgg3 rfl rfl rfl) ?_
  refine AOps.call (o_fieldRef _ rfl fa79_4 rfl rfl) ?_
  refine AOps.call (o_loadRef _ rfl rfl Tryd.sizeOf3 Tryd.isAgg3 rfl rfl rfl) ?_
  refine AOps.call (o_build bu136 rfl rfl rfl) ?_
  refine AOps.cons (o_store _ _ rfl rfl Tryd.sizeOf136 rfl rfl rfl rfl rfl) ?_
  refine AOps.nil ?_
  refine AWP.ret ?_
  exact postQ.retC Tryd.results121 rfl rfl Tryd.sizeOf136 Tryd.isAgg136 rfl rfl

set_option maxRecDepth 20000 in
theorem example_s  : FSpec Tryd.prog 63 [] (.agg (eS exS)) (none) := by
  refine FSpec.of_body Tryd.func63 rfl (leB rfl) fun w0 M0 => ?_
  refine AWP.seq ?_
  refine AWP.region ?_
  refine AOps.call (o_alloc ze24 rfl rfl) ?_
  refine AOps.nil ?_
  refine AWP.seq ?_
  refine AWP.region ?_
  refine AOps.call (o_build bu26 rfl rfl rfl) ?_
  refine AOps.call (o_lit Tryd.underlying22 Tryd.sizeOf26 Tryd.zeroValue26 rfl rfl rfl rfl rfl rfl rfl) ?_
  refine AOps.call (o_build bu24 rfl rfl rfl) ?_
  refine AOps.cons (o_store _ _ rfl rfl Tryd.sizeOf24 rfl rfl rfl rfl rfl) ?_
  refine AOps.nil ?_
  refine AWP.ret ?_
  exact postQ.retC Tryd.results63 rfl rfl Tryd.sizeOf24 Tryd.isAgg24 rfl rfl

set_option maxRecDepth 20000 in
theorem sheet_s  : FSpec Tryd.prog 64 [] (.agg (eH exH)) (none) := by
  refine FSpec.of_body Tryd.func64 rfl (leB rfl) fun w0 M0 => ?_
  refine AWP.seq ?_
  refine AWP.region ?_
  refine AOps.call (o_alloc ze54 rfl rfl) ?_
  refine AOps.nil ?_
  refine AWP.seq ?_
  refine AWP.region ?_
  refine AOps.call (o_build bu79 rfl rfl rfl) ?_
  refine AOps.call (o_lit Tryd.underlying52 Tryd.sizeOf79 Tryd.zeroValue79 rfl rfl rfl rfl rfl rfl rfl) ?_
  refine AOps.call (o_build bu54 rfl rfl rfl) ?_
  refine AOps.cons (o_store _ _ rfl rfl Tryd.sizeOf54 rfl rfl rfl rfl rfl) ?_
  refine AOps.nil ?_
  refine AWP.ret ?_
  exact postQ.retC Tryd.results64 rfl rfl Tryd.sizeOf54 Tryd.isAgg54 rfl rfl

end Go.Proofs.YtphoomnonenalaaDoor
