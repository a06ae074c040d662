import Derived.Test.YtphoomnonenalaaGreatDoorC10
set_option linter.unusedSimpArgs false
set_option linter.unusedVariables false
namespace Go.Proofs.YtphoomnonenalaaGreatDoor
open Go.Ab
def eqB : List Int → List Int → Bool
  | [], [] => true
  | x :: a, y :: b => decide (x = y) && eqB a b
  | _, _ => false
theorem eqB_at {a b : List Int} {k : Nat} (h : k < a.length) (h2 : k < b.length) : eqB (a.drop k) (b.drop k) = (decide (a[k] = b[k]) && eqB (a.drop (k + 1)) (b.drop (k + 1))) := by
  rw [List.drop_eq_getElem_cons h, List.drop_eq_getElem_cons h2]; rfl
theorem eqB_len : ∀ {a b : List Int}, a.length ≠ b.length → eqB a b = false := by
  intro a
  induction a with
  | nil => intro b h; cases b with
    | nil => exact absurd rfl h
    | cons => rfl
  | cons x a ih => intro b h; cases b with
    | nil => rfl
    | cons y b => simp only [eqB]; rw [ih (by simp at h; exact h), Bool.and_false]
def exS : Scl := ⟨0, 0, [⟨10, 10, 0, 0⟩]⟩
def exH : Sht := ⟨1, 2, 10, 11, 0, 10, 100, 10, [⟨300, 200, 1155, 40, 5⟩]⟩

set_option maxRecDepth 20000 in
theorem Equal_s (a b : List Int) (hl : a.length ≤ 1000000000000) : FSpec Tryz.prog 11 [.sl (ints a), .sl (ints b)] (B (eqB a b)) (none) := by
  refine FSpec.of_body Tryz.func11 rfl (leB rfl) fun w0 M0 => ?_
  refine AWP.seq ?_
  refine AWP.region ?_
  refine AOps.call (o_assign _ rfl rfl) ?_
  refine AOps.nil ?_
  refine AWP.seq ?_
  refine AWP.seq ?_
  refine AWP.region ?_
  refine AOps.call (o_move _ rfl rfl) ?_
  refine AOps.call (o_len _ Tryz.underlying26 rfl rfl) ?_
  refine AOps.call (o_move _ rfl rfl) ?_
  refine AOps.call (o_len _ Tryz.underlying26 rfl rfl) ?_
  refine AOps.call (o_bin _ _ rfl rfl (fun _ => rfl) rfl) ?_
  refine AOps.nil ?_
  refine AWP.cond _ rfl (fun h6 => ?_) (fun h6 => ?_)
  · skip
    have hne : eqB a b = false := eqB_len (by simp [ints_len] at h6; omega)
    refine AWP.seq ?_
    refine AWP.region ?_
    refine AOps.call (o_assign _ rfl rfl) ?_
    refine AOps.nil ?_
    refine AWP.ret ?_
    refine postQ.ret1 Tryz.results11 rfl ?_
    first
    | (rw [hne]; rfl)
    | (rw [hyes]; rfl)
  · skip
    have hlen : a.length = b.length := by simp [ints_len] at h6; omega
    refine AWP.skip ?_
    refine AWP.seq ?_
    refine AWP.seq ?_
    refine AWP.region ?_
    refine AOps.call (o_move _ rfl rfl) ?_
    refine AOps.call (o_len _ Tryz.underlying26 rfl rfl) ?_
    refine AOps.call (o_move _ rfl rfl) ?_
    refine AOps.nil ?_
    refine AWP.block ?_
    refine AWP.loop (ι := Nat) (fun i => AS.mk' 26 [(0, .sl (ints a)), (1, .sl (ints b)), (11, .sl (ints a)), (12, I (ints a).length), (13, I i)] [] [] []) (fun i => i ≤ a.length ∧ eqB a b = eqB (a.drop i) (b.drop i)) (fun i => a.length - i) (0) (Weak.mk' rfl ⟨⟨.refl rfl, rfl⟩, ⟨⟨.refl rfl, rfl⟩, ⟨⟨.refl rfl, rfl⟩, ⟨⟨.refl rfl, rfl⟩, ⟨⟨.refl rfl, rfl⟩, trivial⟩⟩⟩⟩⟩ trivial trivial) (⟨Nat.zero_le _, rfl⟩) ?_
    rintro k ⟨hk, hinv⟩
    try dsimp only at *
    refine AWP.seq ?_
    refine AWP.region ?_
    refine AOps.call (o_bin _ _ rfl rfl (fun _ => rfl) rfl) ?_
    refine AOps.nil ?_
    refine AWP.seq ?_
    refine AWP.cond _ rfl (fun h11 => ?_) (fun h11 => ?_)
    · skip
      have hlt : k < a.length := by simpa [ints] using h11
      have hel := ints_get hlt
      have hltb : k < b.length := by omega
      have helb := ints_get hltb
      refine AWP.skip ?_
      refine AWP.seq ?_
      refine AWP.block ?_
      refine AWP.seq ?_
      refine AWP.region ?_
      refine AOps.call (o_move _ rfl rfl) ?_
      refine AOps.call (o_assign _ rfl rfl) ?_
      refine AOps.nil ?_
      refine AWP.seq ?_
      refine AWP.drawn 9 mixed (by kernel_rfl) ?_
      refine AHead.call (o_move _ rfl rfl) rfl ?_
      refine AHead.call (o_move _ rfl rfl) rfl ?_
      refine AHead.call (o_index _ _ Tryz.underlying26 Tryz.sizeOf3 rfl rfl (by omega) (by assumption) rfl rfl) rfl ?_
      refine AHead.call (o_loadRd _ rfl Tryz.sizeOf3 Tryz.isAgg3 rfl rfl rfl) rfl ?_
      refine AHead.call (o_move _ rfl rfl) rfl ?_
      refine AHead.call (o_move _ rfl rfl) rfl ?_
      refine AHead.call (o_index _ _ Tryz.underlying26 Tryz.sizeOf3 rfl rfl (by omega) helb rfl rfl) rfl ?_
      refine AHead.call (o_loadRd _ rfl Tryz.sizeOf3 Tryz.isAgg3 rfl rfl rfl) rfl ?_
      refine AHead.call (o_bin _ _ rfl rfl (fun _ => rfl) rfl) rfl ?_
      refine AHead.nil ?_
      refine AOps.nil ?_
      refine AWP.cond _ rfl (fun h19 => ?_) (fun h19 => ?_)
      · skip
        have hne : eqB a b = false := by rw [hinv, eqB_at hlt hltb]; simp_all
        refine AWP.seq ?_
        refine AWP.region ?_
        refine AOps.call (o_assign _ rfl rfl) ?_
        refine AOps.nil ?_
        refine AWP.ret ?_
        refine postQ.ret1 Tryz.results11 rfl ?_
        first
        | (rw [hne]; rfl)
        | (rw [hyes]; rfl)
      · skip
        refine AWP.skip ?_
        refine AWP.region ?_
        refine AOps.call (o_add _ _ rfl rfl ⟨by (try dsimp only); omega, by (try dsimp only); omega⟩ rfl) ?_
        refine AOps.call (o_move _ rfl rfl) ?_
        refine AOps.nil ?_
        refine ⟨k + 1, ?_, (Weak.mk' rfl ⟨⟨.refl rfl, rfl⟩, ⟨⟨.refl rfl, rfl⟩, ⟨⟨.refl rfl, rfl⟩, ⟨⟨.refl rfl, rfl⟩, ⟨⟨.refl rfl, rfl⟩, trivial⟩⟩⟩⟩⟩ trivial trivial)⟩
        exact ⟨⟨by omega, by rw [hinv, eqB_at hlt hltb]; simp_all⟩, by omega⟩
    · skip
      have hkl : k = a.length := by simp [ints] at h11 hk; omega
      subst hkl
      have hyes : eqB a b = true := by rw [hinv, List.drop_length, hlen, List.drop_length]; rfl
      refine AWP.exit ?_
      refine AWP.seq ?_
      refine AWP.region ?_
      refine AOps.call (o_assign _ rfl rfl) ?_
      refine AOps.nil ?_
      refine AWP.ret ?_
      refine postQ.ret1 Tryz.results11 rfl ?_
      first
      | (rw [hne]; rfl)
      | (rw [hyes]; rfl)

set_option maxRecDepth 20000 in
theorem stakeNumbers_s (k : Stk) : FSpec Tryz.prog 51 [.agg (eK k)] (.agg [I k.depth, I k.core, I k.full, I k.lost, I k.soil]) (none) := by
  refine FSpec.of_body Tryz.func51 rfl (leB rfl) fun w0 M0 => ?_
  refine AWP.seq ?_
  refine AWP.region ?_
  refine AOps.call (o_box _ rfl rfl rfl) ?_
  refine AOps.call (o_alloc ze82 rfl rfl) ?_
  refine AOps.nil ?_
  refine AWP.seq ?_
  refine AWP.region ?_
  refine AOps.call (o_fieldRef _ rfl fa81_0 rfl rfl) ?_
  refine AOps.call (o_loadRef _ rfl rfl Tryz.sizeOf3 Tryz.isAgg3 rfl rfl rfl) ?_
  refine AOps.call (o_fieldRef _ rfl fa81_1 rfl rfl) ?_
  refine AOps.call (o_loadRef _ rfl rfl Tryz.sizeOf3 Tryz.isAgg3 rfl rfl rfl) ?_
  refine AOps.call (o_fieldRef _ rfl fa81_2 rfl rfl) ?_
  refine AOps.call (o_loadRef _ rfl rfl Tryz.sizeOf3 Tryz.isAgg3 rfl rfl rfl) ?_
  refine AOps.call (o_fieldRef _ rfl fa81_3 rfl rfl) ?_
  refine AOps.call (o_loadRef _ rfl rfl Tryz.sizeOf3 Tryz.isAgg3 rfl rfl rfl) ?_
  refine AOps.call (o_fieldRef _ rfl fa81_4 rfl rfl) ?_
  refine AOps.call (o_loadRef _ rfl rfl Tryz.sizeOf3 Tryz.isAgg3 rfl rfl rfl) ?_
  refine AOps.call (o_build bu82 rfl rfl rfl) ?_
  refine AOps.cons (o_store _ _ rfl rfl Tryz.sizeOf82 rfl rfl rfl rfl rfl) ?_
  refine AOps.nil ?_
  refine AWP.ret ?_
  exact postQ.retC Tryz.results51 rfl rfl Tryz.sizeOf82 Tryz.isAgg82 rfl rfl

set_option maxRecDepth 20000 in
theorem example_s  : FSpec Tryz.prog 26 [] (.agg (eS exS)) (none) := by
  refine FSpec.of_body Tryz.func26 rfl (leB rfl) fun w0 M0 => ?_
  refine AWP.seq ?_
  refine AWP.region ?_
  refine AOps.call (o_alloc ze24 rfl rfl) ?_
  refine AOps.nil ?_
  refine AWP.seq ?_
  refine AWP.region ?_
  refine AOps.call (o_build bu37 rfl rfl rfl) ?_
  refine AOps.call (o_lit Tryz.underlying22 Tryz.sizeOf37 Tryz.zeroValue37 rfl rfl rfl rfl rfl rfl rfl) ?_
  refine AOps.call (o_build bu24 rfl rfl rfl) ?_
  refine AOps.cons (o_store _ _ rfl rfl Tryz.sizeOf24 rfl rfl rfl rfl rfl) ?_
  refine AOps.nil ?_
  refine AWP.ret ?_
  exact postQ.retC Tryz.results26 rfl rfl Tryz.sizeOf24 Tryz.isAgg24 rfl rfl

set_option maxRecDepth 20000 in
theorem sheet_s  : FSpec Tryz.prog 27 [] (.agg (eH exH)) (none) := by
  refine FSpec.of_body Tryz.func27 rfl (leB rfl) fun w0 M0 => ?_
  refine AWP.seq ?_
  refine AWP.region ?_
  refine AOps.call (o_alloc ze40 rfl rfl) ?_
  refine AOps.nil ?_
  refine AWP.seq ?_
  refine AWP.region ?_
  refine AOps.call (o_build bu81 rfl rfl rfl) ?_
  refine AOps.call (o_lit Tryz.underlying38 Tryz.sizeOf81 Tryz.zeroValue81 rfl rfl rfl rfl rfl rfl rfl) ?_
  refine AOps.call (o_build bu40 rfl rfl rfl) ?_
  refine AOps.cons (o_store _ _ rfl rfl Tryz.sizeOf40 rfl rfl rfl rfl rfl) ?_
  refine AOps.nil ?_
  refine AWP.ret ?_
  exact postQ.retC Tryz.results27 rfl rfl Tryz.sizeOf40 Tryz.isAgg40 rfl rfl

end Go.Proofs.YtphoomnonenalaaGreatDoor
