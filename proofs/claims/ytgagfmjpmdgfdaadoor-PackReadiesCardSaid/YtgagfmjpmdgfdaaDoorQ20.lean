import Derived.Test.YtgagfmjpmdgfdaaDoorX12
import Derived.Test.YtgagfmjpmdgfdaaDoorXA
import Derived.Test.YtgagfmjpmdgfdaaDoorAc2
set_option linter.unusedSimpArgs false
set_option linter.unusedVariables false
namespace Go.Proofs.YtgagfmjpmdgfdaaDoor
open Go.Ab

theorem cvt1 {n : Int} (h : 0 ≤ n ∧ n ≤ 1000000) (w : World) : (convert 3 109 (.int .i64 n)).run Tryd.prog w = .ok (.int .u64 n) w := by
  simp [convert, run_underlying' Tryd.underlying3, run_underlying' Tryd.underlying109, Result.andThen, Conv.intToInt, IntKind.wrap, IntKind.bits, IntKind.signed]; omega
theorem cvt2 {n : Int} (h : 0 ≤ n ∧ n ≤ 1000000) (w : World) : (convert 109 3 (.int .u64 n)).run Tryd.prog w = .ok (.int .i64 n) w := by
  have := IntWalk.i64_in n (by omega)
  simp [convert, run_underlying' Tryd.underlying3, run_underlying' Tryd.underlying109, Result.andThen, Conv.intToInt, this]
theorem shr1 {x y : Operand} {n : Int} (h : 0 ≤ n) (w : World) : (do eqGuard .shr 109 x y (.int .u64 n) (.int .u64 1); binOp .shr 109 (.int .u64 n) (.int .u64 1) : Sem Value).run Tryd.prog w = .ok (.int .u64 (n / 2)) w := by
  have h2 : n.fdiv 2 = n / 2 := Int.fdiv_eq_ediv_of_nonneg n (by omega)
  simp [eqGuard, binOp, Op.shift, IntKind.bits, h2, Result.andThen]

set_option maxRecDepth 20000 in
theorem enc_s (p : List Lay) (out : Int) (m : Nat) (hp : packE p = 0) (hm : m ≤ 65536) : FSpec Tryd.prog 75 [I m, .rd (eK p), .rd [I out]] (B (enF p out m)) (none) := by
  refine FSpec.of_body Tryd.func75 rfl (leB rfl) fun w0 M0 => ?_
  refine AWP.seq ?_
  refine AWP.region ?_
  refine AOps.call (o_assign _ rfl rfl) ?_
  refine AOps.nil ?_
  refine AWP.seq ?_
  refine AWP.drawnP 7 [(3, (6, 0))] mixed (by kernel_rfl) (by kernel_rfl) ?_
  refine AHeadP.call (o_loadRd _ rfl Tryd.sizeOf24 Tryd.isAgg24 rfl rfl rfl) rfl rfl rfl ?_
  refine AHeadP.call (o_callRef (stand_p p hp) Tryd.call69 rfl rfl) rfl rfl rfl ?_
  refine AHeadP.call (o_move _ rfl rfl) rfl rfl rfl ?_
  refine AHeadP.spend (o_callCR (6, 0) _ (FSpecM.toC (melt_s (preZ p) p m (pre_len hp) (colOk_of hp) ⟨by omega, by omega⟩) rfl) Tryd.call73 rfl rfl rfl (col_close _ _) rfl) rfl rfl ?_
  refine AHeadP.call (o_loadRd _ rfl Tryd.sizeOf3 Tryd.isAgg3 rfl rfl rfl) rfl rfl rfl ?_
  refine AHeadP.call (o_bin _ _ rfl rfl (fun _ => rfl) rfl) rfl rfl rfl ?_
  refine AHeadP.call (o_assign _ rfl rfl) rfl rfl rfl ?_
  refine AHeadP.nil ?_
  refine AOps.nil ?_
  refine AWP.ret ?_
  exact postQ.ret1 Tryd.results75 rfl rfl

set_option maxRecDepth 20000 in
theorem Search_s (p : List Lay) (out : Int) (hp : packE p = 0) : FSpec Tryd.prog 74 [I 65537, .clo 75 [.rd (eK p), .rd [I out]]] (I (lsN (enF p out) 65537 : Nat)) (none) := by
  refine FSpec.of_body Tryd.func74 rfl (leB rfl) fun w0 M0 => ?_
  refine AWP.seq ?_
  refine AWP.region ?_
  refine AOps.call (o_assign _ rfl rfl) ?_
  refine AOps.nil ?_
  refine AWP.seq ?_
  refine AWP.region ?_
  refine AOps.call (o_move _ rfl rfl) ?_
  refine AOps.call (o_assign _ rfl rfl) ?_
  refine AOps.call (o_assign _ rfl rfl) ?_
  refine AOps.nil ?_
  refine AWP.seq ?_
  refine AWP.block ?_
  refine AWP.loop (ι := Nat × Nat) (fun i => AS.mk' 26 [(0, I 65537), (1, .clo 75 [.rd (eK p), .rd [I out]]), (5, I (i.1 : Nat)), (6, I (i.2 : Nat))] [] [] []) (fun i => i.1 ≤ i.2 ∧ i.2 ≤ 65537 ∧ (∀ j, j < i.1 → enF p out j = false) ∧ (i.2 < 65537 → enF p out i.2 = true)) (fun i => i.2 - i.1) (0, 65537) (Weak.mk' rfl ⟨⟨.refl rfl, rfl⟩, ⟨⟨.refl rfl, rfl⟩, ⟨⟨.refl rfl, rfl⟩, ⟨⟨.refl rfl, rfl⟩, trivial⟩⟩⟩⟩ trivial trivial) (⟨by omega, by omega, fun j h => absurd h (Nat.not_lt_zero _), fun h => absurd h (Nat.lt_irrefl _)⟩) ?_
  rintro ⟨a, b⟩ ⟨hab, hb, hlo, hhi⟩
  try dsimp only at *
  refine AWP.seq ?_
  refine AWP.seq ?_
  refine AWP.region ?_
  refine AOps.call (o_move _ rfl rfl) ?_
  refine AOps.call (o_move _ rfl rfl) ?_
  refine AOps.call (o_bin _ _ rfl rfl (fun _ => rfl) rfl) ?_
  refine AOps.nil ?_
  refine AWP.cond _ rfl (fun h5 => ?_) (fun h5 => ?_)
  · skip
    have hlt : a < b := by have hq := of_decide_eq_true h5; omega
    have hmid : ((a : Int) + b) / 2 = (((a + b) / 2 : Nat) : Int) := by omega
    refine AWP.skip ?_
    refine AWP.block ?_
    refine AWP.seq ?_
    refine AWP.region ?_
    refine AOps.call (o_move _ rfl rfl) ?_
    refine AOps.call (o_move _ rfl rfl) ?_
    refine AOps.call (o_add _ _ rfl rfl ⟨by (try dsimp only); omega, by (try dsimp only); omega⟩ rfl) ?_
    refine AOps.call (ok_conv _ rfl (fun w => cvt1 ⟨by omega, by omega⟩ w) (okD rfl)) ?_
    refine AOps.call (o_bin _ _ rfl rfl (fun w => shr1 (by omega) w) rfl) ?_
    refine AOps.call (ok_conv _ rfl (fun w => cvt2 ⟨by omega, by omega⟩ w) (okD rfl)) ?_
    refine AOps.call (o_assign _ rfl rfl) ?_
    refine AOps.nil ?_
    refine AWP.seq ?_
    refine AWP.region ?_
    refine AOps.call (o_move _ rfl rfl) ?_
    refine AOps.call (o_move _ rfl rfl) ?_
    refine AOps.call (o_callV (cl := [I (((a + b) / 2 : Nat) : Int)]) (ccl := [.rd (eK p), .rd [I out]]) _ rfl (enc_s p out ((a + b) / 2) hp (by omega)) Tryd.call75 rfl rfl rfl) ?_
    refine AOps.call (o_un _ rfl (fun _ => rfl) rfl) ?_
    refine AOps.nil ?_
    refine AWP.cond _ rfl (fun h13 => ?_) (fun h13 => ?_)
    · skip
      have hf : enF p out ((a + b) / 2) = false := by simpa using h13
      have hnx : True := trivial
      refine AWP.region ?_
      refine AOps.call (o_move _ rfl rfl) ?_
      refine AOps.call (o_add _ _ rfl rfl ⟨by (try dsimp only); omega, by (try dsimp only); omega⟩ rfl) ?_
      refine AOps.call (o_assign _ rfl rfl) ?_
      refine AOps.nil ?_
      refine ⟨((a + b) / 2 + 1, b), ?_, (Weak.mk' rfl ⟨⟨.refl rfl, rfl⟩, ⟨.refl rfl, rfl⟩, ⟨.refl (by rw [hmid]; rfl), rfl⟩, ⟨.refl rfl, rfl⟩, trivial⟩ trivial trivial)⟩
      exact ⟨⟨by simp only []; omega, hb, fun j hj => (by cases hc : enF p out j with | false => rfl | true => (have := enF_up hp (show j ≤ (a + b) / 2 by simp only [] at hj; omega) hc; rw [hf] at this; cases this)), hhi⟩, by simp only []; omega⟩
    · skip
      have hf : enF p out ((a + b) / 2) = true := by simpa using h13
      refine AWP.region ?_
      refine AOps.call (o_move _ rfl rfl) ?_
      refine AOps.call (o_assign _ rfl rfl) ?_
      refine AOps.nil ?_
      refine ⟨(a, (a + b) / 2), ?_, (Weak.mk' rfl ⟨⟨.refl rfl, rfl⟩, ⟨.refl rfl, rfl⟩, ⟨.refl rfl, rfl⟩, ⟨.refl (by rw [hmid]; rfl), rfl⟩, trivial⟩ trivial trivial)⟩
      exact ⟨⟨by simp only []; omega, by simp only []; omega, hlo, fun _ => hf⟩, by simp only []; omega⟩
  · skip
    have hE : lsN (enF p out) 65537 = a := lsN_eq (by omega) hlo (fun h => by have hq := of_decide_eq_false h5; have e : a = b := by omega
                                                                              subst e; exact hhi h)
    refine AWP.exit ?_
    refine AWP.seq ?_
    refine AWP.region ?_
    refine AOps.call (o_move _ rfl rfl) ?_
    refine AOps.call (o_assign _ rfl rfl) ?_
    refine AOps.nil ?_
    refine AWP.ret ?_
    refine postQ.ret1 Tryd.results74 rfl ?_
    rw [hE]
    rfl

set_option maxRecDepth 20000 in
theorem Enough_s (p : List Lay) (o : Int) : FSpec Tryd.prog 42 [.agg (eK p), I o] (.tup [I (enM p o).1, B (enM p o).2.1, I (enM p o).2.2]) (none) := by
  refine FSpec.of_body Tryd.func42 rfl (leB rfl) fun w0 M0 => ?_
  refine AWP.seq ?_
  refine AWP.region ?_
  refine AOps.call (o_box _ rfl rfl rfl) ?_
  refine AOps.call (o_box _ rfl rfl rfl) ?_
  refine AOps.call (o_assign _ rfl rfl) ?_
  refine AOps.call (o_assign _ rfl rfl) ?_
  refine AOps.call (o_assign _ rfl rfl) ?_
  refine AOps.nil ?_
  refine AWP.seq ?_
  refine AWP.seq ?_
  refine AWP.region ?_
  refine AOps.call (o_loadRef _ rfl rfl Tryd.sizeOf24 Tryd.isAgg24 rfl rfl rfl) ?_
  refine AOps.call (o_call (Check_s _) Tryd.call26 rfl rfl) ?_
  refine AOps.call (o_assign _ rfl rfl) ?_
  refine AOps.nil ?_
  refine AWP.seq ?_
  refine AWP.region ?_
  refine AOps.call (o_move _ rfl rfl) ?_
  refine AOps.call (o_bin _ _ rfl rfl (fun _ => rfl) rfl) ?_
  refine AOps.nil ?_
  refine AWP.cond _ rfl (fun h8 => ?_) (fun h8 => ?_)
  · skip
    have hp : ¬ packE p = 0 := by simpa using h8
    have hp20 := packE_20 hp
    have hE : (enM p o) = (0, false, packE p) := by unfold enM; rw [if_neg hp, hp20]
    refine AWP.seq ?_
    refine AWP.region ?_
    refine AOps.call (o_move _ rfl rfl) ?_
    refine AOps.call (o_assign _ rfl rfl) ?_
    refine AOps.call (o_assign _ rfl rfl) ?_
    refine AOps.call (o_assign _ rfl rfl) ?_
    refine AOps.nil ?_
    refine AWP.ret ?_
    refine postQ.ret3 Tryd.results42 rfl rfl rfl ?_
    rw [hE]
    rfl
  · skip
    have hp : packE p = 0 := by simpa using h8
    refine AWP.skip ?_
    refine AWP.seq ?_
    refine AWP.seq ?_
    refine AWP.region ?_
    refine AOps.call (o_loadRef _ rfl rfl Tryd.sizeOf3 Tryd.isAgg3 rfl rfl rfl) ?_
    refine AOps.call (o_call (isAmount_s _) Tryd.call67 rfl rfl) ?_
    refine AOps.call (o_un _ rfl (fun _ => rfl) rfl) ?_
    refine AOps.nil ?_
    refine AWP.cond _ rfl (fun h13 => ?_) (fun h13 => ?_)
    · skip
      have hm : ¬ (0 ≤ o ∧ o ≤ 65536) := by have hq := h13; simp [amB] at hq; omega
      have hE : (enM p o) = (0, false, 1) := by unfold enM; rw [if_pos hp, if_neg hm]
      refine AWP.seq ?_
      refine AWP.region ?_
      refine AOps.call (o_assign _ rfl rfl) ?_
      refine AOps.call (o_assign _ rfl rfl) ?_
      refine AOps.call (o_assign _ rfl rfl) ?_
      refine AOps.nil ?_
      refine AWP.ret ?_
      refine postQ.ret3 Tryd.results42 rfl rfl rfl ?_
      rw [hE]
      rfl
    · skip
      have hm : 0 ≤ o ∧ o ≤ 65536 := by have hq := h13; simp [amB] at hq; omega
      refine AWP.weak (Weak.frzv (id := (2, 0)) (t := 2) rfl rfl rfl) ?_
      refine AWP.weak (Weak.frzv (id := (3, 0)) (t := 3) rfl rfl rfl) ?_
      refine AWP.skip ?_
      refine AWP.seq ?_
      refine AWP.region ?_
      refine AOps.call (o_makeClo rfl rfl) ?_
      refine AOps.call (o_call (Search_s p o hp) Tryd.call74 rfl rfl) ?_
      refine AOps.call (o_assign _ rfl rfl) ?_
      refine AOps.nil ?_
      refine AWP.seq ?_
      refine AWP.seq ?_
      refine AWP.region ?_
      refine AOps.call (o_move _ rfl rfl) ?_
      refine AOps.call (o_bin _ _ rfl rfl (fun _ => rfl) rfl) ?_
      refine AOps.nil ?_
      refine AWP.cond _ rfl (fun h19 => ?_) (fun h19 => ?_)
      · skip
        have hE : (enM p o) = (0, false, 0) := by unfold enM; rw [if_pos hp, if_pos hm, if_neg (by have hq := of_decide_eq_true h19; omega)]
        refine AWP.seq ?_
        refine AWP.region ?_
        refine AOps.call (o_assign _ rfl rfl) ?_
        refine AOps.call (o_assign _ rfl rfl) ?_
        refine AOps.call (o_assign _ rfl rfl) ?_
        refine AOps.nil ?_
        refine AWP.ret ?_
        refine postQ.ret3 Tryd.results42 rfl rfl rfl ?_
        rw [hE]
        rfl
      · skip
        have hE : (enM p o) = (((lsN (enF p o) 65537 : Nat) : Int), true, 0) := by unfold enM; rw [if_pos hp, if_pos hm, if_pos (by have hq := of_decide_eq_false h19; omega)]
        refine AWP.skip ?_
        refine AWP.seq ?_
        refine AWP.region ?_
        refine AOps.call (o_move _ rfl rfl) ?_
        refine AOps.call (o_assign _ rfl rfl) ?_
        refine AOps.call (o_assign _ rfl rfl) ?_
        refine AOps.call (o_assign _ rfl rfl) ?_
        refine AOps.nil ?_
        refine AWP.ret ?_
        refine postQ.ret3 Tryd.results42 rfl rfl rfl ?_
        rw [hE]
        rfl

end Go.Proofs.YtgagfmjpmdgfdaaDoor
