/- Z1. -/
import Derived.Test.YtelenedgaoglaaaGreatDoorR13
set_option linter.unusedSimpArgs false
set_option linter.unusedVariables false
namespace Go.Proofs.YtelenedgaoglaaaGreatDoor
open Go.Ab
open Go.Pil
def hasS (s : Sp) (x : Int) : Bool := decide (s.lo ≤ x) && decide (x ≤ s.hi)
theorem hasS_iff {s : Sp} {x : Int} : hasS s x = true ↔ s.Has x := by simp [hasS, Sp.Has]
def hereX (x : List Int) (k : Nat) : Sp := if k = 0 then ⟨0, 0⟩ else ⟨x.getD (k - 1) 0, x.getD (k - 1) 0⟩
def fitB (p : Plw) (w : List Sp) (l x : List Int) (k : Nat) : Bool := hasS (reachP p w k (l.getD k 0) (hereX x k)) (x.getD k 0)
theorem ints_gD {l : List Int} {k : Int} {j : Nat} (h : k.toNat = j) (hj : j < l.length) : (ints l)[k.toNat]? = some [I (l.getD j 0)] := by
  subst h
  simp [ints, hj]
set_option maxRecDepth 20000 in
theorem contains_s (s : Sp) (x : Int) : FSpec Tryz.prog 101 [.agg (eN s), I x] (B (hasS s x)) (none) := by
  refine FSpec.of_body Tryz.func101 rfl (leB rfl) fun w0 M0 => ?_
  refine AWP.seq ?_
  refine AWP.region ?_
  refine AOps.call (o_box _ rfl rfl rfl) ?_
  refine AOps.call (o_assign _ rfl rfl) ?_
  refine AOps.nil ?_
  refine AWP.seq ?_
  refine AWP.region ?_
  refine AOps.call (o_fieldRef _ rfl fa54_0 rfl rfl) ?_
  refine AOps.call (o_loadRef _ rfl rfl Tryz.sizeOf3 Tryz.isAgg3 rfl rfl rfl) ?_
  refine AOps.call (o_move _ rfl rfl) ?_
  refine AOps.call (o_bin _ _ rfl rfl (fun _ => rfl) rfl) ?_
  refine AOps.call (o_move _ rfl rfl) ?_
  refine AOps.split rfl rfl rfl (fun h6 => ?_) (fun h6 => ?_)
  · skip
    refine AOps.go rfl rfl rfl h6 (o_move _ rfl rfl) ?_
    refine AOps.go rfl rfl rfl h6 (o_fieldRef _ rfl fa54_1 rfl rfl) ?_
    refine AOps.go rfl rfl rfl h6 (o_loadRef _ rfl rfl Tryz.sizeOf3 Tryz.isAgg3 rfl rfl rfl) ?_
    refine AOps.go rfl rfl rfl h6 (o_bin _ _ rfl rfl (fun _ => rfl) rfl) ?_
    refine AOps.call (o_pickT _ _ _ rfl h6 rfl rfl) ?_
    refine AOps.call (o_assign _ rfl rfl) ?_
    refine AOps.nil ?_
    refine AWP.ret ?_
    refine postQ.ret1 Tryz.results101 rfl ?_
    unfold hasS
    simp_all [AV.close, B, I]
    try (intros; omega)
  · skip
    refine AOps.pass rfl rfl rfl h6 rfl ?_
    refine AOps.pass rfl rfl rfl h6 rfl ?_
    refine AOps.pass rfl rfl rfl h6 rfl ?_
    refine AOps.pass rfl rfl rfl h6 rfl ?_
    refine AOps.call (o_pickF _ _ _ rfl h6 rfl rfl) ?_
    refine AOps.call (o_assign _ rfl rfl) ?_
    refine AOps.nil ?_
    refine AWP.ret ?_
    refine postQ.ret1 Tryz.results101 rfl ?_
    unfold hasS
    simp_all [AV.close, B, I]
    try (intros; omega)
set_option maxRecDepth 20000 in
theorem possible1_s (p : Plw) (w : List Sp) (l x : List Int) (hp : OkP p) (hw : okW p w = true) (hll : l.length = p.log.length) (hxl : x.length = l.length) (k : Nat) (hk : k < l.length) (hpr : 0 < k → 0 ≤ x.getD (k - 1) 0 ∧ x.getD (k - 1) 0 ≤ 65536) : FSpec Tryz.prog 100 [I k, .rd [.sl (ints x)], .rd (eR p w), .rd [.sl (ints l)]] (B (fitB p w l x k)) (none) := by
  refine FSpec.of_body Tryz.func100 rfl (leB rfl) fun w0 M0 => ?_
  have h32 := hp.len
  have hel := ints_gD (l := l) (k := ((k : Nat) : Int)) (j := k) (by omega) hk
  have hex := ints_gD (l := x) (k := ((k : Nat) : Int)) (j := k) (by omega) (by omega)
  refine AWP.seq ?_
  refine AWP.region ?_
  refine AOps.call (o_assign _ rfl rfl) ?_
  refine AOps.nil ?_
  refine AWP.seq ?_
  refine AWP.region ?_
  refine AOps.call (o_alloc ze54 rfl rfl) ?_
  refine AOps.nil ?_
  refine AWP.seq ?_
  refine AWP.seq ?_
  refine AWP.region ?_
  refine AOps.call (o_move _ rfl rfl) ?_
  refine AOps.call (o_bin _ _ rfl rfl (fun _ => rfl) rfl) ?_
  refine AOps.nil ?_
  refine AWP.cond _ rfl (fun h4 => ?_) (fun h4 => ?_)
  · skip
    have hk0 : 0 < k := by have := of_decide_eq_true h4; omega
    have hpx := ints_gD (l := x) (k := ((k : Nat) : Int) - 1) (j := k - 1) (by omega) (by omega)
    have hh : hereX x k = ⟨x.getD (k - 1) 0, x.getD (k - 1) 0⟩ := if_neg (by omega)
    have hp2 := hpr hk0
    have hsm : ((k : Nat) : Int) ≠ 0 → -9000000000 ≤ (hereX x k).lo ∧ (hereX x k).lo ≤ 9000000000 ∧ -9000000000 ≤ (hereX x k).hi ∧ (hereX x k).hi ≤ 9000000000 := fun _ => by rw [hh]; dsimp only; omega
    rw [hh] at hsm
    have hfit : fitB p w l x k = hasS (reachP p w k (l.getD k 0) ⟨x.getD (k - 1) 0, x.getD (k - 1) 0⟩) (x.getD k 0) := by unfold fitB; rw [hh]
    refine AWP.drawn 11 mixed (by kernel_rfl) ?_
    refine AHead.call (o_loadRd _ rfl Tryz.sizeOf25 Tryz.isAgg25 rfl rfl rfl) rfl ?_
    refine AHead.call (o_move _ rfl rfl) rfl ?_
    refine AHead.call (o_sub _ _ rfl rfl ⟨by (try dsimp only); omega, by (try dsimp only); omega⟩ rfl) rfl ?_
    refine AHead.call (o_index _ _ Tryz.underlying25 Tryz.sizeOf3 rfl rfl (by omega) hpx rfl rfl) rfl ?_
    refine AHead.call (o_loadRd _ rfl Tryz.sizeOf3 Tryz.isAgg3 rfl rfl rfl) rfl ?_
    refine AHead.call (o_loadRd _ rfl Tryz.sizeOf25 Tryz.isAgg25 rfl rfl rfl) rfl ?_
    refine AHead.call (o_move _ rfl rfl) rfl ?_
    refine AHead.call (o_sub _ _ rfl rfl ⟨by (try dsimp only); omega, by (try dsimp only); omega⟩ rfl) rfl ?_
    refine AHead.call (o_index _ _ Tryz.underlying25 Tryz.sizeOf3 rfl rfl (by omega) hpx rfl rfl) rfl ?_
    refine AHead.call (o_loadRd _ rfl Tryz.sizeOf3 Tryz.isAgg3 rfl rfl rfl) rfl ?_
    refine AHead.call (o_build bu54 rfl rfl rfl) rfl ?_
    refine AHead.nil ?_
    refine AOps.cons (o_store _ _ rfl rfl Tryz.sizeOf54 rfl rfl rfl rfl rfl) ?_
    refine AOps.nil ?_
    refine AWP.seq ?_
    refine AWP.drawn 14 mixed (by kernel_rfl) ?_
    refine AHead.call (o_loadRd _ rfl Tryz.sizeOf91 Tryz.isAgg91 rfl rfl rfl) rfl ?_
    refine AHead.call (o_move _ rfl rfl) rfl ?_
    refine AHead.call (o_loadRd _ rfl Tryz.sizeOf25 Tryz.isAgg25 rfl rfl rfl) rfl ?_
    refine AHead.call (o_move _ rfl rfl) rfl ?_
    refine AHead.call (o_index _ _ Tryz.underlying25 Tryz.sizeOf3 rfl rfl (by omega) hel rfl rfl) rfl ?_
    refine AHead.call (o_loadRd _ rfl Tryz.sizeOf3 Tryz.isAgg3 rfl rfl rfl) rfl ?_
    refine AHead.call (o_loadRef _ rfl rfl Tryz.sizeOf54 Tryz.isAgg54 rfl rfl rfl) rfl ?_
    refine AHead.call (o_call (reached_s p w hp hw k (l.getD k 0) _ (by omega) (by omega) hsm) Tryz.call94 rfl rfl) rfl ?_
    refine AHead.call (o_loadRd _ rfl Tryz.sizeOf25 Tryz.isAgg25 rfl rfl rfl) rfl ?_
    refine AHead.call (o_move _ rfl rfl) rfl ?_
    refine AHead.call (o_index _ _ Tryz.underlying25 Tryz.sizeOf3 rfl rfl (by omega) hex rfl rfl) rfl ?_
    refine AHead.call (o_loadRd _ rfl Tryz.sizeOf3 Tryz.isAgg3 rfl rfl rfl) rfl ?_
    refine AHead.call (o_call (contains_s _ _) Tryz.call101 rfl rfl) rfl ?_
    refine AHead.call (o_assign _ rfl rfl) rfl ?_
    refine AHead.nil ?_
    refine AOps.nil ?_
    refine AWP.ret ?_
    refine postQ.ret1 Tryz.results100 rfl ?_
    rw [hfit]
    rfl
  · skip
    have hk0 : k = 0 := by have := of_decide_eq_false h4; omega
    have hh : hereX x k = ⟨0, 0⟩ := if_pos hk0
    have hsm : ((k : Nat) : Int) ≠ 0 → -9000000000 ≤ (⟨0, 0⟩ : Sp).lo ∧ (⟨0, 0⟩ : Sp).lo ≤ 9000000000 ∧ -9000000000 ≤ (⟨0, 0⟩ : Sp).hi ∧ (⟨0, 0⟩ : Sp).hi ≤ 9000000000 := fun _ => by decide
    have hfit : fitB p w l x k = hasS (reachP p w k (l.getD k 0) ⟨0, 0⟩) (x.getD k 0) := by unfold fitB; rw [hh]
    refine AWP.skip ?_
    refine AWP.seq ?_
    refine AWP.drawn 14 mixed (by kernel_rfl) ?_
    refine AHead.call (o_loadRd _ rfl Tryz.sizeOf91 Tryz.isAgg91 rfl rfl rfl) rfl ?_
    refine AHead.call (o_move _ rfl rfl) rfl ?_
    refine AHead.call (o_loadRd _ rfl Tryz.sizeOf25 Tryz.isAgg25 rfl rfl rfl) rfl ?_
    refine AHead.call (o_move _ rfl rfl) rfl ?_
    refine AHead.call (o_index _ _ Tryz.underlying25 Tryz.sizeOf3 rfl rfl (by omega) hel rfl rfl) rfl ?_
    refine AHead.call (o_loadRd _ rfl Tryz.sizeOf3 Tryz.isAgg3 rfl rfl rfl) rfl ?_
    refine AHead.call (o_loadRef _ rfl rfl Tryz.sizeOf54 Tryz.isAgg54 rfl rfl rfl) rfl ?_
    refine AHead.call (o_call (reached_s p w hp hw k (l.getD k 0) _ (by omega) (by omega) hsm) Tryz.call94 rfl rfl) rfl ?_
    refine AHead.call (o_loadRd _ rfl Tryz.sizeOf25 Tryz.isAgg25 rfl rfl rfl) rfl ?_
    refine AHead.call (o_move _ rfl rfl) rfl ?_
    refine AHead.call (o_index _ _ Tryz.underlying25 Tryz.sizeOf3 rfl rfl (by omega) hex rfl rfl) rfl ?_
    refine AHead.call (o_loadRd _ rfl Tryz.sizeOf3 Tryz.isAgg3 rfl rfl rfl) rfl ?_
    refine AHead.call (o_call (contains_s _ _) Tryz.call101 rfl rfl) rfl ?_
    refine AHead.call (o_assign _ rfl rfl) rfl ?_
    refine AHead.nil ?_
    refine AOps.nil ?_
    refine AWP.ret ?_
    refine postQ.ret1 Tryz.results100 rfl ?_
    rw [hfit]
    rfl
set_option maxRecDepth 20000 in
theorem possible_s (p : Plw) (w : List Sp) (l x : List Int) : FSpec Tryz.prog 72 [.agg (eR p w), .sl (ints l), .sl (ints x)] (.clo 100 [.rd [.sl (ints x)], .rd (eR p w), .rd [.sl (ints l)]]) (none) := by
  refine FSpec.of_body Tryz.func72 rfl (leB rfl) fun w0 M0 => ?_
  refine AWP.seq ?_
  refine AWP.region ?_
  refine AOps.call (o_box _ rfl rfl rfl) ?_
  refine AOps.call (o_box _ rfl rfl rfl) ?_
  refine AOps.call (o_box _ rfl rfl rfl) ?_
  refine AOps.call (o_assign _ rfl rfl) ?_
  refine AOps.nil ?_
  refine AWP.seq ?_
  refine AWP.region ?_
  refine AOps.weak (Weak.frzv (id := (3, 0)) (t := 3) rfl rfl rfl) ?_
  refine AOps.weak (Weak.frzv (id := (4, 0)) (t := 4) rfl rfl rfl) ?_
  refine AOps.weak (Weak.frzv (id := (5, 0)) (t := 5) rfl rfl rfl) ?_
  refine AOps.call (o_makeClo rfl rfl) ?_
  refine AOps.call (o_assign _ rfl rfl) ?_
  refine AOps.nil ?_
  refine AWP.ret ?_
  exact postQ.ret1 Tryz.results72 rfl rfl
end Go.Proofs.YtelenedgaoglaaaGreatDoor
