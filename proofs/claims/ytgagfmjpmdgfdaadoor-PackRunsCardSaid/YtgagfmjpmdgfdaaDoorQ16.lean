import Derived.Test.YtgagfmjpmdgfdaaDoorQ15
set_option linter.unusedSimpArgs false
set_option linter.unusedVariables false
namespace Go.Proofs.YtgagfmjpmdgfdaaDoor
open Go.Ab

def winB (n lo hi : Int) : Bool := decide (lo ≤ n) && decide (n ≤ hi)
theorem layB_win (l : Lay) : layB l = (winB l.ice 1 65536 && winB l.wet 0 (l.ice / 20) && winB l.cold 0 65536 && (decide (l.wet = 0) || decide (l.cold = 0))) := by
  unfold layB winB
  cases decide (1 ≤ l.ice) <;> cases decide (l.ice ≤ 65536) <;> cases decide (0 ≤ l.wet) <;> cases decide (l.wet ≤ l.ice / 20) <;> cases decide (0 ≤ l.cold) <;> cases decide (l.cold ≤ 65536) <;> rfl
def packs (l : List (List Lay)) : List (List AV) := l.map eK
def fewB (l : List (List Lay)) : Bool := l.all fun p => decide (p.length ≤ 70)
theorem packs_len (l : List (List Lay)) : (packs l).length = l.length := by simp [packs]
theorem packs_at {l : List (List Lay)} {k : Nat} (h : k < l.length) : (packs l)[((k : Nat) : Int).toNat]? = some (eK l[k]) := by simp [packs, h]
theorem fewB_yes {l : List (List Lay)} {i : Nat} (h : ∀ (j : Nat) (hj : j < l.length), j < i → l[j].length ≤ 70) (hi : l.length ≤ i) : fewB l = true := by
  refine List.all_eq_true.2 fun p hp => ?_
  obtain ⟨j, hj, rfl⟩ := List.mem_iff_getElem.1 hp
  exact decide_eq_true (h j hj (by omega))
theorem fewB_no {l : List (List Lay)} {k : Nat} (hk : k < l.length) (h : ¬ l[k].length ≤ 70) : fewB l = false := by
  cases hc : fewB l with
  | false => rfl
  | true => exact absurd (of_decide_eq_true (List.all_eq_true.1 hc _ (List.getElem_mem hk))) h

set_option maxRecDepth 20000 in
theorem rwithin_s (n lo hi : Int) : FSpec Tryd.prog 68 [I n, I lo, I hi] (B (winB n lo hi)) (none) := by
  refine FSpec.of_body Tryd.func68 rfl (leB rfl) fun w0 M0 => ?_
  refine AWP.seq ?_
  refine AWP.region ?_
  refine AOps.call (o_assign _ rfl rfl) ?_
  refine AOps.nil ?_
  refine AWP.seq ?_
  refine AWP.region ?_
  refine AOps.call (o_move _ rfl rfl) ?_
  refine AOps.call (o_move _ rfl rfl) ?_
  refine AOps.call (o_bin _ _ rfl rfl (fun _ => rfl) rfl) ?_
  refine AOps.call (o_move _ rfl rfl) ?_
  refine AOps.split rfl rfl rfl (fun h4 => ?_) (fun h4 => ?_)
  · skip
    refine AOps.go rfl rfl rfl h4 (o_move _ rfl rfl) ?_
    refine AOps.go rfl rfl rfl h4 (o_move _ rfl rfl) ?_
    refine AOps.go rfl rfl rfl h4 (o_bin _ _ rfl rfl (fun _ => rfl) rfl) ?_
    refine AOps.call (o_pickT _ _ _ rfl h4 rfl rfl) ?_
    refine AOps.call (o_assign _ rfl rfl) ?_
    refine AOps.nil ?_
    refine AWP.ret ?_
    refine postQ.ret1 Tryd.results68 rfl ?_
    simp_all [AV.close, B, winB]
    try (intros; omega)
  · skip
    refine AOps.pass rfl rfl rfl h4 rfl ?_
    refine AOps.pass rfl rfl rfl h4 rfl ?_
    refine AOps.pass rfl rfl rfl h4 rfl ?_
    refine AOps.call (o_pickF _ _ _ rfl h4 rfl rfl) ?_
    refine AOps.call (o_assign _ rfl rfl) ?_
    refine AOps.nil ?_
    refine AWP.ret ?_
    refine postQ.ret1 Tryd.results68 rfl ?_
    simp_all [AV.close, B, winB]
    try (intros; omega)

set_option maxRecDepth 20000 in
theorem rhold_s (l : Lay) (h0 : 0 ≤ l.ice ∧ l.ice ≤ 9223372036854775807) : FSpec Tryd.prog 62 [.agg (eL l)] (I (l.ice / 20)) (none) := by
  refine FSpec.of_body Tryd.func62 rfl (leB rfl) fun w0 M0 => ?_
  refine AWP.seq ?_
  refine AWP.region ?_
  refine AOps.call (o_box _ rfl rfl rfl) ?_
  refine AOps.call (o_assign _ rfl rfl) ?_
  refine AOps.nil ?_
  refine AWP.seq ?_
  refine AWP.region ?_
  refine AOps.call (o_fieldRef _ rfl fa28_0 rfl rfl) ?_
  refine AOps.call (o_loadRef _ rfl rfl Tryd.sizeOf3 Tryd.isAgg3 rfl rfl rfl) ?_
  refine AOps.call (o_quo _ _ rfl rfl ⟨by omega, by omega⟩ (by omega) rfl) ?_
  refine AOps.call (o_assign _ rfl rfl) ?_
  refine AOps.nil ?_
  refine AWP.ret ?_
  exact postQ.ret1 Tryd.results62 rfl rfl

set_option maxRecDepth 20000 in
theorem rlayer_s (l : Lay) : FSpec Tryd.prog 61 [.agg (eL l)] (B (layB l)) (none) := by
  refine FSpec.of_body Tryd.func61 rfl (leB rfl) fun w0 M0 => ?_
  refine AWP.seq ?_
  refine AWP.region ?_
  refine AOps.call (o_box _ rfl rfl rfl) ?_
  refine AOps.call (o_assign _ rfl rfl) ?_
  refine AOps.nil ?_
  refine AWP.seq ?_
  refine AWP.drawn 26 mixed (by kernel_rfl) ?_
  refine AHead.call (o_fieldRef _ rfl fa28_0 rfl rfl) rfl ?_
  refine AHead.call (o_loadRef _ rfl rfl Tryd.sizeOf3 Tryd.isAgg3 rfl rfl rfl) rfl ?_
  refine AHead.call (o_call (rwithin_s l.ice 1 65536) Tryd.call68 rfl rfl) rfl ?_
  refine AHead.call (o_move _ rfl rfl) rfl ?_
  refine AHead.split rfl rfl rfl (fun h5 => ?_) (fun h5 => ?_)
  · skip
    have h1 : winB l.ice 1 65536 = true := h5
    have hh : 0 ≤ l.ice ∧ l.ice ≤ 9223372036854775807 := by simp only [winB, Bool.and_eq_true, decide_eq_true_eq] at h1; omega
    refine AHead.go rfl rfl rfl h5 (o_fieldRef _ rfl fa28_1 rfl rfl) rfl ?_
    refine AHead.go rfl rfl rfl h5 (o_loadRef _ rfl rfl Tryd.sizeOf3 Tryd.isAgg3 rfl rfl rfl) rfl ?_
    refine AHead.go rfl rfl rfl h5 (o_loadRef _ rfl rfl Tryd.sizeOf28 Tryd.isAgg28 rfl rfl rfl) rfl ?_
    refine AHead.go rfl rfl rfl h5 (o_call (rhold_s l hh) Tryd.call62 rfl rfl) rfl ?_
    refine AHead.go rfl rfl rfl h5 (o_call (rwithin_s l.wet 0 (l.ice / 20)) Tryd.call68 rfl rfl) rfl ?_
    refine AHead.call (o_pickT _ _ _ rfl h5 rfl rfl) rfl ?_
    refine AHead.call (o_move _ rfl rfl) rfl ?_
    refine AHead.split rfl rfl rfl (fun h11 => ?_) (fun h11 => ?_)
    · skip
      refine AHead.go rfl rfl rfl h11 (o_fieldRef _ rfl fa28_2 rfl rfl) rfl ?_
      refine AHead.go rfl rfl rfl h11 (o_loadRef _ rfl rfl Tryd.sizeOf3 Tryd.isAgg3 rfl rfl rfl) rfl ?_
      refine AHead.go rfl rfl rfl h11 (o_call (rwithin_s l.cold 0 65536) Tryd.call68 rfl rfl) rfl ?_
      refine AHead.call (o_pickT _ _ _ rfl h11 rfl rfl) rfl ?_
      refine AHead.call (o_move _ rfl rfl) rfl ?_
      refine AHead.split rfl rfl rfl (fun h15 => ?_) (fun h15 => ?_)
      · skip
        refine AHead.go rfl rfl rfl h15 (o_fieldRef _ rfl fa28_1 rfl rfl) rfl ?_
        refine AHead.go rfl rfl rfl h15 (o_loadRef _ rfl rfl Tryd.sizeOf3 Tryd.isAgg3 rfl rfl rfl) rfl ?_
        refine AHead.go rfl rfl rfl h15 (o_bin _ _ rfl rfl (fun _ => rfl) rfl) rfl ?_
        refine AHead.go rfl rfl rfl h15 (o_move _ rfl rfl) rfl ?_
        refine AHead.split rfl rfl rfl (fun h19 => ?_) (fun h19 => ?_)
        · skip
          refine AHead.go rfl rfl rfl h19 (o_fieldRef _ rfl fa28_2 rfl rfl) rfl ?_
          refine AHead.go rfl rfl rfl h19 (o_loadRef _ rfl rfl Tryd.sizeOf3 Tryd.isAgg3 rfl rfl rfl) rfl ?_
          refine AHead.go rfl rfl rfl h19 (o_bin _ _ rfl rfl (fun _ => rfl) rfl) rfl ?_
          refine AHead.go rfl rfl rfl h15 (o_pickF _ _ _ rfl h19 rfl rfl) rfl ?_
          refine AHead.call (o_pickT _ _ _ rfl h15 rfl rfl) rfl ?_
          refine AHead.call (o_assign _ rfl rfl) rfl ?_
          refine AHead.nil ?_
          refine AOps.nil ?_
          refine AWP.ret ?_
          refine postQ.ret1 Tryd.results61 rfl ?_
          rw [layB_win]
          simp_all [AV.close, B]
          try rfl
        · skip
          refine AHead.pass rfl rfl rfl h19 rfl ?_
          refine AHead.pass rfl rfl rfl h19 rfl ?_
          refine AHead.pass rfl rfl rfl h19 rfl ?_
          refine AHead.go rfl rfl rfl h15 (o_pickT _ _ _ rfl h19 rfl rfl) rfl ?_
          refine AHead.call (o_pickT _ _ _ rfl h15 rfl rfl) rfl ?_
          refine AHead.call (o_assign _ rfl rfl) rfl ?_
          refine AHead.nil ?_
          refine AOps.nil ?_
          refine AWP.ret ?_
          refine postQ.ret1 Tryd.results61 rfl ?_
          rw [layB_win]
          simp_all [AV.close, B]
          try rfl
      · skip
        refine AHead.pass rfl rfl rfl h15 rfl ?_
        refine AHead.pass rfl rfl rfl h15 rfl ?_
        refine AHead.pass rfl rfl rfl h15 rfl ?_
        refine AHead.pass rfl rfl rfl h15 rfl ?_
        refine AHead.passU rfl rfl rfl rfl ?_
        refine AHead.passU rfl rfl rfl rfl ?_
        refine AHead.passU rfl rfl rfl rfl ?_
        refine AHead.pass rfl rfl rfl h15 rfl ?_
        refine AHead.call (o_pickF _ _ _ rfl h15 rfl rfl) rfl ?_
        refine AHead.call (o_assign _ rfl rfl) rfl ?_
        refine AHead.nil ?_
        refine AOps.nil ?_
        refine AWP.ret ?_
        refine postQ.ret1 Tryd.results61 rfl ?_
        rw [layB_win]
        simp_all [AV.close, B]
        try rfl
    · skip
      refine AHead.pass rfl rfl rfl h11 rfl ?_
      refine AHead.pass rfl rfl rfl h11 rfl ?_
      refine AHead.pass rfl rfl rfl h11 rfl ?_
      refine AHead.call (o_pickF _ _ _ rfl h11 rfl rfl) rfl ?_
      refine AHead.call (o_move _ rfl rfl) rfl ?_
      refine AHead.pass rfl rfl rfl rfl rfl ?_
      refine AHead.pass rfl rfl rfl rfl rfl ?_
      refine AHead.pass rfl rfl rfl rfl rfl ?_
      refine AHead.pass rfl rfl rfl rfl rfl ?_
      refine AHead.passU rfl rfl rfl rfl ?_
      refine AHead.passU rfl rfl rfl rfl ?_
      refine AHead.passU rfl rfl rfl rfl ?_
      refine AHead.pass rfl rfl rfl rfl rfl ?_
      refine AHead.call (o_pickF _ _ _ rfl rfl rfl rfl) rfl ?_
      refine AHead.call (o_assign _ rfl rfl) rfl ?_
      refine AHead.nil ?_
      refine AOps.nil ?_
      refine AWP.ret ?_
      refine postQ.ret1 Tryd.results61 rfl ?_
      rw [layB_win]
      simp_all [AV.close, B]
      try rfl
  · skip
    refine AHead.pass rfl rfl rfl h5 rfl ?_
    refine AHead.pass rfl rfl rfl h5 rfl ?_
    refine AHead.pass rfl rfl rfl h5 rfl ?_
    refine AHead.pass rfl rfl rfl h5 rfl ?_
    refine AHead.pass rfl rfl rfl h5 rfl ?_
    refine AHead.call (o_pickF _ _ _ rfl h5 rfl rfl) rfl ?_
    refine AHead.call (o_move _ rfl rfl) rfl ?_
    refine AHead.pass rfl rfl rfl rfl rfl ?_
    refine AHead.pass rfl rfl rfl rfl rfl ?_
    refine AHead.pass rfl rfl rfl rfl rfl ?_
    refine AHead.call (o_pickF _ _ _ rfl rfl rfl rfl) rfl ?_
    refine AHead.call (o_move _ rfl rfl) rfl ?_
    refine AHead.pass rfl rfl rfl rfl rfl ?_
    refine AHead.pass rfl rfl rfl rfl rfl ?_
    refine AHead.pass rfl rfl rfl rfl rfl ?_
    refine AHead.pass rfl rfl rfl rfl rfl ?_
    refine AHead.passU rfl rfl rfl rfl ?_
    refine AHead.passU rfl rfl rfl rfl ?_
    refine AHead.passU rfl rfl rfl rfl ?_
    refine AHead.pass rfl rfl rfl rfl rfl ?_
    refine AHead.call (o_pickF _ _ _ rfl rfl rfl rfl) rfl ?_
    refine AHead.call (o_assign _ rfl rfl) rfl ?_
    refine AHead.nil ?_
    refine AOps.nil ?_
    refine AWP.ret ?_
    refine postQ.ret1 Tryd.results61 rfl ?_
    rw [layB_win]
    simp_all [AV.close, B]
    try rfl

set_option maxRecDepth 20000 in
theorem rwater_s (l : List Lay) (hl : ∀ x ∈ l, layB x = true) (hn : l.length ≤ 64) : FSpec Tryd.prog 64 [.sl (lays l)] (I (watL l)) (none) := by
  refine FSpec.of_body Tryd.func64 rfl (leB rfl) fun w0 M0 => ?_
  refine AWP.seq ?_
  refine AWP.region ?_
  refine AOps.call (o_assign _ rfl rfl) ?_
  refine AOps.nil ?_
  refine AWP.seq ?_
  refine AWP.region ?_
  refine AOps.call (o_assign _ rfl rfl) ?_
  refine AOps.nil ?_
  refine AWP.seq ?_
  refine AWP.seq ?_
  refine AWP.region ?_
  refine AOps.call (o_assign _ rfl rfl) ?_
  refine AOps.nil ?_
  refine AWP.block ?_
  refine AWP.loop (ι := Nat) (fun i => AS.mk' 25 [(0, .sl (lays l)), (3, I (watL (l.take i))), (4, I i)] [] [] []) (fun i => i ≤ l.length) (fun i => l.length - i) (0) (Weak.mk' rfl ⟨⟨.refl rfl, rfl⟩, ⟨⟨.refl rfl, rfl⟩, ⟨⟨.refl rfl, rfl⟩, trivial⟩⟩⟩ trivial trivial) (Nat.zero_le _) ?_
  rintro k hk
  try dsimp only at *
  refine AWP.seq ?_
  refine AWP.seq ?_
  refine AWP.region ?_
  refine AOps.call (o_move _ rfl rfl) ?_
  refine AOps.call (o_move _ rfl rfl) ?_
  refine AOps.call (o_len _ Tryd.underlying22 rfl rfl) ?_
  refine AOps.call (o_bin _ _ rfl rfl (fun _ => rfl) rfl) ?_
  refine AOps.nil ?_
  refine AWP.cond _ rfl (fun h7 => ?_) (fun h7 => ?_)
  · skip
    have hlt : k < l.length := by simpa [lays] using h7
    have hel := lays_at hlt
    have hb := layB_iff.1 (hl _ (List.getElem_mem hlt))
    have hw := watL_bd (all_take (n := k) hl)
    have hwl : (l.take k).length ≤ 64 := by rw [List.length_take]; omega
    refine AWP.skip ?_
    refine AWP.seq ?_
    refine AWP.block ?_
    refine AWP.drawn 13 mixed (by kernel_rfl) ?_
    refine AHead.call (o_move _ rfl rfl) rfl ?_
    refine AHead.call (o_move _ rfl rfl) rfl ?_
    refine AHead.call (o_move _ rfl rfl) rfl ?_
    refine AHead.call (o_index _ _ Tryd.underlying22 Tryd.sizeOf28 rfl rfl (by omega) (by assumption) rfl rfl) rfl ?_
    refine AHead.call (o_fieldRd _ rfl fa28_0 rfl) rfl ?_
    refine AHead.call (o_loadRd _ rfl Tryd.sizeOf3 Tryd.isAgg3 rfl rfl rfl) rfl ?_
    refine AHead.call (o_add _ _ rfl rfl ⟨by (try dsimp only); omega, by (try dsimp only); omega⟩ rfl) rfl ?_
    refine AHead.call (o_move _ rfl rfl) rfl ?_
    refine AHead.call (o_move _ rfl rfl) rfl ?_
    refine AHead.call (o_index _ _ Tryd.underlying22 Tryd.sizeOf28 rfl rfl (by omega) (by assumption) rfl rfl) rfl ?_
    refine AHead.call (o_fieldRd _ rfl fa28_1 rfl) rfl ?_
    refine AHead.call (o_loadRd _ rfl Tryd.sizeOf3 Tryd.isAgg3 rfl rfl rfl) rfl ?_
    refine AHead.call (o_add _ _ rfl rfl ⟨by (try dsimp only); omega, by (try dsimp only); omega⟩ rfl) rfl ?_
    refine AHead.nil ?_
    refine AOps.call (o_assign _ rfl rfl) ?_
    refine AOps.nil ?_
    refine AWP.region ?_
    refine AOps.call (o_move _ rfl rfl) ?_
    refine AOps.call (o_add _ _ rfl rfl ⟨by (try dsimp only); omega, by (try dsimp only); omega⟩ rfl) ?_
    refine AOps.call (o_assign _ rfl rfl) ?_
    refine AOps.nil ?_
    refine ⟨k + 1, ?_, (Weak.mk' rfl ⟨⟨.refl rfl, rfl⟩, ⟨⟨.refl (by rw [watL_take hlt, ← Int.add_assoc]; rfl), rfl⟩, ⟨⟨.refl rfl, rfl⟩, trivial⟩⟩⟩ trivial trivial)⟩
    exact ⟨by omega, by omega⟩
  · skip
    have hkl : k = l.length := by simp [lays] at h7 hk; omega
    subst hkl
    refine AWP.exit ?_
    refine AWP.seq ?_
    refine AWP.region ?_
    refine AOps.call (o_move _ rfl rfl) ?_
    refine AOps.call (o_assign _ rfl rfl) ?_
    refine AOps.nil ?_
    refine AWP.ret ?_
    refine postQ.ret1 Tryd.results64 rfl ?_
    rw [List.take_length]
    rfl

set_option maxRecDepth 20000 in
theorem rcold_s (l : List Lay) (hl : ∀ x ∈ l, layB x = true) (hn : l.length ≤ 64) : FSpec Tryd.prog 66 [.sl (lays l)] (I (coldL l)) (none) := by
  refine FSpec.of_body Tryd.func66 rfl (leB rfl) fun w0 M0 => ?_
  refine AWP.seq ?_
  refine AWP.region ?_
  refine AOps.call (o_assign _ rfl rfl) ?_
  refine AOps.nil ?_
  refine AWP.seq ?_
  refine AWP.region ?_
  refine AOps.call (o_assign _ rfl rfl) ?_
  refine AOps.nil ?_
  refine AWP.seq ?_
  refine AWP.seq ?_
  refine AWP.region ?_
  refine AOps.call (o_assign _ rfl rfl) ?_
  refine AOps.nil ?_
  refine AWP.block ?_
  refine AWP.loop (ι := Nat) (fun i => AS.mk' 19 [(0, .sl (lays l)), (3, I (coldL (l.take i))), (4, I i)] [] [] []) (fun i => i ≤ l.length) (fun i => l.length - i) (0) (Weak.mk' rfl ⟨⟨.refl rfl, rfl⟩, ⟨⟨.refl rfl, rfl⟩, ⟨⟨.refl rfl, rfl⟩, trivial⟩⟩⟩ trivial trivial) (Nat.zero_le _) ?_
  rintro k hk
  try dsimp only at *
  refine AWP.seq ?_
  refine AWP.seq ?_
  refine AWP.region ?_
  refine AOps.call (o_move _ rfl rfl) ?_
  refine AOps.call (o_move _ rfl rfl) ?_
  refine AOps.call (o_len _ Tryd.underlying22 rfl rfl) ?_
  refine AOps.call (o_bin _ _ rfl rfl (fun _ => rfl) rfl) ?_
  refine AOps.nil ?_
  refine AWP.cond _ rfl (fun h7 => ?_) (fun h7 => ?_)
  · skip
    have hlt : k < l.length := by simpa [lays] using h7
    have hel := lays_at hlt
    have hb := layB_iff.1 (hl _ (List.getElem_mem hlt))
    have hw := coldL_bd (all_take (n := k) hl)
    have hwl : (l.take k).length ≤ 64 := by rw [List.length_take]; omega
    refine AWP.skip ?_
    refine AWP.seq ?_
    refine AWP.block ?_
    refine AWP.region ?_
    refine AOps.call (o_move _ rfl rfl) ?_
    refine AOps.call (o_move _ rfl rfl) ?_
    refine AOps.call (o_move _ rfl rfl) ?_
    refine AOps.call (o_index _ _ Tryd.underlying22 Tryd.sizeOf28 rfl rfl (by omega) (by assumption) rfl rfl) ?_
    refine AOps.call (o_fieldRd _ rfl fa28_2 rfl) ?_
    refine AOps.call (o_loadRd _ rfl Tryd.sizeOf3 Tryd.isAgg3 rfl rfl rfl) ?_
    refine AOps.call (o_add _ _ rfl rfl ⟨by (try dsimp only); omega, by (try dsimp only); omega⟩ rfl) ?_
    refine AOps.call (o_assign _ rfl rfl) ?_
    refine AOps.nil ?_
    refine AWP.region ?_
    refine AOps.call (o_move _ rfl rfl) ?_
    refine AOps.call (o_add _ _ rfl rfl ⟨by (try dsimp only); omega, by (try dsimp only); omega⟩ rfl) ?_
    refine AOps.call (o_assign _ rfl rfl) ?_
    refine AOps.nil ?_
    refine ⟨k + 1, ?_, (Weak.mk' rfl ⟨⟨.refl rfl, rfl⟩, ⟨⟨.refl (by rw [coldL_take hlt]; rfl), rfl⟩, ⟨⟨.refl rfl, rfl⟩, trivial⟩⟩⟩ trivial trivial)⟩
    exact ⟨by omega, by omega⟩
  · skip
    have hkl : k = l.length := by simp [lays] at h7 hk; omega
    subst hkl
    refine AWP.exit ?_
    refine AWP.seq ?_
    refine AWP.region ?_
    refine AOps.call (o_move _ rfl rfl) ?_
    refine AOps.call (o_assign _ rfl rfl) ?_
    refine AOps.nil ?_
    refine AWP.ret ?_
    refine postQ.ret1 Tryd.results66 rfl ?_
    rw [List.take_length]
    rfl

set_option maxRecDepth 20000 in
theorem rCheck_s (p : List Lay) : FSpec Tryd.prog 27 [.agg (eK p)] (I (packE p)) (none) := by
  refine FSpec.of_body Tryd.func27 rfl (leB rfl) fun w0 M0 => ?_
  have hpl := lays_len p
  refine AWP.seq ?_
  refine AWP.region ?_
  refine AOps.call (o_box _ rfl rfl rfl) ?_
  refine AOps.call (o_assign _ rfl rfl) ?_
  refine AOps.nil ?_
  refine AWP.seq ?_
  refine AWP.seq ?_
  refine AWP.region ?_
  refine AOps.call (o_fieldRef _ rfl fa24_0 rfl rfl) ?_
  refine AOps.call (o_loadRef _ rfl rfl Tryd.sizeOf22 Tryd.isAgg22 rfl rfl rfl) ?_
  refine AOps.call (o_len _ Tryd.underlying22 rfl rfl) ?_
  refine AOps.call (o_bin _ _ rfl rfl (fun _ => rfl) rfl) ?_
  refine AOps.nil ?_
  refine AWP.cond _ rfl (fun h7 => ?_) (fun h7 => ?_)
  · skip
    have hbig : 64 < p.length := by have := of_decide_eq_true h7; omega
    refine AWP.seq ?_
    refine AWP.region ?_
    refine AOps.call (o_assign _ rfl rfl) ?_
    refine AOps.nil ?_
    refine AWP.ret ?_
    refine postQ.ret1 Tryd.results27 rfl ?_
    first
    | (rw [show packE p = 0 from packE_0.2 ⟨h64, hall, hw, hc⟩]; rfl)
    | (unfold packE; simp_all [AV.close, AV.close.closeL, B, I]; done)
    | (unfold packE; simp_all [AV.close, AV.close.closeL, B, I]; intros; omega)
  · skip
    have h64 : p.length ≤ 64 := by have := of_decide_eq_false h7; omega
    refine AWP.skip ?_
    refine AWP.seq ?_
    refine AWP.seq ?_
    refine AWP.region ?_
    refine AOps.call (o_assign _ rfl rfl) ?_
    refine AOps.nil ?_
    refine AWP.block ?_
    refine AWP.loop (ι := Nat) (fun i => AS.mk' 32 [(1, .ref (1, 0) 0), (3, I i)] [((1, 0), eK p)] [] [(1, 1)]) (fun i => i ≤ p.length ∧ ∀ (j : Nat) (h : j < p.length), j < i → layB p[j] = true) (fun i => p.length - i) (0) (Weak.mk' rfl ⟨⟨.refl rfl, rfl⟩, ⟨⟨.refl rfl, rfl⟩, trivial⟩⟩ ⟨⟨rfl, rfl, rfl⟩, trivial⟩ trivial) (⟨Nat.zero_le _, fun _ _ h => absurd h (Nat.not_lt_zero _)⟩) ?_
    rintro k ⟨hk, hv⟩
    try dsimp only at *
    refine AWP.seq ?_
    refine AWP.seq ?_
    refine AWP.region ?_
    refine AOps.call (o_move _ rfl rfl) ?_
    refine AOps.call (o_fieldRef _ rfl fa24_0 rfl rfl) ?_
    refine AOps.call (o_loadRef _ rfl rfl Tryd.sizeOf22 Tryd.isAgg22 rfl rfl rfl) ?_
    refine AOps.call (o_len _ Tryd.underlying22 rfl rfl) ?_
    refine AOps.call (o_bin _ _ rfl rfl (fun _ => rfl) rfl) ?_
    refine AOps.nil ?_
    refine AWP.cond _ rfl (fun h14 => ?_) (fun h14 => ?_)
    · skip
      have hlt : k < p.length := by simpa [lays] using h14
      have hel := lays_at hlt
      refine AWP.skip ?_
      refine AWP.seq ?_
      refine AWP.block ?_
      refine AWP.seq ?_
      refine AWP.region ?_
      refine AOps.call (o_fieldRef _ rfl fa24_0 rfl rfl) ?_
      refine AOps.call (o_loadRef _ rfl rfl Tryd.sizeOf22 Tryd.isAgg22 rfl rfl rfl) ?_
      refine AOps.call (o_move _ rfl rfl) ?_
      refine AOps.call (o_index _ _ Tryd.underlying22 Tryd.sizeOf28 rfl rfl (by omega) (by assumption) rfl rfl) ?_
      refine AOps.call (o_loadRd _ rfl Tryd.sizeOf28 Tryd.isAgg28 rfl rfl rfl) ?_
      refine AOps.call (o_call (rlayer_s _) Tryd.call61 rfl rfl) ?_
      refine AOps.call (o_un _ rfl (fun _ => rfl) rfl) ?_
      refine AOps.nil ?_
      refine AWP.cond _ rfl (fun h21 => ?_) (fun h21 => ?_)
      · skip
        have hbk : layB p[k] = false := by simpa using h21
        have hallB : p.all layB = false := by
          cases hc : p.all layB with
          | false => rfl
          | true => rw [List.all_eq_true.1 hc _ (List.getElem_mem hlt)] at hbk; cases hbk
        refine AWP.seq ?_
        refine AWP.region ?_
        refine AOps.call (o_assign _ rfl rfl) ?_
        refine AOps.nil ?_
        refine AWP.ret ?_
        refine postQ.ret1 Tryd.results27 rfl ?_
        first
        | (rw [show packE p = 0 from packE_0.2 ⟨h64, hall, hw, hc⟩]; rfl)
        | (unfold packE; simp_all [AV.close, AV.close.closeL, B, I]; done)
        | (unfold packE; simp_all [AV.close, AV.close.closeL, B, I]; intros; omega)
      · skip
        have hbk : layB p[k] = true := by simpa using h21
        refine AWP.skip ?_
        refine AWP.region ?_
        refine AOps.call (o_move _ rfl rfl) ?_
        refine AOps.call (o_add _ _ rfl rfl ⟨by (try dsimp only); omega, by (try dsimp only); omega⟩ rfl) ?_
        refine AOps.call (o_assign _ rfl rfl) ?_
        refine AOps.nil ?_
        refine ⟨k + 1, ?_, (Weak.mk' rfl ⟨⟨.refl rfl, rfl⟩, ⟨⟨.refl rfl, rfl⟩, trivial⟩⟩ ⟨⟨rfl, rfl, rfl⟩, trivial⟩ trivial)⟩
        exact ⟨⟨by omega, fun j hj hjk => by
          by_cases h : j < k
          · exact hv j hj h
          · obtain rfl : j = k := by omega
            exact hbk⟩, by omega⟩
    · skip
      have hall : ∀ x ∈ p, layB x = true := fun x hx => by
        obtain ⟨j, hj, rfl⟩ := List.mem_iff_getElem.1 hx
        exact hv j hj (by have := of_decide_eq_false h14; omega)
      have hallB : p.all layB = true := List.all_eq_true.2 hall
      refine AWP.exit ?_
      refine AWP.seq ?_
      refine AWP.seq ?_
      refine AWP.region ?_
      refine AOps.call (o_fieldRef _ rfl fa24_0 rfl rfl) ?_
      refine AOps.call (o_loadRef _ rfl rfl Tryd.sizeOf22 Tryd.isAgg22 rfl rfl rfl) ?_
      refine AOps.call (o_call (rwater_s _ hall h64) Tryd.call64 rfl rfl) ?_
      refine AOps.call (o_bin _ _ rfl rfl (fun _ => rfl) rfl) ?_
      refine AOps.call (o_move _ rfl rfl) ?_
      refine AOps.split rfl rfl rfl (fun h28 => ?_) (fun h28 => ?_)
      · skip
        have hw : watL p ≤ 65536 := by have := of_decide_eq_false h28; omega
        refine AOps.go rfl rfl rfl h28 (o_fieldRef _ rfl fa24_0 rfl rfl) ?_
        refine AOps.go rfl rfl rfl h28 (o_loadRef _ rfl rfl Tryd.sizeOf22 Tryd.isAgg22 rfl rfl rfl) ?_
        refine AOps.go rfl rfl rfl h28 (o_call (rcold_s _ hall h64) Tryd.call66 rfl rfl) ?_
        refine AOps.go rfl rfl rfl h28 (o_bin _ _ rfl rfl (fun _ => rfl) rfl) ?_
        refine AOps.call (o_pickF _ _ _ rfl h28 rfl rfl) ?_
        refine AOps.nil ?_
        refine AWP.cond _ rfl (fun h33 => ?_) (fun h33 => ?_)
        · skip
          refine AWP.seq ?_
          refine AWP.region ?_
          refine AOps.call (o_assign _ rfl rfl) ?_
          refine AOps.nil ?_
          refine AWP.ret ?_
          refine postQ.ret1 Tryd.results27 rfl ?_
          first
          | (rw [show packE p = 0 from packE_0.2 ⟨h64, hall, hw, hc⟩]; rfl)
          | (unfold packE; simp_all [AV.close, AV.close.closeL, B, I]; done)
          | (unfold packE; simp_all [AV.close, AV.close.closeL, B, I]; intros; omega)
        · skip
          have hc : coldL p ≤ 65536 := by have := of_decide_eq_false h33; omega
          refine AWP.skip ?_
          refine AWP.seq ?_
          refine AWP.region ?_
          refine AOps.call (o_assign _ rfl rfl) ?_
          refine AOps.nil ?_
          refine AWP.ret ?_
          refine postQ.ret1 Tryd.results27 rfl ?_
          first
          | (rw [show packE p = 0 from packE_0.2 ⟨h64, hall, hw, hc⟩]; rfl)
          | (unfold packE; simp_all [AV.close, AV.close.closeL, B, I]; done)
          | (unfold packE; simp_all [AV.close, AV.close.closeL, B, I]; intros; omega)
      · skip
        refine AOps.pass rfl rfl rfl h28 rfl ?_
        refine AOps.pass rfl rfl rfl h28 rfl ?_
        refine AOps.pass rfl rfl rfl h28 rfl ?_
        refine AOps.pass rfl rfl rfl h28 rfl ?_
        refine AOps.call (o_pickT _ _ _ rfl h28 rfl rfl) ?_
        refine AOps.nil ?_
        refine AWP.condT rfl ?_
        refine AWP.seq ?_
        refine AWP.region ?_
        refine AOps.call (o_assign _ rfl rfl) ?_
        refine AOps.nil ?_
        refine AWP.ret ?_
        refine postQ.ret1 Tryd.results27 rfl ?_
        first
        | (rw [show packE p = 0 from packE_0.2 ⟨h64, hall, hw, hc⟩]; rfl)
        | (unfold packE; simp_all [AV.close, AV.close.closeL, B, I]; done)
        | (unfold packE; simp_all [AV.close, AV.close.closeL, B, I]; intros; omega)

set_option maxRecDepth 20000 in
theorem rCheckStep_s (s : Stp) : FSpec Tryd.prog 29 [.agg (eT s)] (I (stepE s)) (none) := by
  refine FSpec.of_body Tryd.func29 rfl (leB rfl) fun w0 M0 => ?_
  refine AWP.seq ?_
  refine AWP.region ?_
  refine AOps.call (o_box _ rfl rfl rfl) ?_
  refine AOps.call (o_assign _ rfl rfl) ?_
  refine AOps.nil ?_
  refine AWP.seq ?_
  refine AWP.seq ?_
  refine AWP.region ?_
  refine AOps.call (o_fieldRef _ rfl fa26_0 rfl rfl) ?_
  refine AOps.call (o_loadRef _ rfl rfl Tryd.sizeOf3 Tryd.isAgg3 rfl rfl rfl) ?_
  refine AOps.call (o_call (rwithin_s s.kind 1 6) Tryd.call68 rfl rfl) ?_
  refine AOps.call (o_un _ rfl (fun _ => rfl) rfl) ?_
  refine AOps.call (o_move _ rfl rfl) ?_
  refine AOps.split rfl rfl rfl (fun h7 => ?_) (fun h7 => ?_)
  · skip
    refine AOps.go rfl rfl rfl h7 (o_fieldRef _ rfl fa26_1 rfl rfl) ?_
    refine AOps.go rfl rfl rfl h7 (o_loadRef _ rfl rfl Tryd.sizeOf3 Tryd.isAgg3 rfl rfl rfl) ?_
    refine AOps.go rfl rfl rfl h7 (o_call (rwithin_s s.much 0 65536) Tryd.call68 rfl rfl) ?_
    refine AOps.go rfl rfl rfl h7 (o_un _ rfl (fun _ => rfl) rfl) ?_
    refine AOps.call (o_pickF _ _ _ rfl h7 rfl rfl) ?_
    refine AOps.nil ?_
    refine AWP.cond _ rfl (fun h12 => ?_) (fun h12 => ?_)
    · skip
      refine AWP.seq ?_
      refine AWP.region ?_
      refine AOps.call (o_assign _ rfl rfl) ?_
      refine AOps.nil ?_
      refine AWP.ret ?_
      refine postQ.ret1 Tryd.results29 rfl ?_
      unfold stepE
      simp_all [AV.close, AV.close.closeL, B, I, winB]
      try (intros; omega)
    · skip
      refine AWP.skip ?_
      refine AWP.seq ?_
      refine AWP.seq ?_
      refine AWP.region ?_
      refine AOps.call (o_fieldRef _ rfl fa26_0 rfl rfl) ?_
      refine AOps.call (o_loadRef _ rfl rfl Tryd.sizeOf3 Tryd.isAgg3 rfl rfl rfl) ?_
      refine AOps.call (o_bin _ _ rfl rfl (fun _ => rfl) rfl) ?_
      refine AOps.call (o_move _ rfl rfl) ?_
      refine AOps.split rfl rfl rfl (fun h17 => ?_) (fun h17 => ?_)
      · skip
        refine AOps.go rfl rfl rfl h17 (o_fieldRef _ rfl fa26_2 rfl rfl) ?_
        refine AOps.go rfl rfl rfl h17 (o_loadRef _ rfl rfl Tryd.sizeOf3 Tryd.isAgg3 rfl rfl rfl) ?_
        refine AOps.go rfl rfl rfl h17 (o_call (rwithin_s s.cold 0 65536) Tryd.call68 rfl rfl) ?_
        refine AOps.go rfl rfl rfl h17 (o_un _ rfl (fun _ => rfl) rfl) ?_
        refine AOps.call (o_pickT _ _ _ rfl h17 rfl rfl) ?_
        refine AOps.call (o_move _ rfl rfl) ?_
        refine AOps.split rfl rfl rfl (fun h22 => ?_) (fun h22 => ?_)
        · skip
          refine AOps.go rfl rfl rfl h22 (o_fieldRef _ rfl fa26_0 rfl rfl) ?_
          refine AOps.go rfl rfl rfl h22 (o_loadRef _ rfl rfl Tryd.sizeOf3 Tryd.isAgg3 rfl rfl rfl) ?_
          refine AOps.go rfl rfl rfl h22 (o_bin _ _ rfl rfl (fun _ => rfl) rfl) ?_
          refine AOps.go rfl rfl rfl h22 (o_move _ rfl rfl) ?_
          refine AOps.split rfl rfl rfl (fun h26 => ?_) (fun h26 => ?_)
          · skip
            refine AOps.go rfl rfl rfl h26 (o_fieldRef _ rfl fa26_2 rfl rfl) ?_
            refine AOps.go rfl rfl rfl h26 (o_loadRef _ rfl rfl Tryd.sizeOf3 Tryd.isAgg3 rfl rfl rfl) ?_
            refine AOps.go rfl rfl rfl h26 (o_bin _ _ rfl rfl (fun _ => rfl) rfl) ?_
            refine AOps.go rfl rfl rfl h22 (o_pickT _ _ _ rfl h26 rfl rfl) ?_
            refine AOps.call (o_pickF _ _ _ rfl h22 rfl rfl) ?_
            refine AOps.nil ?_
            refine AWP.cond _ rfl (fun h30 => ?_) (fun h30 => ?_)
            · skip
              refine AWP.seq ?_
              refine AWP.region ?_
              refine AOps.call (o_assign _ rfl rfl) ?_
              refine AOps.nil ?_
              refine AWP.ret ?_
              refine postQ.ret1 Tryd.results29 rfl ?_
              unfold stepE
              simp_all [AV.close, AV.close.closeL, B, I, winB]
              try (intros; omega)
            · skip
              refine AWP.skip ?_
              refine AWP.seq ?_
              refine AWP.region ?_
              refine AOps.call (o_assign _ rfl rfl) ?_
              refine AOps.nil ?_
              refine AWP.ret ?_
              refine postQ.ret1 Tryd.results29 rfl ?_
              unfold stepE
              simp_all [AV.close, AV.close.closeL, B, I, winB]
              try (intros; omega)
          · skip
            refine AOps.pass rfl rfl rfl h26 rfl ?_
            refine AOps.pass rfl rfl rfl h26 rfl ?_
            refine AOps.pass rfl rfl rfl h26 rfl ?_
            refine AOps.go rfl rfl rfl h22 (o_pickF _ _ _ rfl h26 rfl rfl) ?_
            refine AOps.call (o_pickF _ _ _ rfl h22 rfl rfl) ?_
            refine AOps.nil ?_
            refine AWP.condF rfl ?_
            refine AWP.skip ?_
            refine AWP.seq ?_
            refine AWP.region ?_
            refine AOps.call (o_assign _ rfl rfl) ?_
            refine AOps.nil ?_
            refine AWP.ret ?_
            refine postQ.ret1 Tryd.results29 rfl ?_
            unfold stepE
            simp_all [AV.close, AV.close.closeL, B, I, winB]
            try (intros; omega)
        · skip
          refine AOps.pass rfl rfl rfl h22 rfl ?_
          refine AOps.pass rfl rfl rfl h22 rfl ?_
          refine AOps.pass rfl rfl rfl h22 rfl ?_
          refine AOps.pass rfl rfl rfl h22 rfl ?_
          refine AOps.passU rfl rfl rfl rfl ?_
          refine AOps.passU rfl rfl rfl rfl ?_
          refine AOps.passU rfl rfl rfl rfl ?_
          refine AOps.pass rfl rfl rfl h22 rfl ?_
          refine AOps.call (o_pickT _ _ _ rfl h22 rfl rfl) ?_
          refine AOps.nil ?_
          refine AWP.condT rfl ?_
          refine AWP.seq ?_
          refine AWP.region ?_
          refine AOps.call (o_assign _ rfl rfl) ?_
          refine AOps.nil ?_
          refine AWP.ret ?_
          refine postQ.ret1 Tryd.results29 rfl ?_
          unfold stepE
          simp_all [AV.close, AV.close.closeL, B, I, winB]
          try (intros; omega)
      · skip
        refine AOps.pass rfl rfl rfl h17 rfl ?_
        refine AOps.pass rfl rfl rfl h17 rfl ?_
        refine AOps.pass rfl rfl rfl h17 rfl ?_
        refine AOps.pass rfl rfl rfl h17 rfl ?_
        refine AOps.call (o_pickF _ _ _ rfl h17 rfl rfl) ?_
        refine AOps.call (o_move _ rfl rfl) ?_
        refine AOps.go rfl rfl rfl rfl (o_fieldRef _ rfl fa26_0 rfl rfl) ?_
        refine AOps.go rfl rfl rfl rfl (o_loadRef _ rfl rfl Tryd.sizeOf3 Tryd.isAgg3 rfl rfl rfl) ?_
        refine AOps.go rfl rfl rfl rfl (o_bin _ _ rfl rfl (fun _ => rfl) rfl) ?_
        refine AOps.go rfl rfl rfl rfl (o_move _ rfl rfl) ?_
        refine AOps.split rfl rfl rfl (fun h38 => ?_) (fun h38 => ?_)
        · skip
          refine AOps.go rfl rfl rfl h38 (o_fieldRef _ rfl fa26_2 rfl rfl) ?_
          refine AOps.go rfl rfl rfl h38 (o_loadRef _ rfl rfl Tryd.sizeOf3 Tryd.isAgg3 rfl rfl rfl) ?_
          refine AOps.go rfl rfl rfl h38 (o_bin _ _ rfl rfl (fun _ => rfl) rfl) ?_
          refine AOps.go rfl rfl rfl rfl (o_pickT _ _ _ rfl h38 rfl rfl) ?_
          refine AOps.call (o_pickF _ _ _ rfl rfl rfl rfl) ?_
          refine AOps.nil ?_
          refine AWP.cond _ rfl (fun h42 => ?_) (fun h42 => ?_)
          · skip
            refine AWP.seq ?_
            refine AWP.region ?_
            refine AOps.call (o_assign _ rfl rfl) ?_
            refine AOps.nil ?_
            refine AWP.ret ?_
            refine postQ.ret1 Tryd.results29 rfl ?_
            unfold stepE
            simp_all [AV.close, AV.close.closeL, B, I, winB]
            try (intros; omega)
          · skip
            refine AWP.skip ?_
            refine AWP.seq ?_
            refine AWP.region ?_
            refine AOps.call (o_assign _ rfl rfl) ?_
            refine AOps.nil ?_
            refine AWP.ret ?_
            refine postQ.ret1 Tryd.results29 rfl ?_
            unfold stepE
            simp_all [AV.close, AV.close.closeL, B, I, winB]
            try (intros; omega)
        · skip
          refine AOps.pass rfl rfl rfl h38 rfl ?_
          refine AOps.pass rfl rfl rfl h38 rfl ?_
          refine AOps.pass rfl rfl rfl h38 rfl ?_
          refine AOps.go rfl rfl rfl rfl (o_pickF _ _ _ rfl h38 rfl rfl) ?_
          refine AOps.call (o_pickF _ _ _ rfl rfl rfl rfl) ?_
          refine AOps.nil ?_
          refine AWP.condF rfl ?_
          refine AWP.skip ?_
          refine AWP.seq ?_
          refine AWP.region ?_
          refine AOps.call (o_assign _ rfl rfl) ?_
          refine AOps.nil ?_
          refine AWP.ret ?_
          refine postQ.ret1 Tryd.results29 rfl ?_
          unfold stepE
          simp_all [AV.close, AV.close.closeL, B, I, winB]
          try (intros; omega)
  · skip
    refine AOps.pass rfl rfl rfl h7 rfl ?_
    refine AOps.pass rfl rfl rfl h7 rfl ?_
    refine AOps.pass rfl rfl rfl h7 rfl ?_
    refine AOps.pass rfl rfl rfl h7 rfl ?_
    refine AOps.call (o_pickT _ _ _ rfl h7 rfl rfl) ?_
    refine AOps.nil ?_
    refine AWP.condT rfl ?_
    refine AWP.seq ?_
    refine AWP.region ?_
    refine AOps.call (o_assign _ rfl rfl) ?_
    refine AOps.nil ?_
    refine AWP.ret ?_
    refine postQ.ret1 Tryd.results29 rfl ?_
    unfold stepE
    simp_all [AV.close, AV.close.closeL, B, I, winB]
    try (intros; omega)

set_option maxRecDepth 20000 in
theorem rWater_s (p : List Lay) : FSpec Tryd.prog 23 [.agg (eK p)] (.tup [I (if packE p = 0 then watL p else 0), I (packE p)]) (none) := by
  refine FSpec.of_body Tryd.func23 rfl (leB rfl) fun w0 M0 => ?_
  refine AWP.seq ?_
  refine AWP.region ?_
  refine AOps.call (o_box _ rfl rfl rfl) ?_
  refine AOps.call (o_assign _ rfl rfl) ?_
  refine AOps.call (o_assign _ rfl rfl) ?_
  refine AOps.nil ?_
  refine AWP.seq ?_
  refine AWP.region ?_
  refine AOps.call (o_loadRef _ rfl rfl Tryd.sizeOf24 Tryd.isAgg24 rfl rfl rfl) ?_
  refine AOps.call (o_call (rCheck_s _) Tryd.call27 rfl rfl) ?_
  refine AOps.call (o_assign _ rfl rfl) ?_
  refine AOps.nil ?_
  refine AWP.seq ?_
  refine AWP.seq ?_
  refine AWP.region ?_
  refine AOps.call (o_move _ rfl rfl) ?_
  refine AOps.call (o_bin _ _ rfl rfl (fun _ => rfl) rfl) ?_
  refine AOps.nil ?_
  refine AWP.cond _ rfl (fun h7 => ?_) (fun h7 => ?_)
  · skip
    have hp : ¬ packE p = 0 := by simpa using h7
    have hE : (if packE p = 0 then watL p else 0) = 0 := if_neg hp
    refine AWP.seq ?_
    refine AWP.region ?_
    refine AOps.call (o_move _ rfl rfl) ?_
    refine AOps.call (o_assign _ rfl rfl) ?_
    refine AOps.call (o_assign _ rfl rfl) ?_
    refine AOps.nil ?_
    refine AWP.ret ?_
    refine postQ.ret2 Tryd.results23 rfl rfl ?_
    rw [hE]
    first
    | rfl
    | (rw [hp]; rfl)
  · skip
    have hp : packE p = 0 := by simpa using h7
    have hE : (if packE p = 0 then watL p else 0) = watL p := if_pos hp
    have hpv := packE_0.1 hp
    refine AWP.skip ?_
    refine AWP.seq ?_
    refine AWP.region ?_
    refine AOps.call (o_fieldRef _ rfl fa24_0 rfl rfl) ?_
    refine AOps.call (o_loadRef _ rfl rfl Tryd.sizeOf22 Tryd.isAgg22 rfl rfl rfl) ?_
    refine AOps.call (o_call (rwater_s p hpv.2.1 hpv.1) Tryd.call64 rfl rfl) ?_
    refine AOps.call (o_assign _ rfl rfl) ?_
    refine AOps.call (o_assign _ rfl rfl) ?_
    refine AOps.nil ?_
    refine AWP.ret ?_
    refine postQ.ret2 Tryd.results23 rfl rfl ?_
    rw [hE]
    first
    | rfl
    | (rw [hp]; rfl)

set_option maxRecDepth 20000 in
theorem rCold_s (p : List Lay) : FSpec Tryd.prog 25 [.agg (eK p)] (.tup [I (if packE p = 0 then coldL p else 0), I (packE p)]) (none) := by
  refine FSpec.of_body Tryd.func25 rfl (leB rfl) fun w0 M0 => ?_
  refine AWP.seq ?_
  refine AWP.region ?_
  refine AOps.call (o_box _ rfl rfl rfl) ?_
  refine AOps.call (o_assign _ rfl rfl) ?_
  refine AOps.call (o_assign _ rfl rfl) ?_
  refine AOps.nil ?_
  refine AWP.seq ?_
  refine AWP.region ?_
  refine AOps.call (o_loadRef _ rfl rfl Tryd.sizeOf24 Tryd.isAgg24 rfl rfl rfl) ?_
  refine AOps.call (o_call (rCheck_s _) Tryd.call27 rfl rfl) ?_
  refine AOps.call (o_assign _ rfl rfl) ?_
  refine AOps.nil ?_
  refine AWP.seq ?_
  refine AWP.seq ?_
  refine AWP.region ?_
  refine AOps.call (o_move _ rfl rfl) ?_
  refine AOps.call (o_bin _ _ rfl rfl (fun _ => rfl) rfl) ?_
  refine AOps.nil ?_
  refine AWP.cond _ rfl (fun h7 => ?_) (fun h7 => ?_)
  · skip
    have hp : ¬ packE p = 0 := by simpa using h7
    have hE : (if packE p = 0 then coldL p else 0) = 0 := if_neg hp
    refine AWP.seq ?_
    refine AWP.region ?_
    refine AOps.call (o_move _ rfl rfl) ?_
    refine AOps.call (o_assign _ rfl rfl) ?_
    refine AOps.call (o_assign _ rfl rfl) ?_
    refine AOps.nil ?_
    refine AWP.ret ?_
    refine postQ.ret2 Tryd.results25 rfl rfl ?_
    rw [hE]
    first
    | rfl
    | (rw [hp]; rfl)
  · skip
    have hp : packE p = 0 := by simpa using h7
    have hE : (if packE p = 0 then coldL p else 0) = coldL p := if_pos hp
    have hpv := packE_0.1 hp
    refine AWP.skip ?_
    refine AWP.seq ?_
    refine AWP.region ?_
    refine AOps.call (o_fieldRef _ rfl fa24_0 rfl rfl) ?_
    refine AOps.call (o_loadRef _ rfl rfl Tryd.sizeOf22 Tryd.isAgg22 rfl rfl rfl) ?_
    refine AOps.call (o_call (rcold_s p hpv.2.1 hpv.1) Tryd.call66 rfl rfl) ?_
    refine AOps.call (o_assign _ rfl rfl) ?_
    refine AOps.call (o_assign _ rfl rfl) ?_
    refine AOps.nil ?_
    refine AWP.ret ?_
    refine postQ.ret2 Tryd.results25 rfl rfl ?_
    rw [hE]
    first
    | rfl
    | (rw [hp]; rfl)

set_option maxRecDepth 20000 in
theorem rHold_s (l : Lay) : FSpec Tryd.prog 21 [.agg (eL l)] (.tup [I (if layB l = true then l.ice / 20 else 0), I (if layB l = true then 0 else 1)]) (none) := by
  refine FSpec.of_body Tryd.func21 rfl (leB rfl) fun w0 M0 => ?_
  refine AWP.seq ?_
  refine AWP.region ?_
  refine AOps.call (o_box _ rfl rfl rfl) ?_
  refine AOps.call (o_assign _ rfl rfl) ?_
  refine AOps.call (o_assign _ rfl rfl) ?_
  refine AOps.nil ?_
  refine AWP.seq ?_
  refine AWP.seq ?_
  refine AWP.region ?_
  refine AOps.call (o_loadRef _ rfl rfl Tryd.sizeOf28 Tryd.isAgg28 rfl rfl rfl) ?_
  refine AOps.call (o_call (rlayer_s _) Tryd.call61 rfl rfl) ?_
  refine AOps.call (o_un _ rfl (fun _ => rfl) rfl) ?_
  refine AOps.nil ?_
  refine AWP.cond _ rfl (fun h7 => ?_) (fun h7 => ?_)
  · skip
    have hb : layB l = false := by simpa using h7
    refine AWP.seq ?_
    refine AWP.region ?_
    refine AOps.call (o_assign _ rfl rfl) ?_
    refine AOps.call (o_assign _ rfl rfl) ?_
    refine AOps.nil ?_
    refine AWP.ret ?_
    refine postQ.ret2 Tryd.results21 rfl rfl ?_
    simp_all [AV.close, AV.close.closeL, B, I]
  · skip
    have hb : layB l = true := by simpa using h7
    have hbv := (layB_iff.1 hb).1
    refine AWP.skip ?_
    refine AWP.seq ?_
    refine AWP.region ?_
    refine AOps.call (o_loadRef _ rfl rfl Tryd.sizeOf28 Tryd.isAgg28 rfl rfl rfl) ?_
    refine AOps.call (o_call (rhold_s l ⟨by omega, by omega⟩) Tryd.call62 rfl rfl) ?_
    refine AOps.call (o_assign _ rfl rfl) ?_
    refine AOps.call (o_assign _ rfl rfl) ?_
    refine AOps.nil ?_
    refine AWP.ret ?_
    refine postQ.ret2 Tryd.results21 rfl rfl ?_
    simp_all [AV.close, AV.close.closeL, B, I]

set_option maxRecDepth 20000 in
theorem few_s (l : List (List Lay)) (hl : l.length ≤ 1000) : FSpec Tryd.prog 19 [.sl (packs l)] (B (fewB l)) (none) := by
  refine FSpec.of_body Tryd.func19 rfl (leB rfl) fun w0 M0 => ?_
  have hpl := packs_len l
  refine AWP.seq ?_
  refine AWP.region ?_
  refine AOps.call (o_assign _ rfl rfl) ?_
  refine AOps.nil ?_
  refine AWP.seq ?_
  refine AWP.seq ?_
  refine AWP.region ?_
  refine AOps.call (o_assign _ rfl rfl) ?_
  refine AOps.nil ?_
  refine AWP.block ?_
  refine AWP.loop (ι := Nat) (fun i => AS.mk' 17 [(0, .sl (packs l)), (3, I i)] [] [] []) (fun i => i ≤ l.length ∧ ∀ (j : Nat) (h : j < l.length), j < i → l[j].length ≤ 70) (fun i => l.length - i) (0) (Weak.mk' rfl ⟨⟨.refl rfl, rfl⟩, ⟨⟨.refl rfl, rfl⟩, trivial⟩⟩ trivial trivial) (⟨Nat.zero_le _, fun _ _ h => absurd h (Nat.not_lt_zero _)⟩) ?_
  rintro k ⟨hk, hv⟩
  try dsimp only at *
  refine AWP.seq ?_
  refine AWP.seq ?_
  refine AWP.region ?_
  refine AOps.call (o_move _ rfl rfl) ?_
  refine AOps.call (o_move _ rfl rfl) ?_
  refine AOps.call (o_len _ Tryd.underlying73 rfl rfl) ?_
  refine AOps.call (o_bin _ _ rfl rfl (fun _ => rfl) rfl) ?_
  refine AOps.nil ?_
  refine AWP.cond _ rfl (fun h5 => ?_) (fun h5 => ?_)
  · skip
    have hlt : k < l.length := by have hq := of_decide_eq_true h5; omega
    have hel := packs_at hlt
    have hkl := lays_len l[k]
    refine AWP.skip ?_
    refine AWP.seq ?_
    refine AWP.block ?_
    refine AWP.seq ?_
    refine AWP.region ?_
    refine AOps.call (o_move _ rfl rfl) ?_
    refine AOps.call (o_move _ rfl rfl) ?_
    refine AOps.call (o_index _ _ Tryd.underlying73 Tryd.sizeOf24 rfl rfl (by omega) (by assumption) rfl rfl) ?_
    refine AOps.call (o_fieldRd _ rfl fa24_0 rfl) ?_
    refine AOps.call (o_loadRd _ rfl Tryd.sizeOf22 Tryd.isAgg22 rfl rfl rfl) ?_
    refine AOps.call (o_len _ Tryd.underlying22 rfl rfl) ?_
    refine AOps.call (o_bin _ _ rfl rfl (fun _ => rfl) rfl) ?_
    refine AOps.nil ?_
    refine AWP.cond _ rfl (fun h12 => ?_) (fun h12 => ?_)
    · skip
      have hE := fewB_no hlt (by have hq := of_decide_eq_true h12; omega)
      refine AWP.seq ?_
      refine AWP.region ?_
      refine AOps.call (o_assign _ rfl rfl) ?_
      refine AOps.nil ?_
      refine AWP.ret ?_
      refine postQ.ret1 Tryd.results19 rfl ?_
      rw [hE]
      rfl
    · skip
      have hbk : l[k].length ≤ 70 := by have hq := of_decide_eq_false h12; omega
      refine AWP.skip ?_
      refine AWP.region ?_
      refine AOps.call (o_move _ rfl rfl) ?_
      refine AOps.call (o_add _ _ rfl rfl ⟨by (try dsimp only); omega, by (try dsimp only); omega⟩ rfl) ?_
      refine AOps.call (o_assign _ rfl rfl) ?_
      refine AOps.nil ?_
      refine ⟨k + 1, ?_, (Weak.mk' rfl ⟨⟨.refl rfl, rfl⟩, ⟨⟨.refl rfl, rfl⟩, trivial⟩⟩ trivial trivial)⟩
      exact ⟨⟨by omega, fun j hj hjk => by
        by_cases h : j < k
        · exact hv j hj h
        · obtain rfl : j = k := by omega
          exact hbk⟩, by omega⟩
  · skip
    have hE := fewB_yes hv (by have hq := of_decide_eq_false h5; omega)
    refine AWP.exit ?_
    refine AWP.seq ?_
    refine AWP.region ?_
    refine AOps.call (o_assign _ rfl rfl) ?_
    refine AOps.nil ?_
    refine AWP.ret ?_
    refine postQ.ret1 Tryd.results19 rfl ?_
    rw [hE]
    rfl

end Go.Proofs.YtgagfmjpmdgfdaaDoor
