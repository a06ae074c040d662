import Derived.Test.YtgagfmjpmdgfdaaDoorX14
import Derived.Test.YtgagfmjpmdgfdaaDoorQ16
import Derived.Test.YtgagfmjpmdgfdaaDoorAcA
set_option linter.unusedSimpArgs false
set_option linter.unusedVariables false
namespace Go.Proofs.YtgagfmjpmdgfdaaDoor
open Go.Ab

set_option maxHeartbeats 4000000 in
set_option maxRecDepth 20000 in
theorem rflow_a (ls : List Lay) (m : Nat) (hls : ∀ x ∈ ls, flo x) (h0 : 0 < ls.length) (hl : ls.length ≤ 1000) (hm : m ≤ 1000000) : FSpecW Tryd.prog 92 [.sl (lays ls), I (m : Nat)] (rowC (itM flo1 m ls).1) ((lays ls).length) (.int .i64 (itM flo1 m ls).2) := by
  refine FSpecW.of_body Tryd.func92 rfl (leB rfl) fun w0 M0 => ?_
  have hpl := lays_len ls
  refine AWP.seq ?_
  refine AWP.region ?_
  refine AOps.call (o_nil (z := 3) (e := 28) rfl) ?_
  refine AOps.call (o_assign _ rfl rfl) ?_
  refine AOps.nil ?_
  refine AWP.seq ?_
  refine AWP.region ?_
  refine AOps.call (o_lit Tryd.underlying22 Tryd.sizeOf28 Tryd.zeroValue28 rfl rfl rfl rfl rfl rfl rfl) ?_
  refine AOps.call (o_move _ rfl rfl) ?_
  refine AOps.appArr _ _ Tryd.underlying22 info28 rfl rfl rfl rfl rfl rfl rfl rfl lays_z (by omega) (by unfold Tryd.t28; simp only []; omega) rfl rfl ?_
  refine AOps.call (o_assign _ rfl rfl) ?_
  refine AOps.nil ?_
  refine AWP.seq ?_
  refine AWP.region ?_
  refine AOps.call (o_assign _ rfl rfl) ?_
  refine AOps.nil ?_
  refine AWP.seq ?_
  refine AWP.seq ?_
  refine AWP.region ?_
  refine AOps.call (o_assign _ rfl rfl) ?_
  refine AOps.nil ?_
  refine AWP.block ?_
  refine AWP.loop (ι := Nat) (fun i => AS.mk' 83 [(1, I (m : Nat)), (6, .arr (12, 0) 0 (lays ls).length (lays ls).length), (7, I (itM flo1 i ls).2), (8, I i)] [((12, 0), rowC (itM flo1 i ls).1)] [] [(12, 1)]) (fun i => i ≤ m) (fun i => m - i) (0) (Weak.mk' rfl ⟨⟨.refl rfl, rfl⟩, ⟨⟨.refl rfl, rfl⟩, ⟨⟨.refl rfl, rfl⟩, ⟨⟨.refl rfl, rfl⟩, trivial⟩⟩⟩⟩ ⟨⟨rfl, lowL_sc _ _ (lays_scs _), rfl⟩, trivial⟩ trivial) (Nat.zero_le _) ?_
  rintro n hn
  try dsimp only at *
  refine AWP.seq ?_
  refine AWP.seq ?_
  refine AWP.region ?_
  refine AOps.call (o_move _ rfl rfl) ?_
  refine AOps.call (o_move _ rfl rfl) ?_
  refine AOps.call (o_bin _ _ rfl rfl (fun _ => rfl) rfl) ?_
  refine AOps.nil ?_
  refine AWP.cond _ rfl (fun h10 => ?_) (fun h10 => ?_)
  · skip
    have hlt1 : n < m := by have hq := of_decide_eq_true h10; omega
    have hit := it_flo hls n
    have hLl : (itM flo1 n ls).1.length = ls.length := hit.2.2.2
    refine AWP.skip ?_
    refine AWP.seq ?_
    refine AWP.block ?_
    refine AWP.seq ?_
    refine AWP.region ?_
    refine AOps.call (o_assign _ rfl rfl) ?_
    refine AOps.nil ?_
    refine AWP.seq ?_
    refine AWP.block ?_
    refine AWP.loop (ι := Nat) (fun i => AS.mk' 83 [(1, I (m : Nat)), (6, .arr (12, 0) 0 (lays ls).length (lays ls).length), (7, I (itM flo1 n ls).2), (8, I n), (9, I i)] [((12, 0), rowC (itM flo1 n ls).1)] [] [(12, 1)]) (fun i => i ≤ (itM flo1 n ls).1.length ∧ ∀ x ∈ (itM flo1 n ls).1.take i, fullB x = true) (fun i => (itM flo1 n ls).1.length - i) (0) (Weak.mk' rfl ⟨⟨.refl rfl, rfl⟩, ⟨⟨.refl rfl, rfl⟩, ⟨⟨.refl rfl, rfl⟩, ⟨⟨.refl rfl, rfl⟩, ⟨⟨.refl rfl, rfl⟩, trivial⟩⟩⟩⟩⟩ ⟨⟨rfl, lowL_sc _ _ (lays_scs _), rfl⟩, trivial⟩ trivial) (⟨Nat.zero_le _, fun x hx => by simp at hx⟩) ?_
    rintro k ⟨hk, hv⟩
    try dsimp only at *
    refine AWP.seq ?_
    refine AWP.seq ?_
    refine AWP.drawn 25 mixed (by kernel_rfl) ?_
    refine AHead.call (o_move _ rfl rfl) rfl ?_
    refine AHead.call (o_move _ rfl rfl) rfl ?_
    refine AHead.call (o_lenArr _ Tryd.underlying22 rfl rfl) rfl ?_
    refine AHead.call (o_bin _ _ rfl rfl (fun _ => rfl) rfl) rfl ?_
    refine AHead.call (o_move _ rfl rfl) rfl ?_
    refine AHead.split rfl rfl rfl (fun h15 => ?_) (fun h15 => ?_)
    · skip
      have hlt : k < (itM flo1 n ls).1.length := by have hq := of_decide_eq_true h15; omega
      have hfl := hit.1 _ (List.getElem_mem hlt)
      unfold flo at hfl
      refine AHead.go rfl rfl rfl h15 (o_move _ rfl rfl) rfl ?_
      refine AHead.go rfl rfl rfl h15 (o_move _ rfl rfl) rfl ?_
      refine AHead.go rfl rfl rfl h15 (o_indexArr (o := k * 3) _ _ Tryd.underlying22 Tryd.sizeOf28 rfl rfl (by omega) (by omega) (by omega) rfl) rfl ?_
      refine AHead.go rfl rfl rfl h15 (o_fieldRef _ rfl fa28_2 rfl rfl) rfl ?_
      refine AHead.go rfl rfl rfl h15 (o_loadRefE _ rfl rfl Tryd.sizeOf3 Tryd.isAgg3 (row_cold (i := k) hlt (by omega)) rfl) rfl ?_
      refine AHead.go rfl rfl rfl h15 (o_bin _ _ rfl rfl (fun _ => rfl) rfl) rfl ?_
      refine AHead.call (o_pickT _ _ _ rfl h15 rfl rfl) rfl ?_
      refine AHead.call (o_move _ rfl rfl) rfl ?_
      refine AHead.split rfl rfl rfl (fun h21 => ?_) (fun h21 => ?_)
      · skip
        have hc0 : (itM flo1 n ls).1[k].cold = 0 := by simpa using h21
        refine AHead.go rfl rfl rfl h21 (o_move _ rfl rfl) rfl ?_
        refine AHead.go rfl rfl rfl h21 (o_move _ rfl rfl) rfl ?_
        refine AHead.go rfl rfl rfl h21 (o_indexArr (o := k * 3) _ _ Tryd.underlying22 Tryd.sizeOf28 rfl rfl (by omega) (by omega) (by omega) rfl) rfl ?_
        refine AHead.go rfl rfl rfl h21 (o_fieldRef _ rfl fa28_1 rfl rfl) rfl ?_
        refine AHead.go rfl rfl rfl h21 (o_loadRefE _ rfl rfl Tryd.sizeOf3 Tryd.isAgg3 (row_wet (i := k) hlt (by omega)) rfl) rfl ?_
        refine AHead.go rfl rfl rfl h21 (o_move _ rfl rfl) rfl ?_
        refine AHead.go rfl rfl rfl h21 (o_move _ rfl rfl) rfl ?_
        refine AHead.go rfl rfl rfl h21 (o_indexArr (o := k * 3) _ _ Tryd.underlying22 Tryd.sizeOf28 rfl rfl (by omega) (by omega) (by omega) rfl) rfl ?_
        refine AHead.go rfl rfl rfl h21 (o_loadRefE _ rfl rfl Tryd.sizeOf28 Tryd.isAgg28 (row_lay (i := k) hlt (by omega)) rfl) rfl ?_
        refine AHead.go rfl rfl rfl h21 (o_call (rhold_s (itM flo1 n ls).1[k] ⟨by omega, by omega⟩) Tryd.call62 rfl rfl) rfl ?_
        refine AHead.go rfl rfl rfl h21 (o_bin _ _ rfl rfl (fun _ => rfl) rfl) rfl ?_
        refine AHead.call (o_pickT _ _ _ rfl h21 rfl rfl) rfl ?_
        refine AHead.nil ?_
        refine AOps.nil ?_
        refine AWP.cond _ rfl (fun h31 => ?_) (fun h31 => ?_)
        · skip
          have hfull : fullB (itM flo1 n ls).1[k] = true := full_iff.2 ⟨hc0, of_decide_eq_true h31⟩
          refine AWP.skip ?_
          refine AWP.block ?_
          refine AWP.region ?_
          refine AOps.call (o_move _ rfl rfl) ?_
          refine AOps.call (o_add _ _ rfl rfl ⟨by (try dsimp only); omega, by (try dsimp only); omega⟩ rfl) ?_
          refine AOps.call (o_assign _ rfl rfl) ?_
          refine AOps.nil ?_
          refine ⟨k + 1, ?_, (Weak.mk' rfl ⟨⟨.refl rfl, rfl⟩, ⟨⟨.refl rfl, rfl⟩, ⟨⟨.refl rfl, rfl⟩, ⟨⟨.refl rfl, rfl⟩, ⟨⟨.refl rfl, rfl⟩, trivial⟩⟩⟩⟩⟩ ⟨⟨rfl, lowL_sc _ _ (lays_scs _), rfl⟩, trivial⟩ trivial)⟩
          exact ⟨⟨by omega, full_take hlt hv hfull⟩, by omega⟩
        · skip
          have hex : ∀ h : k < (itM flo1 n ls).1.length, fullB (itM flo1 n ls).1[k] = false := fun h => full_ff fun hh => absurd hh.2 (of_decide_eq_false h31)
          refine AWP.exit ?_
          refine AWP.seq ?_
          refine AWP.region ?_
          refine AOps.call (o_move _ rfl rfl) ?_
          refine AOps.call (o_move _ rfl rfl) ?_
          refine AOps.call (o_lenArr _ Tryd.underlying22 rfl rfl) ?_
          refine AOps.call (o_bin _ _ rfl rfl (fun _ => rfl) rfl) ?_
          refine AOps.nil ?_
          refine AWP.cond _ rfl (fun h37 => ?_) (fun h37 => ?_)
          · skip
            have hkl : k = (itM flo1 n ls).1.length := by have hq : ((k : Nat) : Int) = ((lays ls).length : Nat) := (by simpa using h37); omega
            have hnx := it_next (flo1_full (ls := (itM flo1 n ls).1) (fun x hx => hv x (by rw [hkl, List.take_length]; exact hx)))
            refine AWP.region ?_
            refine AOps.call (o_move _ rfl rfl) ?_
            refine AOps.call (o_add _ _ rfl rfl ⟨by (try dsimp only); omega, by (try dsimp only); omega⟩ rfl) ?_
            refine AOps.call (o_assign _ rfl rfl) ?_
            refine AOps.nil ?_
            refine AWP.region ?_
            refine AOps.call (o_move _ rfl rfl) ?_
            refine AOps.call (o_add _ _ rfl rfl ⟨by (try dsimp only); omega, by (try dsimp only); omega⟩ rfl) ?_
            refine AOps.call (o_assign _ rfl rfl) ?_
            refine AOps.nil ?_
            refine ⟨n + 1, ?_, (Weak.mk' rfl ⟨⟨.refl rfl, rfl⟩, ⟨⟨.refl rfl, rfl⟩, ⟨⟨.refl (by rw [hnx]; rfl), rfl⟩, ⟨⟨.refl rfl, rfl⟩, trivial⟩⟩⟩⟩ ⟨⟨(by rw [hnx]; first | rfl | (dsimp only; rfl)), lowL_sc _ _ (lays_scs _), rfl⟩, trivial⟩ trivial)⟩
            exact ⟨by omega, by omega⟩
          · skip
            have hlt : k < (itM flo1 n ls).1.length := by have hq : ¬ ((k : Nat) : Int) = ((lays ls).length : Nat) := (by simpa using h37); omega
            have hnf := hex hlt
            have hfl := hit.1 _ (List.getElem_mem hlt)
            unfold flo at hfl
            have hst := flo1_set hlt hv hnf
            refine AWP.seq ?_
            refine AWP.region ?_
            refine AOps.call (o_move _ rfl rfl) ?_
            refine AOps.call (o_move _ rfl rfl) ?_
            refine AOps.call (o_indexArr (o := k * 3) _ _ Tryd.underlying22 Tryd.sizeOf28 rfl rfl (by omega) (by omega) (by omega) rfl) ?_
            refine AOps.call (o_fieldRef _ rfl fa28_2 rfl rfl) ?_
            refine AOps.call (o_loadRefE _ rfl rfl Tryd.sizeOf3 Tryd.isAgg3 (row_cold (i := k) hlt (by omega)) rfl) ?_
            refine AOps.call (o_bin _ _ rfl rfl (fun _ => rfl) rfl) ?_
            refine AOps.nil ?_
            refine AWP.cond _ rfl (fun h46 => ?_) (fun h46 => ?_)
            · skip
              have hc : 0 < (itM flo1 n ls).1[k].cold := of_decide_eq_true h46
              have hls1 : k < ((itM flo1 n ls).1.set k ⟨(itM flo1 n ls).1[k].ice, (itM flo1 n ls).1[k].wet, (itM flo1 n ls).1[k].cold - 1⟩).length := by simp; omega
              have hnx : itM flo1 (n + 1) ls = ((itM flo1 n ls).1.set k ⟨(itM flo1 n ls).1[k].ice + 1, (itM flo1 n ls).1[k].wet, (itM flo1 n ls).1[k].cold - 1⟩, (itM flo1 n ls).2) := by rw [it_next hst, Int.add_zero]; unfold inF; rw [if_pos hc]
              refine AWP.seq ?_
              refine AWP.region ?_
              refine AOps.call (o_move _ rfl rfl) ?_
              refine AOps.call (o_move _ rfl rfl) ?_
              refine AOps.call (o_indexArr (o := k * 3) _ _ Tryd.underlying22 Tryd.sizeOf28 rfl rfl (by omega) (by omega) (by omega) rfl) ?_
              refine AOps.call (o_fieldRef _ rfl fa28_2 rfl rfl) ?_
              refine AOps.call (o_loadRefE _ rfl rfl Tryd.sizeOf3 Tryd.isAgg3 (row_cold (i := k) hlt (by omega)) rfl) ?_
              refine AOps.call (o_sub _ _ rfl rfl ⟨by (try dsimp only); omega, by (try dsimp only); omega⟩ rfl) ?_
              refine AOps.call (o_indexArr (o := k * 3) _ _ Tryd.underlying22 Tryd.sizeOf28 rfl rfl (by omega) (by omega) (by omega) rfl) ?_
              refine AOps.call (o_fieldRef _ rfl fa28_2 rfl rfl) ?_
              refine AOps.cons (o_storeE _ _ rfl rfl Tryd.sizeOf3 rfl rfl (by rw [row_len]; (try simp only [List.length_set]); omega) (row_set1 (i := k) (k := 2) (l := ⟨(itM flo1 n ls).1[k].ice, (itM flo1 n ls).1[k].wet, (itM flo1 n ls).1[k].cold - 1⟩) hlt (by omega) rfl (by omega)) rfl) ?_
              refine AOps.nil ?_
              refine AWP.region ?_
              refine AOps.call (o_move _ rfl rfl) ?_
              refine AOps.call (o_move _ rfl rfl) ?_
              refine AOps.call (o_indexArr (o := k * 3) _ _ Tryd.underlying22 Tryd.sizeOf28 rfl rfl (by omega) (by omega) (by omega) rfl) ?_
              refine AOps.call (o_fieldRef _ rfl fa28_0 rfl rfl) ?_
              refine AOps.call (o_loadRefE _ rfl rfl Tryd.sizeOf3 Tryd.isAgg3 ((row_ice (i := k) hls1 (by omega)).trans (by rw [List.getElem_set_self])) rfl) ?_
              refine AOps.call (o_add _ _ rfl rfl ⟨by (try dsimp only); omega, by (try dsimp only); omega⟩ rfl) ?_
              refine AOps.call (o_indexArr (o := k * 3) _ _ Tryd.underlying22 Tryd.sizeOf28 rfl rfl (by omega) (by omega) (by omega) rfl) ?_
              refine AOps.call (o_fieldRef _ rfl fa28_0 rfl rfl) ?_
              refine AOps.cons (o_storeE _ _ rfl rfl Tryd.sizeOf3 rfl rfl (by rw [row_len]; (try simp only [List.length_set]); omega) ((row_set1 (i := k) (k := 0) (l := ⟨(itM flo1 n ls).1[k].ice + 1, (itM flo1 n ls).1[k].wet, (itM flo1 n ls).1[k].cold - 1⟩) hls1 (by omega) (by rw [List.getElem_set_self]; rfl) (by omega)).trans (by rw [List.set_set])) rfl) ?_
              refine AOps.nil ?_
              refine AWP.region ?_
              refine AOps.call (o_move _ rfl rfl) ?_
              refine AOps.call (o_add _ _ rfl rfl ⟨by (try dsimp only); omega, by (try dsimp only); omega⟩ rfl) ?_
              refine AOps.call (o_assign _ rfl rfl) ?_
              refine AOps.nil ?_
              refine ⟨n + 1, ?_, (Weak.mk' rfl ⟨⟨.refl rfl, rfl⟩, ⟨⟨.refl rfl, rfl⟩, ⟨⟨.refl (by rw [hnx]; rfl), rfl⟩, ⟨⟨.refl rfl, rfl⟩, trivial⟩⟩⟩⟩ ⟨⟨(by rw [hnx]; first | rfl | (dsimp only; rfl)), lowL_sc _ _ (lays_scs _), rfl⟩, trivial⟩ trivial)⟩
              exact ⟨by omega, by omega⟩
            · skip
              have hc : ¬ 0 < (itM flo1 n ls).1[k].cold := of_decide_eq_false h46
              have hnx : itM flo1 (n + 1) ls = ((itM flo1 n ls).1.set k ⟨(itM flo1 n ls).1[k].ice, (itM flo1 n ls).1[k].wet + 1, (itM flo1 n ls).1[k].cold⟩, (itM flo1 n ls).2) := by rw [it_next hst, Int.add_zero]; unfold inF; rw [if_neg hc]
              refine AWP.region ?_
              refine AOps.call (o_move _ rfl rfl) ?_
              refine AOps.call (o_move _ rfl rfl) ?_
              refine AOps.call (o_indexArr (o := k * 3) _ _ Tryd.underlying22 Tryd.sizeOf28 rfl rfl (by omega) (by omega) (by omega) rfl) ?_
              refine AOps.call (o_fieldRef _ rfl fa28_1 rfl rfl) ?_
              refine AOps.call (o_loadRefE _ rfl rfl Tryd.sizeOf3 Tryd.isAgg3 (row_wet (i := k) hlt (by omega)) rfl) ?_
              refine AOps.call (o_add _ _ rfl rfl ⟨by (try dsimp only); omega, by (try dsimp only); omega⟩ rfl) ?_
              refine AOps.call (o_indexArr (o := k * 3) _ _ Tryd.underlying22 Tryd.sizeOf28 rfl rfl (by omega) (by omega) (by omega) rfl) ?_
              refine AOps.call (o_fieldRef _ rfl fa28_1 rfl rfl) ?_
              refine AOps.cons (o_storeE _ _ rfl rfl Tryd.sizeOf3 rfl rfl (by rw [row_len]; (try simp only [List.length_set]); omega) (row_set1 (i := k) (k := 1) (l := ⟨(itM flo1 n ls).1[k].ice, (itM flo1 n ls).1[k].wet + 1, (itM flo1 n ls).1[k].cold⟩) hlt (by omega) rfl (by omega)) rfl) ?_
              refine AOps.nil ?_
              refine AWP.region ?_
              refine AOps.call (o_move _ rfl rfl) ?_
              refine AOps.call (o_add _ _ rfl rfl ⟨by (try dsimp only); omega, by (try dsimp only); omega⟩ rfl) ?_
              refine AOps.call (o_assign _ rfl rfl) ?_
              refine AOps.nil ?_
              refine ⟨n + 1, ?_, (Weak.mk' rfl ⟨⟨.refl rfl, rfl⟩, ⟨⟨.refl rfl, rfl⟩, ⟨⟨.refl (by rw [hnx]; rfl), rfl⟩, ⟨⟨.refl rfl, rfl⟩, trivial⟩⟩⟩⟩ ⟨⟨(by rw [hnx]; first | rfl | (dsimp only; rfl)), lowL_sc _ _ (lays_scs _), rfl⟩, trivial⟩ trivial)⟩
              exact ⟨by omega, by omega⟩
      · skip
        have hc0 : ¬ (itM flo1 n ls).1[k].cold = 0 := by simpa using h21
        have hex : ∀ h : k < (itM flo1 n ls).1.length, fullB (itM flo1 n ls).1[k] = false := fun h => full_ff fun hh => hc0 hh.1
        refine AHead.pass rfl rfl rfl h21 rfl ?_
        refine AHead.pass rfl rfl rfl h21 rfl ?_
        refine AHead.pass rfl rfl rfl h21 rfl ?_
        refine AHead.pass rfl rfl rfl h21 rfl ?_
        refine AHead.pass rfl rfl rfl h21 rfl ?_
        refine AHead.pass rfl rfl rfl h21 rfl ?_
        refine AHead.pass rfl rfl rfl h21 rfl ?_
        refine AHead.pass rfl rfl rfl h21 rfl ?_
        refine AHead.pass rfl rfl rfl h21 rfl ?_
        refine AHead.pass rfl rfl rfl h21 rfl ?_
        refine AHead.pass rfl rfl rfl h21 rfl ?_
        refine AHead.call (o_pickF _ _ _ rfl h21 rfl rfl) rfl ?_
        refine AHead.nil ?_
        refine AOps.nil ?_
        refine AWP.condF rfl ?_
        refine AWP.exit ?_
        refine AWP.seq ?_
        refine AWP.region ?_
        refine AOps.call (o_move _ rfl rfl) ?_
        refine AOps.call (o_move _ rfl rfl) ?_
        refine AOps.call (o_lenArr _ Tryd.underlying22 rfl rfl) ?_
        refine AOps.call (o_bin _ _ rfl rfl (fun _ => rfl) rfl) ?_
        refine AOps.nil ?_
        refine AWP.cond _ rfl (fun h73 => ?_) (fun h73 => ?_)
        · skip
          have hkl : k = (itM flo1 n ls).1.length := by have hq : ((k : Nat) : Int) = ((lays ls).length : Nat) := (by simpa using h73); omega
          have hnx := it_next (flo1_full (ls := (itM flo1 n ls).1) (fun x hx => hv x (by rw [hkl, List.take_length]; exact hx)))
          refine AWP.region ?_
          refine AOps.call (o_move _ rfl rfl) ?_
          refine AOps.call (o_add _ _ rfl rfl ⟨by (try dsimp only); omega, by (try dsimp only); omega⟩ rfl) ?_
          refine AOps.call (o_assign _ rfl rfl) ?_
          refine AOps.nil ?_
          refine AWP.region ?_
          refine AOps.call (o_move _ rfl rfl) ?_
          refine AOps.call (o_add _ _ rfl rfl ⟨by (try dsimp only); omega, by (try dsimp only); omega⟩ rfl) ?_
          refine AOps.call (o_assign _ rfl rfl) ?_
          refine AOps.nil ?_
          refine ⟨n + 1, ?_, (Weak.mk' rfl ⟨⟨.refl rfl, rfl⟩, ⟨⟨.refl rfl, rfl⟩, ⟨⟨.refl (by rw [hnx]; rfl), rfl⟩, ⟨⟨.refl rfl, rfl⟩, trivial⟩⟩⟩⟩ ⟨⟨(by rw [hnx]; first | rfl | (dsimp only; rfl)), lowL_sc _ _ (lays_scs _), rfl⟩, trivial⟩ trivial)⟩
          exact ⟨by omega, by omega⟩
        · skip
          have hlt : k < (itM flo1 n ls).1.length := by have hq : ¬ ((k : Nat) : Int) = ((lays ls).length : Nat) := (by simpa using h73); omega
          have hnf := hex hlt
          have hfl := hit.1 _ (List.getElem_mem hlt)
          unfold flo at hfl
          have hst := flo1_set hlt hv hnf
          refine AWP.seq ?_
          refine AWP.region ?_
          refine AOps.call (o_move _ rfl rfl) ?_
          refine AOps.call (o_move _ rfl rfl) ?_
          refine AOps.call (o_indexArr (o := k * 3) _ _ Tryd.underlying22 Tryd.sizeOf28 rfl rfl (by omega) (by omega) (by omega) rfl) ?_
          refine AOps.call (o_fieldRef _ rfl fa28_2 rfl rfl) ?_
          refine AOps.call (o_loadRefE _ rfl rfl Tryd.sizeOf3 Tryd.isAgg3 (row_cold (i := k) hlt (by omega)) rfl) ?_
          refine AOps.call (o_bin _ _ rfl rfl (fun _ => rfl) rfl) ?_
          refine AOps.nil ?_
          refine AWP.cond _ rfl (fun h82 => ?_) (fun h82 => ?_)
          · skip
            have hc : 0 < (itM flo1 n ls).1[k].cold := of_decide_eq_true h82
            have hls1 : k < ((itM flo1 n ls).1.set k ⟨(itM flo1 n ls).1[k].ice, (itM flo1 n ls).1[k].wet, (itM flo1 n ls).1[k].cold - 1⟩).length := by simp; omega
            have hnx : itM flo1 (n + 1) ls = ((itM flo1 n ls).1.set k ⟨(itM flo1 n ls).1[k].ice + 1, (itM flo1 n ls).1[k].wet, (itM flo1 n ls).1[k].cold - 1⟩, (itM flo1 n ls).2) := by rw [it_next hst, Int.add_zero]; unfold inF; rw [if_pos hc]
            refine AWP.seq ?_
            refine AWP.region ?_
            refine AOps.call (o_move _ rfl rfl) ?_
            refine AOps.call (o_move _ rfl rfl) ?_
            refine AOps.call (o_indexArr (o := k * 3) _ _ Tryd.underlying22 Tryd.sizeOf28 rfl rfl (by omega) (by omega) (by omega) rfl) ?_
            refine AOps.call (o_fieldRef _ rfl fa28_2 rfl rfl) ?_
            refine AOps.call (o_loadRefE _ rfl rfl Tryd.sizeOf3 Tryd.isAgg3 (row_cold (i := k) hlt (by omega)) rfl) ?_
            refine AOps.call (o_sub _ _ rfl rfl ⟨by (try dsimp only); omega, by (try dsimp only); omega⟩ rfl) ?_
            refine AOps.call (o_indexArr (o := k * 3) _ _ Tryd.underlying22 Tryd.sizeOf28 rfl rfl (by omega) (by omega) (by omega) rfl) ?_
            refine AOps.call (o_fieldRef _ rfl fa28_2 rfl rfl) ?_
            refine AOps.cons (o_storeE _ _ rfl rfl Tryd.sizeOf3 rfl rfl (by rw [row_len]; (try simp only [List.length_set]); omega) (row_set1 (i := k) (k := 2) (l := ⟨(itM flo1 n ls).1[k].ice, (itM flo1 n ls).1[k].wet, (itM flo1 n ls).1[k].cold - 1⟩) hlt (by omega) rfl (by omega)) rfl) ?_
            refine AOps.nil ?_
            refine AWP.region ?_
            refine AOps.call (o_move _ rfl rfl) ?_
            refine AOps.call (o_move _ rfl rfl) ?_
            refine AOps.call (o_indexArr (o := k * 3) _ _ Tryd.underlying22 Tryd.sizeOf28 rfl rfl (by omega) (by omega) (by omega) rfl) ?_
            refine AOps.call (o_fieldRef _ rfl fa28_0 rfl rfl) ?_
            refine AOps.call (o_loadRefE _ rfl rfl Tryd.sizeOf3 Tryd.isAgg3 ((row_ice (i := k) hls1 (by omega)).trans (by rw [List.getElem_set_self])) rfl) ?_
            refine AOps.call (o_add _ _ rfl rfl ⟨by (try dsimp only); omega, by (try dsimp only); omega⟩ rfl) ?_
            refine AOps.call (o_indexArr (o := k * 3) _ _ Tryd.underlying22 Tryd.sizeOf28 rfl rfl (by omega) (by omega) (by omega) rfl) ?_
            refine AOps.call (o_fieldRef _ rfl fa28_0 rfl rfl) ?_
            refine AOps.cons (o_storeE _ _ rfl rfl Tryd.sizeOf3 rfl rfl (by rw [row_len]; (try simp only [List.length_set]); omega) ((row_set1 (i := k) (k := 0) (l := ⟨(itM flo1 n ls).1[k].ice + 1, (itM flo1 n ls).1[k].wet, (itM flo1 n ls).1[k].cold - 1⟩) hls1 (by omega) (by rw [List.getElem_set_self]; rfl) (by omega)).trans (by rw [List.set_set])) rfl) ?_
            refine AOps.nil ?_
            refine AWP.region ?_
            refine AOps.call (o_move _ rfl rfl) ?_
            refine AOps.call (o_add _ _ rfl rfl ⟨by (try dsimp only); omega, by (try dsimp only); omega⟩ rfl) ?_
            refine AOps.call (o_assign _ rfl rfl) ?_
            refine AOps.nil ?_
            refine ⟨n + 1, ?_, (Weak.mk' rfl ⟨⟨.refl rfl, rfl⟩, ⟨⟨.refl rfl, rfl⟩, ⟨⟨.refl (by rw [hnx]; rfl), rfl⟩, ⟨⟨.refl rfl, rfl⟩, trivial⟩⟩⟩⟩ ⟨⟨(by rw [hnx]; first | rfl | (dsimp only; rfl)), lowL_sc _ _ (lays_scs _), rfl⟩, trivial⟩ trivial)⟩
            exact ⟨by omega, by omega⟩
          · skip
            have hc : ¬ 0 < (itM flo1 n ls).1[k].cold := of_decide_eq_false h82
            have hnx : itM flo1 (n + 1) ls = ((itM flo1 n ls).1.set k ⟨(itM flo1 n ls).1[k].ice, (itM flo1 n ls).1[k].wet + 1, (itM flo1 n ls).1[k].cold⟩, (itM flo1 n ls).2) := by rw [it_next hst, Int.add_zero]; unfold inF; rw [if_neg hc]
            refine AWP.region ?_
            refine AOps.call (o_move _ rfl rfl) ?_
            refine AOps.call (o_move _ rfl rfl) ?_
            refine AOps.call (o_indexArr (o := k * 3) _ _ Tryd.underlying22 Tryd.sizeOf28 rfl rfl (by omega) (by omega) (by omega) rfl) ?_
            refine AOps.call (o_fieldRef _ rfl fa28_1 rfl rfl) ?_
            refine AOps.call (o_loadRefE _ rfl rfl Tryd.sizeOf3 Tryd.isAgg3 (row_wet (i := k) hlt (by omega)) rfl) ?_
            refine AOps.call (o_add _ _ rfl rfl ⟨by (try dsimp only); omega, by (try dsimp only); omega⟩ rfl) ?_
            refine AOps.call (o_indexArr (o := k * 3) _ _ Tryd.underlying22 Tryd.sizeOf28 rfl rfl (by omega) (by omega) (by omega) rfl) ?_
            refine AOps.call (o_fieldRef _ rfl fa28_1 rfl rfl) ?_
            refine AOps.cons (o_storeE _ _ rfl rfl Tryd.sizeOf3 rfl rfl (by rw [row_len]; (try simp only [List.length_set]); omega) (row_set1 (i := k) (k := 1) (l := ⟨(itM flo1 n ls).1[k].ice, (itM flo1 n ls).1[k].wet + 1, (itM flo1 n ls).1[k].cold⟩) hlt (by omega) rfl (by omega)) rfl) ?_
            refine AOps.nil ?_
            refine AWP.region ?_
            refine AOps.call (o_move _ rfl rfl) ?_
            refine AOps.call (o_add _ _ rfl rfl ⟨by (try dsimp only); omega, by (try dsimp only); omega⟩ rfl) ?_
            refine AOps.call (o_assign _ rfl rfl) ?_
            refine AOps.nil ?_
            refine ⟨n + 1, ?_, (Weak.mk' rfl ⟨⟨.refl rfl, rfl⟩, ⟨⟨.refl rfl, rfl⟩, ⟨⟨.refl (by rw [hnx]; rfl), rfl⟩, ⟨⟨.refl rfl, rfl⟩, trivial⟩⟩⟩⟩ ⟨⟨(by rw [hnx]; first | rfl | (dsimp only; rfl)), lowL_sc _ _ (lays_scs _), rfl⟩, trivial⟩ trivial)⟩
            exact ⟨by omega, by omega⟩
    · skip
      have hex : ∀ h : k < (itM flo1 n ls).1.length, fullB (itM flo1 n ls).1[k] = false := fun h => absurd h (by have hq := of_decide_eq_false h15; omega)
      refine AHead.pass rfl rfl rfl h15 rfl ?_
      refine AHead.pass rfl rfl rfl h15 rfl ?_
      refine AHead.pass rfl rfl rfl h15 rfl ?_
      refine AHead.pass rfl rfl rfl h15 rfl ?_
      refine AHead.pass rfl rfl rfl h15 rfl ?_
      refine AHead.pass rfl rfl rfl h15 rfl ?_
      refine AHead.call (o_pickF _ _ _ rfl h15 rfl rfl) rfl ?_
      refine AHead.call (o_move _ rfl rfl) rfl ?_
      refine AHead.pass rfl rfl rfl rfl rfl ?_
      refine AHead.pass rfl rfl rfl rfl rfl ?_
      refine AHead.pass rfl rfl rfl rfl rfl ?_
      refine AHead.pass rfl rfl rfl rfl rfl ?_
      refine AHead.pass rfl rfl rfl rfl rfl ?_
      refine AHead.pass rfl rfl rfl rfl rfl ?_
      refine AHead.pass rfl rfl rfl rfl rfl ?_
      refine AHead.pass rfl rfl rfl rfl rfl ?_
      refine AHead.pass rfl rfl rfl rfl rfl ?_
      refine AHead.pass rfl rfl rfl rfl rfl ?_
      refine AHead.pass rfl rfl rfl rfl rfl ?_
      refine AHead.call (o_pickF _ _ _ rfl rfl rfl rfl) rfl ?_
      refine AHead.nil ?_
      refine AOps.nil ?_
      refine AWP.condF rfl ?_
      refine AWP.exit ?_
      refine AWP.seq ?_
      refine AWP.region ?_
      refine AOps.call (o_move _ rfl rfl) ?_
      refine AOps.call (o_move _ rfl rfl) ?_
      refine AOps.call (o_lenArr _ Tryd.underlying22 rfl rfl) ?_
      refine AOps.call (o_bin _ _ rfl rfl (fun _ => rfl) rfl) ?_
      refine AOps.nil ?_
      refine AWP.cond _ rfl (fun h109 => ?_) (fun h109 => ?_)
      · skip
        have hkl : k = (itM flo1 n ls).1.length := by have hq : ((k : Nat) : Int) = ((lays ls).length : Nat) := (by simpa using h109); omega
        have hnx := it_next (flo1_full (ls := (itM flo1 n ls).1) (fun x hx => hv x (by rw [hkl, List.take_length]; exact hx)))
        refine AWP.region ?_
        refine AOps.call (o_move _ rfl rfl) ?_
        refine AOps.call (o_add _ _ rfl rfl ⟨by (try dsimp only); omega, by (try dsimp only); omega⟩ rfl) ?_
        refine AOps.call (o_assign _ rfl rfl) ?_
        refine AOps.nil ?_
        refine AWP.region ?_
        refine AOps.call (o_move _ rfl rfl) ?_
        refine AOps.call (o_add _ _ rfl rfl ⟨by (try dsimp only); omega, by (try dsimp only); omega⟩ rfl) ?_
        refine AOps.call (o_assign _ rfl rfl) ?_
        refine AOps.nil ?_
        refine ⟨n + 1, ?_, (Weak.mk' rfl ⟨⟨.refl rfl, rfl⟩, ⟨⟨.refl rfl, rfl⟩, ⟨⟨.refl (by rw [hnx]; rfl), rfl⟩, ⟨⟨.refl rfl, rfl⟩, trivial⟩⟩⟩⟩ ⟨⟨(by rw [hnx]; first | rfl | (dsimp only; rfl)), lowL_sc _ _ (lays_scs _), rfl⟩, trivial⟩ trivial)⟩
        exact ⟨by omega, by omega⟩
      · skip
        have hlt : k < (itM flo1 n ls).1.length := by have hq : ¬ ((k : Nat) : Int) = ((lays ls).length : Nat) := (by simpa using h109); omega
        have hnf := hex hlt
        have hfl := hit.1 _ (List.getElem_mem hlt)
        unfold flo at hfl
        have hst := flo1_set hlt hv hnf
        refine AWP.seq ?_
        refine AWP.region ?_
        refine AOps.call (o_move _ rfl rfl) ?_
        refine AOps.call (o_move _ rfl rfl) ?_
        refine AOps.call (o_indexArr (o := k * 3) _ _ Tryd.underlying22 Tryd.sizeOf28 rfl rfl (by omega) (by omega) (by omega) rfl) ?_
        refine AOps.call (o_fieldRef _ rfl fa28_2 rfl rfl) ?_
        refine AOps.call (o_loadRefE _ rfl rfl Tryd.sizeOf3 Tryd.isAgg3 (row_cold (i := k) hlt (by omega)) rfl) ?_
        refine AOps.call (o_bin _ _ rfl rfl (fun _ => rfl) rfl) ?_
        refine AOps.nil ?_
        refine AWP.cond _ rfl (fun h118 => ?_) (fun h118 => ?_)
        · skip
          have hc : 0 < (itM flo1 n ls).1[k].cold := of_decide_eq_true h118
          have hls1 : k < ((itM flo1 n ls).1.set k ⟨(itM flo1 n ls).1[k].ice, (itM flo1 n ls).1[k].wet, (itM flo1 n ls).1[k].cold - 1⟩).length := by simp; omega
          have hnx : itM flo1 (n + 1) ls = ((itM flo1 n ls).1.set k ⟨(itM flo1 n ls).1[k].ice + 1, (itM flo1 n ls).1[k].wet, (itM flo1 n ls).1[k].cold - 1⟩, (itM flo1 n ls).2) := by rw [it_next hst, Int.add_zero]; unfold inF; rw [if_pos hc]
          refine AWP.seq ?_
          refine AWP.region ?_
          refine AOps.call (o_move _ rfl rfl) ?_
          refine AOps.call (o_move _ rfl rfl) ?_
          refine AOps.call (o_indexArr (o := k * 3) _ _ Tryd.underlying22 Tryd.sizeOf28 rfl rfl (by omega) (by omega) (by omega) rfl) ?_
          refine AOps.call (o_fieldRef _ rfl fa28_2 rfl rfl) ?_
          refine AOps.call (o_loadRefE _ rfl rfl Tryd.sizeOf3 Tryd.isAgg3 (row_cold (i := k) hlt (by omega)) rfl) ?_
          refine AOps.call (o_sub _ _ rfl rfl ⟨by (try dsimp only); omega, by (try dsimp only); omega⟩ rfl) ?_
          refine AOps.call (o_indexArr (o := k * 3) _ _ Tryd.underlying22 Tryd.sizeOf28 rfl rfl (by omega) (by omega) (by omega) rfl) ?_
          refine AOps.call (o_fieldRef _ rfl fa28_2 rfl rfl) ?_
          refine AOps.cons (o_storeE _ _ rfl rfl Tryd.sizeOf3 rfl rfl (by rw [row_len]; (try simp only [List.length_set]); omega) (row_set1 (i := k) (k := 2) (l := ⟨(itM flo1 n ls).1[k].ice, (itM flo1 n ls).1[k].wet, (itM flo1 n ls).1[k].cold - 1⟩) hlt (by omega) rfl (by omega)) rfl) ?_
          refine AOps.nil ?_
          refine AWP.region ?_
          refine AOps.call (o_move _ rfl rfl) ?_
          refine AOps.call (o_move _ rfl rfl) ?_
          refine AOps.call (o_indexArr (o := k * 3) _ _ Tryd.underlying22 Tryd.sizeOf28 rfl rfl (by omega) (by omega) (by omega) rfl) ?_
          refine AOps.call (o_fieldRef _ rfl fa28_0 rfl rfl) ?_
          refine AOps.call (o_loadRefE _ rfl rfl Tryd.sizeOf3 Tryd.isAgg3 ((row_ice (i := k) hls1 (by omega)).trans (by rw [List.getElem_set_self])) rfl) ?_
          refine AOps.call (o_add _ _ rfl rfl ⟨by (try dsimp only); omega, by (try dsimp only); omega⟩ rfl) ?_
          refine AOps.call (o_indexArr (o := k * 3) _ _ Tryd.underlying22 Tryd.sizeOf28 rfl rfl (by omega) (by omega) (by omega) rfl) ?_
          refine AOps.call (o_fieldRef _ rfl fa28_0 rfl rfl) ?_
          refine AOps.cons (o_storeE _ _ rfl rfl Tryd.sizeOf3 rfl rfl (by rw [row_len]; (try simp only [List.length_set]); omega) ((row_set1 (i := k) (k := 0) (l := ⟨(itM flo1 n ls).1[k].ice + 1, (itM flo1 n ls).1[k].wet, (itM flo1 n ls).1[k].cold - 1⟩) hls1 (by omega) (by rw [List.getElem_set_self]; rfl) (by omega)).trans (by rw [List.set_set])) rfl) ?_
          refine AOps.nil ?_
          refine AWP.region ?_
          refine AOps.call (o_move _ rfl rfl) ?_
          refine AOps.call (o_add _ _ rfl rfl ⟨by (try dsimp only); omega, by (try dsimp only); omega⟩ rfl) ?_
          refine AOps.call (o_assign _ rfl rfl) ?_
          refine AOps.nil ?_
          refine ⟨n + 1, ?_, (Weak.mk' rfl ⟨⟨.refl rfl, rfl⟩, ⟨⟨.refl rfl, rfl⟩, ⟨⟨.refl (by rw [hnx]; rfl), rfl⟩, ⟨⟨.refl rfl, rfl⟩, trivial⟩⟩⟩⟩ ⟨⟨(by rw [hnx]; first | rfl | (dsimp only; rfl)), lowL_sc _ _ (lays_scs _), rfl⟩, trivial⟩ trivial)⟩
          exact ⟨by omega, by omega⟩
        · skip
          have hc : ¬ 0 < (itM flo1 n ls).1[k].cold := of_decide_eq_false h118
          have hnx : itM flo1 (n + 1) ls = ((itM flo1 n ls).1.set k ⟨(itM flo1 n ls).1[k].ice, (itM flo1 n ls).1[k].wet + 1, (itM flo1 n ls).1[k].cold⟩, (itM flo1 n ls).2) := by rw [it_next hst, Int.add_zero]; unfold inF; rw [if_neg hc]
          refine AWP.region ?_
          refine AOps.call (o_move _ rfl rfl) ?_
          refine AOps.call (o_move _ rfl rfl) ?_
          refine AOps.call (o_indexArr (o := k * 3) _ _ Tryd.underlying22 Tryd.sizeOf28 rfl rfl (by omega) (by omega) (by omega) rfl) ?_
          refine AOps.call (o_fieldRef _ rfl fa28_1 rfl rfl) ?_
          refine AOps.call (o_loadRefE _ rfl rfl Tryd.sizeOf3 Tryd.isAgg3 (row_wet (i := k) hlt (by omega)) rfl) ?_
          refine AOps.call (o_add _ _ rfl rfl ⟨by (try dsimp only); omega, by (try dsimp only); omega⟩ rfl) ?_
          refine AOps.call (o_indexArr (o := k * 3) _ _ Tryd.underlying22 Tryd.sizeOf28 rfl rfl (by omega) (by omega) (by omega) rfl) ?_
          refine AOps.call (o_fieldRef _ rfl fa28_1 rfl rfl) ?_
          refine AOps.cons (o_storeE _ _ rfl rfl Tryd.sizeOf3 rfl rfl (by rw [row_len]; (try simp only [List.length_set]); omega) (row_set1 (i := k) (k := 1) (l := ⟨(itM flo1 n ls).1[k].ice, (itM flo1 n ls).1[k].wet + 1, (itM flo1 n ls).1[k].cold⟩) hlt (by omega) rfl (by omega)) rfl) ?_
          refine AOps.nil ?_
          refine AWP.region ?_
          refine AOps.call (o_move _ rfl rfl) ?_
          refine AOps.call (o_add _ _ rfl rfl ⟨by (try dsimp only); omega, by (try dsimp only); omega⟩ rfl) ?_
          refine AOps.call (o_assign _ rfl rfl) ?_
          refine AOps.nil ?_
          refine ⟨n + 1, ?_, (Weak.mk' rfl ⟨⟨.refl rfl, rfl⟩, ⟨⟨.refl rfl, rfl⟩, ⟨⟨.refl (by rw [hnx]; rfl), rfl⟩, ⟨⟨.refl rfl, rfl⟩, trivial⟩⟩⟩⟩ ⟨⟨(by rw [hnx]; first | rfl | (dsimp only; rfl)), lowL_sc _ _ (lays_scs _), rfl⟩, trivial⟩ trivial)⟩
          exact ⟨by omega, by omega⟩
  · skip
    have hnm : n = m := by have hq := of_decide_eq_false h10; omega
    subst hnm
    refine AWP.exit ?_
    refine AWP.seq ?_
    refine AWP.region ?_
    refine AOps.call (o_move _ rfl rfl) ?_
    refine AOps.call (o_move _ rfl rfl) ?_
    refine AOps.call (o_assign _ rfl rfl) ?_
    refine AOps.call (o_assign _ rfl rfl) ?_
    refine AOps.nil ?_
    refine AWP.ret ?_
    exact .inl ⟨(12, 0), _, ⟨rfl, rfl, trivial⟩, row_close _⟩

set_option maxHeartbeats 4000000 in
set_option maxRecDepth 20000 in
theorem rflow_b (m : Nat) (hm : m ≤ 1000000) : FSpecW Tryd.prog 92 [.sl [], I (m : Nat)] ([]) (0) (.int .i64 (m : Nat)) := by
  refine FSpecW.of_body Tryd.func92 rfl (leB rfl) fun w0 M0 => ?_
  refine AWP.seq ?_
  refine AWP.region ?_
  refine AOps.call (o_nil (z := 3) (e := 28) rfl) ?_
  refine AOps.call (o_assign _ rfl rfl) ?_
  refine AOps.nil ?_
  refine AWP.seq ?_
  refine AWP.region ?_
  refine AOps.call (o_litA0 Tryd.underlying22 Tryd.sizeOf28 Tryd.zeroValue28 rfl) ?_
  refine AOps.call (o_move _ rfl rfl) ?_
  refine AOps.call (o_appendA0 _ _ Tryd.underlying22 Tryd.sizeOf28 rfl rfl rfl) ?_
  refine AOps.call (o_assign _ rfl rfl) ?_
  refine AOps.nil ?_
  refine AWP.seq ?_
  refine AWP.region ?_
  refine AOps.call (o_assign _ rfl rfl) ?_
  refine AOps.nil ?_
  refine AWP.seq ?_
  refine AWP.seq ?_
  refine AWP.region ?_
  refine AOps.call (o_assign _ rfl rfl) ?_
  refine AOps.nil ?_
  refine AWP.block ?_
  refine AWP.loop (ι := Nat) (fun i => AS.mk' 83 [(1, I (m : Nat)), (6, .arr (10, 0) 0 0 0), (7, I i), (8, I i)] [((10, 0), [])] [] [(10, 1)]) (fun i => i ≤ m) (fun i => m - i) (0) (Weak.mk' rfl ⟨⟨.refl rfl, rfl⟩, ⟨⟨.refl rfl, rfl⟩, ⟨⟨.refl rfl, rfl⟩, ⟨⟨.refl rfl, rfl⟩, trivial⟩⟩⟩⟩ ⟨⟨rfl, rfl, rfl⟩, trivial⟩ trivial) (Nat.zero_le _) ?_
  rintro n hn
  try dsimp only at *
  refine AWP.seq ?_
  refine AWP.seq ?_
  refine AWP.region ?_
  refine AOps.call (o_move _ rfl rfl) ?_
  refine AOps.call (o_move _ rfl rfl) ?_
  refine AOps.call (o_bin _ _ rfl rfl (fun _ => rfl) rfl) ?_
  refine AOps.nil ?_
  refine AWP.cond _ rfl (fun h10 => ?_) (fun h10 => ?_)
  · skip
    have hlt1 : n < m := by have hq := of_decide_eq_true h10; omega
    refine AWP.skip ?_
    refine AWP.seq ?_
    refine AWP.block ?_
    refine AWP.seq ?_
    refine AWP.region ?_
    refine AOps.call (o_assign _ rfl rfl) ?_
    refine AOps.nil ?_
    refine AWP.seq ?_
    refine AWP.block ?_
    refine AWP.loop (ι := Unit) (fun i => AS.mk' 83 [(1, I (m : Nat)), (6, .arr (10, 0) 0 0 0), (7, I n), (8, I n), (9, I 0)] [((10, 0), [])] [] [(10, 1)]) (fun i => True) (fun i => 0) (()) (Weak.mk' rfl ⟨⟨.refl rfl, rfl⟩, ⟨⟨.refl rfl, rfl⟩, ⟨⟨.refl rfl, rfl⟩, ⟨⟨.refl rfl, rfl⟩, ⟨⟨.refl rfl, rfl⟩, trivial⟩⟩⟩⟩⟩ ⟨⟨rfl, rfl, rfl⟩, trivial⟩ trivial) (trivial) ?_
    rintro _ _
    try dsimp only at *
    refine AWP.seq ?_
    refine AWP.seq ?_
    refine AWP.drawn 25 mixed (by kernel_rfl) ?_
    refine AHead.call (o_move _ rfl rfl) rfl ?_
    refine AHead.call (o_move _ rfl rfl) rfl ?_
    refine AHead.call (o_lenArr _ Tryd.underlying22 rfl rfl) rfl ?_
    refine AHead.call (o_bin _ _ rfl rfl (fun _ => rfl) rfl) rfl ?_
    refine AHead.call (o_move _ rfl rfl) rfl ?_
    refine AHead.split rfl rfl rfl (fun h14 => ?_) (fun h14 => ?_)
    · skip
      exfalso
      exact absurd h14 (by decide)
    · skip
      refine AHead.pass rfl rfl rfl h14 rfl ?_
      refine AHead.pass rfl rfl rfl h14 rfl ?_
      refine AHead.pass rfl rfl rfl h14 rfl ?_
      refine AHead.pass rfl rfl rfl h14 rfl ?_
      refine AHead.pass rfl rfl rfl h14 rfl ?_
      refine AHead.pass rfl rfl rfl h14 rfl ?_
      refine AHead.call (o_pickF _ _ _ rfl h14 rfl rfl) rfl ?_
      refine AHead.call (o_move _ rfl rfl) rfl ?_
      refine AHead.pass rfl rfl rfl rfl rfl ?_
      refine AHead.pass rfl rfl rfl rfl rfl ?_
      refine AHead.pass rfl rfl rfl rfl rfl ?_
      refine AHead.pass rfl rfl rfl rfl rfl ?_
      refine AHead.pass rfl rfl rfl rfl rfl ?_
      refine AHead.pass rfl rfl rfl rfl rfl ?_
      refine AHead.pass rfl rfl rfl rfl rfl ?_
      refine AHead.pass rfl rfl rfl rfl rfl ?_
      refine AHead.pass rfl rfl rfl rfl rfl ?_
      refine AHead.pass rfl rfl rfl rfl rfl ?_
      refine AHead.pass rfl rfl rfl rfl rfl ?_
      refine AHead.call (o_pickF _ _ _ rfl rfl rfl rfl) rfl ?_
      refine AHead.nil ?_
      refine AOps.nil ?_
      refine AWP.condF rfl ?_
      refine AWP.exit ?_
      refine AWP.seq ?_
      refine AWP.region ?_
      refine AOps.call (o_move _ rfl rfl) ?_
      refine AOps.call (o_move _ rfl rfl) ?_
      refine AOps.call (o_lenArr _ Tryd.underlying22 rfl rfl) ?_
      refine AOps.call (o_bin _ _ rfl rfl (fun _ => rfl) rfl) ?_
      refine AOps.nil ?_
      refine AWP.cond _ rfl (fun h17 => ?_) (fun h17 => ?_)
      · skip
        refine AWP.region ?_
        refine AOps.call (o_move _ rfl rfl) ?_
        refine AOps.call (o_add _ _ rfl rfl ⟨by (try dsimp only); omega, by (try dsimp only); omega⟩ rfl) ?_
        refine AOps.call (o_assign _ rfl rfl) ?_
        refine AOps.nil ?_
        refine AWP.region ?_
        refine AOps.call (o_move _ rfl rfl) ?_
        refine AOps.call (o_add _ _ rfl rfl ⟨by (try dsimp only); omega, by (try dsimp only); omega⟩ rfl) ?_
        refine AOps.call (o_assign _ rfl rfl) ?_
        refine AOps.nil ?_
        refine ⟨n + 1, ?_, (Weak.mk' rfl ⟨⟨.refl rfl, rfl⟩, ⟨⟨.refl rfl, rfl⟩, ⟨⟨.refl rfl, rfl⟩, ⟨⟨.refl rfl, rfl⟩, trivial⟩⟩⟩⟩ ⟨⟨rfl, rfl, rfl⟩, trivial⟩ trivial)⟩
        exact ⟨by omega, by omega⟩
      · skip
        exfalso
        exact absurd h17 (by decide)
  · skip
    have hnm : n = m := by have hq := of_decide_eq_false h10; omega
    subst hnm
    refine AWP.exit ?_
    refine AWP.seq ?_
    refine AWP.region ?_
    refine AOps.call (o_move _ rfl rfl) ?_
    refine AOps.call (o_move _ rfl rfl) ?_
    refine AOps.call (o_assign _ rfl rfl) ?_
    refine AOps.call (o_assign _ rfl rfl) ?_
    refine AOps.nil ?_
    refine AWP.ret ?_
    exact .inl ⟨(10, 0), _, ⟨rfl, rfl, trivial⟩, rfl⟩

theorem rflow_s (ls : List Lay) (m : Int) (hls : ∀ x ∈ ls, flo x) (hl : ls.length ≤ 1000) (hm : 0 ≤ m ∧ m ≤ 1000000) : FSpecW Tryd.prog 92 [.sl (lays ls), I m] (rowC (pourL m ls).2) (lays (pourL m ls).2).length (.int .i64 (pourL m ls).1) := by
  obtain ⟨k, rfl⟩ : ∃ k : Nat, m = (k : Int) := ⟨m.toNat, by omega⟩
  have h1 := pourL_it k hls
  rw [h1]
  have h2 := (it_flo hls k).2.2.2
  rcases Nat.eq_zero_or_pos ls.length with h | h
  · obtain rfl := List.eq_nil_of_length_eq_zero h
    have h3 : pourL (k : Int) [] = ((k : Int), []) := rfl
    rw [h3] at h1
    have e1 := (Prod.mk.inj h1).1
    have e2 := (Prod.mk.inj h1).2
    rw [← e1, ← e2]
    exact rflow_b k (by omega)
  · have h4 := rflow_a ls k hls h hl (by omega)
    simp only [lays_len, h2] at h4 ⊢
    exact h4

end Go.Proofs.YtgagfmjpmdgfdaaDoor
