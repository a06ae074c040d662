/- L5. -/
import Derived.Test.YtelenedgaoglaaaDoorR29
set_option linter.unusedSimpArgs false
set_option linter.unusedVariables false
namespace Go.Proofs.YtelenedgaoglaaaDoor
open Go.Ab
open Go.Pil Go.RowKit

set_option maxRecDepth 20000 in
theorem Shift_ok (p : Plw) (he : okP p = true) (i : Nat) (h : i + 1 < p.log.length) : FSpec Tryd.prog 19 [.agg (eP p), I i] (.tup [B (p.shift i), I 0]) (none) := by
  refine FSpec.of_body Tryd.func19 rfl (leB rfl) fun w0 M0 => ?_
  have hp := okP_iff.1 he
  have h32 := hp.len
  have hck := Check_s p
  rw [show logE p = 0 from if_pos he] at hck
  refine AWP.seq ?_
  refine AWP.region ?_
  refine AOps.call (o_box _ rfl rfl rfl) ?_
  refine AOps.call (o_assign _ rfl rfl) ?_
  refine AOps.call (o_assign _ rfl rfl) ?_
  refine AOps.nil ?_
  refine AWP.seq ?_
  refine AWP.seq ?_
  refine AWP.region ?_
  refine AOps.call (o_loadRef _ rfl rfl Tryd.sizeOf24 Tryd.isAgg24 rfl rfl rfl) ?_
  refine AOps.call (o_call (hck) Tryd.call32 rfl rfl) ?_
  refine AOps.call (o_assign _ rfl rfl) ?_
  refine AOps.nil ?_
  refine AWP.seq ?_
  refine AWP.region ?_
  refine AOps.call (o_move _ rfl rfl) ?_
  refine AOps.call (o_bin _ _ rfl rfl (fun _ => rfl) rfl) ?_
  refine AOps.nil ?_
  refine AWP.cond _ rfl (fun h6 => ?_) (fun h6 => ?_)
  · skip
    exfalso
    exact absurd h6 (by decide)
  · skip
    refine AWP.skip ?_
    refine AWP.seq ?_
    refine AWP.region ?_
    refine AOps.call (o_loadRef _ rfl rfl Tryd.sizeOf24 Tryd.isAgg24 rfl rfl rfl) ?_
    refine AOps.call (o_build bu67 rfl rfl rfl) ?_
    refine AOps.call (o_alloc ze67 rfl rfl) ?_
    refine AOps.cons (o_store _ _ rfl rfl Tryd.sizeOf67 rfl rfl rfl rfl rfl) ?_
    refine AOps.nil ?_
    refine AWP.seq ?_
    refine AWP.seq ?_
    refine AWP.region ?_
    refine AOps.call (o_loadRef _ rfl rfl Tryd.sizeOf67 Tryd.isAgg67 rfl rfl rfl) ?_
    refine AOps.call (o_move _ rfl rfl) ?_
    refine AOps.call (o_call (has_s p i) Tryd.call29 rfl rfl) ?_
    refine AOps.call (o_un _ rfl (fun _ => rfl) rfl) ?_
    refine AOps.call (o_move _ rfl rfl) ?_
    refine AOps.split rfl rfl rfl (fun h14 => ?_) (fun h14 => ?_)
    · skip
      refine AOps.go rfl rfl rfl h14 (o_loadRef _ rfl rfl Tryd.sizeOf67 Tryd.isAgg67 rfl rfl rfl) ?_
      refine AOps.go rfl rfl rfl h14 (o_move _ rfl rfl) ?_
      refine AOps.go rfl rfl rfl h14 (o_call (isLast_s p i h32) Tryd.call36 rfl rfl) ?_
      refine AOps.call (o_pickF _ _ _ rfl h14 rfl rfl) ?_
      refine AOps.nil ?_
      refine AWP.cond _ rfl (fun h18 => ?_) (fun h18 => ?_)
      · skip
        exfalso
        have hq := of_decide_eq_true h18
        omega
      · skip
        refine AWP.skip ?_
        refine AWP.seq ?_
        refine AWP.region ?_
        refine AOps.call (o_loadRef _ rfl rfl Tryd.sizeOf67 Tryd.isAgg67 rfl rfl rfl) ?_
        refine AOps.call (o_move _ rfl rfl) ?_
        refine AOps.call (o_call (shift_s p hp i h) Tryd.call37 rfl rfl) ?_
        refine AOps.call (o_assign _ rfl rfl) ?_
        refine AOps.call (o_assign _ rfl rfl) ?_
        refine AOps.nil ?_
        refine AWP.ret ?_
        exact postQ.ret2 Tryd.results19 rfl rfl rfl
    · skip
      exfalso
      simp at h14
      omega

theorem tree_0 {p : Plw} {w : List Sp} (h : TreeE p w = 0) : okP p = true ∧ okW p w = true ∧ TreeL p w = cnts p w p.log.length ∧ (∀ j, j < p.log.length → (lvl p w (j + 1)).length ≤ 64) ∧ CasE p w = 0 ∧ CasL p w = lvl p w p.log.length := by
  unfold TreeE at h
  split at h
  · rename_i h1
    obtain ⟨g1, g2⟩ := rdE_0 h1
    have hb : treeBig p w = false := by
      unfold treeE at h
      by_cases hq : treeBig p w = true
      · rw [if_pos hq] at h; omega
      · simpa using hq
    have hs : ∀ j, j < p.log.length → (lvl p w (j + 1)).length ≤ 64 := fun j hj => by
      rcases Nat.lt_or_ge 64 (lvl p w (j + 1)).length with h2 | h2
      · rw [big_yes hj h2] at hb; cases hb
      · exact h2
    have hc : ¬ 64 < (casesA p w).length := by
      show ¬ 64 < (lvl p w p.log.length).length
      rcases Nat.eq_zero_or_pos p.log.length with h0 | h0
      · rw [h0]; show ¬ 64 < ([[]] : List (List Int)).length; simp
      · have := hs (p.log.length - 1) (by omega)
        rw [show p.log.length - 1 + 1 = p.log.length by omega] at this
        omega
    refine ⟨g1, g2, ?_, hs, ?_, ?_⟩
    · unfold TreeL treeL; rw [if_pos h1, if_neg (by rw [hb]; decide)]
    · unfold CasE casE; rw [if_pos h1, if_neg hc]
    · unfold CasL casL; rw [if_pos h1, if_neg hc]; rfl
  · rename_i h1; exact absurd h h1
theorem tree_n {p : Plw} {w : List Sp} (h : TreeE p w ≠ 0) : TreeL p w = [] := by
  unfold TreeE at h
  unfold TreeL
  split at h
  · rename_i h1
    rw [if_pos h1]
    unfold treeE at h
    unfold treeL
    split at h
    · rename_i h2; rw [if_pos h2]
    · exact absurd rfl h
  · rename_i h1; rw [if_neg h1]
theorem cnts_at {p : Plw} {w : List Sp} {n : Nat} {x : Int} {k : Nat} (hx : x.toNat = k) (h : k < n) : (ints (cnts p w n))[x.toNat]? = some [I ((lvl p w (k + 1)).length : Int)] := by
  subst hx
  simp only [ints, cnts, List.map_map, List.getElem?_map, List.getElem?_range h]
  rfl

set_option maxHeartbeats 4000000 in
set_option maxRecDepth 20000 in
theorem PillowTree_a (p : Plw) (w : List Sp) (hw1 : w.length ≤ 9223372036854775807) (hne : TreeE p w ≠ 0) : FSpecG Tryd.prog TAB 7 [.agg (eP p), .sl (sps w)] (B true) (none) := by
  refine FSpecG.of_body tab_stable Tryd.func7 rfl (leB rfl) fun w0 M0 hG => ?_
  have hT := Tree_s p w hw1
  rw [tree_n hne] at hT
  have hll := shws_len p.log
  refine AWP.seq ?_
  refine AWP.region ?_
  refine AOps.call (o_box _ rfl rfl rfl) ?_
  refine AOps.call (o_assign _ rfl rfl) ?_
  refine AOps.nil ?_
  refine AWP.seq ?_
  refine AWP.seq ?_
  refine AWP.region ?_
  refine AOps.call (o_callG (sane_s) hG Tryd.call8 rfl rfl) ?_
  refine AOps.call (o_un _ rfl (fun _ => rfl) rfl) ?_
  refine AOps.nil ?_
  refine AWP.cond _ rfl (fun h4 => ?_) (fun h4 => ?_)
  · skip
    exfalso
    simp at h4
  · skip
    refine AWP.skip ?_
    refine AWP.seq ?_
    refine AWP.seq ?_
    refine AWP.region ?_
    refine AOps.call (o_fieldRef _ rfl fa24_6 rfl rfl) ?_
    refine AOps.call (o_loadRef _ rfl rfl Tryd.sizeOf22 Tryd.isAgg22 rfl rfl rfl) ?_
    refine AOps.call (o_len _ Tryd.underlying22 rfl rfl) ?_
    refine AOps.call (o_bin _ _ rfl rfl (fun _ => rfl) rfl) ?_
    refine AOps.nil ?_
    refine AWP.cond _ rfl (fun h9 => ?_) (fun h9 => ?_)
    · skip
      refine AWP.seq ?_
      refine AWP.region ?_
      refine AOps.call (o_assign _ rfl rfl) ?_
      refine AOps.nil ?_
      refine AWP.ret ?_
      first
      | exact postQ.ret1 Tryd.results7 rfl rfl
      | (refine postQ.ret1 Tryd.results7 rfl ?_; simp [AV.close, AV.close.closeL, B, I]; done)
      | (refine postQ.ret1 Tryd.results7 rfl ?_; simp [AV.close, AV.close.closeL, B, I]; omega)
      | (refine postQ.ret1 Tryd.results7 rfl ?_; simp_all [AV.close, AV.close.closeL, B, I]; done)
      | (refine postQ.ret1 Tryd.results7 rfl ?_; simp_all [AV.close, AV.close.closeL, B, I]; omega)
    · skip
      refine AWP.skip ?_
      refine AWP.seq ?_
      refine AWP.region ?_
      refine AOps.call (o_loadRef _ rfl rfl Tryd.sizeOf24 Tryd.isAgg24 rfl rfl rfl) ?_
      refine AOps.call (o_move _ rfl rfl) ?_
      refine AOps.call (o_call (hT) Tryd.call18 rfl rfl) ?_
      refine AOps.call (o_move _ rfl rfl) ?_
      refine AOps.call (o_extract _ rfl rfl rfl rfl) ?_
      refine AOps.call (o_extract _ rfl rfl rfl rfl) ?_
      refine AOps.call (o_assign _ rfl rfl) ?_
      refine AOps.call (o_assign _ rfl rfl) ?_
      refine AOps.nil ?_
      refine AWP.seq ?_
      refine AWP.region ?_
      refine AOps.call (o_loadRef _ rfl rfl Tryd.sizeOf24 Tryd.isAgg24 rfl rfl rfl) ?_
      refine AOps.call (o_move _ rfl rfl) ?_
      refine AOps.call (o_call (Cases_s p w hw1) Tryd.call12 rfl rfl) ?_
      refine AOps.call (o_move _ rfl rfl) ?_
      refine AOps.call (o_extract _ rfl rfl rfl rfl) ?_
      refine AOps.call (o_extract _ rfl rfl rfl rfl) ?_
      refine AOps.call (o_assign _ rfl rfl) ?_
      refine AOps.call (o_assign _ rfl rfl) ?_
      refine AOps.nil ?_
      refine AWP.seq ?_
      refine AWP.seq ?_
      refine AWP.region ?_
      refine AOps.call (o_move _ rfl rfl) ?_
      refine AOps.call (o_bin _ _ rfl rfl (fun _ => rfl) rfl) ?_
      refine AOps.nil ?_
      refine AWP.cond _ rfl (fun h21 => ?_) (fun h21 => ?_)
      · skip
        refine AWP.seq ?_
        refine AWP.region ?_
        refine AOps.call (o_move _ rfl rfl) ?_
        refine AOps.call (o_len _ Tryd.underlying26 rfl rfl) ?_
        refine AOps.call (o_bin _ _ rfl rfl (fun _ => rfl) rfl) ?_
        refine AOps.call (o_assign _ rfl rfl) ?_
        refine AOps.nil ?_
        refine AWP.ret ?_
        first
        | exact postQ.ret1 Tryd.results7 rfl rfl
        | (refine postQ.ret1 Tryd.results7 rfl ?_; simp [AV.close, AV.close.closeL, B, I]; done)
        | (refine postQ.ret1 Tryd.results7 rfl ?_; simp [AV.close, AV.close.closeL, B, I]; omega)
        | (refine postQ.ret1 Tryd.results7 rfl ?_; simp_all [AV.close, AV.close.closeL, B, I]; done)
        | (refine postQ.ret1 Tryd.results7 rfl ?_; simp_all [AV.close, AV.close.closeL, B, I]; omega)
      · skip
        exfalso
        simp at h21
        exact hne h21

set_option maxHeartbeats 4000000 in
set_option maxRecDepth 20000 in
theorem PillowTree_b (p : Plw) (w : List Sp) (hw1 : w.length ≤ 9223372036854775807) (h0 : TreeE p w = 0) : FSpecG Tryd.prog TAB 7 [.agg (eP p), .sl (sps w)] (B true) (none) := by
  refine FSpecG.of_body tab_stable Tryd.func7 rfl (leB rfl) fun w0 M0 hG => ?_
  obtain ⟨g1, g2, g3, g4, g5, g6⟩ := tree_0 h0
  have hT := Tree_s p w hw1
  rw [h0, g3] at hT
  have hC := Cases_s p w hw1
  rw [g5, g6] at hC
  have hp := okP_iff.1 g1
  have h32 := hp.len
  have hll := shws_len p.log
  have hcl := cnts_len p w p.log.length
  have hil := ints_len (cnts p w p.log.length)
  have hgl := css_len (lvl p w p.log.length)
  refine AWP.seq ?_
  refine AWP.region ?_
  refine AOps.call (o_box _ rfl rfl rfl) ?_
  refine AOps.call (o_assign _ rfl rfl) ?_
  refine AOps.nil ?_
  refine AWP.seq ?_
  refine AWP.seq ?_
  refine AWP.region ?_
  refine AOps.call (o_callG (sane_s) hG Tryd.call8 rfl rfl) ?_
  refine AOps.call (o_un _ rfl (fun _ => rfl) rfl) ?_
  refine AOps.nil ?_
  refine AWP.cond _ rfl (fun h4 => ?_) (fun h4 => ?_)
  · skip
    exfalso
    simp at h4
  · skip
    refine AWP.skip ?_
    refine AWP.seq ?_
    refine AWP.seq ?_
    refine AWP.region ?_
    refine AOps.call (o_fieldRef _ rfl fa24_6 rfl rfl) ?_
    refine AOps.call (o_loadRef _ rfl rfl Tryd.sizeOf22 Tryd.isAgg22 rfl rfl rfl) ?_
    refine AOps.call (o_len _ Tryd.underlying22 rfl rfl) ?_
    refine AOps.call (o_bin _ _ rfl rfl (fun _ => rfl) rfl) ?_
    refine AOps.nil ?_
    refine AWP.cond _ rfl (fun h9 => ?_) (fun h9 => ?_)
    · skip
      refine AWP.seq ?_
      refine AWP.region ?_
      refine AOps.call (o_assign _ rfl rfl) ?_
      refine AOps.nil ?_
      refine AWP.ret ?_
      first
      | exact postQ.ret1 Tryd.results7 rfl rfl
      | (refine postQ.ret1 Tryd.results7 rfl ?_; simp [AV.close, AV.close.closeL, B, I]; done)
      | (refine postQ.ret1 Tryd.results7 rfl ?_; simp [AV.close, AV.close.closeL, B, I]; omega)
      | (refine postQ.ret1 Tryd.results7 rfl ?_; simp_all [AV.close, AV.close.closeL, B, I]; done)
      | (refine postQ.ret1 Tryd.results7 rfl ?_; simp_all [AV.close, AV.close.closeL, B, I]; omega)
    · skip
      refine AWP.skip ?_
      refine AWP.seq ?_
      refine AWP.region ?_
      refine AOps.call (o_loadRef _ rfl rfl Tryd.sizeOf24 Tryd.isAgg24 rfl rfl rfl) ?_
      refine AOps.call (o_move _ rfl rfl) ?_
      refine AOps.call (o_call (hT) Tryd.call18 rfl rfl) ?_
      refine AOps.call (o_move _ rfl rfl) ?_
      refine AOps.call (o_extract _ rfl rfl rfl rfl) ?_
      refine AOps.call (o_extract _ rfl rfl rfl rfl) ?_
      refine AOps.call (o_assign _ rfl rfl) ?_
      refine AOps.call (o_assign _ rfl rfl) ?_
      refine AOps.nil ?_
      refine AWP.seq ?_
      refine AWP.region ?_
      refine AOps.call (o_loadRef _ rfl rfl Tryd.sizeOf24 Tryd.isAgg24 rfl rfl rfl) ?_
      refine AOps.call (o_move _ rfl rfl) ?_
      refine AOps.call (o_call (hC) Tryd.call12 rfl rfl) ?_
      refine AOps.call (o_move _ rfl rfl) ?_
      refine AOps.call (o_extract _ rfl rfl rfl rfl) ?_
      refine AOps.call (o_extract _ rfl rfl rfl rfl) ?_
      refine AOps.call (o_assign _ rfl rfl) ?_
      refine AOps.call (o_assign _ rfl rfl) ?_
      refine AOps.nil ?_
      refine AWP.seq ?_
      refine AWP.seq ?_
      refine AWP.region ?_
      refine AOps.call (o_move _ rfl rfl) ?_
      refine AOps.call (o_bin _ _ rfl rfl (fun _ => rfl) rfl) ?_
      refine AOps.nil ?_
      refine AWP.cond _ rfl (fun h21 => ?_) (fun h21 => ?_)
      · skip
        exfalso
        exact absurd h21 (by decide)
      · skip
        refine AWP.skip ?_
        refine AWP.seq ?_
        refine AWP.seq ?_
        refine AWP.region ?_
        refine AOps.call (o_move _ rfl rfl) ?_
        refine AOps.call (o_bin _ _ rfl rfl (fun _ => rfl) rfl) ?_
        refine AOps.call (o_move _ rfl rfl) ?_
        refine AOps.split rfl rfl rfl (fun h23 => ?_) (fun h23 => ?_)
        · skip
          refine AOps.go rfl rfl rfl h23 (o_move _ rfl rfl) ?_
          refine AOps.go rfl rfl rfl h23 (o_len _ Tryd.underlying26 rfl rfl) ?_
          refine AOps.go rfl rfl rfl h23 (o_fieldRef _ rfl fa24_6 rfl rfl) ?_
          refine AOps.go rfl rfl rfl h23 (o_loadRef _ rfl rfl Tryd.sizeOf22 Tryd.isAgg22 rfl rfl rfl) ?_
          refine AOps.go rfl rfl rfl h23 (o_len _ Tryd.underlying22 rfl rfl) ?_
          refine AOps.go rfl rfl rfl h23 (o_bin _ _ rfl rfl (fun _ => rfl) rfl) ?_
          refine AOps.call (o_pickF _ _ _ rfl h23 rfl rfl) ?_
          refine AOps.nil ?_
          refine AWP.cond _ rfl (fun h29 => ?_) (fun h29 => ?_)
          · skip
            exfalso
            simp at h29
            omega
          · skip
            refine AWP.skip ?_
            refine AWP.seq ?_
            refine AWP.seq ?_
            refine AWP.region ?_
            refine AOps.call (o_assign _ rfl rfl) ?_
            refine AOps.nil ?_
            refine AWP.block ?_
            refine AWP.loop (ι := Nat) (fun i => AS.mk' 126 [(2, .ref (2, 0) 0), (5, .sl (ints (cnts p w p.log.length))), (7, .sl (css (lvl p w p.log.length))), (9, I i)] [((2, 0), eP p)] [] [(2, 1)]) (fun i => 1 ≤ i ∧ (i ≤ p.log.length ∨ i = 1)) (fun i => p.log.length - i) (1) (Weak.mk' rfl ⟨⟨.refl rfl, rfl⟩, ⟨⟨.refl rfl, rfl⟩, ⟨⟨.refl rfl, rfl⟩, ⟨⟨.refl rfl, rfl⟩, trivial⟩⟩⟩⟩ ⟨⟨rfl, rfl, rfl⟩, trivial⟩ trivial) (⟨Nat.le_refl _, .inr rfl⟩) ?_
            rintro k ⟨hk1, hk⟩
            try dsimp only at *
            refine AWP.seq ?_
            refine AWP.seq ?_
            refine AWP.region ?_
            refine AOps.call (o_move _ rfl rfl) ?_
            refine AOps.call (o_move _ rfl rfl) ?_
            refine AOps.call (o_len _ Tryd.underlying26 rfl rfl) ?_
            refine AOps.call (o_bin _ _ rfl rfl (fun _ => rfl) rfl) ?_
            refine AOps.nil ?_
            refine AWP.cond _ rfl (fun h33 => ?_) (fun h33 => ?_)
            · skip
              have hkn : k < p.log.length := by have := of_decide_eq_true h33; omega
              have e1 : ((k : Nat) : Int) - 1 = ((k - 1 : Nat) : Int) := by omega
              have hS := Shift_ok p g1 (k - 1) (by omega)
              rw [← e1] at hS
              have hel := cnts_at (p := p) (w := w) (x := ((k : Nat) : Int)) (k := k) (by omega) hkn
              have hel1 := cnts_at (p := p) (w := w) (x := ((k : Nat) : Int) - 1) (k := k - 1) (n := p.log.length) (by omega) (by omega)
              have hb0 := g4 k hkn
              have hb1 := g4 (k - 1) (by omega)
              have ek : k - 1 + 1 = k := by omega
              have h3 : (lvl p w (k + 1)).length ≤ 3 * (lvl p w k).length := num_three (p.pb w) k
              rw [ek] at hb1 hel1
              refine AWP.skip ?_
              refine AWP.seq ?_
              refine AWP.block ?_
              refine AWP.seq ?_
              refine AWP.region ?_
              refine AOps.call (o_loadRef _ rfl rfl Tryd.sizeOf24 Tryd.isAgg24 rfl rfl rfl) ?_
              refine AOps.call (o_move _ rfl rfl) ?_
              refine AOps.call (o_sub _ _ rfl rfl ⟨by (try dsimp only); omega, by (try dsimp only); omega⟩ rfl) ?_
              refine AOps.call (o_call (hS) Tryd.call19 rfl rfl) ?_
              refine AOps.call (o_move _ rfl rfl) ?_
              refine AOps.call (o_extract _ rfl rfl rfl rfl) ?_
              refine AOps.call (o_extract _ rfl rfl rfl rfl) ?_
              refine AOps.call (o_assign _ rfl rfl) ?_
              refine AOps.call (o_assign _ rfl rfl) ?_
              refine AOps.nil ?_
              refine AWP.seq ?_
              refine AWP.drawn 38 mixed (by kernel_rfl) ?_
              refine AHead.call (o_move _ rfl rfl) rfl ?_
              refine AHead.call (o_bin _ _ rfl rfl (fun _ => rfl) rfl) rfl ?_
              refine AHead.call (o_move _ rfl rfl) rfl ?_
              refine AHead.split rfl rfl rfl (fun h40 => ?_) (fun h40 => ?_)
              · skip
                refine AHead.go rfl rfl rfl h40 (o_move _ rfl rfl) rfl ?_
                refine AHead.go rfl rfl rfl h40 (o_move _ rfl rfl) rfl ?_
                refine AHead.go rfl rfl rfl h40 (o_index _ _ Tryd.underlying26 Tryd.sizeOf3 rfl rfl (by omega) hel rfl rfl) rfl ?_
                refine AHead.go rfl rfl rfl h40 (o_loadRd _ rfl Tryd.sizeOf3 Tryd.isAgg3 rfl rfl rfl) rfl ?_
                refine AHead.go rfl rfl rfl h40 (o_bin _ _ rfl rfl (fun _ => rfl) rfl) rfl ?_
                refine AHead.call (o_pickF _ _ _ rfl h40 rfl rfl) rfl ?_
                refine AHead.call (o_move _ rfl rfl) rfl ?_
                refine AHead.split rfl rfl rfl (fun h44 => ?_) (fun h44 => ?_)
                · skip
                  refine AHead.go rfl rfl rfl h44 (o_move _ rfl rfl) rfl ?_
                  refine AHead.go rfl rfl rfl h44 (o_move _ rfl rfl) rfl ?_
                  refine AHead.go rfl rfl rfl h44 (o_index _ _ Tryd.underlying26 Tryd.sizeOf3 rfl rfl (by omega) hel rfl rfl) rfl ?_
                  refine AHead.go rfl rfl rfl h44 (o_loadRd _ rfl Tryd.sizeOf3 Tryd.isAgg3 rfl rfl rfl) rfl ?_
                  refine AHead.go rfl rfl rfl h44 (o_move _ rfl rfl) rfl ?_
                  refine AHead.go rfl rfl rfl h44 (o_move _ rfl rfl) rfl ?_
                  refine AHead.go rfl rfl rfl h44 (o_sub _ _ rfl rfl ⟨by (try dsimp only); omega, by (try dsimp only); omega⟩ rfl) rfl ?_
                  refine AHead.go rfl rfl rfl h44 (o_index _ _ Tryd.underlying26 Tryd.sizeOf3 rfl rfl (by omega) hel1 rfl rfl) rfl ?_
                  refine AHead.go rfl rfl rfl h44 (o_loadRd _ rfl Tryd.sizeOf3 Tryd.isAgg3 rfl rfl rfl) rfl ?_
                  refine AHead.go rfl rfl rfl h44 (o_mul _ _ rfl rfl ⟨by (try dsimp only); omega, by (try dsimp only); omega⟩ rfl) rfl ?_
                  refine AHead.go rfl rfl rfl h44 (o_bin _ _ rfl rfl (fun _ => rfl) rfl) rfl ?_
                  refine AHead.call (o_pickF _ _ _ rfl h44 rfl rfl) rfl ?_
                  refine AHead.call (o_move _ rfl rfl) rfl ?_
                  refine AHead.split rfl rfl rfl (fun h52 => ?_) (fun h52 => ?_)
                  · skip
                    refine AHead.go rfl rfl rfl h52 (o_move _ rfl rfl) rfl ?_
                    refine AHead.go rfl rfl rfl h52 (o_un _ rfl (fun _ => rfl) rfl) rfl ?_
                    refine AHead.go rfl rfl rfl h52 (o_move _ rfl rfl) rfl ?_
                    refine AHead.split rfl rfl rfl (fun h54 => ?_) (fun h54 => ?_)
                    · skip
                      have hsh : p.shift (k - 1) = false := by simpa using h54
                      have hns : (lvl p w (k + 1)).length ≤ (lvl p w k).length := by
                        have h := num_same (p.pb w) hp.faults.1 (n := k - 1) hsh
                        unfold num at h
                        rw [show k - 1 + 2 = k + 1 by omega, ek] at h
                        exact h
                      refine AHead.go rfl rfl rfl h54 (o_move _ rfl rfl) rfl ?_
                      refine AHead.go rfl rfl rfl h54 (o_move _ rfl rfl) rfl ?_
                      refine AHead.go rfl rfl rfl h54 (o_index _ _ Tryd.underlying26 Tryd.sizeOf3 rfl rfl (by omega) hel rfl rfl) rfl ?_
                      refine AHead.go rfl rfl rfl h54 (o_loadRd _ rfl Tryd.sizeOf3 Tryd.isAgg3 rfl rfl rfl) rfl ?_
                      refine AHead.go rfl rfl rfl h54 (o_move _ rfl rfl) rfl ?_
                      refine AHead.go rfl rfl rfl h54 (o_move _ rfl rfl) rfl ?_
                      refine AHead.go rfl rfl rfl h54 (o_sub _ _ rfl rfl ⟨by (try dsimp only); omega, by (try dsimp only); omega⟩ rfl) rfl ?_
                      refine AHead.go rfl rfl rfl h54 (o_index _ _ Tryd.underlying26 Tryd.sizeOf3 rfl rfl (by omega) hel1 rfl rfl) rfl ?_
                      refine AHead.go rfl rfl rfl h54 (o_loadRd _ rfl Tryd.sizeOf3 Tryd.isAgg3 rfl rfl rfl) rfl ?_
                      refine AHead.go rfl rfl rfl h54 (o_bin _ _ rfl rfl (fun _ => rfl) rfl) rfl ?_
                      refine AHead.go rfl rfl rfl h52 (o_pickT _ _ _ rfl h54 rfl rfl) rfl ?_
                      refine AHead.call (o_pickF _ _ _ rfl h52 rfl rfl) rfl ?_
                      refine AHead.nil ?_
                      refine AOps.nil ?_
                      refine AWP.cond _ rfl (fun h61 => ?_) (fun h61 => ?_)
                      · skip
                        exfalso
                        have hq := of_decide_eq_true h61
                        omega
                      · skip
                        refine AWP.skip ?_
                        refine AWP.region ?_
                        refine AOps.call (o_move _ rfl rfl) ?_
                        refine AOps.call (o_add _ _ rfl rfl ⟨by (try dsimp only); omega, by (try dsimp only); omega⟩ rfl) ?_
                        refine AOps.call (o_assign _ rfl rfl) ?_
                        refine AOps.nil ?_
                        refine ⟨k + 1, ?_, (Weak.mk' rfl ⟨⟨.refl rfl, rfl⟩, ⟨⟨.refl rfl, rfl⟩, ⟨⟨.refl rfl, rfl⟩, ⟨⟨.refl rfl, rfl⟩, trivial⟩⟩⟩⟩ ⟨⟨rfl, rfl, rfl⟩, trivial⟩ trivial)⟩
                        exact ⟨⟨by omega, by omega⟩, by omega⟩
                    · skip
                      refine AHead.pass rfl rfl rfl h54 rfl ?_
                      refine AHead.pass rfl rfl rfl h54 rfl ?_
                      refine AHead.pass rfl rfl rfl h54 rfl ?_
                      refine AHead.pass rfl rfl rfl h54 rfl ?_
                      refine AHead.pass rfl rfl rfl h54 rfl ?_
                      refine AHead.pass rfl rfl rfl h54 rfl ?_
                      refine AHead.pass rfl rfl rfl h54 rfl ?_
                      refine AHead.pass rfl rfl rfl h54 rfl ?_
                      refine AHead.pass rfl rfl rfl h54 rfl ?_
                      refine AHead.pass rfl rfl rfl h54 rfl ?_
                      refine AHead.go rfl rfl rfl h52 (o_pickF _ _ _ rfl h54 rfl rfl) rfl ?_
                      refine AHead.call (o_pickF _ _ _ rfl h52 rfl rfl) rfl ?_
                      refine AHead.nil ?_
                      refine AOps.nil ?_
                      refine AWP.condF rfl ?_
                      refine AWP.skip ?_
                      refine AWP.region ?_
                      refine AOps.call (o_move _ rfl rfl) ?_
                      refine AOps.call (o_add _ _ rfl rfl ⟨by (try dsimp only); omega, by (try dsimp only); omega⟩ rfl) ?_
                      refine AOps.call (o_assign _ rfl rfl) ?_
                      refine AOps.nil ?_
                      refine ⟨k + 1, ?_, (Weak.mk' rfl ⟨⟨.refl rfl, rfl⟩, ⟨⟨.refl rfl, rfl⟩, ⟨⟨.refl rfl, rfl⟩, ⟨⟨.refl rfl, rfl⟩, trivial⟩⟩⟩⟩ ⟨⟨rfl, rfl, rfl⟩, trivial⟩ trivial)⟩
                      exact ⟨⟨by omega, by omega⟩, by omega⟩
                  · skip
                    exfalso
                    have hq := of_decide_eq_true h52
                    omega
                · skip
                  exfalso
                  have hq := of_decide_eq_true h44
                  omega
              · skip
                exfalso
                exact absurd h40 (by decide)
            · skip
              have hkn : ¬ k < p.log.length := by have := of_decide_eq_false h33; omega
              refine AWP.exit ?_
              refine AWP.seq ?_
              refine AWP.region ?_
              refine AOps.call (o_move _ rfl rfl) ?_
              refine AOps.call (o_len _ Tryd.underlying26 rfl rfl) ?_
              refine AOps.call (o_bin _ _ rfl rfl (fun _ => rfl) rfl) ?_
              refine AOps.call (o_move _ rfl rfl) ?_
              refine AOps.split rfl rfl rfl (fun h66 => ?_) (fun h66 => ?_)
              · skip
                have hn0 : p.log.length = 0 := by have h := eq_of_beq h66; omega
                have hone : (lvl p w p.log.length).length = 1 := by rw [hn0]; rfl
                refine AOps.go rfl rfl rfl h66 (o_move _ rfl rfl) ?_
                refine AOps.go rfl rfl rfl h66 (o_len _ Tryd.underlying36 rfl rfl) ?_
                refine AOps.go rfl rfl rfl h66 (o_bin _ _ rfl rfl (fun _ => rfl) rfl) ?_
                refine AOps.call (o_pickT _ _ _ rfl h66 rfl rfl) ?_
                refine AOps.call (o_move _ rfl rfl) ?_
                refine AOps.split rfl rfl rfl (fun h69 => ?_) (fun h69 => ?_)
                · skip
                  exfalso
                  simp at h69
                  omega
                · skip
                  refine AOps.pass rfl rfl rfl h69 rfl ?_
                  refine AOps.pass rfl rfl rfl h69 rfl ?_
                  refine AOps.pass rfl rfl rfl h69 rfl ?_
                  refine AOps.pass rfl rfl rfl h69 rfl ?_
                  refine AOps.passU rfl rfl rfl rfl ?_
                  refine AOps.passU rfl rfl rfl rfl ?_
                  refine AOps.passU rfl rfl rfl rfl ?_
                  refine AOps.passU rfl rfl rfl rfl ?_
                  refine AOps.passU rfl rfl rfl rfl ?_
                  refine AOps.passU rfl rfl rfl rfl ?_
                  refine AOps.passU rfl rfl rfl rfl ?_
                  refine AOps.passU rfl rfl rfl rfl ?_
                  refine AOps.passU rfl rfl rfl rfl ?_
                  refine AOps.pass rfl rfl rfl h69 rfl ?_
                  refine AOps.pass rfl rfl rfl h69 rfl ?_
                  refine AOps.passU rfl rfl rfl rfl ?_
                  refine AOps.passU rfl rfl rfl rfl ?_
                  refine AOps.passU rfl rfl rfl rfl ?_
                  refine AOps.passU rfl rfl rfl rfl ?_
                  refine AOps.pass rfl rfl rfl h69 rfl ?_
                  refine AOps.call (o_pickT _ _ _ rfl h69 rfl rfl) ?_
                  refine AOps.call (o_assign _ rfl rfl) ?_
                  refine AOps.nil ?_
                  refine AWP.ret ?_
                  first
                  | exact postQ.ret1 Tryd.results7 rfl rfl
                  | (refine postQ.ret1 Tryd.results7 rfl ?_; simp [AV.close, AV.close.closeL, B, I]; done)
                  | (refine postQ.ret1 Tryd.results7 rfl ?_; simp [AV.close, AV.close.closeL, B, I]; omega)
                  | (refine postQ.ret1 Tryd.results7 rfl ?_; simp_all [AV.close, AV.close.closeL, B, I]; done)
                  | (refine postQ.ret1 Tryd.results7 rfl ?_; simp_all [AV.close, AV.close.closeL, B, I]; omega)
              · skip
                have hn0 : 0 < p.log.length := by have h := ne_of_beq_false (show _ = false from h66); omega
                have hel2 := cnts_at (p := p) (w := w) (x := ((ints (cnts p w p.log.length)).length : Int) - 1) (k := p.log.length - 1) (n := p.log.length) (by omega) (by omega)
                have hel0 := cnts_at (p := p) (w := w) (x := 0) (k := 0) (n := p.log.length) rfl hn0
                have en : p.log.length - 1 + 1 = p.log.length := by omega
                rw [en] at hel2
                have htwo : (lvl p w (0 + 1)).length ≤ 2 := num_one (p.pb w)
                refine AOps.pass rfl rfl rfl h66 rfl ?_
                refine AOps.pass rfl rfl rfl h66 rfl ?_
                refine AOps.pass rfl rfl rfl h66 rfl ?_
                refine AOps.call (o_pickF _ _ _ rfl h66 rfl rfl) ?_
                refine AOps.call (o_move _ rfl rfl) ?_
                refine AOps.go rfl rfl rfl rfl (o_move _ rfl rfl) ?_
                refine AOps.go rfl rfl rfl rfl (o_len _ Tryd.underlying26 rfl rfl) ?_
                refine AOps.go rfl rfl rfl rfl (o_bin _ _ rfl rfl (fun _ => rfl) rfl) ?_
                refine AOps.go rfl rfl rfl rfl (o_move _ rfl rfl) ?_
                refine AOps.split rfl rfl rfl (fun h72 => ?_) (fun h72 => ?_)
                · skip
                  refine AOps.go rfl rfl rfl h72 (o_move _ rfl rfl) ?_
                  refine AOps.go rfl rfl rfl h72 (o_move _ rfl rfl) ?_
                  refine AOps.go rfl rfl rfl h72 (o_len _ Tryd.underlying26 rfl rfl) ?_
                  refine AOps.go rfl rfl rfl h72 (o_sub _ _ rfl rfl ⟨by (try dsimp only); omega, by (try dsimp only); omega⟩ rfl) ?_
                  refine AOps.go rfl rfl rfl h72 (o_index _ _ Tryd.underlying26 Tryd.sizeOf3 rfl rfl (by omega) hel2 rfl rfl) ?_
                  refine AOps.go rfl rfl rfl h72 (o_loadRd _ rfl Tryd.sizeOf3 Tryd.isAgg3 rfl rfl rfl) ?_
                  refine AOps.go rfl rfl rfl h72 (o_move _ rfl rfl) ?_
                  refine AOps.go rfl rfl rfl h72 (o_len _ Tryd.underlying36 rfl rfl) ?_
                  refine AOps.go rfl rfl rfl h72 (o_bin _ _ rfl rfl (fun _ => rfl) rfl) ?_
                  refine AOps.go rfl rfl rfl rfl (o_pickT _ _ _ rfl h72 rfl rfl) ?_
                  refine AOps.go rfl rfl rfl rfl (o_move _ rfl rfl) ?_
                  refine AOps.split rfl rfl rfl (fun h79 => ?_) (fun h79 => ?_)
                  · skip
                    refine AOps.go rfl rfl rfl h79 (o_move _ rfl rfl) ?_
                    refine AOps.go rfl rfl rfl h79 (o_index _ _ Tryd.underlying26 Tryd.sizeOf3 rfl rfl (by decide) hel0 rfl rfl) ?_
                    refine AOps.go rfl rfl rfl h79 (o_loadRd _ rfl Tryd.sizeOf3 Tryd.isAgg3 rfl rfl rfl) ?_
                    refine AOps.go rfl rfl rfl h79 (o_bin _ _ rfl rfl (fun _ => rfl) rfl) ?_
                    refine AOps.go rfl rfl rfl rfl (o_pickT _ _ _ rfl h79 rfl rfl) ?_
                    refine AOps.call (o_pickF _ _ _ rfl rfl rfl rfl) ?_
                    refine AOps.call (o_assign _ rfl rfl) ?_
                    refine AOps.nil ?_
                    refine AWP.ret ?_
                    first
                    | exact postQ.ret1 Tryd.results7 rfl rfl
                    | (refine postQ.ret1 Tryd.results7 rfl ?_; simp [AV.close, AV.close.closeL, B, I]; done)
                    | (refine postQ.ret1 Tryd.results7 rfl ?_; simp [AV.close, AV.close.closeL, B, I]; omega)
                    | (refine postQ.ret1 Tryd.results7 rfl ?_; simp_all [AV.close, AV.close.closeL, B, I]; done)
                    | (refine postQ.ret1 Tryd.results7 rfl ?_; simp_all [AV.close, AV.close.closeL, B, I]; omega)
                  · skip
                    exfalso
                    simp at h79
                    omega
                · skip
                  exfalso
                  have hq := of_decide_eq_false h72
                  omega
        · skip
          refine AOps.pass rfl rfl rfl h23 rfl ?_
          refine AOps.pass rfl rfl rfl h23 rfl ?_
          refine AOps.pass rfl rfl rfl h23 rfl ?_
          refine AOps.pass rfl rfl rfl h23 rfl ?_
          refine AOps.pass rfl rfl rfl h23 rfl ?_
          refine AOps.pass rfl rfl rfl h23 rfl ?_
          refine AOps.call (o_pickT _ _ _ rfl h23 rfl rfl) ?_
          refine AOps.nil ?_
          refine AWP.condT rfl ?_
          refine AWP.seq ?_
          refine AWP.region ?_
          refine AOps.call (o_assign _ rfl rfl) ?_
          refine AOps.nil ?_
          refine AWP.ret ?_
          first
          | exact postQ.ret1 Tryd.results7 rfl rfl
          | (refine postQ.ret1 Tryd.results7 rfl ?_; simp [AV.close, AV.close.closeL, B, I]; done)
          | (refine postQ.ret1 Tryd.results7 rfl ?_; simp [AV.close, AV.close.closeL, B, I]; omega)
          | (refine postQ.ret1 Tryd.results7 rfl ?_; simp_all [AV.close, AV.close.closeL, B, I]; done)
          | (refine postQ.ret1 Tryd.results7 rfl ?_; simp_all [AV.close, AV.close.closeL, B, I]; omega)

theorem PillowTree_s (p : Plw) (w : List Sp) (hw1 : w.length ≤ 9223372036854775807) : FSpecG Tryd.prog TAB 7 [.agg (eP p), .sl (sps w)] (B true) none := by
  by_cases h0 : TreeE p w = 0
  · exact PillowTree_b p w hw1 h0
  · exact PillowTree_a p w hw1 h0

end Go.Proofs.YtelenedgaoglaaaDoor
