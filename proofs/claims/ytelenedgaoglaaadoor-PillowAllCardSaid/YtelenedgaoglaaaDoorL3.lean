/- L3. -/
import Derived.Test.YtelenedgaoglaaaDoorR27
set_option linter.unusedSimpArgs false
set_option linter.unusedVariables false
namespace Go.Proofs.YtelenedgaoglaaaDoor
open Go.Ab
open Go.Pil Go.RowKit

theorem CasE_ne {p : Plw} {w : List Sp} (h : CasE p w ≠ 0) : CasL p w = [] := by
  unfold CasE at h
  unfold CasL
  split at h
  · rename_i h1; rw [if_pos h1]; exact (casE_ne h).1
  · rename_i h1; rw [if_neg h1]
theorem CasE_0 {p : Plw} {w : List Sp} (h : CasE p w = 0) : okP p = true ∧ okW p w = true ∧ CasL p w = casesA p w ∧ (CasL p w).length ≤ 64 := by
  unfold CasE at h
  split at h
  · rename_i h1
    obtain ⟨g1, g2⟩ := rdE_0 h1
    have e : CasL p w = casL p w := if_pos h1
    have h2 : ¬ 64 < (casesA p w).length := fun hq => by unfold casE at h; rw [if_pos hq] at h; omega
    have e2 : casL p w = casesA p w := if_neg h2
    rw [e, e2]
    exact ⟨g1, g2, rfl, by omega⟩
  · rename_i h1; exact absurd h h1
theorem mem_cases {p : Plw} {w : List Sp} (h : CasE p w = 0) {l : List Int} : l ∈ CasL p w ↔ rcE p w l = 0 ∧ aliveP p w l := by
  obtain ⟨g1, g2, g3, _⟩ := CasE_0 h
  have hp := okP_iff.1 g1
  rw [g3]
  unfold casesA
  rw [mem_lev _ hp.faults.1, rcE_0]
  constructor
  · intro hr
    exact ⟨⟨g1, g2, hr.1, hr.2.1⟩, alive_of hr⟩
  · rintro ⟨⟨_, _, h3, h4⟩, h5⟩
    refine ⟨h3, h4, ?_⟩
    unfold aliveP at h5; rw [h3] at h5; exact h5
theorem cases_less {p : Plw} {w : List Sp} (h : CasE p w = 0) {i j : Nat} (hij : i < j) (hj : j < (CasL p w).length) : lessB (CasL p w)[i] (CasL p w)[j] = true := by
  obtain ⟨g1, g2, g3, _⟩ := CasE_0 h
  have hs : (CasL p w).Pairwise fun a b => lessB a b = true := by rw [g3]; exact lev_sorted _ _
  exact List.pairwise_iff_getElem.1 hs i j (by omega) hj hij

set_option maxHeartbeats 4000000 in
set_option maxRecDepth 20000 in
theorem PillowAll_a (p : Plw) (w : List Sp) (l : List Int) (hw1 : w.length ≤ 9223372036854775807) (hl1 : l.length ≤ 9223372036854775807) (hne : CasE p w ≠ 0) : FSpecG Tryd.prog TAB 4 [.agg (eP p), .sl (sps w), .sl (ints l)] (B true) (none) := by
  refine FSpecG.of_body tab_stable Tryd.func4 rfl (leB rfl) fun w0 M0 hG => ?_
  have hC := Cases_s p w hw1
  rw [CasE_ne hne] at hC
  refine AWP.seq ?_
  refine AWP.region ?_
  refine AOps.call (o_box _ rfl rfl rfl) ?_
  refine AOps.call (o_assign _ rfl rfl) ?_
  refine AOps.nil ?_
  refine AWP.seq ?_
  refine AWP.seq ?_
  refine AWP.region ?_
  refine AOps.call (o_callG (sane_s) hG Tryd.call8 rfl rfl) ?_
  refine AOps.call (o_un _ rfl (fun _ => rfl) rfl) ?_
  refine AOps.nil ?_
  refine AWP.cond _ rfl (fun h4 => ?_) (fun h4 => ?_)
  · skip
    exfalso
    simp at h4
  · skip
    refine AWP.skip ?_
    refine AWP.seq ?_
    refine AWP.seq ?_
    refine AWP.region ?_
    refine AOps.call (o_fieldRef _ rfl fa24_6 rfl rfl) ?_
    refine AOps.call (o_loadRef _ rfl rfl Tryd.sizeOf22 Tryd.isAgg22 rfl rfl rfl) ?_
    refine AOps.call (o_len _ Tryd.underlying22 rfl rfl) ?_
    refine AOps.call (o_bin _ _ rfl rfl (fun _ => rfl) rfl) ?_
    refine AOps.nil ?_
    refine AWP.cond _ rfl (fun h9 => ?_) (fun h9 => ?_)
    · skip
      refine AWP.seq ?_
      refine AWP.region ?_
      refine AOps.call (o_assign _ rfl rfl) ?_
      refine AOps.nil ?_
      refine AWP.ret ?_
      first
      | exact postQ.ret1 Tryd.results4 rfl rfl
      | (refine postQ.ret1 Tryd.results4 rfl ?_; simp [AV.close, AV.close.closeL, B, I]; done)
      | (refine postQ.ret1 Tryd.results4 rfl ?_; simp [AV.close, AV.close.closeL, B, I]; omega)
      | (refine postQ.ret1 Tryd.results4 rfl ?_; simp_all [AV.close, AV.close.closeL, B, I]; done)
      | (refine postQ.ret1 Tryd.results4 rfl ?_; simp_all [AV.close, AV.close.closeL, B, I]; omega)
    · skip
      refine AWP.skip ?_
      refine AWP.seq ?_
      refine AWP.region ?_
      refine AOps.call (o_loadRef _ rfl rfl Tryd.sizeOf24 Tryd.isAgg24 rfl rfl rfl) ?_
      refine AOps.call (o_move _ rfl rfl) ?_
      refine AOps.call (o_call (hC) Tryd.call12 rfl rfl) ?_
      refine AOps.call (o_move _ rfl rfl) ?_
      refine AOps.call (o_extract _ rfl rfl rfl rfl) ?_
      refine AOps.call (o_extract _ rfl rfl rfl rfl) ?_
      refine AOps.call (o_assign _ rfl rfl) ?_
      refine AOps.call (o_assign _ rfl rfl) ?_
      refine AOps.nil ?_
      refine AWP.seq ?_
      refine AWP.seq ?_
      refine AWP.region ?_
      refine AOps.call (o_move _ rfl rfl) ?_
      refine AOps.call (o_bin _ _ rfl rfl (fun _ => rfl) rfl) ?_
      refine AOps.call (o_move _ rfl rfl) ?_
      refine AOps.split rfl rfl rfl (fun h16 => ?_) (fun h16 => ?_)
      · skip
        exfalso
        simp at h16
        exact hne h16
      · skip
        refine AOps.pass rfl rfl rfl h16 rfl ?_
        refine AOps.pass rfl rfl rfl h16 rfl ?_
        refine AOps.pass rfl rfl rfl h16 rfl ?_
        refine AOps.call (o_pickT _ _ _ rfl h16 rfl rfl) ?_
        refine AOps.nil ?_
        refine AWP.condT rfl ?_
        refine AWP.seq ?_
        refine AWP.region ?_
        refine AOps.call (o_move _ rfl rfl) ?_
        refine AOps.call (o_bin _ _ rfl rfl (fun _ => rfl) rfl) ?_
        refine AOps.call (o_move _ rfl rfl) ?_
        refine AOps.split rfl rfl rfl (fun h18 => ?_) (fun h18 => ?_)
        · skip
          refine AOps.go rfl rfl rfl h18 (o_move _ rfl rfl) ?_
          refine AOps.go rfl rfl rfl h18 (o_len _ Tryd.underlying36 rfl rfl) ?_
          refine AOps.go rfl rfl rfl h18 (o_bin _ _ rfl rfl (fun _ => rfl) rfl) ?_
          refine AOps.call (o_pickT _ _ _ rfl h18 rfl rfl) ?_
          refine AOps.call (o_assign _ rfl rfl) ?_
          refine AOps.nil ?_
          refine AWP.ret ?_
          first
          | exact postQ.ret1 Tryd.results4 rfl rfl
          | (refine postQ.ret1 Tryd.results4 rfl ?_; simp [AV.close, AV.close.closeL, B, I]; done)
          | (refine postQ.ret1 Tryd.results4 rfl ?_; simp [AV.close, AV.close.closeL, B, I]; omega)
          | (refine postQ.ret1 Tryd.results4 rfl ?_; simp_all [AV.close, AV.close.closeL, B, I]; done)
          | (refine postQ.ret1 Tryd.results4 rfl ?_; simp_all [AV.close, AV.close.closeL, B, I]; omega)
        · skip
          exfalso
          simp at h18
          exact hne h18

set_option maxHeartbeats 4000000 in
set_option maxRecDepth 20000 in
theorem PillowAll_b (p : Plw) (w : List Sp) (l : List Int) (hw1 : w.length ≤ 9223372036854775807) (hl1 : l.length ≤ 9223372036854775807) (h0 : CasE p w = 0) : FSpecG Tryd.prog TAB 4 [.agg (eP p), .sl (sps w), .sl (ints l)] (B true) (none) := by
  refine FSpecG.of_body tab_stable Tryd.func4 rfl (leB rfl) fun w0 M0 hG => ?_
  have hC := Cases_s p w hw1
  rw [h0] at hC
  obtain ⟨g1, g2, g3, g4⟩ := CasE_0 h0
  have hp := okP_iff.1 g1
  have h32 := hp.len
  have hgl := css_len (CasL p w)
  have hil := ints_len l
  refine AWP.seq ?_
  refine AWP.region ?_
  refine AOps.call (o_box _ rfl rfl rfl) ?_
  refine AOps.call (o_assign _ rfl rfl) ?_
  refine AOps.nil ?_
  refine AWP.seq ?_
  refine AWP.seq ?_
  refine AWP.region ?_
  refine AOps.call (o_callG (sane_s) hG Tryd.call8 rfl rfl) ?_
  refine AOps.call (o_un _ rfl (fun _ => rfl) rfl) ?_
  refine AOps.nil ?_
  refine AWP.cond _ rfl (fun h4 => ?_) (fun h4 => ?_)
  · skip
    exfalso
    simp at h4
  · skip
    refine AWP.skip ?_
    refine AWP.seq ?_
    refine AWP.seq ?_
    refine AWP.region ?_
    refine AOps.call (o_fieldRef _ rfl fa24_6 rfl rfl) ?_
    refine AOps.call (o_loadRef _ rfl rfl Tryd.sizeOf22 Tryd.isAgg22 rfl rfl rfl) ?_
    refine AOps.call (o_len _ Tryd.underlying22 rfl rfl) ?_
    refine AOps.call (o_bin _ _ rfl rfl (fun _ => rfl) rfl) ?_
    refine AOps.nil ?_
    refine AWP.cond _ rfl (fun h9 => ?_) (fun h9 => ?_)
    · skip
      refine AWP.seq ?_
      refine AWP.region ?_
      refine AOps.call (o_assign _ rfl rfl) ?_
      refine AOps.nil ?_
      refine AWP.ret ?_
      first
      | exact postQ.ret1 Tryd.results4 rfl rfl
      | (refine postQ.ret1 Tryd.results4 rfl ?_; simp [AV.close, AV.close.closeL, B, I]; done)
      | (refine postQ.ret1 Tryd.results4 rfl ?_; simp [AV.close, AV.close.closeL, B, I]; omega)
      | (refine postQ.ret1 Tryd.results4 rfl ?_; simp_all [AV.close, AV.close.closeL, B, I]; done)
      | (refine postQ.ret1 Tryd.results4 rfl ?_; simp_all [AV.close, AV.close.closeL, B, I]; omega)
    · skip
      refine AWP.skip ?_
      refine AWP.seq ?_
      refine AWP.region ?_
      refine AOps.call (o_loadRef _ rfl rfl Tryd.sizeOf24 Tryd.isAgg24 rfl rfl rfl) ?_
      refine AOps.call (o_move _ rfl rfl) ?_
      refine AOps.call (o_call (hC) Tryd.call12 rfl rfl) ?_
      refine AOps.call (o_move _ rfl rfl) ?_
      refine AOps.call (o_extract _ rfl rfl rfl rfl) ?_
      refine AOps.call (o_extract _ rfl rfl rfl rfl) ?_
      refine AOps.call (o_assign _ rfl rfl) ?_
      refine AOps.call (o_assign _ rfl rfl) ?_
      refine AOps.nil ?_
      refine AWP.seq ?_
      refine AWP.seq ?_
      refine AWP.region ?_
      refine AOps.call (o_move _ rfl rfl) ?_
      refine AOps.call (o_bin _ _ rfl rfl (fun _ => rfl) rfl) ?_
      refine AOps.call (o_move _ rfl rfl) ?_
      refine AOps.split rfl rfl rfl (fun h16 => ?_) (fun h16 => ?_)
      · skip
        refine AOps.go rfl rfl rfl h16 (o_move _ rfl rfl) ?_
        refine AOps.go rfl rfl rfl h16 (o_len _ Tryd.underlying36 rfl rfl) ?_
        refine AOps.go rfl rfl rfl h16 (o_bin _ _ rfl rfl (fun _ => rfl) rfl) ?_
        refine AOps.call (o_pickF _ _ _ rfl h16 rfl rfl) ?_
        refine AOps.nil ?_
        refine AWP.cond _ rfl (fun h19 => ?_) (fun h19 => ?_)
        · skip
          exfalso
          have hq := of_decide_eq_true h19
          omega
        · skip
          refine AWP.skip ?_
          refine AWP.seq ?_
          refine AWP.region ?_
          refine AOps.call (o_assign _ rfl rfl) ?_
          refine AOps.nil ?_
          refine AWP.seq ?_
          refine AWP.seq ?_
          refine AWP.region ?_
          refine AOps.call (o_assign _ rfl rfl) ?_
          refine AOps.nil ?_
          refine AWP.block ?_
          refine AWP.loop (ι := Nat) (fun i => AS.mk' 109 [(1, .sl (sps w)), (2, .sl (ints l)), (3, .ref (3, 0) 0), (7, .sl (css (CasL p w))), (9, B (decide (l ∈ (CasL p w).take i))), (10, I i)] [((3, 0), eP p)] [] [(3, 1)]) (fun i => i ≤ (CasL p w).length) (fun i => (CasL p w).length - i) (0) (Weak.mk' rfl ⟨⟨.refl rfl, rfl⟩, ⟨⟨.refl rfl, rfl⟩, ⟨⟨.refl rfl, rfl⟩, ⟨⟨.refl rfl, rfl⟩, ⟨⟨.refl rfl, rfl⟩, ⟨⟨.refl rfl, rfl⟩, trivial⟩⟩⟩⟩⟩⟩ ⟨⟨rfl, rfl, rfl⟩, trivial⟩ trivial) (Nat.zero_le _) ?_
          rintro k hk
          try dsimp only at *
          refine AWP.seq ?_
          refine AWP.seq ?_
          refine AWP.region ?_
          refine AOps.call (o_move _ rfl rfl) ?_
          refine AOps.call (o_move _ rfl rfl) ?_
          refine AOps.call (o_len _ Tryd.underlying36 rfl rfl) ?_
          refine AOps.call (o_bin _ _ rfl rfl (fun _ => rfl) rfl) ?_
          refine AOps.nil ?_
          refine AWP.cond _ rfl (fun h23 => ?_) (fun h23 => ?_)
          · skip
            have hlt : k < (CasL p w).length := by have hq := of_decide_eq_true h23; omega
            have hel := css_at hlt
            have hm := (mem_cases h0).1 (List.getElem_mem hlt)
            have hcl : (CasL p w)[k].length = p.log.length := (rcE_0.1 hm.1).2.2.1
            have hA := Alive_s p w (CasL p w)[k] hw1 (by omega)
            rw [decide_eq_true hm, hm.1] at hA
            have hI := ints_s (CasL p w)[k] l (by omega)
            refine AWP.skip ?_
            refine AWP.seq ?_
            refine AWP.block ?_
            refine AWP.seq ?_
            refine AWP.drawn 12 mixed (by kernel_rfl) ?_
            refine AHead.call (o_loadRef _ rfl rfl Tryd.sizeOf24 Tryd.isAgg24 rfl rfl rfl) rfl ?_
            refine AHead.call (o_move _ rfl rfl) rfl ?_
            refine AHead.call (o_move _ rfl rfl) rfl ?_
            refine AHead.call (o_move _ rfl rfl) rfl ?_
            refine AHead.call (o_index _ _ Tryd.underlying36 Tryd.sizeOf26 rfl rfl (by omega) hel rfl rfl) rfl ?_
            refine AHead.call (o_loadRd _ rfl Tryd.sizeOf26 Tryd.isAgg26 rfl rfl rfl) rfl ?_
            refine AHead.call (o_call (hA) Tryd.call9 rfl rfl) rfl ?_
            refine AHead.call (o_move _ rfl rfl) rfl ?_
            refine AHead.call (o_extract _ rfl rfl rfl rfl) rfl ?_
            refine AHead.call (o_extract _ rfl rfl rfl rfl) rfl ?_
            refine AHead.call (o_assign _ rfl rfl) rfl ?_
            refine AHead.call (o_assign _ rfl rfl) rfl ?_
            refine AHead.nil ?_
            refine AOps.nil ?_
            refine AWP.seq ?_
            refine AWP.seq ?_
            refine AWP.drawn 23 mixed (by kernel_rfl) ?_
            refine AHead.call (o_move _ rfl rfl) rfl ?_
            refine AHead.call (o_bin _ _ rfl rfl (fun _ => rfl) rfl) rfl ?_
            refine AHead.call (o_move _ rfl rfl) rfl ?_
            refine AHead.split rfl rfl rfl (fun h32 => ?_) (fun h32 => ?_)
            · skip
              refine AHead.go rfl rfl rfl h32 (o_move _ rfl rfl) rfl ?_
              refine AHead.go rfl rfl rfl h32 (o_un _ rfl (fun _ => rfl) rfl) rfl ?_
              refine AHead.call (o_pickF _ _ _ rfl h32 rfl rfl) rfl ?_
              refine AHead.call (o_move _ rfl rfl) rfl ?_
              refine AHead.split rfl rfl rfl (fun h34 => ?_) (fun h34 => ?_)
              · skip
                refine AHead.go rfl rfl rfl h34 (o_move _ rfl rfl) rfl ?_
                refine AHead.go rfl rfl rfl h34 (o_bin _ _ rfl rfl (fun _ => rfl) rfl) rfl ?_
                refine AHead.go rfl rfl rfl h34 (o_move _ rfl rfl) rfl ?_
                refine AHead.split rfl rfl rfl (fun h36 => ?_) (fun h36 => ?_)
                · skip
                  have hk0 : 0 < k := by have hq := of_decide_eq_true h36; omega
                  have hel1 : (css (CasL p w))[(((k : Nat) : Int) - 1).toNat]? = some [stC ((CasL p w)[k - 1]'(by omega))] := by
                    have h := css_at (ls := (CasL p w)) (k := k - 1) (by omega)
                    have e : (((k : Nat) : Int) - 1).toNat = ((k - 1 : Nat) : Int).toNat := by omega
                    rw [e]; exact h
                  have hcl1 : ((CasL p w)[k - 1]'(by omega)).length = p.log.length := (rcE_0.1 ((mem_cases h0).1 (List.getElem_mem _)).1).2.2.1
                  have hL := less_s ((CasL p w)[k - 1]'(by omega)) (CasL p w)[k] (by omega) (by omega)
                  rw [cases_less h0 (show k - 1 < k by omega) hlt] at hL
                  refine AHead.go rfl rfl rfl h36 (o_move _ rfl rfl) rfl ?_
                  refine AHead.go rfl rfl rfl h36 (o_move _ rfl rfl) rfl ?_
                  refine AHead.go rfl rfl rfl h36 (o_sub _ _ rfl rfl ⟨by (try dsimp only); omega, by (try dsimp only); omega⟩ rfl) rfl ?_
                  refine AHead.go rfl rfl rfl h36 (o_index _ _ Tryd.underlying36 Tryd.sizeOf26 rfl rfl (by omega) hel1 rfl rfl) rfl ?_
                  refine AHead.go rfl rfl rfl h36 (o_loadRd _ rfl Tryd.sizeOf26 Tryd.isAgg26 rfl rfl rfl) rfl ?_
                  refine AHead.go rfl rfl rfl h36 (o_move _ rfl rfl) rfl ?_
                  refine AHead.go rfl rfl rfl h36 (o_move _ rfl rfl) rfl ?_
                  refine AHead.go rfl rfl rfl h36 (o_index _ _ Tryd.underlying36 Tryd.sizeOf26 rfl rfl (by omega) hel rfl rfl) rfl ?_
                  refine AHead.go rfl rfl rfl h36 (o_loadRd _ rfl Tryd.sizeOf26 Tryd.isAgg26 rfl rfl rfl) rfl ?_
                  refine AHead.go rfl rfl rfl h36 (o_call (hL) Tryd.call13 rfl rfl) rfl ?_
                  refine AHead.go rfl rfl rfl h36 (o_un _ rfl (fun _ => rfl) rfl) rfl ?_
                  refine AHead.go rfl rfl rfl h34 (o_pickT _ _ _ rfl h36 rfl rfl) rfl ?_
                  refine AHead.call (o_pickF _ _ _ rfl h34 rfl rfl) rfl ?_
                  refine AHead.nil ?_
                  refine AOps.nil ?_
                  refine AWP.cond _ rfl (fun h44 => ?_) (fun h44 => ?_)
                  · skip
                    exfalso
                    simp at h44
                  · skip
                    refine AWP.skip ?_
                    refine AWP.region ?_
                    refine AOps.call (o_move _ rfl rfl) ?_
                    refine AOps.call (o_move _ rfl rfl) ?_
                    refine AOps.split rfl rfl rfl (fun h46 => ?_) (fun h46 => ?_)
                    · skip
                      have hin : ¬ l ∈ (CasL p w).take k := of_decide_eq_false h46
                      have hnew : decide (l ∈ (CasL p w).take (k + 1)) = decide ((CasL p w)[k] = l) := decide_eq_decide.2 (by
                        rw [List.take_succ_eq_append_getElem hlt, List.mem_append]
                        constructor
                        · rintro (h | h)
                          · exact absurd h hin
                          · simpa [eq_comm] using h
                        · intro h; exact .inr (by simp [h]))
                      refine AOps.go rfl rfl rfl h46 (o_move _ rfl rfl) ?_
                      refine AOps.go rfl rfl rfl h46 (o_move _ rfl rfl) ?_
                      refine AOps.go rfl rfl rfl h46 (o_index _ _ Tryd.underlying36 Tryd.sizeOf26 rfl rfl (by omega) hel rfl rfl) ?_
                      refine AOps.go rfl rfl rfl h46 (o_loadRd _ rfl Tryd.sizeOf26 Tryd.isAgg26 rfl rfl rfl) ?_
                      refine AOps.go rfl rfl rfl h46 (o_move _ rfl rfl) ?_
                      refine AOps.go rfl rfl rfl h46 (o_call (hI) Tryd.call14 rfl rfl) ?_
                      refine AOps.call (o_pickF _ _ _ rfl h46 rfl rfl) ?_
                      refine AOps.call (o_assign _ rfl rfl) ?_
                      refine AOps.nil ?_
                      refine AWP.region ?_
                      refine AOps.call (o_move _ rfl rfl) ?_
                      refine AOps.call (o_add _ _ rfl rfl ⟨by (try dsimp only); omega, by (try dsimp only); omega⟩ rfl) ?_
                      refine AOps.call (o_assign _ rfl rfl) ?_
                      refine AOps.nil ?_
                      refine ⟨k + 1, ?_, (Weak.mk' rfl ⟨⟨.refl rfl, rfl⟩, ⟨⟨.refl rfl, rfl⟩, ⟨⟨.refl rfl, rfl⟩, ⟨⟨.refl rfl, rfl⟩, ⟨⟨.refl (by (try dsimp only); rw [hnew]; rfl), rfl⟩, ⟨⟨.refl rfl, rfl⟩, trivial⟩⟩⟩⟩⟩⟩ ⟨⟨rfl, rfl, rfl⟩, trivial⟩ trivial)⟩
                      exact ⟨by omega, by omega⟩
                    · skip
                      have hin : l ∈ (CasL p w).take k := of_decide_eq_true h46
                      have hnew : decide (l ∈ (CasL p w).take (k + 1)) = true := decide_eq_true (by rw [List.take_succ_eq_append_getElem hlt]; exact List.mem_append_left _ hin)
                      refine AOps.pass rfl rfl rfl h46 rfl ?_
                      refine AOps.pass rfl rfl rfl h46 rfl ?_
                      refine AOps.pass rfl rfl rfl h46 rfl ?_
                      refine AOps.pass rfl rfl rfl h46 rfl ?_
                      refine AOps.pass rfl rfl rfl h46 rfl ?_
                      refine AOps.pass rfl rfl rfl h46 rfl ?_
                      refine AOps.call (o_pickT _ _ _ rfl h46 rfl rfl) ?_
                      refine AOps.call (o_assign _ rfl rfl) ?_
                      refine AOps.nil ?_
                      refine AWP.region ?_
                      refine AOps.call (o_move _ rfl rfl) ?_
                      refine AOps.call (o_add _ _ rfl rfl ⟨by (try dsimp only); omega, by (try dsimp only); omega⟩ rfl) ?_
                      refine AOps.call (o_assign _ rfl rfl) ?_
                      refine AOps.nil ?_
                      refine ⟨k + 1, ?_, (Weak.mk' rfl ⟨⟨.refl rfl, rfl⟩, ⟨⟨.refl rfl, rfl⟩, ⟨⟨.refl rfl, rfl⟩, ⟨⟨.refl rfl, rfl⟩, ⟨⟨.refl (by (try dsimp only); rw [hnew]; rfl), rfl⟩, ⟨⟨.refl rfl, rfl⟩, trivial⟩⟩⟩⟩⟩⟩ ⟨⟨rfl, rfl, rfl⟩, trivial⟩ trivial)⟩
                      exact ⟨by omega, by omega⟩
                · skip
                  refine AHead.pass rfl rfl rfl h36 rfl ?_
                  refine AHead.pass rfl rfl rfl h36 rfl ?_
                  refine AHead.pass rfl rfl rfl h36 rfl ?_
                  refine AHead.pass rfl rfl rfl h36 rfl ?_
                  refine AHead.pass rfl rfl rfl h36 rfl ?_
                  refine AHead.pass rfl rfl rfl h36 rfl ?_
                  refine AHead.pass rfl rfl rfl h36 rfl ?_
                  refine AHead.pass rfl rfl rfl h36 rfl ?_
                  refine AHead.pass rfl rfl rfl h36 rfl ?_
                  refine AHead.pass rfl rfl rfl h36 rfl ?_
                  refine AHead.pass rfl rfl rfl h36 rfl ?_
                  refine AHead.go rfl rfl rfl h34 (o_pickF _ _ _ rfl h36 rfl rfl) rfl ?_
                  refine AHead.call (o_pickF _ _ _ rfl h34 rfl rfl) rfl ?_
                  refine AHead.nil ?_
                  refine AOps.nil ?_
                  refine AWP.condF rfl ?_
                  refine AWP.skip ?_
                  refine AWP.region ?_
                  refine AOps.call (o_move _ rfl rfl) ?_
                  refine AOps.call (o_move _ rfl rfl) ?_
                  refine AOps.split rfl rfl rfl (fun h54 => ?_) (fun h54 => ?_)
                  · skip
                    have hin : ¬ l ∈ (CasL p w).take k := of_decide_eq_false h54
                    have hnew : decide (l ∈ (CasL p w).take (k + 1)) = decide ((CasL p w)[k] = l) := decide_eq_decide.2 (by
                      rw [List.take_succ_eq_append_getElem hlt, List.mem_append]
                      constructor
                      · rintro (h | h)
                        · exact absurd h hin
                        · simpa [eq_comm] using h
                      · intro h; exact .inr (by simp [h]))
                    refine AOps.go rfl rfl rfl h54 (o_move _ rfl rfl) ?_
                    refine AOps.go rfl rfl rfl h54 (o_move _ rfl rfl) ?_
                    refine AOps.go rfl rfl rfl h54 (o_index _ _ Tryd.underlying36 Tryd.sizeOf26 rfl rfl (by omega) hel rfl rfl) ?_
                    refine AOps.go rfl rfl rfl h54 (o_loadRd _ rfl Tryd.sizeOf26 Tryd.isAgg26 rfl rfl rfl) ?_
                    refine AOps.go rfl rfl rfl h54 (o_move _ rfl rfl) ?_
                    refine AOps.go rfl rfl rfl h54 (o_call (hI) Tryd.call14 rfl rfl) ?_
                    refine AOps.call (o_pickF _ _ _ rfl h54 rfl rfl) ?_
                    refine AOps.call (o_assign _ rfl rfl) ?_
                    refine AOps.nil ?_
                    refine AWP.region ?_
                    refine AOps.call (o_move _ rfl rfl) ?_
                    refine AOps.call (o_add _ _ rfl rfl ⟨by (try dsimp only); omega, by (try dsimp only); omega⟩ rfl) ?_
                    refine AOps.call (o_assign _ rfl rfl) ?_
                    refine AOps.nil ?_
                    refine ⟨k + 1, ?_, (Weak.mk' rfl ⟨⟨.refl rfl, rfl⟩, ⟨⟨.refl rfl, rfl⟩, ⟨⟨.refl rfl, rfl⟩, ⟨⟨.refl rfl, rfl⟩, ⟨⟨.refl (by (try dsimp only); rw [hnew]; rfl), rfl⟩, ⟨⟨.refl rfl, rfl⟩, trivial⟩⟩⟩⟩⟩⟩ ⟨⟨rfl, rfl, rfl⟩, trivial⟩ trivial)⟩
                    exact ⟨by omega, by omega⟩
                  · skip
                    have hin : l ∈ (CasL p w).take k := of_decide_eq_true h54
                    have hnew : decide (l ∈ (CasL p w).take (k + 1)) = true := decide_eq_true (by rw [List.take_succ_eq_append_getElem hlt]; exact List.mem_append_left _ hin)
                    refine AOps.pass rfl rfl rfl h54 rfl ?_
                    refine AOps.pass rfl rfl rfl h54 rfl ?_
                    refine AOps.pass rfl rfl rfl h54 rfl ?_
                    refine AOps.pass rfl rfl rfl h54 rfl ?_
                    refine AOps.pass rfl rfl rfl h54 rfl ?_
                    refine AOps.pass rfl rfl rfl h54 rfl ?_
                    refine AOps.call (o_pickT _ _ _ rfl h54 rfl rfl) ?_
                    refine AOps.call (o_assign _ rfl rfl) ?_
                    refine AOps.nil ?_
                    refine AWP.region ?_
                    refine AOps.call (o_move _ rfl rfl) ?_
                    refine AOps.call (o_add _ _ rfl rfl ⟨by (try dsimp only); omega, by (try dsimp only); omega⟩ rfl) ?_
                    refine AOps.call (o_assign _ rfl rfl) ?_
                    refine AOps.nil ?_
                    refine ⟨k + 1, ?_, (Weak.mk' rfl ⟨⟨.refl rfl, rfl⟩, ⟨⟨.refl rfl, rfl⟩, ⟨⟨.refl rfl, rfl⟩, ⟨⟨.refl rfl, rfl⟩, ⟨⟨.refl (by (try dsimp only); rw [hnew]; rfl), rfl⟩, ⟨⟨.refl rfl, rfl⟩, trivial⟩⟩⟩⟩⟩⟩ ⟨⟨rfl, rfl, rfl⟩, trivial⟩ trivial)⟩
                    exact ⟨by omega, by omega⟩
              · skip
                exfalso
                exact absurd h34 (by decide)
            · skip
              exfalso
              exact absurd h32 (by decide)
          · skip
            have hkl : k = (CasL p w).length := by have hq := of_decide_eq_false h23; omega
            have htk : (CasL p w).take k = (CasL p w) := by rw [hkl, List.take_length]
            refine AWP.exit ?_
            refine AWP.seq ?_
            refine AWP.seq ?_
            refine AWP.region ?_
            refine AOps.call (o_loadRef _ rfl rfl Tryd.sizeOf24 Tryd.isAgg24 rfl rfl rfl) ?_
            refine AOps.call (o_move _ rfl rfl) ?_
            refine AOps.call (o_call (CheckCase_s p l hl1) Tryd.call15 rfl rfl) ?_
            refine AOps.call (o_bin _ _ rfl rfl (fun _ => rfl) rfl) ?_
            refine AOps.nil ?_
            refine AWP.cond _ rfl (fun h65 => ?_) (fun h65 => ?_)
            · skip
              have hce : caseE p l ≠ 0 := by simpa using h65
              have hnf : decide (l ∈ (CasL p w).take k) = false := by
                rw [htk]
                refine decide_eq_false fun h => hce ?_
                have h2 := ((mem_cases h0).1 h).1
                have e : rcE p w l = caseE p l := by unfold rcE; rw [if_neg (by rw [g1]; decide), if_neg (by rw [g2]; decide)]
                rw [← e]; exact h2
              rw [hnf]
              refine AWP.seq ?_
              refine AWP.region ?_
              refine AOps.call (o_move _ rfl rfl) ?_
              refine AOps.call (o_un _ rfl (fun _ => rfl) rfl) ?_
              refine AOps.call (o_assign _ rfl rfl) ?_
              refine AOps.nil ?_
              refine AWP.ret ?_
              first
              | exact postQ.ret1 Tryd.results4 rfl rfl
              | (refine postQ.ret1 Tryd.results4 rfl ?_; simp [AV.close, AV.close.closeL, B, I]; done)
              | (refine postQ.ret1 Tryd.results4 rfl ?_; simp [AV.close, AV.close.closeL, B, I]; omega)
              | (refine postQ.ret1 Tryd.results4 rfl ?_; simp_all [AV.close, AV.close.closeL, B, I]; done)
              | (refine postQ.ret1 Tryd.results4 rfl ?_; simp_all [AV.close, AV.close.closeL, B, I]; omega)
            · skip
              have hce : caseE p l = 0 := by simpa using h65
              have e : rcE p w l = 0 := by unfold rcE; rw [if_neg (by rw [g1]; decide), if_neg (by rw [g2]; decide)]; exact hce
              have hA2 := Alive_s p w l hw1 hl1
              have hdd : decide (rcE p w l = 0 ∧ aliveP p w l) = decide (l ∈ (CasL p w).take k) := by rw [htk]; exact decide_eq_decide.2 (mem_cases h0).symm
              rw [hdd, e] at hA2
              refine AWP.skip ?_
              refine AWP.seq ?_
              refine AWP.region ?_
              refine AOps.call (o_loadRef _ rfl rfl Tryd.sizeOf24 Tryd.isAgg24 rfl rfl rfl) ?_
              refine AOps.call (o_move _ rfl rfl) ?_
              refine AOps.call (o_move _ rfl rfl) ?_
              refine AOps.call (o_call (hA2) Tryd.call9 rfl rfl) ?_
              refine AOps.call (o_move _ rfl rfl) ?_
              refine AOps.call (o_extract _ rfl rfl rfl rfl) ?_
              refine AOps.call (o_extract _ rfl rfl rfl rfl) ?_
              refine AOps.call (o_assign _ rfl rfl) ?_
              refine AOps.call (o_assign _ rfl rfl) ?_
              refine AOps.nil ?_
              refine AWP.seq ?_
              refine AWP.region ?_
              refine AOps.call (o_move _ rfl rfl) ?_
              refine AOps.call (o_bin _ _ rfl rfl (fun _ => rfl) rfl) ?_
              refine AOps.call (o_move _ rfl rfl) ?_
              refine AOps.split rfl rfl rfl (fun h75 => ?_) (fun h75 => ?_)
              · skip
                refine AOps.go rfl rfl rfl h75 (o_move _ rfl rfl) ?_
                refine AOps.go rfl rfl rfl h75 (o_move _ rfl rfl) ?_
                refine AOps.go rfl rfl rfl h75 (o_bin _ _ rfl rfl (fun _ => rfl) rfl) ?_
                refine AOps.call (o_pickT _ _ _ rfl h75 rfl rfl) ?_
                refine AOps.call (o_assign _ rfl rfl) ?_
                refine AOps.nil ?_
                refine AWP.ret ?_
                first
                | exact postQ.ret1 Tryd.results4 rfl rfl
                | (refine postQ.ret1 Tryd.results4 rfl ?_; simp [AV.close, AV.close.closeL, B, I]; done)
                | (refine postQ.ret1 Tryd.results4 rfl ?_; simp [AV.close, AV.close.closeL, B, I]; omega)
                | (refine postQ.ret1 Tryd.results4 rfl ?_; simp_all [AV.close, AV.close.closeL, B, I]; done)
                | (refine postQ.ret1 Tryd.results4 rfl ?_; simp_all [AV.close, AV.close.closeL, B, I]; omega)
              · skip
                exfalso
                exact absurd h75 (by decide)
      · skip
        exfalso
        exact absurd h16 (by decide)

theorem PillowAll_s (p : Plw) (w : List Sp) (l : List Int) (hw1 : w.length ≤ 9223372036854775807) (hl1 : l.length ≤ 9223372036854775807) : FSpecG Tryd.prog TAB 4 [.agg (eP p), .sl (sps w), .sl (ints l)] (B true) none := by
  by_cases h0 : CasE p w = 0
  · exact PillowAll_b p w l hw1 hl1 h0
  · exact PillowAll_a p w l hw1 hl1 h0

end Go.Proofs.YtelenedgaoglaaaDoor
