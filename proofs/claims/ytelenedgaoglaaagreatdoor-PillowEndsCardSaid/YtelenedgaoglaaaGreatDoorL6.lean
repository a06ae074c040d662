/- L6. -/
import Derived.Test.YtelenedgaoglaaaGreatDoorR27
import Derived.Test.YtelenedgaoglaaaGreatDoorZ4
set_option linter.unusedSimpArgs false
set_option linter.unusedVariables false
namespace Go.Proofs.YtelenedgaoglaaaGreatDoor
open Go.Ab
open Go.Pil Go.RowKit
theorem cwE_0 {p : Plw} {w : List Sp} {l y : List Int} (h : cwE p w l y (rcE p w l) = 0) : rcE p w l = 0 ∧ y.length = l.length ∧ Go.Pil.World ((p.pb w).a l) (p.pb w).w l.length (fun k => y.getD k 0) := by
  unfold cwE at h
  split at h
  · rename_i h1; exact absurd h h1
  · rename_i h1
    split at h
    · omega
    · rename_i h2
      split at h
      · rename_i h3
        have hyl : y.length = l.length := by omega
        refine ⟨by omega, hyl, world_iff.2 fun k hk => ?_⟩
        have h4 := List.all_eq_true.1 h3 k (List.mem_range.2 (by omega))
        unfold fitB at h4
        rw [hasS_iff] at h4
        unfold reachP hereX at h4
        unfold behind
        by_cases hk0 : k = 0
        · subst hk0; rw [if_pos rfl]; rw [if_pos (by rfl)] at h4; exact h4
        · rw [if_neg hk0]; rw [if_neg (by omega), if_neg hk0] at h4; exact h4
      · omega
theorem outW_gD {most : Bool} {p w} {l : List Int} {k : Nat} (h : k < l.length) : (outW most (endsP p w l)).getD k 0 = endV most (endP p w l k) := by
  unfold outW endsP
  rw [List.getD_eq_getElem?_getD, List.getElem?_map, List.getElem?_map, List.getElem?_range h]; rfl
theorem outW_len {most : Bool} {p w} {l : List Int} : (outW most (endsP p w l)).length = l.length := by simp [outW, endsP]
theorem ints_gW {most : Bool} {p w} {l : List Int} {k : Int} {j : Nat} (h : k.toNat = j) (hj : j < l.length) : (ints (outW most (endsP p w l)))[k.toNat]? = some [I (endV most (endP p w l j))] := by
  rw [← outW_gD hj]; exact ints_gD h (by rw [outW_len]; exact hj)
theorem cwE_outW {p : Plw} {w : List Sp} {l : List Int} (most : Bool) (h0 : rcE p w l = 0) (ha : aliveP p w l) : cwE p w l (outW most (endsP p w l)) (rcE p w l) = 0 := by
  refine cwE_world h0 outW_len ?_
  have hb := okW_WB (rcE_0.1 h0).2.1
  have h := En_world (a := (p.pb w).a l) (w := (p.pb w).w) (n := l.length) (fun k _ => (hb k).2.2) ha
  have cg : ∀ {x y : Nat → Int}, (∀ k, k < l.length → x k = y k) → Go.Pil.World ((p.pb w).a l) (p.pb w).w l.length x → Go.Pil.World ((p.pb w).a l) (p.pb w).w l.length y := fun e hx =>
    ⟨fun k hk => by rw [← e k hk]; exact hx.1 k hk, fun k hk => by rw [← e k (by omega), ← e (k + 1) hk]; exact hx.2 k hk⟩
  cases most with
  | true => exact cg (fun k hk => (outW_gD (most := true) hk).symm) h.2
  | false => exact cg (fun k hk => (outW_gD (most := false) hk).symm) h.1
theorem ints_gY {l : List Int} {k : Nat} (hj : k < l.length) : (ints l)[((k : Nat) : Int).toNat]? = some [I (l.getD k 0)] := ints_gD (by omega) hj
set_option maxHeartbeats 4000000 in
set_option maxRecDepth 20000 in
theorem PillowEnds_a (p : Plw) (w : List Sp) (l y : List Int) (n x : Int) (hw1 : w.length ≤ 9223372036854775807) (hl1 : l.length ≤ 9223372036854775807) (hy1 : y.length ≤ 9223372036854775807) (hne : ldE p w l (rcE p w l) ≠ 0) : FSpecG Tryz.prog TAB 10 [.agg (eP p), .sl (sps w), .sl (ints l), .sl (ints y), I n, I x] (B true) (none) := by
  refine FSpecG.of_body tab_stable Tryz.func10 rfl (leB rfl) fun w0 M0 hG => ?_
  have hL := Loads_s p w l hw1 hl1
  have hil := ints_len l
  have hnil : ldL p w l (rcE p w l) = [] := if_neg (fun h => hne ((if_neg (fun h2 => h2.2 h.2)).trans h.1))
  rw [hnil] at hL
  refine AWP.seq ?_
  refine AWP.region ?_
  refine AOps.call (o_box _ rfl rfl rfl) ?_
  refine AOps.call (o_assign _ rfl rfl) ?_
  refine AOps.nil ?_
  refine AWP.seq ?_
  refine AWP.seq ?_
  refine AWP.region ?_
  refine AOps.call (o_callG (sane_s) hG Tryz.call12 rfl rfl) ?_
  refine AOps.call (o_un _ rfl (fun _ => rfl) rfl) ?_
  refine AOps.nil ?_
  refine AWP.cond _ rfl (fun h4 => ?_) (fun h4 => ?_)
  · skip
    exfalso
    simp at h4
  · skip
    refine AWP.skip ?_
    refine AWP.seq ?_
    refine AWP.region ?_
    refine AOps.call (o_loadRef _ rfl rfl Tryz.sizeOf24 Tryz.isAgg24 rfl rfl rfl) ?_
    refine AOps.call (o_move _ rfl rfl) ?_
    refine AOps.call (o_move _ rfl rfl) ?_
    refine AOps.call (o_call (hL) Tryz.call27 rfl rfl) ?_
    refine AOps.call (o_move _ rfl rfl) ?_
    refine AOps.call (o_extract _ rfl rfl rfl rfl) ?_
    refine AOps.call (o_extract _ rfl rfl rfl rfl) ?_
    refine AOps.call (o_assign _ rfl rfl) ?_
    refine AOps.call (o_assign _ rfl rfl) ?_
    refine AOps.nil ?_
    refine AWP.seq ?_
    refine AWP.seq ?_
    refine AWP.region ?_
    refine AOps.call (o_move _ rfl rfl) ?_
    refine AOps.call (o_bin _ _ rfl rfl (fun _ => rfl) rfl) ?_
    refine AOps.call (o_move _ rfl rfl) ?_
    refine AOps.split rfl rfl rfl (fun h12 => ?_) (fun h12 => ?_)
    · skip
      exfalso
      simp at h12
      exact hne h12
    · skip
      refine AOps.pass rfl rfl rfl h12 rfl ?_
      refine AOps.pass rfl rfl rfl h12 rfl ?_
      refine AOps.call (o_pickT _ _ _ rfl h12 rfl rfl) ?_
      refine AOps.call (o_move _ rfl rfl) ?_
      refine AOps.pass rfl rfl rfl rfl rfl ?_
      refine AOps.pass rfl rfl rfl rfl rfl ?_
      refine AOps.pass rfl rfl rfl rfl rfl ?_
      refine AOps.pass rfl rfl rfl rfl rfl ?_
      refine AOps.call (o_pickT _ _ _ rfl rfl rfl rfl) ?_
      refine AOps.nil ?_
      refine AWP.condT rfl ?_
      refine AWP.seq ?_
      refine AWP.region ?_
      refine AOps.call (o_move _ rfl rfl) ?_
      refine AOps.call (o_bin _ _ rfl rfl (fun _ => rfl) rfl) ?_
      refine AOps.call (o_move _ rfl rfl) ?_
      refine AOps.split rfl rfl rfl (fun h14 => ?_) (fun h14 => ?_)
      · skip
        refine AOps.go rfl rfl rfl h14 (o_move _ rfl rfl) ?_
        refine AOps.go rfl rfl rfl h14 (o_len _ Tryz.underlying38 rfl rfl) ?_
        refine AOps.go rfl rfl rfl h14 (o_bin _ _ rfl rfl (fun _ => rfl) rfl) ?_
        refine AOps.call (o_pickF _ _ _ rfl h14 rfl rfl) ?_
        refine AOps.call (o_assign _ rfl rfl) ?_
        refine AOps.nil ?_
        refine AWP.ret ?_
        first
        | exact postQ.ret1 Tryz.results10 rfl rfl
        | (refine postQ.ret1 Tryz.results10 rfl ?_; simp [AV.close, AV.close.closeL, B, I]; done)
        | (refine postQ.ret1 Tryz.results10 rfl ?_; simp [AV.close, AV.close.closeL, B, I]; omega)
        | (refine postQ.ret1 Tryz.results10 rfl ?_; simp_all [AV.close, AV.close.closeL, B, I]; done)
        | (refine postQ.ret1 Tryz.results10 rfl ?_; simp_all [AV.close, AV.close.closeL, B, I]; omega)
      · skip
        refine AOps.pass rfl rfl rfl h14 rfl ?_
        refine AOps.pass rfl rfl rfl h14 rfl ?_
        refine AOps.pass rfl rfl rfl h14 rfl ?_
        refine AOps.call (o_pickT _ _ _ rfl h14 rfl rfl) ?_
        refine AOps.call (o_assign _ rfl rfl) ?_
        refine AOps.nil ?_
        refine AWP.ret ?_
        first
        | exact postQ.ret1 Tryz.results10 rfl rfl
        | (refine postQ.ret1 Tryz.results10 rfl ?_; simp [AV.close, AV.close.closeL, B, I]; done)
        | (refine postQ.ret1 Tryz.results10 rfl ?_; simp [AV.close, AV.close.closeL, B, I]; omega)
        | (refine postQ.ret1 Tryz.results10 rfl ?_; simp_all [AV.close, AV.close.closeL, B, I]; done)
        | (refine postQ.ret1 Tryz.results10 rfl ?_; simp_all [AV.close, AV.close.closeL, B, I]; omega)
set_option maxHeartbeats 4000000 in
set_option maxRecDepth 20000 in
theorem PillowEnds_b (p : Plw) (w : List Sp) (l y : List Int) (n x : Int) (hw1 : w.length ≤ 9223372036854775807) (hl1 : l.length ≤ 9223372036854775807) (hy1 : y.length ≤ 9223372036854775807) (h0 : rcE p w l = 0) (ha : aliveP p w l) : FSpecG Tryz.prog TAB 10 [.agg (eP p), .sl (sps w), .sl (ints l), .sl (ints y), I n, I x] (B true) (none) := by
  refine FSpecG.of_body tab_stable Tryz.func10 rfl (leB rfl) fun w0 M0 hG => ?_
  have hL := Loads_s p w l hw1 hl1
  rw [show ldL p w l (rcE p w l) = endsP p w l from if_pos ⟨h0, ha⟩, show ldE p w l (rcE p w l) = 0 from (if_neg (fun h => h.2 ha)).trans h0] at hL
  obtain ⟨g1, g2, g3, g4⟩ := rcE_0.1 h0
  have hce : caseE p l = 0 := by unfold caseE; rw [if_neg (by rw [g1]; decide), if_pos ⟨g3, g4⟩]
  have hp := okP_iff.1 g1
  have h32 := hp.len
  have hil := ints_len l
  have hiy := ints_len y
  have hse := sps_len (endsP p w l)
  have hel : (endsP p w l).length = l.length := by simp [endsP]
  have hCy := CheckWitness_s p w l y hw1 hl1
  refine AWP.seq ?_
  refine AWP.region ?_
  refine AOps.call (o_box _ rfl rfl rfl) ?_
  refine AOps.call (o_assign _ rfl rfl) ?_
  refine AOps.nil ?_
  refine AWP.seq ?_
  refine AWP.seq ?_
  refine AWP.region ?_
  refine AOps.call (o_callG (sane_s) hG Tryz.call12 rfl rfl) ?_
  refine AOps.call (o_un _ rfl (fun _ => rfl) rfl) ?_
  refine AOps.nil ?_
  refine AWP.cond _ rfl (fun h4 => ?_) (fun h4 => ?_)
  · skip
    exfalso
    simp at h4
  · skip
    refine AWP.skip ?_
    refine AWP.seq ?_
    refine AWP.region ?_
    refine AOps.call (o_loadRef _ rfl rfl Tryz.sizeOf24 Tryz.isAgg24 rfl rfl rfl) ?_
    refine AOps.call (o_move _ rfl rfl) ?_
    refine AOps.call (o_move _ rfl rfl) ?_
    refine AOps.call (o_call (hL) Tryz.call27 rfl rfl) ?_
    refine AOps.call (o_move _ rfl rfl) ?_
    refine AOps.call (o_extract _ rfl rfl rfl rfl) ?_
    refine AOps.call (o_extract _ rfl rfl rfl rfl) ?_
    refine AOps.call (o_assign _ rfl rfl) ?_
    refine AOps.call (o_assign _ rfl rfl) ?_
    refine AOps.nil ?_
    refine AWP.seq ?_
    refine AWP.seq ?_
    refine AWP.region ?_
    refine AOps.call (o_move _ rfl rfl) ?_
    refine AOps.call (o_bin _ _ rfl rfl (fun _ => rfl) rfl) ?_
    refine AOps.call (o_move _ rfl rfl) ?_
    refine AOps.split rfl rfl rfl (fun h12 => ?_) (fun h12 => ?_)
    · skip
      refine AOps.go rfl rfl rfl h12 (o_move _ rfl rfl) ?_
      refine AOps.go rfl rfl rfl h12 (o_bin _ _ rfl rfl (fun _ => rfl) rfl) ?_
      refine AOps.call (o_pickF _ _ _ rfl h12 rfl rfl) ?_
      refine AOps.call (o_move _ rfl rfl) ?_
      refine AOps.split rfl rfl rfl (fun h15 => ?_) (fun h15 => ?_)
      · skip
        have hn0 : 0 ≤ n := by
          have h := h15
          simp at h
          omega
        refine AOps.go rfl rfl rfl h15 (o_move _ rfl rfl) ?_
        refine AOps.go rfl rfl rfl h15 (o_move _ rfl rfl) ?_
        refine AOps.go rfl rfl rfl h15 (o_len _ Tryz.underlying25 rfl rfl) ?_
        refine AOps.go rfl rfl rfl h15 (o_bin _ _ rfl rfl (fun _ => rfl) rfl) ?_
        refine AOps.call (o_pickF _ _ _ rfl h15 rfl rfl) ?_
        refine AOps.nil ?_
        refine AWP.cond _ rfl (fun h20 => ?_) (fun h20 => ?_)
        · skip
          skip
          refine AWP.seq ?_
          refine AWP.region ?_
          refine AOps.call (o_move _ rfl rfl) ?_
          refine AOps.call (o_bin _ _ rfl rfl (fun _ => rfl) rfl) ?_
          refine AOps.call (o_move _ rfl rfl) ?_
          refine AOps.split rfl rfl rfl (fun h22 => ?_) (fun h22 => ?_)
          · skip
            exfalso
            exact absurd h22 (by decide)
          · skip
            refine AOps.pass rfl rfl rfl h22 rfl ?_
            refine AOps.pass rfl rfl rfl h22 rfl ?_
            refine AOps.pass rfl rfl rfl h22 rfl ?_
            refine AOps.call (o_pickT _ _ _ rfl h22 rfl rfl) ?_
            refine AOps.call (o_assign _ rfl rfl) ?_
            refine AOps.nil ?_
            refine AWP.ret ?_
            first
            | exact postQ.ret1 Tryz.results10 rfl rfl
            | (refine postQ.ret1 Tryz.results10 rfl ?_; simp [AV.close, AV.close.closeL, B, I]; done)
            | (refine postQ.ret1 Tryz.results10 rfl ?_; simp [AV.close, AV.close.closeL, B, I]; omega)
            | (refine postQ.ret1 Tryz.results10 rfl ?_; simp_all [AV.close, AV.close.closeL, B, I]; done)
            | (refine postQ.ret1 Tryz.results10 rfl ?_; simp_all [AV.close, AV.close.closeL, B, I]; omega)
        · skip
          have hn : 0 ≤ n ∧ n < l.length := by simp at h20; omega
          have hWtrue : FSpec Tryz.prog 33 [.agg (eP p), .sl (sps w), .sl (ints l), I n, B true] (.tup [.sl (ints (outW true (endsP p w l))), I 0]) none := by
            have h := Witness_ok_true p w l n hw1 hl1 g1 g2
            have e : witE p w l n (caseE p l) = 0 := (if_neg (by rw [hce]; decide)).trans ((if_pos (by simp; omega)).trans (if_pos ha))
            rw [show witL p w l n (caseE p l) true = outW true (endsP p w l) from if_pos e, e] at h
            exact h
          have hCtrue := CheckWitness_s p w l (outW true (endsP p w l)) hw1 hl1
          rw [cwE_outW true h0 ha] at hCtrue
          have hxtrue := ints_gW (most := true) (p := p) (w := w) (l := l) (k := n) (j := n.toNat) rfl (by omega)
          have hWfalse : FSpec Tryz.prog 33 [.agg (eP p), .sl (sps w), .sl (ints l), I n, B false] (.tup [.sl (ints (outW false (endsP p w l))), I 0]) none := by
            have h := Witness_ok_false p w l n hw1 hl1 g1 g2
            have e : witE p w l n (caseE p l) = 0 := (if_neg (by rw [hce]; decide)).trans ((if_pos (by simp; omega)).trans (if_pos ha))
            rw [show witL p w l n (caseE p l) false = outW false (endsP p w l) from if_pos e, e] at h
            exact h
          have hCfalse := CheckWitness_s p w l (outW false (endsP p w l)) hw1 hl1
          rw [cwE_outW false h0 ha] at hCfalse
          have hxfalse := ints_gW (most := false) (p := p) (w := w) (l := l) (k := n) (j := n.toNat) rfl (by omega)
          have hot := outW_len (most := true) (p := p) (w := w) (l := l)
          have hof := outW_len (most := false) (p := p) (w := w) (l := l)
          have hit := ints_len (outW true (endsP p w l))
          have hif := ints_len (outW false (endsP p w l))
          have hee := sps_gD (L := (endsP p w l)) (k := n) (j := n.toNat) rfl (by omega)
          rw [endsP_gD (by omega)] at hee
          refine AWP.skip ?_
          refine AWP.seq ?_
          refine AWP.seq ?_
          refine AWP.region ?_
          refine AOps.call (o_move _ rfl rfl) ?_
          refine AOps.call (o_len _ Tryz.underlying38 rfl rfl) ?_
          refine AOps.call (o_move _ rfl rfl) ?_
          refine AOps.call (o_len _ Tryz.underlying25 rfl rfl) ?_
          refine AOps.call (o_bin _ _ rfl rfl (fun _ => rfl) rfl) ?_
          refine AOps.nil ?_
          refine AWP.cond _ rfl (fun h27 => ?_) (fun h27 => ?_)
          · skip
            exfalso
            simp at h27
            omega
          · skip
            refine AWP.skip ?_
            refine AWP.seq ?_
            refine AWP.region ?_
            refine AOps.call (o_loadRef _ rfl rfl Tryz.sizeOf24 Tryz.isAgg24 rfl rfl rfl) ?_
            refine AOps.call (o_move _ rfl rfl) ?_
            refine AOps.call (o_move _ rfl rfl) ?_
            refine AOps.call (o_move _ rfl rfl) ?_
            refine AOps.call (o_call (hWtrue) Tryz.call33 rfl rfl) ?_
            refine AOps.call (o_move _ rfl rfl) ?_
            refine AOps.call (o_extract _ rfl rfl rfl rfl) ?_
            refine AOps.call (o_extract _ rfl rfl rfl rfl) ?_
            refine AOps.call (o_assign _ rfl rfl) ?_
            refine AOps.call (o_assign _ rfl rfl) ?_
            refine AOps.nil ?_
            refine AWP.seq ?_
            refine AWP.region ?_
            refine AOps.call (o_loadRef _ rfl rfl Tryz.sizeOf24 Tryz.isAgg24 rfl rfl rfl) ?_
            refine AOps.call (o_move _ rfl rfl) ?_
            refine AOps.call (o_move _ rfl rfl) ?_
            refine AOps.call (o_move _ rfl rfl) ?_
            refine AOps.call (o_call (hWfalse) Tryz.call33 rfl rfl) ?_
            refine AOps.call (o_move _ rfl rfl) ?_
            refine AOps.call (o_extract _ rfl rfl rfl rfl) ?_
            refine AOps.call (o_extract _ rfl rfl rfl rfl) ?_
            refine AOps.call (o_assign _ rfl rfl) ?_
            refine AOps.call (o_assign _ rfl rfl) ?_
            refine AOps.nil ?_
            refine AWP.seq ?_
            refine AWP.seq ?_
            refine AWP.drawn 44 mixed (by kernel_rfl) ?_
            refine AHead.call (o_move _ rfl rfl) rfl ?_
            refine AHead.call (o_bin _ _ rfl rfl (fun _ => rfl) rfl) rfl ?_
            refine AHead.call (o_move _ rfl rfl) rfl ?_
            refine AHead.split rfl rfl rfl (fun h43 => ?_) (fun h43 => ?_)
            · skip
              refine AHead.go rfl rfl rfl h43 (o_move _ rfl rfl) rfl ?_
              refine AHead.go rfl rfl rfl h43 (o_bin _ _ rfl rfl (fun _ => rfl) rfl) rfl ?_
              refine AHead.call (o_pickF _ _ _ rfl h43 rfl rfl) rfl ?_
              refine AHead.call (o_move _ rfl rfl) rfl ?_
              refine AHead.split rfl rfl rfl (fun h45 => ?_) (fun h45 => ?_)
              · skip
                refine AHead.go rfl rfl rfl h45 (o_move _ rfl rfl) rfl ?_
                refine AHead.go rfl rfl rfl h45 (o_len _ Tryz.underlying25 rfl rfl) rfl ?_
                refine AHead.go rfl rfl rfl h45 (o_move _ rfl rfl) rfl ?_
                refine AHead.go rfl rfl rfl h45 (o_len _ Tryz.underlying25 rfl rfl) rfl ?_
                refine AHead.go rfl rfl rfl h45 (o_bin _ _ rfl rfl (fun _ => rfl) rfl) rfl ?_
                refine AHead.call (o_pickF _ _ _ rfl h45 rfl rfl) rfl ?_
                refine AHead.call (o_move _ rfl rfl) rfl ?_
                refine AHead.split rfl rfl rfl (fun h50 => ?_) (fun h50 => ?_)
                · skip
                  refine AHead.go rfl rfl rfl h50 (o_move _ rfl rfl) rfl ?_
                  refine AHead.go rfl rfl rfl h50 (o_len _ Tryz.underlying25 rfl rfl) rfl ?_
                  refine AHead.go rfl rfl rfl h50 (o_move _ rfl rfl) rfl ?_
                  refine AHead.go rfl rfl rfl h50 (o_len _ Tryz.underlying25 rfl rfl) rfl ?_
                  refine AHead.go rfl rfl rfl h50 (o_bin _ _ rfl rfl (fun _ => rfl) rfl) rfl ?_
                  refine AHead.call (o_pickF _ _ _ rfl h50 rfl rfl) rfl ?_
                  refine AHead.call (o_move _ rfl rfl) rfl ?_
                  refine AHead.split rfl rfl rfl (fun h55 => ?_) (fun h55 => ?_)
                  · skip
                    refine AHead.go rfl rfl rfl h55 (o_move _ rfl rfl) rfl ?_
                    refine AHead.go rfl rfl rfl h55 (o_move _ rfl rfl) rfl ?_
                    refine AHead.go rfl rfl rfl h55 (o_index _ _ Tryz.underlying25 Tryz.sizeOf3 rfl rfl (by omega) hxtrue rfl rfl) rfl ?_
                    refine AHead.go rfl rfl rfl h55 (o_loadRd _ rfl Tryz.sizeOf3 Tryz.isAgg3 rfl rfl rfl) rfl ?_
                    refine AHead.go rfl rfl rfl h55 (o_move _ rfl rfl) rfl ?_
                    refine AHead.go rfl rfl rfl h55 (o_move _ rfl rfl) rfl ?_
                    refine AHead.go rfl rfl rfl h55 (o_index _ _ Tryz.underlying38 Tryz.sizeOf54 rfl rfl (by omega) hee rfl rfl) rfl ?_
                    refine AHead.go rfl rfl rfl h55 (o_fieldRd _ rfl fa54_1 rfl) rfl ?_
                    refine AHead.go rfl rfl rfl h55 (o_loadRd _ rfl Tryz.sizeOf3 Tryz.isAgg3 rfl rfl rfl) rfl ?_
                    refine AHead.go rfl rfl rfl h55 (o_bin _ _ rfl rfl (fun _ => rfl) rfl) rfl ?_
                    refine AHead.call (o_pickF _ _ _ rfl h55 rfl rfl) rfl ?_
                    refine AHead.call (o_move _ rfl rfl) rfl ?_
                    refine AHead.split rfl rfl rfl (fun h64 => ?_) (fun h64 => ?_)
                    · skip
                      refine AHead.go rfl rfl rfl h64 (o_move _ rfl rfl) rfl ?_
                      refine AHead.go rfl rfl rfl h64 (o_move _ rfl rfl) rfl ?_
                      refine AHead.go rfl rfl rfl h64 (o_index _ _ Tryz.underlying25 Tryz.sizeOf3 rfl rfl (by omega) hxfalse rfl rfl) rfl ?_
                      refine AHead.go rfl rfl rfl h64 (o_loadRd _ rfl Tryz.sizeOf3 Tryz.isAgg3 rfl rfl rfl) rfl ?_
                      refine AHead.go rfl rfl rfl h64 (o_move _ rfl rfl) rfl ?_
                      refine AHead.go rfl rfl rfl h64 (o_move _ rfl rfl) rfl ?_
                      refine AHead.go rfl rfl rfl h64 (o_index _ _ Tryz.underlying38 Tryz.sizeOf54 rfl rfl (by omega) hee rfl rfl) rfl ?_
                      refine AHead.go rfl rfl rfl h64 (o_fieldRd _ rfl fa54_0 rfl) rfl ?_
                      refine AHead.go rfl rfl rfl h64 (o_loadRd _ rfl Tryz.sizeOf3 Tryz.isAgg3 rfl rfl rfl) rfl ?_
                      refine AHead.go rfl rfl rfl h64 (o_bin _ _ rfl rfl (fun _ => rfl) rfl) rfl ?_
                      refine AHead.call (o_pickF _ _ _ rfl h64 rfl rfl) rfl ?_
                      refine AHead.nil ?_
                      refine AOps.nil ?_
                      refine AWP.cond _ rfl (fun h73 => ?_) (fun h73 => ?_)
                      · skip
                        exfalso
                        simp [endV] at h73
                      · skip
                        refine AWP.skip ?_
                        refine AWP.seq ?_
                        refine AWP.seq ?_
                        refine AWP.region ?_
                        refine AOps.call (o_loadRef _ rfl rfl Tryz.sizeOf24 Tryz.isAgg24 rfl rfl rfl) ?_
                        refine AOps.call (o_move _ rfl rfl) ?_
                        refine AOps.call (o_move _ rfl rfl) ?_
                        refine AOps.call (o_move _ rfl rfl) ?_
                        refine AOps.call (o_call (hCtrue) Tryz.call31 rfl rfl) ?_
                        refine AOps.call (o_bin _ _ rfl rfl (fun _ => rfl) rfl) ?_
                        refine AOps.call (o_move _ rfl rfl) ?_
                        refine AOps.split rfl rfl rfl (fun h79 => ?_) (fun h79 => ?_)
                        · skip
                          refine AOps.go rfl rfl rfl h79 (o_loadRef _ rfl rfl Tryz.sizeOf24 Tryz.isAgg24 rfl rfl rfl) ?_
                          refine AOps.go rfl rfl rfl h79 (o_move _ rfl rfl) ?_
                          refine AOps.go rfl rfl rfl h79 (o_move _ rfl rfl) ?_
                          refine AOps.go rfl rfl rfl h79 (o_move _ rfl rfl) ?_
                          refine AOps.go rfl rfl rfl h79 (o_call (hCfalse) Tryz.call31 rfl rfl) ?_
                          refine AOps.go rfl rfl rfl h79 (o_bin _ _ rfl rfl (fun _ => rfl) rfl) ?_
                          refine AOps.call (o_pickF _ _ _ rfl h79 rfl rfl) ?_
                          refine AOps.nil ?_
                          refine AWP.cond _ rfl (fun h85 => ?_) (fun h85 => ?_)
                          · skip
                            exfalso
                            exact absurd h85 (by decide)
                          · skip
                            refine AWP.skip ?_
                            refine AWP.seq ?_
                            refine AWP.seq ?_
                            refine AWP.region ?_
                            refine AOps.call (o_loadRef _ rfl rfl Tryz.sizeOf24 Tryz.isAgg24 rfl rfl rfl) ?_
                            refine AOps.call (o_move _ rfl rfl) ?_
                            refine AOps.call (o_move _ rfl rfl) ?_
                            refine AOps.call (o_move _ rfl rfl) ?_
                            refine AOps.call (o_call (hCy) Tryz.call31 rfl rfl) ?_
                            refine AOps.call (o_bin _ _ rfl rfl (fun _ => rfl) rfl) ?_
                            refine AOps.nil ?_
                            refine AWP.cond _ rfl (fun h92 => ?_) (fun h92 => ?_)
                            · skip
                              have hy0 : cwE p w l y (rcE p w l) = 0 := by simpa using h92
                              obtain ⟨_, hyl, hyW⟩ := cwE_0 hy0
                              refine AWP.seq ?_
                              refine AWP.region ?_
                              refine AOps.call (o_assign _ rfl rfl) ?_
                              refine AOps.nil ?_
                              refine AWP.block ?_
                              refine AWP.loop (ι := Nat) (fun i => AS.mk' 192 [(1, .sl (sps w)), (2, .sl (ints l)), (3, .sl (ints y)), (4, I n), (5, I x), (6, .ref (6, 0) 0), (13, .sl (sps (endsP p w l))), (19, I i)] [((6, 0), eP p)] [] [(6, 1)]) (fun i => i ≤ l.length) (fun i => l.length - i) (0) (Weak.mk' rfl ⟨⟨.refl rfl, rfl⟩, ⟨⟨.refl rfl, rfl⟩, ⟨⟨.refl rfl, rfl⟩, ⟨⟨.refl rfl, rfl⟩, ⟨⟨.refl rfl, rfl⟩, ⟨⟨.refl rfl, rfl⟩, ⟨⟨.refl rfl, rfl⟩, ⟨⟨.refl rfl, rfl⟩, trivial⟩⟩⟩⟩⟩⟩⟩⟩ ⟨⟨rfl, rfl, rfl⟩, trivial⟩ trivial) (Nat.zero_le _) ?_
                              rintro k hk
                              try dsimp only at *
                              refine AWP.seq ?_
                              refine AWP.seq ?_
                              refine AWP.region ?_
                              refine AOps.call (o_move _ rfl rfl) ?_
                              refine AOps.call (o_move _ rfl rfl) ?_
                              refine AOps.call (o_len _ Tryz.underlying25 rfl rfl) ?_
                              refine AOps.call (o_bin _ _ rfl rfl (fun _ => rfl) rfl) ?_
                              refine AOps.nil ?_
                              refine AWP.cond _ rfl (fun h97 => ?_) (fun h97 => ?_)
                              · skip
                                have hlt : k < l.length := by have := of_decide_eq_true h97; omega
                                have hyk := ints_gY (l := y) (k := k) (by omega)
                                have hek := sps_gD (L := (endsP p w l)) (k := ((k : Nat) : Int)) (j := k) (by omega) (by omega)
                                rw [endsP_gD hlt] at hek
                                have hhas : (endP p w l k).Has (y.getD k 0) := En_has hyW hlt
                                simp only [Sp.Has] at hhas
                                refine AWP.skip ?_
                                refine AWP.seq ?_
                                refine AWP.block ?_
                                refine AWP.seq ?_
                                refine AWP.drawn 29 mixed (by kernel_rfl) ?_
                                refine AHead.call (o_move _ rfl rfl) rfl ?_
                                refine AHead.call (o_len _ Tryz.underlying25 rfl rfl) rfl ?_
                                refine AHead.call (o_move _ rfl rfl) rfl ?_
                                refine AHead.call (o_len _ Tryz.underlying25 rfl rfl) rfl ?_
                                refine AHead.call (o_bin _ _ rfl rfl (fun _ => rfl) rfl) rfl ?_
                                refine AHead.call (o_move _ rfl rfl) rfl ?_
                                refine AHead.split rfl rfl rfl (fun h103 => ?_) (fun h103 => ?_)
                                · skip
                                  refine AHead.go rfl rfl rfl h103 (o_move _ rfl rfl) rfl ?_
                                  refine AHead.go rfl rfl rfl h103 (o_move _ rfl rfl) rfl ?_
                                  refine AHead.go rfl rfl rfl h103 (o_index _ _ Tryz.underlying25 Tryz.sizeOf3 rfl rfl (by omega) hyk rfl rfl) rfl ?_
                                  refine AHead.go rfl rfl rfl h103 (o_loadRd _ rfl Tryz.sizeOf3 Tryz.isAgg3 rfl rfl rfl) rfl ?_
                                  refine AHead.go rfl rfl rfl h103 (o_move _ rfl rfl) rfl ?_
                                  refine AHead.go rfl rfl rfl h103 (o_move _ rfl rfl) rfl ?_
                                  refine AHead.go rfl rfl rfl h103 (o_index _ _ Tryz.underlying38 Tryz.sizeOf54 rfl rfl (by omega) hek rfl rfl) rfl ?_
                                  refine AHead.go rfl rfl rfl h103 (o_fieldRd _ rfl fa54_0 rfl) rfl ?_
                                  refine AHead.go rfl rfl rfl h103 (o_loadRd _ rfl Tryz.sizeOf3 Tryz.isAgg3 rfl rfl rfl) rfl ?_
                                  refine AHead.go rfl rfl rfl h103 (o_bin _ _ rfl rfl (fun _ => rfl) rfl) rfl ?_
                                  refine AHead.call (o_pickF _ _ _ rfl h103 rfl rfl) rfl ?_
                                  refine AHead.call (o_move _ rfl rfl) rfl ?_
                                  refine AHead.split rfl rfl rfl (fun h111 => ?_) (fun h111 => ?_)
                                  · skip
                                    refine AHead.go rfl rfl rfl h111 (o_move _ rfl rfl) rfl ?_
                                    refine AHead.go rfl rfl rfl h111 (o_move _ rfl rfl) rfl ?_
                                    refine AHead.go rfl rfl rfl h111 (o_index _ _ Tryz.underlying25 Tryz.sizeOf3 rfl rfl (by omega) hyk rfl rfl) rfl ?_
                                    refine AHead.go rfl rfl rfl h111 (o_loadRd _ rfl Tryz.sizeOf3 Tryz.isAgg3 rfl rfl rfl) rfl ?_
                                    refine AHead.go rfl rfl rfl h111 (o_move _ rfl rfl) rfl ?_
                                    refine AHead.go rfl rfl rfl h111 (o_move _ rfl rfl) rfl ?_
                                    refine AHead.go rfl rfl rfl h111 (o_index _ _ Tryz.underlying38 Tryz.sizeOf54 rfl rfl (by omega) hek rfl rfl) rfl ?_
                                    refine AHead.go rfl rfl rfl h111 (o_fieldRd _ rfl fa54_1 rfl) rfl ?_
                                    refine AHead.go rfl rfl rfl h111 (o_loadRd _ rfl Tryz.sizeOf3 Tryz.isAgg3 rfl rfl rfl) rfl ?_
                                    refine AHead.go rfl rfl rfl h111 (o_bin _ _ rfl rfl (fun _ => rfl) rfl) rfl ?_
                                    refine AHead.call (o_pickF _ _ _ rfl h111 rfl rfl) rfl ?_
                                    refine AHead.nil ?_
                                    refine AOps.nil ?_
                                    refine AWP.cond _ rfl (fun h119 => ?_) (fun h119 => ?_)
                                    · skip
                                      exfalso
                                      have hq := of_decide_eq_true h119
                                      omega
                                    · skip
                                      refine AWP.skip ?_
                                      refine AWP.region ?_
                                      refine AOps.call (o_move _ rfl rfl) ?_
                                      refine AOps.call (o_add _ _ rfl rfl ⟨by (try dsimp only); omega, by (try dsimp only); omega⟩ rfl) ?_
                                      refine AOps.call (o_assign _ rfl rfl) ?_
                                      refine AOps.nil ?_
                                      refine ⟨k + 1, ?_, (Weak.mk' rfl ⟨⟨.refl rfl, rfl⟩, ⟨⟨.refl rfl, rfl⟩, ⟨⟨.refl rfl, rfl⟩, ⟨⟨.refl rfl, rfl⟩, ⟨⟨.refl rfl, rfl⟩, ⟨⟨.refl rfl, rfl⟩, ⟨⟨.refl rfl, rfl⟩, ⟨⟨.refl rfl, rfl⟩, trivial⟩⟩⟩⟩⟩⟩⟩⟩ ⟨⟨rfl, rfl, rfl⟩, trivial⟩ trivial)⟩
                                      exact ⟨by omega, by omega⟩
                                  · skip
                                    exfalso
                                    have hq := of_decide_eq_true h111
                                    omega
                                · skip
                                  exfalso
                                  simp at h103
                                  omega
                              · skip
                                refine AWP.exit ?_
                                refine AWP.seq ?_
                                refine AWP.region ?_
                                refine AOps.call (o_move _ rfl rfl) ?_
                                refine AOps.call (o_move _ rfl rfl) ?_
                                refine AOps.call (o_move _ rfl rfl) ?_
                                refine AOps.call (o_index _ _ Tryz.underlying38 Tryz.sizeOf54 rfl rfl (by omega) hee rfl rfl) ?_
                                refine AOps.call (o_fieldRd _ rfl fa54_0 rfl) ?_
                                refine AOps.call (o_loadRd _ rfl Tryz.sizeOf3 Tryz.isAgg3 rfl rfl rfl) ?_
                                refine AOps.call (o_bin _ _ rfl rfl (fun _ => rfl) rfl) ?_
                                refine AOps.call (o_move _ rfl rfl) ?_
                                refine AOps.split rfl rfl rfl (fun h127 => ?_) (fun h127 => ?_)
                                · skip
                                  have hb1 := of_decide_eq_false h127
                                  refine AOps.go rfl rfl rfl h127 (o_move _ rfl rfl) ?_
                                  refine AOps.go rfl rfl rfl h127 (o_move _ rfl rfl) ?_
                                  refine AOps.go rfl rfl rfl h127 (o_move _ rfl rfl) ?_
                                  refine AOps.go rfl rfl rfl h127 (o_index _ _ Tryz.underlying38 Tryz.sizeOf54 rfl rfl (by omega) hee rfl rfl) ?_
                                  refine AOps.go rfl rfl rfl h127 (o_fieldRd _ rfl fa54_1 rfl) ?_
                                  refine AOps.go rfl rfl rfl h127 (o_loadRd _ rfl Tryz.sizeOf3 Tryz.isAgg3 rfl rfl rfl) ?_
                                  refine AOps.go rfl rfl rfl h127 (o_bin _ _ rfl rfl (fun _ => rfl) rfl) ?_
                                  refine AOps.call (o_pickF _ _ _ rfl h127 rfl rfl) ?_
                                  refine AOps.call (o_move _ rfl rfl) ?_
                                  refine AOps.split rfl rfl rfl (fun h134 => ?_) (fun h134 => ?_)
                                  · skip
                                    have hb2 := of_decide_eq_false h134
                                    have hB := between_true p w l hw1 hl1 n.toNat x h0 ha (by omega) (by simp only [Sp.Has]; omega)
                                    rw [Int.toNat_of_nonneg hn.1] at hB
                                    refine AOps.go rfl rfl rfl h134 (o_loadRef _ rfl rfl Tryz.sizeOf24 Tryz.isAgg24 rfl rfl rfl) ?_
                                    refine AOps.go rfl rfl rfl h134 (o_move _ rfl rfl) ?_
                                    refine AOps.go rfl rfl rfl h134 (o_move _ rfl rfl) ?_
                                    refine AOps.go rfl rfl rfl h134 (o_move _ rfl rfl) ?_
                                    refine AOps.go rfl rfl rfl h134 (o_move _ rfl rfl) ?_
                                    refine AOps.go rfl rfl rfl h134 (o_call (hB) Tryz.call54 rfl rfl) ?_
                                    refine AOps.call (o_pickF _ _ _ rfl h134 rfl rfl) ?_
                                    refine AOps.call (o_assign _ rfl rfl) ?_
                                    refine AOps.nil ?_
                                    refine AWP.ret ?_
                                    first
                                    | exact postQ.ret1 Tryz.results10 rfl rfl
                                    | (refine postQ.ret1 Tryz.results10 rfl ?_; simp [AV.close, AV.close.closeL, B, I]; done)
                                    | (refine postQ.ret1 Tryz.results10 rfl ?_; simp [AV.close, AV.close.closeL, B, I]; omega)
                                    | (refine postQ.ret1 Tryz.results10 rfl ?_; simp_all [AV.close, AV.close.closeL, B, I]; done)
                                    | (refine postQ.ret1 Tryz.results10 rfl ?_; simp_all [AV.close, AV.close.closeL, B, I]; omega)
                                  · skip
                                    refine AOps.pass rfl rfl rfl h134 rfl ?_
                                    refine AOps.pass rfl rfl rfl h134 rfl ?_
                                    refine AOps.pass rfl rfl rfl h134 rfl ?_
                                    refine AOps.pass rfl rfl rfl h134 rfl ?_
                                    refine AOps.pass rfl rfl rfl h134 rfl ?_
                                    refine AOps.pass rfl rfl rfl h134 rfl ?_
                                    refine AOps.call (o_pickT _ _ _ rfl h134 rfl rfl) ?_
                                    refine AOps.call (o_assign _ rfl rfl) ?_
                                    refine AOps.nil ?_
                                    refine AWP.ret ?_
                                    first
                                    | exact postQ.ret1 Tryz.results10 rfl rfl
                                    | (refine postQ.ret1 Tryz.results10 rfl ?_; simp [AV.close, AV.close.closeL, B, I]; done)
                                    | (refine postQ.ret1 Tryz.results10 rfl ?_; simp [AV.close, AV.close.closeL, B, I]; omega)
                                    | (refine postQ.ret1 Tryz.results10 rfl ?_; simp_all [AV.close, AV.close.closeL, B, I]; done)
                                    | (refine postQ.ret1 Tryz.results10 rfl ?_; simp_all [AV.close, AV.close.closeL, B, I]; omega)
                                · skip
                                  refine AOps.pass rfl rfl rfl h127 rfl ?_
                                  refine AOps.pass rfl rfl rfl h127 rfl ?_
                                  refine AOps.pass rfl rfl rfl h127 rfl ?_
                                  refine AOps.pass rfl rfl rfl h127 rfl ?_
                                  refine AOps.pass rfl rfl rfl h127 rfl ?_
                                  refine AOps.pass rfl rfl rfl h127 rfl ?_
                                  refine AOps.pass rfl rfl rfl h127 rfl ?_
                                  refine AOps.call (o_pickT _ _ _ rfl h127 rfl rfl) ?_
                                  refine AOps.call (o_move _ rfl rfl) ?_
                                  refine AOps.pass rfl rfl rfl rfl rfl ?_
                                  refine AOps.pass rfl rfl rfl rfl rfl ?_
                                  refine AOps.pass rfl rfl rfl rfl rfl ?_
                                  refine AOps.pass rfl rfl rfl rfl rfl ?_
                                  refine AOps.pass rfl rfl rfl rfl rfl ?_
                                  refine AOps.pass rfl rfl rfl rfl rfl ?_
                                  refine AOps.call (o_pickT _ _ _ rfl rfl rfl rfl) ?_
                                  refine AOps.call (o_assign _ rfl rfl) ?_
                                  refine AOps.nil ?_
                                  refine AWP.ret ?_
                                  first
                                  | exact postQ.ret1 Tryz.results10 rfl rfl
                                  | (refine postQ.ret1 Tryz.results10 rfl ?_; simp [AV.close, AV.close.closeL, B, I]; done)
                                  | (refine postQ.ret1 Tryz.results10 rfl ?_; simp [AV.close, AV.close.closeL, B, I]; omega)
                                  | (refine postQ.ret1 Tryz.results10 rfl ?_; simp_all [AV.close, AV.close.closeL, B, I]; done)
                                  | (refine postQ.ret1 Tryz.results10 rfl ?_; simp_all [AV.close, AV.close.closeL, B, I]; omega)
                            · skip
                              refine AWP.skip ?_
                              refine AWP.seq ?_
                              refine AWP.region ?_
                              refine AOps.call (o_move _ rfl rfl) ?_
                              refine AOps.call (o_move _ rfl rfl) ?_
                              refine AOps.call (o_move _ rfl rfl) ?_
                              refine AOps.call (o_index _ _ Tryz.underlying38 Tryz.sizeOf54 rfl rfl (by omega) hee rfl rfl) ?_
                              refine AOps.call (o_fieldRd _ rfl fa54_0 rfl) ?_
                              refine AOps.call (o_loadRd _ rfl Tryz.sizeOf3 Tryz.isAgg3 rfl rfl rfl) ?_
                              refine AOps.call (o_bin _ _ rfl rfl (fun _ => rfl) rfl) ?_
                              refine AOps.call (o_move _ rfl rfl) ?_
                              refine AOps.split rfl rfl rfl (fun h147 => ?_) (fun h147 => ?_)
                              · skip
                                have hb1 := of_decide_eq_false h147
                                refine AOps.go rfl rfl rfl h147 (o_move _ rfl rfl) ?_
                                refine AOps.go rfl rfl rfl h147 (o_move _ rfl rfl) ?_
                                refine AOps.go rfl rfl rfl h147 (o_move _ rfl rfl) ?_
                                refine AOps.go rfl rfl rfl h147 (o_index _ _ Tryz.underlying38 Tryz.sizeOf54 rfl rfl (by omega) hee rfl rfl) ?_
                                refine AOps.go rfl rfl rfl h147 (o_fieldRd _ rfl fa54_1 rfl) ?_
                                refine AOps.go rfl rfl rfl h147 (o_loadRd _ rfl Tryz.sizeOf3 Tryz.isAgg3 rfl rfl rfl) ?_
                                refine AOps.go rfl rfl rfl h147 (o_bin _ _ rfl rfl (fun _ => rfl) rfl) ?_
                                refine AOps.call (o_pickF _ _ _ rfl h147 rfl rfl) ?_
                                refine AOps.call (o_move _ rfl rfl) ?_
                                refine AOps.split rfl rfl rfl (fun h154 => ?_) (fun h154 => ?_)
                                · skip
                                  have hb2 := of_decide_eq_false h154
                                  have hB := between_true p w l hw1 hl1 n.toNat x h0 ha (by omega) (by simp only [Sp.Has]; omega)
                                  rw [Int.toNat_of_nonneg hn.1] at hB
                                  refine AOps.go rfl rfl rfl h154 (o_loadRef _ rfl rfl Tryz.sizeOf24 Tryz.isAgg24 rfl rfl rfl) ?_
                                  refine AOps.go rfl rfl rfl h154 (o_move _ rfl rfl) ?_
                                  refine AOps.go rfl rfl rfl h154 (o_move _ rfl rfl) ?_
                                  refine AOps.go rfl rfl rfl h154 (o_move _ rfl rfl) ?_
                                  refine AOps.go rfl rfl rfl h154 (o_move _ rfl rfl) ?_
                                  refine AOps.go rfl rfl rfl h154 (o_call (hB) Tryz.call54 rfl rfl) ?_
                                  refine AOps.call (o_pickF _ _ _ rfl h154 rfl rfl) ?_
                                  refine AOps.call (o_assign _ rfl rfl) ?_
                                  refine AOps.nil ?_
                                  refine AWP.ret ?_
                                  first
                                  | exact postQ.ret1 Tryz.results10 rfl rfl
                                  | (refine postQ.ret1 Tryz.results10 rfl ?_; simp [AV.close, AV.close.closeL, B, I]; done)
                                  | (refine postQ.ret1 Tryz.results10 rfl ?_; simp [AV.close, AV.close.closeL, B, I]; omega)
                                  | (refine postQ.ret1 Tryz.results10 rfl ?_; simp_all [AV.close, AV.close.closeL, B, I]; done)
                                  | (refine postQ.ret1 Tryz.results10 rfl ?_; simp_all [AV.close, AV.close.closeL, B, I]; omega)
                                · skip
                                  refine AOps.pass rfl rfl rfl h154 rfl ?_
                                  refine AOps.pass rfl rfl rfl h154 rfl ?_
                                  refine AOps.pass rfl rfl rfl h154 rfl ?_
                                  refine AOps.pass rfl rfl rfl h154 rfl ?_
                                  refine AOps.pass rfl rfl rfl h154 rfl ?_
                                  refine AOps.pass rfl rfl rfl h154 rfl ?_
                                  refine AOps.call (o_pickT _ _ _ rfl h154 rfl rfl) ?_
                                  refine AOps.call (o_assign _ rfl rfl) ?_
                                  refine AOps.nil ?_
                                  refine AWP.ret ?_
                                  first
                                  | exact postQ.ret1 Tryz.results10 rfl rfl
                                  | (refine postQ.ret1 Tryz.results10 rfl ?_; simp [AV.close, AV.close.closeL, B, I]; done)
                                  | (refine postQ.ret1 Tryz.results10 rfl ?_; simp [AV.close, AV.close.closeL, B, I]; omega)
                                  | (refine postQ.ret1 Tryz.results10 rfl ?_; simp_all [AV.close, AV.close.closeL, B, I]; done)
                                  | (refine postQ.ret1 Tryz.results10 rfl ?_; simp_all [AV.close, AV.close.closeL, B, I]; omega)
                              · skip
                                refine AOps.pass rfl rfl rfl h147 rfl ?_
                                refine AOps.pass rfl rfl rfl h147 rfl ?_
                                refine AOps.pass rfl rfl rfl h147 rfl ?_
                                refine AOps.pass rfl rfl rfl h147 rfl ?_
                                refine AOps.pass rfl rfl rfl h147 rfl ?_
                                refine AOps.pass rfl rfl rfl h147 rfl ?_
                                refine AOps.pass rfl rfl rfl h147 rfl ?_
                                refine AOps.call (o_pickT _ _ _ rfl h147 rfl rfl) ?_
                                refine AOps.call (o_move _ rfl rfl) ?_
                                refine AOps.pass rfl rfl rfl rfl rfl ?_
                                refine AOps.pass rfl rfl rfl rfl rfl ?_
                                refine AOps.pass rfl rfl rfl rfl rfl ?_
                                refine AOps.pass rfl rfl rfl rfl rfl ?_
                                refine AOps.pass rfl rfl rfl rfl rfl ?_
                                refine AOps.pass rfl rfl rfl rfl rfl ?_
                                refine AOps.call (o_pickT _ _ _ rfl rfl rfl rfl) ?_
                                refine AOps.call (o_assign _ rfl rfl) ?_
                                refine AOps.nil ?_
                                refine AWP.ret ?_
                                first
                                | exact postQ.ret1 Tryz.results10 rfl rfl
                                | (refine postQ.ret1 Tryz.results10 rfl ?_; simp [AV.close, AV.close.closeL, B, I]; done)
                                | (refine postQ.ret1 Tryz.results10 rfl ?_; simp [AV.close, AV.close.closeL, B, I]; omega)
                                | (refine postQ.ret1 Tryz.results10 rfl ?_; simp_all [AV.close, AV.close.closeL, B, I]; done)
                                | (refine postQ.ret1 Tryz.results10 rfl ?_; simp_all [AV.close, AV.close.closeL, B, I]; omega)
                        · skip
                          exfalso
                          exact absurd h79 (by decide)
                    · skip
                      exfalso
                      simp [endV] at h64
                  · skip
                    exfalso
                    simp at h55
                    omega
                · skip
                  exfalso
                  simp at h50
                  omega
              · skip
                exfalso
                exact absurd h45 (by decide)
            · skip
              exfalso
              exact absurd h43 (by decide)
      · skip
        refine AOps.pass rfl rfl rfl h15 rfl ?_
        refine AOps.pass rfl rfl rfl h15 rfl ?_
        refine AOps.pass rfl rfl rfl h15 rfl ?_
        refine AOps.pass rfl rfl rfl h15 rfl ?_
        refine AOps.call (o_pickT _ _ _ rfl h15 rfl rfl) ?_
        refine AOps.nil ?_
        refine AWP.condT rfl ?_
        refine AWP.seq ?_
        refine AWP.region ?_
        refine AOps.call (o_move _ rfl rfl) ?_
        refine AOps.call (o_bin _ _ rfl rfl (fun _ => rfl) rfl) ?_
        refine AOps.call (o_move _ rfl rfl) ?_
        refine AOps.split rfl rfl rfl (fun h162 => ?_) (fun h162 => ?_)
        · skip
          exfalso
          exact absurd h162 (by decide)
        · skip
          refine AOps.pass rfl rfl rfl h162 rfl ?_
          refine AOps.pass rfl rfl rfl h162 rfl ?_
          refine AOps.pass rfl rfl rfl h162 rfl ?_
          refine AOps.call (o_pickT _ _ _ rfl h162 rfl rfl) ?_
          refine AOps.call (o_assign _ rfl rfl) ?_
          refine AOps.nil ?_
          refine AWP.ret ?_
          first
          | exact postQ.ret1 Tryz.results10 rfl rfl
          | (refine postQ.ret1 Tryz.results10 rfl ?_; simp [AV.close, AV.close.closeL, B, I]; done)
          | (refine postQ.ret1 Tryz.results10 rfl ?_; simp [AV.close, AV.close.closeL, B, I]; omega)
          | (refine postQ.ret1 Tryz.results10 rfl ?_; simp_all [AV.close, AV.close.closeL, B, I]; done)
          | (refine postQ.ret1 Tryz.results10 rfl ?_; simp_all [AV.close, AV.close.closeL, B, I]; omega)
    · skip
      exfalso
      exact absurd h12 (by decide)
theorem PillowEnds_s (p : Plw) (w : List Sp) (l y : List Int) (n x : Int) (hw1 : w.length ≤ 9223372036854775807) (hl1 : l.length ≤ 9223372036854775807) (hy1 : y.length ≤ 9223372036854775807) : FSpecG Tryz.prog TAB 10 [.agg (eP p), .sl (sps w), .sl (ints l), .sl (ints y), I n, I x] (B true) none := by
  by_cases h : ldE p w l (rcE p w l) = 0
  · unfold ldE at h
    split at h
    · omega
    · rename_i h2
      exact PillowEnds_b p w l y n x hw1 hl1 hy1 h (by by_cases ha : aliveP p w l; exact ha; exact absurd ⟨h, ha⟩ h2)
  · exact PillowEnds_a p w l y n x hw1 hl1 hy1 h
end Go.Proofs.YtelenedgaoglaaaGreatDoor
