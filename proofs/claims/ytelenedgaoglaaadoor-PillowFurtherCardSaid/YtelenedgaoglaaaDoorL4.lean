/- L4. -/
import Derived.Test.YtelenedgaoglaaaDoorR28
import Derived.Test.YtelenedgaoglaaaDoorX1
import Derived.Test.YtelenedgaoglaaaDoorAdB
set_option linter.unusedSimpArgs false
set_option linter.unusedVariables false
namespace Go.Proofs.YtelenedgaoglaaaDoor
open Go.Ab
open Go.Pil Go.RowKit

theorem addE_0 {p : Plw} {s : Shw} (h : addE p s = 0) : okP p = true ∧ okP (addP p s) = true := by
  unfold addE at h
  split at h
  · omega
  · split at h
    · omega
    · split at h
      · omega
      · rename_i h1 _ h2; exact ⟨by simpa using h1, by simpa using h2⟩
theorem add_at {p : Plw} {s : Shw} {i : Nat} (h : i < p.log.length) : (addP p s).at i = p.at i := by
  unfold Plw.at
  show ((p.log ++ [s]).getD i ⟨0, 0⟩).weight = _
  rw [List.getD_eq_getElem?_getD, List.getElem?_append_left h, List.getD_eq_getElem?_getD]
theorem add_allow {p : Plw} {s : Shw} {i : Nat} (h : i < p.log.length) (st : Int) : (addP p s).allow i st = p.allow i st := by
  unfold Plw.allow; rw [add_at h]; rfl
theorem add_shift {p : Plw} {s : Shw} {i : Nat} (h : i + 1 < p.log.length) : (addP p s).shift i = p.shift i := by
  unfold Plw.shift; rw [add_at h, add_at (show i < p.log.length by omega)]; rfl
theorem add_w {w : List Sp} {x : Sp} {i : Nat} (h : i < w.length) : (w ++ [x]).getD i ⟨0, 0⟩ = w.getD i ⟨0, 0⟩ := by
  rw [List.getD_eq_getElem?_getD, List.getElem?_append_left h, List.getD_eq_getElem?_getD]
theorem getD_take' {c : List Int} {n i : Nat} (h : i < n) : (c.take n).getD i 0 = c.getD i 0 := by
  simp only [List.getD_eq_getElem?_getD, List.getElem?_take, if_pos h]
theorem further_case {p : Plw} {w : List Sp} {s : Shw} {x : Sp} {c : List Int} (hw : w.length = p.log.length - 1) (hr : Rem ((addP p s).pb (w ++ [x])) (p.log.length + 1) c) : Rem (p.pb w) p.log.length (c.take p.log.length) := by
  obtain ⟨h1, h2, h3⟩ := rem_init _ hr
  refine ⟨h1, (rt_congr (p.pb w) (q' := (addP p s).pb (w ++ [x])) (fun i hi => ?_) rfl).2 h2, (al_congr (fun i hi => ?_) fun i hi => ?_).1 h3⟩
  · rw [h1] at hi; exact (add_shift hi).symm
  · exact add_allow hi _
  · exact add_w (by omega)
theorem further_in {p : Plw} {w : List Sp} {s : Shw} {x : Sp} {c : List Int} (hw : w.length = p.log.length - 1) (hc : c.length = p.log.length + 1) {k : Nat} (hk : k < p.log.length) : (endP (addP p s) (w ++ [x]) c k).In (endP p w (c.take p.log.length) k) := by
  unfold endP
  rw [hc]
  have h1 : (En (((addP p s).pb (w ++ [x])).a c) ((addP p s).pb (w ++ [x])).w (p.log.length + 1) k).In (En (((addP p s).pb (w ++ [x])).a c) ((addP p s).pb (w ++ [x])).w p.log.length k) := En_more hk
  have h2 : (c.take p.log.length).length = p.log.length := by rw [List.length_take]; omega
  rw [h2]
  have e : En (((addP p s).pb (w ++ [x])).a c) ((addP p s).pb (w ++ [x])).w p.log.length k = En ((p.pb w).a (c.take p.log.length)) (p.pb w).w p.log.length k := by
    refine En_congr (fun i hi => ?_) (fun i hi => ?_) hk
    · show (addP p s).allow i (c.getD i 0) = p.allow i ((c.take p.log.length).getD i 0)
      rw [add_allow hi, getD_take' hi]
    · exact add_w (by omega)
  rw [← e]; exact h1
theorem okW_less {p : Plw} {w : List Sp} {s : Shw} {x : Sp} (hw : w.length = p.log.length - 1) (h : okW (addP p s) (w ++ [x]) = true) : okW p w = true := by
  obtain ⟨_, h2⟩ := okW_all h
  simp only [okW, Bool.and_eq_true, decide_eq_true_eq, List.all_eq_true, spB]
  exact ⟨hw, fun t ht => by have := h2 t (List.mem_append_left _ ht); exact ⟨⟨this.1, this.2.1⟩, this.2.2⟩⟩
theorem loads_fine {p : Plw} {w : List Sp} {l : List Int} (hw1 : w.length ≤ 9223372036854775807) (hl1 : l.length ≤ 9223372036854775807) (h0 : rcE p w l = 0) (ha : aliveP p w l) : FSpec Tryd.prog 17 [.agg (eP p), .sl (sps w), .sl (ints l)] (.tup [.sl (sps (endsP p w l)), I 0]) none := by
  have h := Loads_s p w l hw1 hl1
  have e1 : ldL p w l (rcE p w l) = endsP p w l := if_pos ⟨h0, ha⟩
  have e2 : ldE p w l (rcE p w l) = 0 := (if_neg (fun h => h.2 ha)).trans h0
  rw [e1, e2] at h; exact h
theorem ends_len (p w l) : (endsP p w l).length = l.length := by simp [endsP]
theorem ends_get {p : Plw} {w : List Sp} {l : List Int} {k : Nat} (h : k < (endsP p w l).length) : (endsP p w l)[k] = endP p w l k := by simp [endsP]

set_option maxHeartbeats 4000000 in
set_option maxRecDepth 20000 in
theorem PillowFurther_a (p : Plw) (w : List Sp) (s : Shw) (x : Sp) (hw1 : w.length ≤ 9223372036854775807) (hne : addE p s ≠ 0) : FSpecG Tryd.prog TAB 5 [.agg (eP p), .sl (sps w), .agg (eW s), .agg (eN x)] (B true) (none) := by
  refine FSpecG.of_body tab_stable Tryd.func5 rfl (leB rfl) fun w0 M0 hG => ?_
  have hAd := Add_s p s
  rw [show addA p s = zP from if_neg hne] at hAd
  have hll := shws_len p.log
  have hsl := sps_len w
  refine AWP.seq ?_
  refine AWP.region ?_
  refine AOps.call (o_box _ rfl rfl rfl) ?_
  refine AOps.call (o_box _ rfl rfl rfl) ?_
  refine AOps.call (o_box _ rfl rfl rfl) ?_
  refine AOps.call (o_assign _ rfl rfl) ?_
  refine AOps.nil ?_
  refine AWP.seq ?_
  refine AWP.seq ?_
  refine AWP.region ?_
  refine AOps.call (o_callG (sane_s) hG Tryd.call8 rfl rfl) ?_
  refine AOps.call (o_un _ rfl (fun _ => rfl) rfl) ?_
  refine AOps.nil ?_
  refine AWP.cond _ rfl (fun h6 => ?_) (fun h6 => ?_)
  · skip
    exfalso
    simp at h6
  · skip
    refine AWP.skip ?_
    refine AWP.seq ?_
    refine AWP.seq ?_
    refine AWP.region ?_
    refine AOps.call (o_fieldRef _ rfl fa24_6 rfl rfl) ?_
    refine AOps.call (o_loadRef _ rfl rfl Tryd.sizeOf22 Tryd.isAgg22 rfl rfl rfl) ?_
    refine AOps.call (o_len _ Tryd.underlying22 rfl rfl) ?_
    refine AOps.call (o_bin _ _ rfl rfl (fun _ => rfl) rfl) ?_
    refine AOps.call (o_move _ rfl rfl) ?_
    refine AOps.split rfl rfl rfl (fun h11 => ?_) (fun h11 => ?_)
    · skip
      refine AOps.go rfl rfl rfl h11 (o_fieldRef _ rfl fa24_6 rfl rfl) ?_
      refine AOps.go rfl rfl rfl h11 (o_loadRef _ rfl rfl Tryd.sizeOf22 Tryd.isAgg22 rfl rfl rfl) ?_
      refine AOps.go rfl rfl rfl h11 (o_len _ Tryd.underlying22 rfl rfl) ?_
      refine AOps.go rfl rfl rfl h11 (o_bin _ _ rfl rfl (fun _ => rfl) rfl) ?_
      refine AOps.call (o_pickF _ _ _ rfl h11 rfl rfl) ?_
      refine AOps.nil ?_
      refine AWP.cond _ rfl (fun h16 => ?_) (fun h16 => ?_)
      · skip
        refine AWP.seq ?_
        refine AWP.region ?_
        refine AOps.call (o_assign _ rfl rfl) ?_
        refine AOps.nil ?_
        refine AWP.ret ?_
        first
        | exact postQ.ret1 Tryd.results5 rfl rfl
        | (refine postQ.ret1 Tryd.results5 rfl ?_; simp [AV.close, AV.close.closeL, B, I]; done)
        | (refine postQ.ret1 Tryd.results5 rfl ?_; simp [AV.close, AV.close.closeL, B, I]; omega)
        | (refine postQ.ret1 Tryd.results5 rfl ?_; simp_all [AV.close, AV.close.closeL, B, I]; done)
        | (refine postQ.ret1 Tryd.results5 rfl ?_; simp_all [AV.close, AV.close.closeL, B, I]; omega)
      · skip
        refine AWP.skip ?_
        refine AWP.seq ?_
        refine AWP.region ?_
        refine AOps.call (o_loadRef _ rfl rfl Tryd.sizeOf24 Tryd.isAgg24 rfl rfl rfl) ?_
        refine AOps.call (o_loadRef _ rfl rfl Tryd.sizeOf43 Tryd.isAgg43 rfl rfl rfl) ?_
        refine AOps.call (o_call (hAd) Tryd.call16 rfl rfl) ?_
        refine AOps.call (o_move _ rfl rfl) ?_
        refine AOps.call (o_extract _ rfl rfl rfl rfl) ?_
        refine AOps.call (o_extract _ rfl rfl rfl rfl) ?_
        refine AOps.call (o_alloc ze24 rfl rfl) ?_
        refine AOps.cons (o_store _ _ rfl rfl Tryd.sizeOf24 rfl rfl rfl rfl rfl) ?_
        refine AOps.call (o_assign _ rfl rfl) ?_
        refine AOps.nil ?_
        refine AWP.seq ?_
        refine AWP.seq ?_
        refine AWP.region ?_
        refine AOps.call (o_move _ rfl rfl) ?_
        refine AOps.call (o_bin _ _ rfl rfl (fun _ => rfl) rfl) ?_
        refine AOps.call (o_move _ rfl rfl) ?_
        refine AOps.split rfl rfl rfl (fun h24 => ?_) (fun h24 => ?_)
        · skip
          exfalso
          simp at h24
          exact hne h24
        · skip
          refine AOps.pass rfl rfl rfl h24 rfl ?_
          refine AOps.pass rfl rfl rfl h24 rfl ?_
          refine AOps.pass rfl rfl rfl h24 rfl ?_
          refine AOps.pass rfl rfl rfl h24 rfl ?_
          refine AOps.pass rfl rfl rfl h24 rfl ?_
          refine AOps.pass rfl rfl rfl h24 rfl ?_
          refine AOps.pass rfl rfl rfl h24 rfl ?_
          refine AOps.call (o_pickT _ _ _ rfl h24 rfl rfl) ?_
          refine AOps.nil ?_
          refine AWP.condT rfl ?_
          refine AWP.seq ?_
          refine AWP.region ?_
          refine AOps.call (o_assign _ rfl rfl) ?_
          refine AOps.nil ?_
          refine AWP.ret ?_
          first
          | exact postQ.ret1 Tryd.results5 rfl rfl
          | (refine postQ.ret1 Tryd.results5 rfl ?_; simp [AV.close, AV.close.closeL, B, I]; done)
          | (refine postQ.ret1 Tryd.results5 rfl ?_; simp [AV.close, AV.close.closeL, B, I]; omega)
          | (refine postQ.ret1 Tryd.results5 rfl ?_; simp_all [AV.close, AV.close.closeL, B, I]; done)
          | (refine postQ.ret1 Tryd.results5 rfl ?_; simp_all [AV.close, AV.close.closeL, B, I]; omega)
    · skip
      refine AOps.pass rfl rfl rfl h11 rfl ?_
      refine AOps.pass rfl rfl rfl h11 rfl ?_
      refine AOps.pass rfl rfl rfl h11 rfl ?_
      refine AOps.pass rfl rfl rfl h11 rfl ?_
      refine AOps.call (o_pickT _ _ _ rfl h11 rfl rfl) ?_
      refine AOps.nil ?_
      refine AWP.condT rfl ?_
      refine AWP.seq ?_
      refine AWP.region ?_
      refine AOps.call (o_assign _ rfl rfl) ?_
      refine AOps.nil ?_
      refine AWP.ret ?_
      first
      | exact postQ.ret1 Tryd.results5 rfl rfl
      | (refine postQ.ret1 Tryd.results5 rfl ?_; simp [AV.close, AV.close.closeL, B, I]; done)
      | (refine postQ.ret1 Tryd.results5 rfl ?_; simp [AV.close, AV.close.closeL, B, I]; omega)
      | (refine postQ.ret1 Tryd.results5 rfl ?_; simp_all [AV.close, AV.close.closeL, B, I]; done)
      | (refine postQ.ret1 Tryd.results5 rfl ?_; simp_all [AV.close, AV.close.closeL, B, I]; omega)

set_option maxHeartbeats 4000000 in
set_option maxRecDepth 20000 in
theorem PillowFurther_b (p : Plw) (w : List Sp) (s : Shw) (x : Sp) (hw1 : w.length ≤ 9223372036854775807) (h0 : addE p s = 0) (hwn : w ≠ []) : FSpecG Tryd.prog TAB 5 [.agg (eP p), .sl (sps w), .agg (eW s), .agg (eN x)] (B true) (none) := by
  refine FSpecG.of_body tab_stable Tryd.func5 rfl (leB rfl) fun w0 M0 hG => ?_
  have hAd := Add_s p s
  rw [show addA p s = eP (addP p s) from if_pos h0, h0] at hAd
  obtain ⟨ok1, ok2⟩ := addE_0 h0
  have h32 := (okP_iff.1 ok1).len
  have hll := shws_len p.log
  have hsl := sps_len w
  have hgl := css_len (CasL (addP p s) (w ++ [x]))
  have hql : (addP p s).log.length = p.log.length + 1 := by simp [addP]
  refine AWP.seq ?_
  refine AWP.region ?_
  refine AOps.call (o_box _ rfl rfl rfl) ?_
  refine AOps.call (o_box _ rfl rfl rfl) ?_
  refine AOps.call (o_box _ rfl rfl rfl) ?_
  refine AOps.call (o_assign _ rfl rfl) ?_
  refine AOps.nil ?_
  refine AWP.seq ?_
  refine AWP.seq ?_
  refine AWP.region ?_
  refine AOps.call (o_callG (sane_s) hG Tryd.call8 rfl rfl) ?_
  refine AOps.call (o_un _ rfl (fun _ => rfl) rfl) ?_
  refine AOps.nil ?_
  refine AWP.cond _ rfl (fun h6 => ?_) (fun h6 => ?_)
  · skip
    exfalso
    simp at h6
  · skip
    refine AWP.skip ?_
    refine AWP.seq ?_
    refine AWP.seq ?_
    refine AWP.region ?_
    refine AOps.call (o_fieldRef _ rfl fa24_6 rfl rfl) ?_
    refine AOps.call (o_loadRef _ rfl rfl Tryd.sizeOf22 Tryd.isAgg22 rfl rfl rfl) ?_
    refine AOps.call (o_len _ Tryd.underlying22 rfl rfl) ?_
    refine AOps.call (o_bin _ _ rfl rfl (fun _ => rfl) rfl) ?_
    refine AOps.call (o_move _ rfl rfl) ?_
    refine AOps.split rfl rfl rfl (fun h11 => ?_) (fun h11 => ?_)
    · skip
      refine AOps.go rfl rfl rfl h11 (o_fieldRef _ rfl fa24_6 rfl rfl) ?_
      refine AOps.go rfl rfl rfl h11 (o_loadRef _ rfl rfl Tryd.sizeOf22 Tryd.isAgg22 rfl rfl rfl) ?_
      refine AOps.go rfl rfl rfl h11 (o_len _ Tryd.underlying22 rfl rfl) ?_
      refine AOps.go rfl rfl rfl h11 (o_bin _ _ rfl rfl (fun _ => rfl) rfl) ?_
      refine AOps.call (o_pickF _ _ _ rfl h11 rfl rfl) ?_
      refine AOps.nil ?_
      refine AWP.cond _ rfl (fun h16 => ?_) (fun h16 => ?_)
      · skip
        refine AWP.seq ?_
        refine AWP.region ?_
        refine AOps.call (o_assign _ rfl rfl) ?_
        refine AOps.nil ?_
        refine AWP.ret ?_
        first
        | exact postQ.ret1 Tryd.results5 rfl rfl
        | (refine postQ.ret1 Tryd.results5 rfl ?_; simp [AV.close, AV.close.closeL, B, I]; done)
        | (refine postQ.ret1 Tryd.results5 rfl ?_; simp [AV.close, AV.close.closeL, B, I]; omega)
        | (refine postQ.ret1 Tryd.results5 rfl ?_; simp_all [AV.close, AV.close.closeL, B, I]; done)
        | (refine postQ.ret1 Tryd.results5 rfl ?_; simp_all [AV.close, AV.close.closeL, B, I]; omega)
      · skip
        refine AWP.skip ?_
        refine AWP.seq ?_
        refine AWP.region ?_
        refine AOps.call (o_loadRef _ rfl rfl Tryd.sizeOf24 Tryd.isAgg24 rfl rfl rfl) ?_
        refine AOps.call (o_loadRef _ rfl rfl Tryd.sizeOf43 Tryd.isAgg43 rfl rfl rfl) ?_
        refine AOps.call (o_call (hAd) Tryd.call16 rfl rfl) ?_
        refine AOps.call (o_move _ rfl rfl) ?_
        refine AOps.call (o_extract _ rfl rfl rfl rfl) ?_
        refine AOps.call (o_extract _ rfl rfl rfl rfl) ?_
        refine AOps.call (o_alloc ze24 rfl rfl) ?_
        refine AOps.cons (o_store _ _ rfl rfl Tryd.sizeOf24 rfl rfl rfl rfl rfl) ?_
        refine AOps.call (o_assign _ rfl rfl) ?_
        refine AOps.nil ?_
        refine AWP.seq ?_
        refine AWP.seq ?_
        refine AWP.region ?_
        refine AOps.call (o_move _ rfl rfl) ?_
        refine AOps.call (o_bin _ _ rfl rfl (fun _ => rfl) rfl) ?_
        refine AOps.call (o_move _ rfl rfl) ?_
        refine AOps.split rfl rfl rfl (fun h24 => ?_) (fun h24 => ?_)
        · skip
          refine AOps.go rfl rfl rfl h24 (o_move _ rfl rfl) ?_
          refine AOps.go rfl rfl rfl h24 (o_len _ Tryd.underlying25 rfl rfl) ?_
          refine AOps.go rfl rfl rfl h24 (o_fieldRef _ rfl fa24_6 rfl rfl) ?_
          refine AOps.go rfl rfl rfl h24 (o_loadRef _ rfl rfl Tryd.sizeOf22 Tryd.isAgg22 rfl rfl rfl) ?_
          refine AOps.go rfl rfl rfl h24 (o_len _ Tryd.underlying22 rfl rfl) ?_
          refine AOps.go rfl rfl rfl h24 (o_sub _ _ rfl rfl ⟨by (try dsimp only); omega, by (try dsimp only); omega⟩ rfl) ?_
          refine AOps.go rfl rfl rfl h24 (o_bin _ _ rfl rfl (fun _ => rfl) rfl) ?_
          refine AOps.call (o_pickF _ _ _ rfl h24 rfl rfl) ?_
          refine AOps.nil ?_
          refine AWP.cond _ rfl (fun h32 => ?_) (fun h32 => ?_)
          · skip
            refine AWP.seq ?_
            refine AWP.region ?_
            refine AOps.call (o_assign _ rfl rfl) ?_
            refine AOps.nil ?_
            refine AWP.ret ?_
            first
            | exact postQ.ret1 Tryd.results5 rfl rfl
            | (refine postQ.ret1 Tryd.results5 rfl ?_; simp [AV.close, AV.close.closeL, B, I]; done)
            | (refine postQ.ret1 Tryd.results5 rfl ?_; simp [AV.close, AV.close.closeL, B, I]; omega)
            | (refine postQ.ret1 Tryd.results5 rfl ?_; simp_all [AV.close, AV.close.closeL, B, I]; done)
            | (refine postQ.ret1 Tryd.results5 rfl ?_; simp_all [AV.close, AV.close.closeL, B, I]; omega)
          · skip
            have hwl : w.length = p.log.length - 1 := by
              have h1 := h32
              simp at h1
              omega
            refine AWP.skip ?_
            refine AWP.seq ?_
            refine AWP.drawn 5 mixed (by kernel_rfl) ?_
            refine AHead.call (o_lit0 Tryd.underlying25 Tryd.sizeOf45 Tryd.zeroValue45 rfl) rfl ?_
            refine AHead.call (o_move _ rfl rfl) rfl ?_
            refine AHead.call (o_appendNew _ _ Tryd.underlying25 info45 rfl rfl rfl rfl rfl rfl rfl sps_z (by rw [hsl]; unfold Tryd.t45; simp only []; omega) rfl (by rw [hsl]; exact List.length_pos_iff.2 hwn) rfl) rfl ?_
            refine AHead.call (o_loadRef _ rfl rfl Tryd.sizeOf45 Tryd.isAgg45 rfl rfl rfl) rfl ?_
            refine AHead.call (o_lit Tryd.underlying25 Tryd.sizeOf45 Tryd.zeroValue45 rfl rfl rfl rfl rfl rfl rfl) rfl ?_
            refine AHead.nil ?_
            refine AOps.cons (o_append _ _ Tryd.underlying25 info45 rfl rfl rfl rfl rfl rfl rfl rfl (fun c hc => by simp at hc; subst hc; rfl) sps_z (by rw [hsl]; unfold Tryd.t45; simp only [List.length_cons, List.length_nil]; omega) rfl (show sps w ++ [[I x.lo, I x.hi]] = sps (w ++ [x]) by simp [sps, eN]) rfl) ?_
            refine AOps.weak (Weak.mk' (n := 155) (tm := [(1, .sl (sps w)), (4, .ref (4, 0) 0), (9, .ref (9, 0) 0), (55, .sl (sps (w ++ [x])))]) (va := [((4, 0), eP p), ((9, 0), eP (addP p s))]) (gr := []) (gen := [(4, 1), (9, 1)]) rfl ⟨⟨.refl rfl, rfl⟩, ⟨⟨.refl rfl, rfl⟩, ⟨⟨.refl rfl, rfl⟩, ⟨⟨.sl rfl, rfl⟩, trivial⟩⟩⟩⟩ ⟨⟨rfl, rfl, rfl⟩, ⟨⟨rfl, rfl, rfl⟩, trivial⟩⟩ trivial) ?_
            refine AOps.call (o_assign _ rfl rfl) ?_
            refine AOps.nil ?_
            refine AWP.seq ?_
            refine AWP.region ?_
            refine AOps.call (o_loadRef _ rfl rfl Tryd.sizeOf24 Tryd.isAgg24 rfl rfl rfl) ?_
            refine AOps.call (o_move _ rfl rfl) ?_
            refine AOps.call (o_call (Cases_s (addP p s) (w ++ [x]) (by simp; try omega)) Tryd.call12 rfl rfl) ?_
            refine AOps.call (o_move _ rfl rfl) ?_
            refine AOps.call (o_extract _ rfl rfl rfl rfl) ?_
            refine AOps.call (o_extract _ rfl rfl rfl rfl) ?_
            refine AOps.call (o_assign _ rfl rfl) ?_
            refine AOps.call (o_assign _ rfl rfl) ?_
            refine AOps.nil ?_
            refine AWP.seq ?_
            refine AWP.seq ?_
            refine AWP.region ?_
            refine AOps.call (o_move _ rfl rfl) ?_
            refine AOps.call (o_bin _ _ rfl rfl (fun _ => rfl) rfl) ?_
            refine AOps.nil ?_
            refine AWP.cond _ rfl (fun h44 => ?_) (fun h44 => ?_)
            · skip
              have hne : CasE (addP p s) (w ++ [x]) ≠ 0 := by simpa using h44
              rw [CasE_ne hne]
              refine AWP.seq ?_
              refine AWP.region ?_
              refine AOps.call (o_move _ rfl rfl) ?_
              refine AOps.call (o_len _ Tryd.underlying36 rfl rfl) ?_
              refine AOps.call (o_bin _ _ rfl rfl (fun _ => rfl) rfl) ?_
              refine AOps.call (o_assign _ rfl rfl) ?_
              refine AOps.nil ?_
              refine AWP.ret ?_
              first
              | exact postQ.ret1 Tryd.results5 rfl rfl
              | (refine postQ.ret1 Tryd.results5 rfl ?_; simp [AV.close, AV.close.closeL, B, I]; done)
              | (refine postQ.ret1 Tryd.results5 rfl ?_; simp [AV.close, AV.close.closeL, B, I]; omega)
              | (refine postQ.ret1 Tryd.results5 rfl ?_; simp_all [AV.close, AV.close.closeL, B, I]; done)
              | (refine postQ.ret1 Tryd.results5 rfl ?_; simp_all [AV.close, AV.close.closeL, B, I]; omega)
            · skip
              have hz : CasE (addP p s) (w ++ [x]) = 0 := by simpa using h44
              obtain ⟨g1, g2, g3, g4⟩ := CasE_0 hz
              have hokw : okW p w = true := okW_less hwl g2
              refine AWP.skip ?_
              refine AWP.seq ?_
              refine AWP.seq ?_
              refine AWP.region ?_
              refine AOps.call (o_assign _ rfl rfl) ?_
              refine AOps.nil ?_
              refine AWP.block ?_
              refine AWP.loop (ι := Nat) (fun i => AS.mk' 155 [(1, .sl (sps w)), (4, .ref (4, 0) 0), (9, .ref (9, 0) 0), (11, .sl (sps (w ++ [x]))), (12, .sl (css (CasL (addP p s) (w ++ [x])))), (14, I i)] [((4, 0), eP p), ((9, 0), eP (addP p s))] [] [(4, 1), (9, 1)]) (fun i => i ≤ (CasL (addP p s) (w ++ [x])).length) (fun i => (CasL (addP p s) (w ++ [x])).length - i) (0) (Weak.mk' rfl ⟨⟨.refl rfl, rfl⟩, ⟨⟨.refl rfl, rfl⟩, ⟨⟨.refl rfl, rfl⟩, ⟨⟨.refl rfl, rfl⟩, ⟨⟨.refl rfl, rfl⟩, ⟨⟨.refl rfl, rfl⟩, trivial⟩⟩⟩⟩⟩⟩ ⟨⟨rfl, rfl, rfl⟩, ⟨⟨rfl, rfl, rfl⟩, trivial⟩⟩ trivial) (Nat.zero_le _) ?_
              rintro k hk
              try dsimp only at *
              refine AWP.seq ?_
              refine AWP.seq ?_
              refine AWP.region ?_
              refine AOps.call (o_move _ rfl rfl) ?_
              refine AOps.call (o_move _ rfl rfl) ?_
              refine AOps.call (o_len _ Tryd.underlying36 rfl rfl) ?_
              refine AOps.call (o_bin _ _ rfl rfl (fun _ => rfl) rfl) ?_
              refine AOps.nil ?_
              refine AWP.cond _ rfl (fun h50 => ?_) (fun h50 => ?_)
              · skip
                have hlt : k < (CasL (addP p s) (w ++ [x])).length := by have hq := of_decide_eq_true h50; omega
                have hel := css_at hlt
                have hm := (mem_cases hz).1 (List.getElem_mem hlt)
                have hrc := rcE_0.1 hm.1
                have hcl : (CasL (addP p s) (w ++ [x]))[k].length = p.log.length + 1 := hrc.2.2.1.trans hql
                have hrem : Rem ((addP p s).pb (w ++ [x])) (p.log.length + 1) (CasL (addP p s) (w ++ [x]))[k] := ⟨hcl, hrc.2.2.2, by have := hm.2; unfold aliveP at this; rw [hcl] at this; exact this⟩
                have hrm := further_case (w := w) hwl hrem
                have hil := ints_len (CasL (addP p s) (w ++ [x]))[k]
                have htl : ((CasL (addP p s) (w ++ [x]))[k].take p.log.length).length = p.log.length := hrm.1
                have hLa := loads_fine (by simp; try omega) (by omega) hm.1 hm.2
                have hLb := loads_fine (w := w) (by first | exact hw1 | simp) (show ((CasL (addP p s) (w ++ [x]))[k].take p.log.length).length ≤ 9223372036854775807 by omega) (rcE_0.2 ⟨ok1, hokw, htl, hrm.2.1⟩) (alive_of hrm)
                have hla := ends_len (addP p s) (w ++ [x]) (CasL (addP p s) (w ++ [x]))[k]
                have hlb := ends_len p w ((CasL (addP p s) (w ++ [x]))[k].take p.log.length)
                have hsa := sps_len (endsP (addP p s) (w ++ [x]) (CasL (addP p s) (w ++ [x]))[k])
                have hsb := sps_len (endsP p w ((CasL (addP p s) (w ++ [x]))[k].take p.log.length))
                have hts : ((ints (CasL (addP p s) (w ++ [x]))[k]).drop 0).take ((((shws p.log).length : Nat) : Int).toNat - 0) = ints ((CasL (addP p s) (w ++ [x]))[k].take p.log.length) := by rw [hll]; simp [ints, List.map_take]
                refine AWP.skip ?_
                refine AWP.seq ?_
                refine AWP.block ?_
                refine AWP.seq ?_
                refine AWP.region ?_
                refine AOps.call (o_move _ rfl rfl) ?_
                refine AOps.call (o_move _ rfl rfl) ?_
                refine AOps.call (o_index _ _ Tryd.underlying36 Tryd.sizeOf26 rfl rfl (by omega) hel rfl rfl) ?_
                refine AOps.call (o_loadRd _ rfl Tryd.sizeOf26 Tryd.isAgg26 rfl rfl rfl) ?_
                refine AOps.call (o_assign _ rfl rfl) ?_
                refine AOps.nil ?_
                refine AWP.seq ?_
                refine AWP.seq ?_
                refine AWP.region ?_
                refine AOps.call (o_move _ rfl rfl) ?_
                refine AOps.call (o_len _ Tryd.underlying26 rfl rfl) ?_
                refine AOps.call (o_fieldRef _ rfl fa24_6 rfl rfl) ?_
                refine AOps.call (o_loadRef _ rfl rfl Tryd.sizeOf22 Tryd.isAgg22 rfl rfl rfl) ?_
                refine AOps.call (o_len _ Tryd.underlying22 rfl rfl) ?_
                refine AOps.call (o_add _ _ rfl rfl ⟨by (try dsimp only); omega, by (try dsimp only); omega⟩ rfl) ?_
                refine AOps.call (o_bin _ _ rfl rfl (fun _ => rfl) rfl) ?_
                refine AOps.nil ?_
                refine AWP.cond _ rfl (fun h59 => ?_) (fun h59 => ?_)
                · skip
                  exfalso
                  simp at h59
                  omega
                · skip
                  refine AWP.skip ?_
                  refine AWP.seq ?_
                  refine AWP.region ?_
                  refine AOps.call (o_loadRef _ rfl rfl Tryd.sizeOf24 Tryd.isAgg24 rfl rfl rfl) ?_
                  refine AOps.call (o_move _ rfl rfl) ?_
                  refine AOps.call (o_move _ rfl rfl) ?_
                  refine AOps.call (o_call (hLa) Tryd.call17 rfl rfl) ?_
                  refine AOps.call (o_move _ rfl rfl) ?_
                  refine AOps.call (o_extract _ rfl rfl rfl rfl) ?_
                  refine AOps.call (o_extract _ rfl rfl rfl rfl) ?_
                  refine AOps.call (o_assign _ rfl rfl) ?_
                  refine AOps.call (o_assign _ rfl rfl) ?_
                  refine AOps.nil ?_
                  refine AWP.seq ?_
                  refine AWP.drawn 15 mixed (by kernel_rfl) ?_
                  refine AHead.call (o_loadRef _ rfl rfl Tryd.sizeOf24 Tryd.isAgg24 rfl rfl rfl) rfl ?_
                  refine AHead.call (o_move _ rfl rfl) rfl ?_
                  refine AHead.call (o_lit0 Tryd.underlying26 Tryd.sizeOf3 Tryd.zeroValue3 rfl) rfl ?_
                  refine AHead.call (o_move _ rfl rfl) rfl ?_
                  refine AHead.call (o_fieldRef _ rfl fa24_6 rfl rfl) rfl ?_
                  refine AHead.call (o_loadRef _ rfl rfl Tryd.sizeOf22 Tryd.isAgg22 rfl rfl rfl) rfl ?_
                  refine AHead.call (o_len _ Tryd.underlying22 rfl rfl) rfl ?_
                  refine AHead.call (o_sliceE (rs := ints ((CasL (addP p s) (w ++ [x]))[k].take p.log.length)) _ _ _ Tryd.underlying26 Tryd.sizeOf3 rfl rfl rfl (by omega) (by omega) ints_z hts rfl) rfl ?_
                  refine AHead.call (o_appendNil0 _ _ Tryd.underlying26 info3 rfl rfl rfl rfl rfl rfl rfl ints_z (by rw [ints_len, List.length_take]; unfold Tryd.t3; simp only []; omega) rfl rfl rfl) rfl ?_
                  refine AHead.call (o_call (hLb) Tryd.call17 rfl rfl) rfl ?_
                  refine AHead.call (o_move _ rfl rfl) rfl ?_
                  refine AHead.call (o_extract _ rfl rfl rfl rfl) rfl ?_
                  refine AHead.call (o_extract _ rfl rfl rfl rfl) rfl ?_
                  refine AHead.call (o_assign _ rfl rfl) rfl ?_
                  refine AHead.call (o_assign _ rfl rfl) rfl ?_
                  refine AHead.nil ?_
                  refine AOps.nil ?_
                  refine AWP.seq ?_
                  refine AWP.seq ?_
                  refine AWP.region ?_
                  refine AOps.call (o_move _ rfl rfl) ?_
                  refine AOps.call (o_bin _ _ rfl rfl (fun _ => rfl) rfl) ?_
                  refine AOps.call (o_move _ rfl rfl) ?_
                  refine AOps.split rfl rfl rfl (fun h76 => ?_) (fun h76 => ?_)
                  · skip
                    refine AOps.go rfl rfl rfl h76 (o_move _ rfl rfl) ?_
                    refine AOps.go rfl rfl rfl h76 (o_bin _ _ rfl rfl (fun _ => rfl) rfl) ?_
                    refine AOps.call (o_pickF _ _ _ rfl h76 rfl rfl) ?_
                    refine AOps.call (o_move _ rfl rfl) ?_
                    refine AOps.split rfl rfl rfl (fun h78 => ?_) (fun h78 => ?_)
                    · skip
                      refine AOps.go rfl rfl rfl h78 (o_move _ rfl rfl) ?_
                      refine AOps.go rfl rfl rfl h78 (o_len _ Tryd.underlying25 rfl rfl) ?_
                      refine AOps.go rfl rfl rfl h78 (o_move _ rfl rfl) ?_
                      refine AOps.go rfl rfl rfl h78 (o_len _ Tryd.underlying26 rfl rfl) ?_
                      refine AOps.go rfl rfl rfl h78 (o_bin _ _ rfl rfl (fun _ => rfl) rfl) ?_
                      refine AOps.call (o_pickF _ _ _ rfl h78 rfl rfl) ?_
                      refine AOps.call (o_move _ rfl rfl) ?_
                      refine AOps.split rfl rfl rfl (fun h82 => ?_) (fun h82 => ?_)
                      · skip
                        refine AOps.go rfl rfl rfl h82 (o_move _ rfl rfl) ?_
                        refine AOps.go rfl rfl rfl h82 (o_len _ Tryd.underlying25 rfl rfl) ?_
                        refine AOps.go rfl rfl rfl h82 (o_fieldRef _ rfl fa24_6 rfl rfl) ?_
                        refine AOps.go rfl rfl rfl h82 (o_loadRef _ rfl rfl Tryd.sizeOf22 Tryd.isAgg22 rfl rfl rfl) ?_
                        refine AOps.go rfl rfl rfl h82 (o_len _ Tryd.underlying22 rfl rfl) ?_
                        refine AOps.go rfl rfl rfl h82 (o_bin _ _ rfl rfl (fun _ => rfl) rfl) ?_
                        refine AOps.call (o_pickF _ _ _ rfl h82 rfl rfl) ?_
                        refine AOps.nil ?_
                        refine AWP.cond _ rfl (fun h88 => ?_) (fun h88 => ?_)
                        · skip
                          exfalso
                          simp at h88
                          omega
                        · skip
                          refine AWP.skip ?_
                          refine AWP.seq ?_
                          refine AWP.region ?_
                          refine AOps.call (o_assign _ rfl rfl) ?_
                          refine AOps.nil ?_
                          refine AWP.block ?_
                          refine AWP.loop (ι := Nat) (fun i => AS.mk' 155 [(1, .sl (sps w)), (4, .ref (4, 0) 0), (9, .ref (9, 0) 0), (11, .sl (sps (w ++ [x]))), (12, .sl (css (CasL (addP p s) (w ++ [x])))), (14, I k), (16, .sl (sps (endsP (addP p s) (w ++ [x]) (CasL (addP p s) (w ++ [x]))[k]))), (18, .sl (sps (endsP p w ((CasL (addP p s) (w ++ [x]))[k].take p.log.length)))), (20, I i)] [((4, 0), eP p), ((9, 0), eP (addP p s))] [] [(4, 1), (9, 1)]) (fun i => i ≤ (endsP p w ((CasL (addP p s) (w ++ [x]))[k].take p.log.length)).length) (fun i => (endsP p w ((CasL (addP p s) (w ++ [x]))[k].take p.log.length)).length - i) (0) (Weak.mk' rfl ⟨⟨.refl rfl, rfl⟩, ⟨⟨.refl rfl, rfl⟩, ⟨⟨.refl rfl, rfl⟩, ⟨⟨.refl rfl, rfl⟩, ⟨⟨.refl rfl, rfl⟩, ⟨⟨.refl rfl, rfl⟩, ⟨⟨.refl rfl, rfl⟩, ⟨⟨.refl rfl, rfl⟩, ⟨⟨.refl rfl, rfl⟩, trivial⟩⟩⟩⟩⟩⟩⟩⟩⟩ ⟨⟨rfl, rfl, rfl⟩, ⟨⟨rfl, rfl, rfl⟩, trivial⟩⟩ trivial) (Nat.zero_le _) ?_
                          rintro m hm
                          try dsimp only at *
                          refine AWP.seq ?_
                          refine AWP.seq ?_
                          refine AWP.region ?_
                          refine AOps.call (o_move _ rfl rfl) ?_
                          refine AOps.call (o_move _ rfl rfl) ?_
                          refine AOps.call (o_len _ Tryd.underlying25 rfl rfl) ?_
                          refine AOps.call (o_bin _ _ rfl rfl (fun _ => rfl) rfl) ?_
                          refine AOps.nil ?_
                          refine AWP.cond _ rfl (fun h92 => ?_) (fun h92 => ?_)
                          · skip
                            have hmt : m < (endsP p w ((CasL (addP p s) (w ++ [x]))[k].take p.log.length)).length := by have hq := of_decide_eq_true h92; omega
                            have hma : m < (endsP (addP p s) (w ++ [x]) (CasL (addP p s) (w ++ [x]))[k]).length := by omega
                            have ea := sps_at hma
                            have eb := sps_at hmt
                            have hin := further_in (w := w) (s := s) (x := x) hwl hcl (show m < p.log.length by omega)
                            change (endP (addP p s) (w ++ [x]) (CasL (addP p s) (w ++ [x]))[k] m).In _ at hin
                            rw [← ends_get hma, ← ends_get hmt] at hin
                            simp only [Sp.In] at hin
                            refine AWP.skip ?_
                            refine AWP.seq ?_
                            refine AWP.block ?_
                            refine AWP.seq ?_
                            refine AWP.drawn 24 mixed (by kernel_rfl) ?_
                            refine AHead.call (o_move _ rfl rfl) rfl ?_
                            refine AHead.call (o_move _ rfl rfl) rfl ?_
                            refine AHead.call (o_index _ _ Tryd.underlying25 Tryd.sizeOf45 rfl rfl (by omega) ea rfl rfl) rfl ?_
                            refine AHead.call (o_fieldRd _ rfl fa45_0 rfl) rfl ?_
                            refine AHead.call (o_loadRd _ rfl Tryd.sizeOf3 Tryd.isAgg3 rfl rfl rfl) rfl ?_
                            refine AHead.call (o_move _ rfl rfl) rfl ?_
                            refine AHead.call (o_move _ rfl rfl) rfl ?_
                            refine AHead.call (o_index _ _ Tryd.underlying25 Tryd.sizeOf45 rfl rfl (by omega) eb rfl rfl) rfl ?_
                            refine AHead.call (o_fieldRd _ rfl fa45_0 rfl) rfl ?_
                            refine AHead.call (o_loadRd _ rfl Tryd.sizeOf3 Tryd.isAgg3 rfl rfl rfl) rfl ?_
                            refine AHead.call (o_bin _ _ rfl rfl (fun _ => rfl) rfl) rfl ?_
                            refine AHead.call (o_move _ rfl rfl) rfl ?_
                            refine AHead.split rfl rfl rfl (fun h100 => ?_) (fun h100 => ?_)
                            · skip
                              refine AHead.go rfl rfl rfl h100 (o_move _ rfl rfl) rfl ?_
                              refine AHead.go rfl rfl rfl h100 (o_move _ rfl rfl) rfl ?_
                              refine AHead.go rfl rfl rfl h100 (o_index _ _ Tryd.underlying25 Tryd.sizeOf45 rfl rfl (by omega) ea rfl rfl) rfl ?_
                              refine AHead.go rfl rfl rfl h100 (o_fieldRd _ rfl fa45_1 rfl) rfl ?_
                              refine AHead.go rfl rfl rfl h100 (o_loadRd _ rfl Tryd.sizeOf3 Tryd.isAgg3 rfl rfl rfl) rfl ?_
                              refine AHead.go rfl rfl rfl h100 (o_move _ rfl rfl) rfl ?_
                              refine AHead.go rfl rfl rfl h100 (o_move _ rfl rfl) rfl ?_
                              refine AHead.go rfl rfl rfl h100 (o_index _ _ Tryd.underlying25 Tryd.sizeOf45 rfl rfl (by omega) eb rfl rfl) rfl ?_
                              refine AHead.go rfl rfl rfl h100 (o_fieldRd _ rfl fa45_1 rfl) rfl ?_
                              refine AHead.go rfl rfl rfl h100 (o_loadRd _ rfl Tryd.sizeOf3 Tryd.isAgg3 rfl rfl rfl) rfl ?_
                              refine AHead.go rfl rfl rfl h100 (o_bin _ _ rfl rfl (fun _ => rfl) rfl) rfl ?_
                              refine AHead.call (o_pickF _ _ _ rfl h100 rfl rfl) rfl ?_
                              refine AHead.nil ?_
                              refine AOps.nil ?_
                              refine AWP.cond _ rfl (fun h108 => ?_) (fun h108 => ?_)
                              · skip
                                exfalso
                                have hq := of_decide_eq_true h108
                                omega
                              · skip
                                refine AWP.skip ?_
                                refine AWP.region ?_
                                refine AOps.call (o_move _ rfl rfl) ?_
                                refine AOps.call (o_add _ _ rfl rfl ⟨by (try dsimp only); omega, by (try dsimp only); omega⟩ rfl) ?_
                                refine AOps.call (o_assign _ rfl rfl) ?_
                                refine AOps.nil ?_
                                refine ⟨m + 1, ?_, (Weak.mk' rfl ⟨⟨.refl rfl, rfl⟩, ⟨⟨.refl rfl, rfl⟩, ⟨⟨.refl rfl, rfl⟩, ⟨⟨.refl rfl, rfl⟩, ⟨⟨.refl rfl, rfl⟩, ⟨⟨.refl rfl, rfl⟩, ⟨⟨.refl rfl, rfl⟩, ⟨⟨.refl rfl, rfl⟩, ⟨⟨.refl rfl, rfl⟩, trivial⟩⟩⟩⟩⟩⟩⟩⟩⟩ ⟨⟨rfl, rfl, rfl⟩, ⟨⟨rfl, rfl, rfl⟩, trivial⟩⟩ trivial)⟩
                                exact ⟨by omega, by omega⟩
                            · skip
                              exfalso
                              have hq := of_decide_eq_true h100
                              omega
                          · skip
                            skip
                            refine AWP.exit ?_
                            refine AWP.region ?_
                            refine AOps.call (o_move _ rfl rfl) ?_
                            refine AOps.call (o_add _ _ rfl rfl ⟨by (try dsimp only); omega, by (try dsimp only); omega⟩ rfl) ?_
                            refine AOps.call (o_assign _ rfl rfl) ?_
                            refine AOps.nil ?_
                            refine ⟨k + 1, ?_, (Weak.mk' rfl ⟨⟨.refl rfl, rfl⟩, ⟨⟨.refl rfl, rfl⟩, ⟨⟨.refl rfl, rfl⟩, ⟨⟨.refl rfl, rfl⟩, ⟨⟨.refl rfl, rfl⟩, ⟨⟨.refl rfl, rfl⟩, trivial⟩⟩⟩⟩⟩⟩ ⟨⟨rfl, rfl, rfl⟩, ⟨⟨rfl, rfl, rfl⟩, trivial⟩⟩ trivial)⟩
                            exact ⟨by omega, by omega⟩
                      · skip
                        exfalso
                        simp at h82
                        omega
                    · skip
                      exfalso
                      exact absurd h78 (by decide)
                  · skip
                    exfalso
                    exact absurd h76 (by decide)
              · skip
                refine AWP.exit ?_
                refine AWP.seq ?_
                refine AWP.region ?_
                refine AOps.call (o_assign _ rfl rfl) ?_
                refine AOps.nil ?_
                refine AWP.ret ?_
                first
                | exact postQ.ret1 Tryd.results5 rfl rfl
                | (refine postQ.ret1 Tryd.results5 rfl ?_; simp [AV.close, AV.close.closeL, B, I]; done)
                | (refine postQ.ret1 Tryd.results5 rfl ?_; simp [AV.close, AV.close.closeL, B, I]; omega)
                | (refine postQ.ret1 Tryd.results5 rfl ?_; simp_all [AV.close, AV.close.closeL, B, I]; done)
                | (refine postQ.ret1 Tryd.results5 rfl ?_; simp_all [AV.close, AV.close.closeL, B, I]; omega)
        · skip
          exfalso
          exact absurd h24 (by decide)
    · skip
      refine AOps.pass rfl rfl rfl h11 rfl ?_
      refine AOps.pass rfl rfl rfl h11 rfl ?_
      refine AOps.pass rfl rfl rfl h11 rfl ?_
      refine AOps.pass rfl rfl rfl h11 rfl ?_
      refine AOps.call (o_pickT _ _ _ rfl h11 rfl rfl) ?_
      refine AOps.nil ?_
      refine AWP.condT rfl ?_
      refine AWP.seq ?_
      refine AWP.region ?_
      refine AOps.call (o_assign _ rfl rfl) ?_
      refine AOps.nil ?_
      refine AWP.ret ?_
      first
      | exact postQ.ret1 Tryd.results5 rfl rfl
      | (refine postQ.ret1 Tryd.results5 rfl ?_; simp [AV.close, AV.close.closeL, B, I]; done)
      | (refine postQ.ret1 Tryd.results5 rfl ?_; simp [AV.close, AV.close.closeL, B, I]; omega)
      | (refine postQ.ret1 Tryd.results5 rfl ?_; simp_all [AV.close, AV.close.closeL, B, I]; done)
      | (refine postQ.ret1 Tryd.results5 rfl ?_; simp_all [AV.close, AV.close.closeL, B, I]; omega)

set_option maxHeartbeats 4000000 in
set_option maxRecDepth 20000 in
theorem PillowFurther_c (p : Plw) (s : Shw) (x : Sp) (h0 : addE p s = 0) : FSpecG Tryd.prog TAB 5 [.agg (eP p), .sl (sps []), .agg (eW s), .agg (eN x)] (B true) (none) := by
  refine FSpecG.of_body tab_stable Tryd.func5 rfl (leB rfl) fun w0 M0 hG => ?_
  have hAd := Add_s p s
  rw [show addA p s = eP (addP p s) from if_pos h0, h0] at hAd
  obtain ⟨ok1, ok2⟩ := addE_0 h0
  have h32 := (okP_iff.1 ok1).len
  have hll := shws_len p.log
  have hsl := sps_len ([] : List Sp)
  have hgl := css_len (CasL (addP p s) [x])
  have hql : (addP p s).log.length = p.log.length + 1 := by simp [addP]
  refine AWP.seq ?_
  refine AWP.region ?_
  refine AOps.call (o_box _ rfl rfl rfl) ?_
  refine AOps.call (o_box _ rfl rfl rfl) ?_
  refine AOps.call (o_box _ rfl rfl rfl) ?_
  refine AOps.call (o_assign _ rfl rfl) ?_
  refine AOps.nil ?_
  refine AWP.seq ?_
  refine AWP.seq ?_
  refine AWP.region ?_
  refine AOps.call (o_callG (sane_s) hG Tryd.call8 rfl rfl) ?_
  refine AOps.call (o_un _ rfl (fun _ => rfl) rfl) ?_
  refine AOps.nil ?_
  refine AWP.cond _ rfl (fun h6 => ?_) (fun h6 => ?_)
  · skip
    exfalso
    simp at h6
  · skip
    refine AWP.skip ?_
    refine AWP.seq ?_
    refine AWP.seq ?_
    refine AWP.region ?_
    refine AOps.call (o_fieldRef _ rfl fa24_6 rfl rfl) ?_
    refine AOps.call (o_loadRef _ rfl rfl Tryd.sizeOf22 Tryd.isAgg22 rfl rfl rfl) ?_
    refine AOps.call (o_len _ Tryd.underlying22 rfl rfl) ?_
    refine AOps.call (o_bin _ _ rfl rfl (fun _ => rfl) rfl) ?_
    refine AOps.call (o_move _ rfl rfl) ?_
    refine AOps.split rfl rfl rfl (fun h11 => ?_) (fun h11 => ?_)
    · skip
      refine AOps.go rfl rfl rfl h11 (o_fieldRef _ rfl fa24_6 rfl rfl) ?_
      refine AOps.go rfl rfl rfl h11 (o_loadRef _ rfl rfl Tryd.sizeOf22 Tryd.isAgg22 rfl rfl rfl) ?_
      refine AOps.go rfl rfl rfl h11 (o_len _ Tryd.underlying22 rfl rfl) ?_
      refine AOps.go rfl rfl rfl h11 (o_bin _ _ rfl rfl (fun _ => rfl) rfl) ?_
      refine AOps.call (o_pickF _ _ _ rfl h11 rfl rfl) ?_
      refine AOps.nil ?_
      refine AWP.cond _ rfl (fun h16 => ?_) (fun h16 => ?_)
      · skip
        refine AWP.seq ?_
        refine AWP.region ?_
        refine AOps.call (o_assign _ rfl rfl) ?_
        refine AOps.nil ?_
        refine AWP.ret ?_
        first
        | exact postQ.ret1 Tryd.results5 rfl rfl
        | (refine postQ.ret1 Tryd.results5 rfl ?_; simp [AV.close, AV.close.closeL, B, I]; done)
        | (refine postQ.ret1 Tryd.results5 rfl ?_; simp [AV.close, AV.close.closeL, B, I]; omega)
        | (refine postQ.ret1 Tryd.results5 rfl ?_; simp_all [AV.close, AV.close.closeL, B, I]; done)
        | (refine postQ.ret1 Tryd.results5 rfl ?_; simp_all [AV.close, AV.close.closeL, B, I]; omega)
      · skip
        refine AWP.skip ?_
        refine AWP.seq ?_
        refine AWP.region ?_
        refine AOps.call (o_loadRef _ rfl rfl Tryd.sizeOf24 Tryd.isAgg24 rfl rfl rfl) ?_
        refine AOps.call (o_loadRef _ rfl rfl Tryd.sizeOf43 Tryd.isAgg43 rfl rfl rfl) ?_
        refine AOps.call (o_call (hAd) Tryd.call16 rfl rfl) ?_
        refine AOps.call (o_move _ rfl rfl) ?_
        refine AOps.call (o_extract _ rfl rfl rfl rfl) ?_
        refine AOps.call (o_extract _ rfl rfl rfl rfl) ?_
        refine AOps.call (o_alloc ze24 rfl rfl) ?_
        refine AOps.cons (o_store _ _ rfl rfl Tryd.sizeOf24 rfl rfl rfl rfl rfl) ?_
        refine AOps.call (o_assign _ rfl rfl) ?_
        refine AOps.nil ?_
        refine AWP.seq ?_
        refine AWP.seq ?_
        refine AWP.region ?_
        refine AOps.call (o_move _ rfl rfl) ?_
        refine AOps.call (o_bin _ _ rfl rfl (fun _ => rfl) rfl) ?_
        refine AOps.call (o_move _ rfl rfl) ?_
        refine AOps.split rfl rfl rfl (fun h24 => ?_) (fun h24 => ?_)
        · skip
          refine AOps.go rfl rfl rfl h24 (o_move _ rfl rfl) ?_
          refine AOps.go rfl rfl rfl h24 (o_len _ Tryd.underlying25 rfl rfl) ?_
          refine AOps.go rfl rfl rfl h24 (o_fieldRef _ rfl fa24_6 rfl rfl) ?_
          refine AOps.go rfl rfl rfl h24 (o_loadRef _ rfl rfl Tryd.sizeOf22 Tryd.isAgg22 rfl rfl rfl) ?_
          refine AOps.go rfl rfl rfl h24 (o_len _ Tryd.underlying22 rfl rfl) ?_
          refine AOps.go rfl rfl rfl h24 (o_sub _ _ rfl rfl ⟨by (try dsimp only); omega, by (try dsimp only); omega⟩ rfl) ?_
          refine AOps.go rfl rfl rfl h24 (o_bin _ _ rfl rfl (fun _ => rfl) rfl) ?_
          refine AOps.call (o_pickF _ _ _ rfl h24 rfl rfl) ?_
          refine AOps.nil ?_
          refine AWP.cond _ rfl (fun h32 => ?_) (fun h32 => ?_)
          · skip
            refine AWP.seq ?_
            refine AWP.region ?_
            refine AOps.call (o_assign _ rfl rfl) ?_
            refine AOps.nil ?_
            refine AWP.ret ?_
            first
            | exact postQ.ret1 Tryd.results5 rfl rfl
            | (refine postQ.ret1 Tryd.results5 rfl ?_; simp [AV.close, AV.close.closeL, B, I]; done)
            | (refine postQ.ret1 Tryd.results5 rfl ?_; simp [AV.close, AV.close.closeL, B, I]; omega)
            | (refine postQ.ret1 Tryd.results5 rfl ?_; simp_all [AV.close, AV.close.closeL, B, I]; done)
            | (refine postQ.ret1 Tryd.results5 rfl ?_; simp_all [AV.close, AV.close.closeL, B, I]; omega)
          · skip
            have hwl : ([] : List Sp).length = p.log.length - 1 := by
              have h1 := h32
              simp at h1
              omega
            refine AWP.skip ?_
            refine AWP.seq ?_
            refine AWP.drawn 7 mixed (by kernel_rfl) ?_
            refine AHead.call (o_lit0 Tryd.underlying25 Tryd.sizeOf45 Tryd.zeroValue45 rfl) rfl ?_
            refine AHead.call (o_move _ rfl rfl) rfl ?_
            refine AHead.call (o_append0 _ _ Tryd.underlying25 Tryd.sizeOf45 rfl rfl rfl) rfl ?_
            refine AHead.call (o_loadRef _ rfl rfl Tryd.sizeOf45 Tryd.isAgg45 rfl rfl rfl) rfl ?_
            refine AHead.call (o_lit Tryd.underlying25 Tryd.sizeOf45 Tryd.zeroValue45 rfl rfl rfl rfl rfl rfl rfl) rfl ?_
            refine AHead.call (o_appendNil0 (ns := [[I x.lo, I x.hi]]) (rs := sps [x]) _ _ Tryd.underlying25 info45 rfl rfl rfl rfl rfl rfl rfl (fun c hc => by simp at hc; subst hc; rfl) (by unfold Tryd.t45; simp) rfl rfl rfl) rfl ?_
            refine AHead.call (o_assign _ rfl rfl) rfl ?_
            refine AHead.nil ?_
            refine AOps.nil ?_
            refine AWP.seq ?_
            refine AWP.region ?_
            refine AOps.call (o_loadRef _ rfl rfl Tryd.sizeOf24 Tryd.isAgg24 rfl rfl rfl) ?_
            refine AOps.call (o_move _ rfl rfl) ?_
            refine AOps.call (o_call (Cases_s (addP p s) [x] (by simp; try omega)) Tryd.call12 rfl rfl) ?_
            refine AOps.call (o_move _ rfl rfl) ?_
            refine AOps.call (o_extract _ rfl rfl rfl rfl) ?_
            refine AOps.call (o_extract _ rfl rfl rfl rfl) ?_
            refine AOps.call (o_assign _ rfl rfl) ?_
            refine AOps.call (o_assign _ rfl rfl) ?_
            refine AOps.nil ?_
            refine AWP.seq ?_
            refine AWP.seq ?_
            refine AWP.region ?_
            refine AOps.call (o_move _ rfl rfl) ?_
            refine AOps.call (o_bin _ _ rfl rfl (fun _ => rfl) rfl) ?_
            refine AOps.nil ?_
            refine AWP.cond _ rfl (fun h44 => ?_) (fun h44 => ?_)
            · skip
              have hne : CasE (addP p s) [x] ≠ 0 := by simpa using h44
              rw [CasE_ne hne]
              refine AWP.seq ?_
              refine AWP.region ?_
              refine AOps.call (o_move _ rfl rfl) ?_
              refine AOps.call (o_len _ Tryd.underlying36 rfl rfl) ?_
              refine AOps.call (o_bin _ _ rfl rfl (fun _ => rfl) rfl) ?_
              refine AOps.call (o_assign _ rfl rfl) ?_
              refine AOps.nil ?_
              refine AWP.ret ?_
              first
              | exact postQ.ret1 Tryd.results5 rfl rfl
              | (refine postQ.ret1 Tryd.results5 rfl ?_; simp [AV.close, AV.close.closeL, B, I]; done)
              | (refine postQ.ret1 Tryd.results5 rfl ?_; simp [AV.close, AV.close.closeL, B, I]; omega)
              | (refine postQ.ret1 Tryd.results5 rfl ?_; simp_all [AV.close, AV.close.closeL, B, I]; done)
              | (refine postQ.ret1 Tryd.results5 rfl ?_; simp_all [AV.close, AV.close.closeL, B, I]; omega)
            · skip
              have hz : CasE (addP p s) [x] = 0 := by simpa using h44
              obtain ⟨g1, g2, g3, g4⟩ := CasE_0 hz
              have hokw : okW p ([] : List Sp) = true := okW_less hwl g2
              refine AWP.skip ?_
              refine AWP.seq ?_
              refine AWP.seq ?_
              refine AWP.region ?_
              refine AOps.call (o_assign _ rfl rfl) ?_
              refine AOps.nil ?_
              refine AWP.block ?_
              refine AWP.loop (ι := Nat) (fun i => AS.mk' 155 [(1, .sl (sps ([] : List Sp))), (4, .ref (4, 0) 0), (9, .ref (9, 0) 0), (11, .sl (sps [x])), (12, .sl (css (CasL (addP p s) [x]))), (14, I i)] [((4, 0), eP p), ((9, 0), eP (addP p s))] [] [(4, 1), (9, 1)]) (fun i => i ≤ (CasL (addP p s) [x]).length) (fun i => (CasL (addP p s) [x]).length - i) (0) (Weak.mk' rfl ⟨⟨.refl rfl, rfl⟩, ⟨⟨.refl rfl, rfl⟩, ⟨⟨.refl rfl, rfl⟩, ⟨⟨.refl rfl, rfl⟩, ⟨⟨.refl rfl, rfl⟩, ⟨⟨.refl rfl, rfl⟩, trivial⟩⟩⟩⟩⟩⟩ ⟨⟨rfl, rfl, rfl⟩, ⟨⟨rfl, rfl, rfl⟩, trivial⟩⟩ trivial) (Nat.zero_le _) ?_
              rintro k hk
              try dsimp only at *
              refine AWP.seq ?_
              refine AWP.seq ?_
              refine AWP.region ?_
              refine AOps.call (o_move _ rfl rfl) ?_
              refine AOps.call (o_move _ rfl rfl) ?_
              refine AOps.call (o_len _ Tryd.underlying36 rfl rfl) ?_
              refine AOps.call (o_bin _ _ rfl rfl (fun _ => rfl) rfl) ?_
              refine AOps.nil ?_
              refine AWP.cond _ rfl (fun h50 => ?_) (fun h50 => ?_)
              · skip
                have hlt : k < (CasL (addP p s) [x]).length := by have hq := of_decide_eq_true h50; omega
                have hel := css_at hlt
                have hm := (mem_cases hz).1 (List.getElem_mem hlt)
                have hrc := rcE_0.1 hm.1
                have hcl : (CasL (addP p s) [x])[k].length = p.log.length + 1 := hrc.2.2.1.trans hql
                have hrem : Rem ((addP p s).pb [x]) (p.log.length + 1) (CasL (addP p s) [x])[k] := ⟨hcl, hrc.2.2.2, by have := hm.2; unfold aliveP at this; rw [hcl] at this; exact this⟩
                have hrm := further_case (w := ([] : List Sp)) hwl hrem
                have hil := ints_len (CasL (addP p s) [x])[k]
                have htl : ((CasL (addP p s) [x])[k].take p.log.length).length = p.log.length := hrm.1
                have hLa := loads_fine (by simp; try omega) (by omega) hm.1 hm.2
                have hLb := loads_fine (w := ([] : List Sp)) (by first | exact hw1 | simp) (show ((CasL (addP p s) [x])[k].take p.log.length).length ≤ 9223372036854775807 by omega) (rcE_0.2 ⟨ok1, hokw, htl, hrm.2.1⟩) (alive_of hrm)
                have hla := ends_len (addP p s) [x] (CasL (addP p s) [x])[k]
                have hlb := ends_len p ([] : List Sp) ((CasL (addP p s) [x])[k].take p.log.length)
                have hsa := sps_len (endsP (addP p s) [x] (CasL (addP p s) [x])[k])
                have hsb := sps_len (endsP p ([] : List Sp) ((CasL (addP p s) [x])[k].take p.log.length))
                have hts : ((ints (CasL (addP p s) [x])[k]).drop 0).take ((((shws p.log).length : Nat) : Int).toNat - 0) = ints ((CasL (addP p s) [x])[k].take p.log.length) := by rw [hll]; simp [ints, List.map_take]
                refine AWP.skip ?_
                refine AWP.seq ?_
                refine AWP.block ?_
                refine AWP.seq ?_
                refine AWP.region ?_
                refine AOps.call (o_move _ rfl rfl) ?_
                refine AOps.call (o_move _ rfl rfl) ?_
                refine AOps.call (o_index _ _ Tryd.underlying36 Tryd.sizeOf26 rfl rfl (by omega) hel rfl rfl) ?_
                refine AOps.call (o_loadRd _ rfl Tryd.sizeOf26 Tryd.isAgg26 rfl rfl rfl) ?_
                refine AOps.call (o_assign _ rfl rfl) ?_
                refine AOps.nil ?_
                refine AWP.seq ?_
                refine AWP.seq ?_
                refine AWP.region ?_
                refine AOps.call (o_move _ rfl rfl) ?_
                refine AOps.call (o_len _ Tryd.underlying26 rfl rfl) ?_
                refine AOps.call (o_fieldRef _ rfl fa24_6 rfl rfl) ?_
                refine AOps.call (o_loadRef _ rfl rfl Tryd.sizeOf22 Tryd.isAgg22 rfl rfl rfl) ?_
                refine AOps.call (o_len _ Tryd.underlying22 rfl rfl) ?_
                refine AOps.call (o_add _ _ rfl rfl ⟨by (try dsimp only); omega, by (try dsimp only); omega⟩ rfl) ?_
                refine AOps.call (o_bin _ _ rfl rfl (fun _ => rfl) rfl) ?_
                refine AOps.nil ?_
                refine AWP.cond _ rfl (fun h59 => ?_) (fun h59 => ?_)
                · skip
                  exfalso
                  simp at h59
                  omega
                · skip
                  refine AWP.skip ?_
                  refine AWP.seq ?_
                  refine AWP.region ?_
                  refine AOps.call (o_loadRef _ rfl rfl Tryd.sizeOf24 Tryd.isAgg24 rfl rfl rfl) ?_
                  refine AOps.call (o_move _ rfl rfl) ?_
                  refine AOps.call (o_move _ rfl rfl) ?_
                  refine AOps.call (o_call (hLa) Tryd.call17 rfl rfl) ?_
                  refine AOps.call (o_move _ rfl rfl) ?_
                  refine AOps.call (o_extract _ rfl rfl rfl rfl) ?_
                  refine AOps.call (o_extract _ rfl rfl rfl rfl) ?_
                  refine AOps.call (o_assign _ rfl rfl) ?_
                  refine AOps.call (o_assign _ rfl rfl) ?_
                  refine AOps.nil ?_
                  refine AWP.seq ?_
                  refine AWP.drawn 15 mixed (by kernel_rfl) ?_
                  refine AHead.call (o_loadRef _ rfl rfl Tryd.sizeOf24 Tryd.isAgg24 rfl rfl rfl) rfl ?_
                  refine AHead.call (o_move _ rfl rfl) rfl ?_
                  refine AHead.call (o_lit0 Tryd.underlying26 Tryd.sizeOf3 Tryd.zeroValue3 rfl) rfl ?_
                  refine AHead.call (o_move _ rfl rfl) rfl ?_
                  refine AHead.call (o_fieldRef _ rfl fa24_6 rfl rfl) rfl ?_
                  refine AHead.call (o_loadRef _ rfl rfl Tryd.sizeOf22 Tryd.isAgg22 rfl rfl rfl) rfl ?_
                  refine AHead.call (o_len _ Tryd.underlying22 rfl rfl) rfl ?_
                  refine AHead.call (o_sliceE (rs := ints ((CasL (addP p s) [x])[k].take p.log.length)) _ _ _ Tryd.underlying26 Tryd.sizeOf3 rfl rfl rfl (by omega) (by omega) ints_z hts rfl) rfl ?_
                  refine AHead.call (o_appendNil0 _ _ Tryd.underlying26 info3 rfl rfl rfl rfl rfl rfl rfl ints_z (by rw [ints_len, List.length_take]; unfold Tryd.t3; simp only []; omega) rfl rfl rfl) rfl ?_
                  refine AHead.call (o_call (hLb) Tryd.call17 rfl rfl) rfl ?_
                  refine AHead.call (o_move _ rfl rfl) rfl ?_
                  refine AHead.call (o_extract _ rfl rfl rfl rfl) rfl ?_
                  refine AHead.call (o_extract _ rfl rfl rfl rfl) rfl ?_
                  refine AHead.call (o_assign _ rfl rfl) rfl ?_
                  refine AHead.call (o_assign _ rfl rfl) rfl ?_
                  refine AHead.nil ?_
                  refine AOps.nil ?_
                  refine AWP.seq ?_
                  refine AWP.seq ?_
                  refine AWP.region ?_
                  refine AOps.call (o_move _ rfl rfl) ?_
                  refine AOps.call (o_bin _ _ rfl rfl (fun _ => rfl) rfl) ?_
                  refine AOps.call (o_move _ rfl rfl) ?_
                  refine AOps.split rfl rfl rfl (fun h76 => ?_) (fun h76 => ?_)
                  · skip
                    refine AOps.go rfl rfl rfl h76 (o_move _ rfl rfl) ?_
                    refine AOps.go rfl rfl rfl h76 (o_bin _ _ rfl rfl (fun _ => rfl) rfl) ?_
                    refine AOps.call (o_pickF _ _ _ rfl h76 rfl rfl) ?_
                    refine AOps.call (o_move _ rfl rfl) ?_
                    refine AOps.split rfl rfl rfl (fun h78 => ?_) (fun h78 => ?_)
                    · skip
                      refine AOps.go rfl rfl rfl h78 (o_move _ rfl rfl) ?_
                      refine AOps.go rfl rfl rfl h78 (o_len _ Tryd.underlying25 rfl rfl) ?_
                      refine AOps.go rfl rfl rfl h78 (o_move _ rfl rfl) ?_
                      refine AOps.go rfl rfl rfl h78 (o_len _ Tryd.underlying26 rfl rfl) ?_
                      refine AOps.go rfl rfl rfl h78 (o_bin _ _ rfl rfl (fun _ => rfl) rfl) ?_
                      refine AOps.call (o_pickF _ _ _ rfl h78 rfl rfl) ?_
                      refine AOps.call (o_move _ rfl rfl) ?_
                      refine AOps.split rfl rfl rfl (fun h82 => ?_) (fun h82 => ?_)
                      · skip
                        refine AOps.go rfl rfl rfl h82 (o_move _ rfl rfl) ?_
                        refine AOps.go rfl rfl rfl h82 (o_len _ Tryd.underlying25 rfl rfl) ?_
                        refine AOps.go rfl rfl rfl h82 (o_fieldRef _ rfl fa24_6 rfl rfl) ?_
                        refine AOps.go rfl rfl rfl h82 (o_loadRef _ rfl rfl Tryd.sizeOf22 Tryd.isAgg22 rfl rfl rfl) ?_
                        refine AOps.go rfl rfl rfl h82 (o_len _ Tryd.underlying22 rfl rfl) ?_
                        refine AOps.go rfl rfl rfl h82 (o_bin _ _ rfl rfl (fun _ => rfl) rfl) ?_
                        refine AOps.call (o_pickF _ _ _ rfl h82 rfl rfl) ?_
                        refine AOps.nil ?_
                        refine AWP.cond _ rfl (fun h88 => ?_) (fun h88 => ?_)
                        · skip
                          exfalso
                          simp at h88
                          omega
                        · skip
                          refine AWP.skip ?_
                          refine AWP.seq ?_
                          refine AWP.region ?_
                          refine AOps.call (o_assign _ rfl rfl) ?_
                          refine AOps.nil ?_
                          refine AWP.block ?_
                          refine AWP.loop (ι := Nat) (fun i => AS.mk' 155 [(1, .sl (sps ([] : List Sp))), (4, .ref (4, 0) 0), (9, .ref (9, 0) 0), (11, .sl (sps [x])), (12, .sl (css (CasL (addP p s) [x]))), (14, I k), (16, .sl (sps (endsP (addP p s) [x] (CasL (addP p s) [x])[k]))), (18, .sl (sps (endsP p ([] : List Sp) ((CasL (addP p s) [x])[k].take p.log.length)))), (20, I i)] [((4, 0), eP p), ((9, 0), eP (addP p s))] [] [(4, 1), (9, 1)]) (fun i => i ≤ (endsP p ([] : List Sp) ((CasL (addP p s) [x])[k].take p.log.length)).length) (fun i => (endsP p ([] : List Sp) ((CasL (addP p s) [x])[k].take p.log.length)).length - i) (0) (Weak.mk' rfl ⟨⟨.refl rfl, rfl⟩, ⟨⟨.refl rfl, rfl⟩, ⟨⟨.refl rfl, rfl⟩, ⟨⟨.refl rfl, rfl⟩, ⟨⟨.refl rfl, rfl⟩, ⟨⟨.refl rfl, rfl⟩, ⟨⟨.refl rfl, rfl⟩, ⟨⟨.refl rfl, rfl⟩, ⟨⟨.refl rfl, rfl⟩, trivial⟩⟩⟩⟩⟩⟩⟩⟩⟩ ⟨⟨rfl, rfl, rfl⟩, ⟨⟨rfl, rfl, rfl⟩, trivial⟩⟩ trivial) (Nat.zero_le _) ?_
                          rintro m hm
                          try dsimp only at *
                          refine AWP.seq ?_
                          refine AWP.seq ?_
                          refine AWP.region ?_
                          refine AOps.call (o_move _ rfl rfl) ?_
                          refine AOps.call (o_move _ rfl rfl) ?_
                          refine AOps.call (o_len _ Tryd.underlying25 rfl rfl) ?_
                          refine AOps.call (o_bin _ _ rfl rfl (fun _ => rfl) rfl) ?_
                          refine AOps.nil ?_
                          refine AWP.cond _ rfl (fun h92 => ?_) (fun h92 => ?_)
                          · skip
                            have hmt : m < (endsP p ([] : List Sp) ((CasL (addP p s) [x])[k].take p.log.length)).length := by have hq := of_decide_eq_true h92; omega
                            have hma : m < (endsP (addP p s) [x] (CasL (addP p s) [x])[k]).length := by omega
                            have ea := sps_at hma
                            have eb := sps_at hmt
                            have hin := further_in (w := ([] : List Sp)) (s := s) (x := x) hwl hcl (show m < p.log.length by omega)
                            change (endP (addP p s) [x] (CasL (addP p s) [x])[k] m).In _ at hin
                            rw [← ends_get hma, ← ends_get hmt] at hin
                            simp only [Sp.In] at hin
                            refine AWP.skip ?_
                            refine AWP.seq ?_
                            refine AWP.block ?_
                            refine AWP.seq ?_
                            refine AWP.drawn 24 mixed (by kernel_rfl) ?_
                            refine AHead.call (o_move _ rfl rfl) rfl ?_
                            refine AHead.call (o_move _ rfl rfl) rfl ?_
                            refine AHead.call (o_index _ _ Tryd.underlying25 Tryd.sizeOf45 rfl rfl (by omega) ea rfl rfl) rfl ?_
                            refine AHead.call (o_fieldRd _ rfl fa45_0 rfl) rfl ?_
                            refine AHead.call (o_loadRd _ rfl Tryd.sizeOf3 Tryd.isAgg3 rfl rfl rfl) rfl ?_
                            refine AHead.call (o_move _ rfl rfl) rfl ?_
                            refine AHead.call (o_move _ rfl rfl) rfl ?_
                            refine AHead.call (o_index _ _ Tryd.underlying25 Tryd.sizeOf45 rfl rfl (by omega) eb rfl rfl) rfl ?_
                            refine AHead.call (o_fieldRd _ rfl fa45_0 rfl) rfl ?_
                            refine AHead.call (o_loadRd _ rfl Tryd.sizeOf3 Tryd.isAgg3 rfl rfl rfl) rfl ?_
                            refine AHead.call (o_bin _ _ rfl rfl (fun _ => rfl) rfl) rfl ?_
                            refine AHead.call (o_move _ rfl rfl) rfl ?_
                            refine AHead.split rfl rfl rfl (fun h100 => ?_) (fun h100 => ?_)
                            · skip
                              refine AHead.go rfl rfl rfl h100 (o_move _ rfl rfl) rfl ?_
                              refine AHead.go rfl rfl rfl h100 (o_move _ rfl rfl) rfl ?_
                              refine AHead.go rfl rfl rfl h100 (o_index _ _ Tryd.underlying25 Tryd.sizeOf45 rfl rfl (by omega) ea rfl rfl) rfl ?_
                              refine AHead.go rfl rfl rfl h100 (o_fieldRd _ rfl fa45_1 rfl) rfl ?_
                              refine AHead.go rfl rfl rfl h100 (o_loadRd _ rfl Tryd.sizeOf3 Tryd.isAgg3 rfl rfl rfl) rfl ?_
                              refine AHead.go rfl rfl rfl h100 (o_move _ rfl rfl) rfl ?_
                              refine AHead.go rfl rfl rfl h100 (o_move _ rfl rfl) rfl ?_
                              refine AHead.go rfl rfl rfl h100 (o_index _ _ Tryd.underlying25 Tryd.sizeOf45 rfl rfl (by omega) eb rfl rfl) rfl ?_
                              refine AHead.go rfl rfl rfl h100 (o_fieldRd _ rfl fa45_1 rfl) rfl ?_
                              refine AHead.go rfl rfl rfl h100 (o_loadRd _ rfl Tryd.sizeOf3 Tryd.isAgg3 rfl rfl rfl) rfl ?_
                              refine AHead.go rfl rfl rfl h100 (o_bin _ _ rfl rfl (fun _ => rfl) rfl) rfl ?_
                              refine AHead.call (o_pickF _ _ _ rfl h100 rfl rfl) rfl ?_
                              refine AHead.nil ?_
                              refine AOps.nil ?_
                              refine AWP.cond _ rfl (fun h108 => ?_) (fun h108 => ?_)
                              · skip
                                exfalso
                                have hq := of_decide_eq_true h108
                                omega
                              · skip
                                refine AWP.skip ?_
                                refine AWP.region ?_
                                refine AOps.call (o_move _ rfl rfl) ?_
                                refine AOps.call (o_add _ _ rfl rfl ⟨by (try dsimp only); omega, by (try dsimp only); omega⟩ rfl) ?_
                                refine AOps.call (o_assign _ rfl rfl) ?_
                                refine AOps.nil ?_
                                refine ⟨m + 1, ?_, (Weak.mk' rfl ⟨⟨.refl rfl, rfl⟩, ⟨⟨.refl rfl, rfl⟩, ⟨⟨.refl rfl, rfl⟩, ⟨⟨.refl rfl, rfl⟩, ⟨⟨.refl rfl, rfl⟩, ⟨⟨.refl rfl, rfl⟩, ⟨⟨.refl rfl, rfl⟩, ⟨⟨.refl rfl, rfl⟩, ⟨⟨.refl rfl, rfl⟩, trivial⟩⟩⟩⟩⟩⟩⟩⟩⟩ ⟨⟨rfl, rfl, rfl⟩, ⟨⟨rfl, rfl, rfl⟩, trivial⟩⟩ trivial)⟩
                                exact ⟨by omega, by omega⟩
                            · skip
                              exfalso
                              have hq := of_decide_eq_true h100
                              omega
                          · skip
                            skip
                            refine AWP.exit ?_
                            refine AWP.region ?_
                            refine AOps.call (o_move _ rfl rfl) ?_
                            refine AOps.call (o_add _ _ rfl rfl ⟨by (try dsimp only); omega, by (try dsimp only); omega⟩ rfl) ?_
                            refine AOps.call (o_assign _ rfl rfl) ?_
                            refine AOps.nil ?_
                            refine ⟨k + 1, ?_, (Weak.mk' rfl ⟨⟨.refl rfl, rfl⟩, ⟨⟨.refl rfl, rfl⟩, ⟨⟨.refl rfl, rfl⟩, ⟨⟨.refl rfl, rfl⟩, ⟨⟨.refl rfl, rfl⟩, ⟨⟨.refl rfl, rfl⟩, trivial⟩⟩⟩⟩⟩⟩ ⟨⟨rfl, rfl, rfl⟩, ⟨⟨rfl, rfl, rfl⟩, trivial⟩⟩ trivial)⟩
                            exact ⟨by omega, by omega⟩
                      · skip
                        exfalso
                        simp at h82
                        omega
                    · skip
                      exfalso
                      exact absurd h78 (by decide)
                  · skip
                    exfalso
                    exact absurd h76 (by decide)
              · skip
                refine AWP.exit ?_
                refine AWP.seq ?_
                refine AWP.region ?_
                refine AOps.call (o_assign _ rfl rfl) ?_
                refine AOps.nil ?_
                refine AWP.ret ?_
                first
                | exact postQ.ret1 Tryd.results5 rfl rfl
                | (refine postQ.ret1 Tryd.results5 rfl ?_; simp [AV.close, AV.close.closeL, B, I]; done)
                | (refine postQ.ret1 Tryd.results5 rfl ?_; simp [AV.close, AV.close.closeL, B, I]; omega)
                | (refine postQ.ret1 Tryd.results5 rfl ?_; simp_all [AV.close, AV.close.closeL, B, I]; done)
                | (refine postQ.ret1 Tryd.results5 rfl ?_; simp_all [AV.close, AV.close.closeL, B, I]; omega)
        · skip
          exfalso
          exact absurd h24 (by decide)
    · skip
      refine AOps.pass rfl rfl rfl h11 rfl ?_
      refine AOps.pass rfl rfl rfl h11 rfl ?_
      refine AOps.pass rfl rfl rfl h11 rfl ?_
      refine AOps.pass rfl rfl rfl h11 rfl ?_
      refine AOps.call (o_pickT _ _ _ rfl h11 rfl rfl) ?_
      refine AOps.nil ?_
      refine AWP.condT rfl ?_
      refine AWP.seq ?_
      refine AWP.region ?_
      refine AOps.call (o_assign _ rfl rfl) ?_
      refine AOps.nil ?_
      refine AWP.ret ?_
      first
      | exact postQ.ret1 Tryd.results5 rfl rfl
      | (refine postQ.ret1 Tryd.results5 rfl ?_; simp [AV.close, AV.close.closeL, B, I]; done)
      | (refine postQ.ret1 Tryd.results5 rfl ?_; simp [AV.close, AV.close.closeL, B, I]; omega)
      | (refine postQ.ret1 Tryd.results5 rfl ?_; simp_all [AV.close, AV.close.closeL, B, I]; done)
      | (refine postQ.ret1 Tryd.results5 rfl ?_; simp_all [AV.close, AV.close.closeL, B, I]; omega)

theorem PillowFurther_s (p : Plw) (w : List Sp) (s : Shw) (x : Sp) (hw1 : w.length ≤ 9223372036854775807) : FSpecG Tryd.prog TAB 5 [.agg (eP p), .sl (sps w), .agg (eW s), .agg (eN x)] (B true) none := by
  by_cases h0 : addE p s = 0
  · by_cases hw0 : w = []
    · subst hw0; exact PillowFurther_c p s x h0
    · exact PillowFurther_b p w s x hw1 h0 hw0
  · exact PillowFurther_a p w s x hw1 h0

end Go.Proofs.YtelenedgaoglaaaDoor
