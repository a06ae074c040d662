/- Y10. -/
import Derived.Test.YtelenedgaoglaaaGreatDoorY4
import Derived.Test.YtelenedgaoglaaaGreatDoorR21
import Derived.Test.YtelenedgaoglaaaGreatDoorAdB
import Derived.Test.YtelenedgaoglaaaGreatDoorAdA
set_option linter.unusedSimpArgs false
set_option linter.unusedVariables false
namespace Go.Proofs.YtelenedgaoglaaaGreatDoor
open Go.Ab
open Go.Pil Go.RowKit
theorem okW_cut {p : Plw} {w : List Sp} {m : Nat} (h : okW p w = true) (hm : m < p.log.length) : okW (p.cut (m + 1)) (w.take m) = true := by
  obtain ⟨h1, h2⟩ := okW_iff.1 h
  refine okW_iff.2 ⟨?_, ?_⟩
  · rw [cut_len (by omega), List.length_take]; omega
  · rw [List.all_eq_true] at h2 ⊢
    exact fun x hx => h2 x (List.mem_of_mem_take hx)
theorem pow8 {m : Nat} (h : m ≤ 8) : 3 ^ m ≤ 6561 := Nat.le_trans (Nat.pow_le_pow_right (by decide) h) (by decide)
theorem okC_rgt {p : Plw} {w : List Sp} {m : Nat} {l : List Int} : okC p w (m + 1) l = (rgt (p.cut (m + 1)) l && decide (aliveP (p.cut (m + 1)) (w.take m) l)) := rfl
theorem css_snoc (L : List (List Int)) (l : List Int) : css L ++ [[.sl (ints l)]] = css (L ++ [l]) := by unfold css; rw [List.map_append]; rfl
theorem css_gD {L : List (List Int)} {k : Nat} (h : k < L.length) : (css L)[((k : Nat) : Int).toNat]? = some [.sl (ints (L.getD k []))] := by
  rw [css_at h, List.getD_eq_getElem?_getD, List.getElem?_eq_getElem h]; rfl
theorem ints_snoc (l : List Int) (x : Int) : ints l ++ [[I x]] = ints (l ++ [x]) := by simp [ints]
set_option maxHeartbeats 4000000 in
set_option maxRecDepth 20000 in
theorem remaining_s (p : Plw) (w : List Sp) (hp : OkP p) (hw : okW p w = true) (h8 : p.log.length ≤ 8) : FSpec Tryz.prog 68 [.agg (eP p), .sl (sps w)] (.sl (css (casesA p w))) (none) := by
  refine FSpec.of_body Tryz.func68 rfl (leB rfl) fun w0 M0 => ?_
  have hpl := shws_len p.log
  have hsl := sps_len w
  have hwl : w.length = p.log.length - 1 := (okW_iff.1 hw).1
  refine AWP.seq ?_
  refine AWP.region ?_
  refine AOps.call (o_box _ rfl rfl rfl) ?_
  refine AOps.call (o_nil (z := 1) (e := 25) rfl) ?_
  refine AOps.nil ?_
  refine AWP.seq ?_
  refine AWP.region ?_
  refine AOps.call (o_lit0 Tryz.underlying25 Tryz.sizeOf3 Tryz.zeroValue3 rfl) ?_
  refine AOps.weak (Weak.nilSl 14 rfl) ?_
  refine AOps.call (o_lit Tryz.underlying40 Tryz.sizeOf25 Tryz.zeroValue25 rfl rfl rfl rfl rfl rfl rfl) ?_
  refine AOps.call (o_assign _ rfl rfl) ?_
  refine AOps.nil ?_
  refine AWP.seq ?_
  refine AWP.seq ?_
  refine AWP.region ?_
  refine AOps.call (o_assign _ rfl rfl) ?_
  refine AOps.nil ?_
  refine AWP.block ?_
  refine AWP.loop (ι := Nat) (fun i => AS.mk' 69 [(1, .sl (sps w)), (2, .ref (2, 0) 0), (5, .sl (css (lev (nx (p.pb w)) i []))), (6, I ((i : Int) + 1))] [((2, 0), eP p)] [] [(2, 1)]) (fun i => i ≤ p.log.length) (fun i => p.log.length - i) (0) (Weak.mk' rfl ⟨⟨.refl rfl, rfl⟩, ⟨⟨.refl rfl, rfl⟩, ⟨⟨.sl rfl, rfl⟩, ⟨⟨.refl (congrArg I (by (try dsimp only); omega)), rfl⟩, trivial⟩⟩⟩⟩ ⟨⟨rfl, rfl, rfl⟩, trivial⟩ trivial) (Nat.zero_le _) ?_
  rintro m hm
  try dsimp only at *
  refine AWP.seq ?_
  refine AWP.seq ?_
  refine AWP.region ?_
  refine AOps.call (o_move _ rfl rfl) ?_
  refine AOps.call (o_fieldRef _ rfl fa24_6 rfl rfl) ?_
  refine AOps.call (o_loadRef _ rfl rfl Tryz.sizeOf22 Tryz.isAgg22 rfl rfl rfl) ?_
  refine AOps.call (o_len _ Tryz.underlying22 rfl rfl) ?_
  refine AOps.call (o_bin _ _ rfl rfl (fun _ => rfl) rfl) ?_
  refine AOps.nil ?_
  refine AWP.cond _ rfl (fun h10 => ?_) (fun h10 => ?_)
  · skip
    have hmt : m < p.log.length := by have := of_decide_eq_true h10; omega
    have hLl : (lev (nx (p.pb w)) m []).length ≤ 6561 := Nat.le_trans (lvl_len p w m) (pow8 (by omega))
    have hcl := css_len (lev (nx (p.pb w)) m [])
    have htl : ((shws p.log).drop 0).take (((m : Int) + 1).toNat - 0) = shws (p.log.take (m + 1)) := by rw [show ((m : Int) + 1).toNat - 0 = m + 1 by omega]; simp [shws, List.map_take]
    have hts : ((sps w).drop 0).take (m - 0) = sps (w.take m) := by rw [Nat.sub_zero]; simp [sps, List.map_take]
    refine AWP.skip ?_
    refine AWP.seq ?_
    refine AWP.block ?_
    refine AWP.seq ?_
    refine AWP.region ?_
    refine AOps.call (o_loadRef _ rfl rfl Tryz.sizeOf24 Tryz.isAgg24 rfl rfl rfl) ?_
    refine AOps.call (o_alloc ze24 rfl rfl) ?_
    refine AOps.cons (o_store _ _ rfl rfl Tryz.sizeOf24 rfl rfl rfl rfl rfl) ?_
    refine AOps.nil ?_
    refine AWP.seq ?_
    refine AWP.region ?_
    refine AOps.call (o_fieldRef _ rfl fa24_6 rfl rfl) ?_
    refine AOps.call (o_loadRef _ rfl rfl Tryz.sizeOf22 Tryz.isAgg22 rfl rfl rfl) ?_
    refine AOps.call (o_move _ rfl rfl) ?_
    refine AOps.call (o_sliceE (rs := shws (p.log.take (m + 1))) _ _ _ Tryz.underlying22 Tryz.sizeOf27 rfl rfl rfl (by omega) (by omega) shws_z htl rfl) ?_
    refine AOps.call (o_fieldRef _ rfl fa24_6 rfl rfl) ?_
    refine AOps.cons (o_store _ _ rfl rfl Tryz.sizeOf22 rfl rfl rfl rfl rfl) ?_
    refine AOps.nil ?_
    refine AWP.seq ?_
    refine AWP.region ?_
    refine AOps.call (o_nil (z := 1) (e := 25) rfl) ?_
    refine AOps.nil ?_
    refine AWP.seq ?_
    refine AWP.seq ?_
    refine AWP.region ?_
    refine AOps.call (o_assign _ rfl rfl) ?_
    refine AOps.nil ?_
    refine AWP.block ?_
    refine AWP.loop (ι := Nat) (fun i => AS.mk' 69 [(1, .sl (sps w)), (2, .ref (2, 0) 0), (5, .sl (css (lev (nx (p.pb w)) m []))), (6, I ((m : Int) + 1)), (7, .ref (7, 0) 0), (8, .own (8, 0) (css (accC p w (m + 1) (lev (nx (p.pb w)) m []) i 0))), (9, I i)] [((2, 0), eP p), ((7, 0), eP (p.cut (m + 1)))] [((8, 0), ((css (accC p w (m + 1) (lev (nx (p.pb w)) m []) i 0)).length, 1, 25))] [(2, 1), (7, 1), (8, 1)]) (fun i => i ≤ (lev (nx (p.pb w)) m []).length) (fun i => (lev (nx (p.pb w)) m []).length - i) (0) (Weak.mk' rfl ⟨⟨.refl rfl, rfl⟩, ⟨⟨.refl rfl, rfl⟩, ⟨⟨.refl rfl, rfl⟩, ⟨⟨.refl rfl, rfl⟩, ⟨⟨.refl rfl, rfl⟩, ⟨⟨.refl rfl, rfl⟩, ⟨⟨.refl rfl, rfl⟩, trivial⟩⟩⟩⟩⟩⟩⟩ ⟨⟨rfl, rfl, rfl⟩, ⟨⟨rfl, rfl, rfl⟩, trivial⟩⟩ ⟨⟨rfl, rfl⟩, trivial⟩) (Nat.zero_le _) ?_
    rintro k hk
    try dsimp only at *
    refine AWP.seq ?_
    refine AWP.seq ?_
    refine AWP.region ?_
    refine AOps.call (o_move _ rfl rfl) ?_
    refine AOps.call (o_move _ rfl rfl) ?_
    refine AOps.call (o_len _ Tryz.underlying40 rfl rfl) ?_
    refine AOps.call (o_bin _ _ rfl rfl (fun _ => rfl) rfl) ?_
    refine AOps.nil ?_
    refine AWP.cond _ rfl (fun h21 => ?_) (fun h21 => ?_)
    · skip
      have hlt : k < (lev (nx (p.pb w)) m []).length := by have := of_decide_eq_true h21; omega
      have hel := css_gD hlt
      have hin : ((lev (nx (p.pb w)) m []).getD k []) ∈ (lev (nx (p.pb w)) m []) := by rw [List.getD_eq_getElem?_getD, List.getElem?_eq_getElem hlt]; exact List.getElem_mem hlt
      have hbl : ((lev (nx (p.pb w)) m []).getD k []).length = m := ((mem_lev _ hp.faults.1).1 hin).1
      refine AWP.skip ?_
      refine AWP.seq ?_
      refine AWP.block ?_
      refine AWP.seq ?_
      refine AWP.region ?_
      refine AOps.call (o_assign _ rfl rfl) ?_
      refine AOps.nil ?_
      refine AWP.block ?_
      refine AWP.loop (ι := Nat) (fun i => AS.mk' 69 [(1, .sl (sps w)), (2, .ref (2, 0) 0), (5, .sl (css (lev (nx (p.pb w)) m []))), (6, I ((m : Int) + 1)), (7, .ref (7, 0) 0), (8, .own (8, 0) (css (accC p w (m + 1) (lev (nx (p.pb w)) m []) k i))), (9, I k), (10, I i)] [((2, 0), eP p), ((7, 0), eP (p.cut (m + 1)))] [((8, 0), ((css (accC p w (m + 1) (lev (nx (p.pb w)) m []) k i)).length, 1, 25))] [(2, 1), (7, 1), (8, 1)]) (fun i => i ≤ 3) (fun i => 3 - i) (0) (Weak.mk' rfl ⟨⟨.refl rfl, rfl⟩, ⟨⟨.refl rfl, rfl⟩, ⟨⟨.refl rfl, rfl⟩, ⟨⟨.refl rfl, rfl⟩, ⟨⟨.refl rfl, rfl⟩, ⟨⟨.refl rfl, rfl⟩, ⟨⟨.refl rfl, rfl⟩, ⟨⟨.refl rfl, rfl⟩, trivial⟩⟩⟩⟩⟩⟩⟩⟩ ⟨⟨rfl, rfl, rfl⟩, ⟨⟨rfl, rfl, rfl⟩, trivial⟩⟩ ⟨⟨rfl, rfl⟩, trivial⟩) (Nat.zero_le _) ?_
      rintro j hj
      try dsimp only at *
      refine AWP.seq ?_
      refine AWP.seq ?_
      refine AWP.region ?_
      refine AOps.call (o_move _ rfl rfl) ?_
      refine AOps.call (o_bin _ _ rfl rfl (fun _ => rfl) rfl) ?_
      refine AOps.nil ?_
      refine AWP.cond _ rfl (fun h24 => ?_) (fun h24 => ?_)
      · skip
        have hj3 : j < 3 := by have := of_decide_eq_true h24; omega
        have hal := accC_len p w (m + 1) (lev (nx (p.pb w)) m []) k j
        have hnl : (((lev (nx (p.pb w)) m []).getD k []) ++ [(j : Int)]).length = m + 1 := by rw [List.length_append, hbl]; rfl
        have hnc : (((lev (nx (p.pb w)) m []).getD k []) ++ [(j : Int)]).length = (p.cut (m + 1)).log.length := by rw [hnl, cut_len (by omega)]
        by_cases hbn : ((lev (nx (p.pb w)) m []).getD k []) = []
        · skip
          have hbs : slEs (.sl (ints ((lev (nx (p.pb w)) m []).getD k []))) = some [] := by rw [hbn]; rfl
          refine AWP.skip ?_
          refine AWP.seq ?_
          refine AWP.block ?_
          refine AWP.seq ?_
          refine AWP.region ?_
          refine AOps.call (o_lit0 Tryz.underlying25 Tryz.sizeOf3 Tryz.zeroValue3 rfl) ?_
          refine AOps.call (o_move _ rfl rfl) ?_
          refine AOps.call (o_move _ rfl rfl) ?_
          refine AOps.call (o_index _ _ Tryz.underlying40 Tryz.sizeOf25 rfl rfl (by omega) hel rfl rfl) ?_
          refine AOps.call (o_loadRd _ rfl Tryz.sizeOf25 Tryz.isAgg25 rfl rfl rfl) ?_
          refine AOps.cons (OpAny.seq (o_append0 _ _ Tryz.underlying25 Tryz.sizeOf3 rfl hbs rfl)) ?_
          refine AOps.call (o_move _ rfl rfl) ?_
          refine AOps.call (o_lit Tryz.underlying25 Tryz.sizeOf3 Tryz.zeroValue3 rfl rfl rfl rfl rfl rfl rfl) ?_
          refine AOps.cons (OpAny.seq (o_appendNil0 (ns := [[I (j : Int)]]) (rs := ints (((lev (nx (p.pb w)) m []).getD k []) ++ [(j : Int)])) _ _ Tryz.underlying25 info3 rfl rfl rfl rfl rfl rfl rfl (fun c hc => by simp at hc; subst hc; rfl) (by unfold Tryz.t3; simp) rfl (by rw [hbn]; rfl) rfl)) ?_
          refine AOps.call (o_assign _ rfl rfl) ?_
          refine AOps.nil ?_
          refine AWP.seq ?_
          refine AWP.seq ?_
          refine AWP.region ?_
          refine AOps.call (o_loadRef _ rfl rfl Tryz.sizeOf24 Tryz.isAgg24 rfl rfl rfl) ?_
          refine AOps.call (o_move _ rfl rfl) ?_
          refine AOps.call (o_call (right_s (p.cut (m + 1)) (((lev (nx (p.pb w)) m []).getD k []) ++ [(j : Int)]) (cut_ok hp _) (by omega)) Tryz.call64 rfl rfl) ?_
          refine AOps.call (o_un _ rfl (fun _ => rfl) rfl) ?_
          refine AOps.nil ?_
          refine AWP.cond _ rfl (fun h34 => ?_) (fun h34 => ?_)
          · skip
            have hr : rgt (p.cut (m + 1)) (((lev (nx (p.pb w)) m []).getD k []) ++ [(j : Int)]) = false := by simpa using h34
            have hacc : (accC p w (m + 1) (lev (nx (p.pb w)) m []) k (j + 1)) = (accC p w (m + 1) (lev (nx (p.pb w)) m []) k j) := accC_no hj3 (by rw [okC_rgt, hr]; rfl)
            rw [← hacc]
            refine AWP.exit ?_
            refine AWP.region ?_
            refine AOps.call (o_move _ rfl rfl) ?_
            refine AOps.call (o_add _ _ rfl rfl ⟨by (try dsimp only); omega, by (try dsimp only); omega⟩ rfl) ?_
            refine AOps.call (o_assign _ rfl rfl) ?_
            refine AOps.nil ?_
            refine ⟨j + 1, ?_, (Weak.mk' rfl ⟨⟨.refl rfl, rfl⟩, ⟨⟨.refl rfl, rfl⟩, ⟨⟨.refl rfl, rfl⟩, ⟨⟨.refl rfl, rfl⟩, ⟨⟨.refl rfl, rfl⟩, ⟨⟨.refl rfl, rfl⟩, ⟨⟨.refl rfl, rfl⟩, ⟨⟨.refl rfl, rfl⟩, trivial⟩⟩⟩⟩⟩⟩⟩⟩ ⟨⟨rfl, rfl, rfl⟩, ⟨⟨rfl, rfl, rfl⟩, trivial⟩⟩ ⟨⟨rfl, rfl⟩, trivial⟩)⟩
            exact ⟨by omega, by omega⟩
          · skip
            have hr : rgt (p.cut (m + 1)) (((lev (nx (p.pb w)) m []).getD k []) ++ [(j : Int)]) = true := by simpa using h34
            refine AWP.skip ?_
            refine AWP.seq ?_
            refine AWP.drawn 12 mixed (by kernel_rfl) ?_
            refine AHead.call (o_loadRef _ rfl rfl Tryz.sizeOf24 Tryz.isAgg24 rfl rfl rfl) rfl ?_
            refine AHead.call (o_move _ rfl rfl) rfl ?_
            refine AHead.call (o_move _ rfl rfl) rfl ?_
            refine AHead.call (o_sub _ _ rfl rfl ⟨by (try dsimp only); omega, by (try dsimp only); omega⟩ rfl) rfl ?_
            refine AHead.call (o_sliceE (rs := sps (w.take m)) _ _ _ Tryz.underlying38 Tryz.sizeOf54 rfl rfl (boundA_some rfl (by omega) (show ((m : Int) + 1 - 1).toNat = m by omega)) (by omega) (by omega) sps_z hts rfl) rfl ?_
            refine AHead.call (o_move _ rfl rfl) rfl ?_
            refine AHead.call (o_call (ends_s (p.cut (m + 1)) (w.take m) (((lev (nx (p.pb w)) m []).getD k []) ++ [(j : Int)]) (cut_ok hp _) (okW_cut hw hmt) hnc) Tryz.call71 rfl rfl) rfl ?_
            refine AHead.call (o_move _ rfl rfl) rfl ?_
            refine AHead.call (o_extract _ rfl rfl rfl rfl) rfl ?_
            refine AHead.call (o_extract _ rfl rfl rfl rfl) rfl ?_
            refine AHead.call (o_assign _ rfl rfl) rfl ?_
            refine AHead.call (o_assign _ rfl rfl) rfl ?_
            refine AHead.nil ?_
            refine AOps.nil ?_
            refine AWP.seq ?_
            refine AWP.region ?_
            refine AOps.call (o_move _ rfl rfl) ?_
            refine AOps.nil ?_
            refine AWP.cond _ rfl (fun h43 => ?_) (fun h43 => ?_)
            · skip
              have hal2 : aliveP (p.cut (m + 1)) (w.take m) (((lev (nx (p.pb w)) m []).getD k []) ++ [(j : Int)]) := of_decide_eq_true h43
              have hacc : (accC p w (m + 1) (lev (nx (p.pb w)) m []) k (j + 1)) = (accC p w (m + 1) (lev (nx (p.pb w)) m []) k j) ++ [(((lev (nx (p.pb w)) m []).getD k []) ++ [(j : Int)])] := accC_yes hj3 (by rw [okC_rgt, hr, decide_eq_true hal2]; rfl)
              refine AWP.region ?_
              refine AOps.call (o_move _ rfl rfl) ?_
              refine AOps.call (o_move _ rfl rfl) ?_
              refine AOps.call (o_lit Tryz.underlying40 Tryz.sizeOf25 Tryz.zeroValue25 rfl rfl rfl rfl rfl rfl rfl) ?_
              refine AOps.cons (o_append _ _ Tryz.underlying40 info25 rfl rfl rfl rfl rfl rfl rfl rfl (fun c hc => by simp at hc; subst hc; rfl) css_z (by rw [css_len]; unfold Tryz.t25; simp only [List.length_cons, List.length_nil]; omega) rfl ((css_snoc _ _).trans (by rw [← hacc])) rfl) ?_
              refine AOps.call (o_assign _ rfl rfl) ?_
              refine AOps.nil ?_
              refine AWP.region ?_
              refine AOps.call (o_move _ rfl rfl) ?_
              refine AOps.call (o_add _ _ rfl rfl ⟨by (try dsimp only); omega, by (try dsimp only); omega⟩ rfl) ?_
              refine AOps.call (o_assign _ rfl rfl) ?_
              refine AOps.nil ?_
              refine ⟨j + 1, ?_, (Weak.mk' rfl ⟨⟨.refl rfl, rfl⟩, ⟨⟨.refl rfl, rfl⟩, ⟨⟨.refl rfl, rfl⟩, ⟨⟨.refl rfl, rfl⟩, ⟨⟨.refl rfl, rfl⟩, ⟨⟨.refl rfl, rfl⟩, ⟨⟨.refl rfl, rfl⟩, ⟨⟨.refl rfl, rfl⟩, trivial⟩⟩⟩⟩⟩⟩⟩⟩ ⟨⟨rfl, rfl, rfl⟩, ⟨⟨rfl, rfl, rfl⟩, trivial⟩⟩ ⟨⟨rfl, rfl⟩, trivial⟩)⟩
              exact ⟨by omega, by omega⟩
            · skip
              have hal2 : ¬ aliveP (p.cut (m + 1)) (w.take m) (((lev (nx (p.pb w)) m []).getD k []) ++ [(j : Int)]) := of_decide_eq_false h43
              have hacc : (accC p w (m + 1) (lev (nx (p.pb w)) m []) k (j + 1)) = (accC p w (m + 1) (lev (nx (p.pb w)) m []) k j) := accC_no hj3 (by rw [okC_rgt, hr, decide_eq_false hal2]; rfl)
              rw [← hacc]
              refine AWP.skip ?_
              refine AWP.region ?_
              refine AOps.call (o_move _ rfl rfl) ?_
              refine AOps.call (o_add _ _ rfl rfl ⟨by (try dsimp only); omega, by (try dsimp only); omega⟩ rfl) ?_
              refine AOps.call (o_assign _ rfl rfl) ?_
              refine AOps.nil ?_
              refine ⟨j + 1, ?_, (Weak.mk' rfl ⟨⟨.refl rfl, rfl⟩, ⟨⟨.refl rfl, rfl⟩, ⟨⟨.refl rfl, rfl⟩, ⟨⟨.refl rfl, rfl⟩, ⟨⟨.refl rfl, rfl⟩, ⟨⟨.refl rfl, rfl⟩, ⟨⟨.refl rfl, rfl⟩, ⟨⟨.refl rfl, rfl⟩, trivial⟩⟩⟩⟩⟩⟩⟩⟩ ⟨⟨rfl, rfl, rfl⟩, ⟨⟨rfl, rfl, rfl⟩, trivial⟩⟩ ⟨⟨rfl, rfl⟩, trivial⟩)⟩
              exact ⟨by omega, by omega⟩
        · skip
          skip
          refine AWP.skip ?_
          refine AWP.seq ?_
          refine AWP.block ?_
          refine AWP.seq ?_
          refine AWP.region ?_
          refine AOps.call (o_lit0 Tryz.underlying25 Tryz.sizeOf3 Tryz.zeroValue3 rfl) ?_
          refine AOps.call (o_move _ rfl rfl) ?_
          refine AOps.call (o_move _ rfl rfl) ?_
          refine AOps.call (o_index _ _ Tryz.underlying40 Tryz.sizeOf25 rfl rfl (by omega) hel rfl rfl) ?_
          refine AOps.call (o_loadRd _ rfl Tryz.sizeOf25 Tryz.isAgg25 rfl rfl rfl) ?_
          refine AOps.cons (OpAny.seq (o_appendNew _ _ Tryz.underlying25 info3 rfl rfl rfl rfl rfl rfl rfl ints_z (by rw [ints_len, hbl]; unfold Tryz.t3; simp only []; omega) rfl (by rw [ints_len]; exact List.length_pos_iff.2 hbn) rfl)) ?_
          refine AOps.call (o_move _ rfl rfl) ?_
          refine AOps.call (o_lit Tryz.underlying25 Tryz.sizeOf3 Tryz.zeroValue3 rfl rfl rfl rfl rfl rfl rfl) ?_
          refine AOps.cons (o_append _ _ Tryz.underlying25 info3 rfl rfl rfl rfl rfl rfl rfl rfl (fun c hc => by simp at hc; subst hc; rfl) ints_z (by rw [ints_len, hbl]; unfold Tryz.t3; simp only [List.length_cons, List.length_nil]; omega) rfl (ints_snoc _ _) rfl) ?_
          refine AOps.weak (Weak.toSl 47 rfl) ?_
          refine AOps.call (o_assign _ rfl rfl) ?_
          refine AOps.nil ?_
          refine AWP.seq ?_
          refine AWP.seq ?_
          refine AWP.region ?_
          refine AOps.call (o_loadRef _ rfl rfl Tryz.sizeOf24 Tryz.isAgg24 rfl rfl rfl) ?_
          refine AOps.call (o_move _ rfl rfl) ?_
          refine AOps.call (o_call (right_s (p.cut (m + 1)) (((lev (nx (p.pb w)) m []).getD k []) ++ [(j : Int)]) (cut_ok hp _) (by omega)) Tryz.call64 rfl rfl) ?_
          refine AOps.call (o_un _ rfl (fun _ => rfl) rfl) ?_
          refine AOps.nil ?_
          refine AWP.cond _ rfl (fun h57 => ?_) (fun h57 => ?_)
          · skip
            have hr : rgt (p.cut (m + 1)) (((lev (nx (p.pb w)) m []).getD k []) ++ [(j : Int)]) = false := by simpa using h57
            have hacc : (accC p w (m + 1) (lev (nx (p.pb w)) m []) k (j + 1)) = (accC p w (m + 1) (lev (nx (p.pb w)) m []) k j) := accC_no hj3 (by rw [okC_rgt, hr]; rfl)
            rw [← hacc]
            refine AWP.exit ?_
            refine AWP.region ?_
            refine AOps.call (o_move _ rfl rfl) ?_
            refine AOps.call (o_add _ _ rfl rfl ⟨by (try dsimp only); omega, by (try dsimp only); omega⟩ rfl) ?_
            refine AOps.call (o_assign _ rfl rfl) ?_
            refine AOps.nil ?_
            refine ⟨j + 1, ?_, (Weak.mk' rfl ⟨⟨.refl rfl, rfl⟩, ⟨⟨.refl rfl, rfl⟩, ⟨⟨.refl rfl, rfl⟩, ⟨⟨.refl rfl, rfl⟩, ⟨⟨.refl rfl, rfl⟩, ⟨⟨.refl rfl, rfl⟩, ⟨⟨.refl rfl, rfl⟩, ⟨⟨.refl rfl, rfl⟩, trivial⟩⟩⟩⟩⟩⟩⟩⟩ ⟨⟨rfl, rfl, rfl⟩, ⟨⟨rfl, rfl, rfl⟩, trivial⟩⟩ ⟨⟨rfl, rfl⟩, trivial⟩)⟩
            exact ⟨by omega, by omega⟩
          · skip
            have hr : rgt (p.cut (m + 1)) (((lev (nx (p.pb w)) m []).getD k []) ++ [(j : Int)]) = true := by simpa using h57
            refine AWP.skip ?_
            refine AWP.seq ?_
            refine AWP.drawn 12 mixed (by kernel_rfl) ?_
            refine AHead.call (o_loadRef _ rfl rfl Tryz.sizeOf24 Tryz.isAgg24 rfl rfl rfl) rfl ?_
            refine AHead.call (o_move _ rfl rfl) rfl ?_
            refine AHead.call (o_move _ rfl rfl) rfl ?_
            refine AHead.call (o_sub _ _ rfl rfl ⟨by (try dsimp only); omega, by (try dsimp only); omega⟩ rfl) rfl ?_
            refine AHead.call (o_sliceE (rs := sps (w.take m)) _ _ _ Tryz.underlying38 Tryz.sizeOf54 rfl rfl (boundA_some rfl (by omega) (show ((m : Int) + 1 - 1).toNat = m by omega)) (by omega) (by omega) sps_z hts rfl) rfl ?_
            refine AHead.call (o_move _ rfl rfl) rfl ?_
            refine AHead.call (o_call (ends_s (p.cut (m + 1)) (w.take m) (((lev (nx (p.pb w)) m []).getD k []) ++ [(j : Int)]) (cut_ok hp _) (okW_cut hw hmt) hnc) Tryz.call71 rfl rfl) rfl ?_
            refine AHead.call (o_move _ rfl rfl) rfl ?_
            refine AHead.call (o_extract _ rfl rfl rfl rfl) rfl ?_
            refine AHead.call (o_extract _ rfl rfl rfl rfl) rfl ?_
            refine AHead.call (o_assign _ rfl rfl) rfl ?_
            refine AHead.call (o_assign _ rfl rfl) rfl ?_
            refine AHead.nil ?_
            refine AOps.nil ?_
            refine AWP.seq ?_
            refine AWP.region ?_
            refine AOps.call (o_move _ rfl rfl) ?_
            refine AOps.nil ?_
            refine AWP.cond _ rfl (fun h66 => ?_) (fun h66 => ?_)
            · skip
              have hal2 : aliveP (p.cut (m + 1)) (w.take m) (((lev (nx (p.pb w)) m []).getD k []) ++ [(j : Int)]) := of_decide_eq_true h66
              have hacc : (accC p w (m + 1) (lev (nx (p.pb w)) m []) k (j + 1)) = (accC p w (m + 1) (lev (nx (p.pb w)) m []) k j) ++ [(((lev (nx (p.pb w)) m []).getD k []) ++ [(j : Int)])] := accC_yes hj3 (by rw [okC_rgt, hr, decide_eq_true hal2]; rfl)
              refine AWP.region ?_
              refine AOps.call (o_move _ rfl rfl) ?_
              refine AOps.call (o_move _ rfl rfl) ?_
              refine AOps.call (o_lit Tryz.underlying40 Tryz.sizeOf25 Tryz.zeroValue25 rfl rfl rfl rfl rfl rfl rfl) ?_
              refine AOps.cons (o_append _ _ Tryz.underlying40 info25 rfl rfl rfl rfl rfl rfl rfl rfl (fun c hc => by simp at hc; subst hc; rfl) css_z (by rw [css_len]; unfold Tryz.t25; simp only [List.length_cons, List.length_nil]; omega) rfl ((css_snoc _ _).trans (by rw [← hacc])) rfl) ?_
              refine AOps.call (o_assign _ rfl rfl) ?_
              refine AOps.nil ?_
              refine AWP.region ?_
              refine AOps.call (o_move _ rfl rfl) ?_
              refine AOps.call (o_add _ _ rfl rfl ⟨by (try dsimp only); omega, by (try dsimp only); omega⟩ rfl) ?_
              refine AOps.call (o_assign _ rfl rfl) ?_
              refine AOps.nil ?_
              refine ⟨j + 1, ?_, (Weak.mk' rfl ⟨⟨.refl rfl, rfl⟩, ⟨⟨.refl rfl, rfl⟩, ⟨⟨.refl rfl, rfl⟩, ⟨⟨.refl rfl, rfl⟩, ⟨⟨.refl rfl, rfl⟩, ⟨⟨.refl rfl, rfl⟩, ⟨⟨.refl rfl, rfl⟩, ⟨⟨.refl rfl, rfl⟩, trivial⟩⟩⟩⟩⟩⟩⟩⟩ ⟨⟨rfl, rfl, rfl⟩, ⟨⟨rfl, rfl, rfl⟩, trivial⟩⟩ ⟨⟨rfl, rfl⟩, trivial⟩)⟩
              exact ⟨by omega, by omega⟩
            · skip
              have hal2 : ¬ aliveP (p.cut (m + 1)) (w.take m) (((lev (nx (p.pb w)) m []).getD k []) ++ [(j : Int)]) := of_decide_eq_false h66
              have hacc : (accC p w (m + 1) (lev (nx (p.pb w)) m []) k (j + 1)) = (accC p w (m + 1) (lev (nx (p.pb w)) m []) k j) := accC_no hj3 (by rw [okC_rgt, hr, decide_eq_false hal2]; rfl)
              rw [← hacc]
              refine AWP.skip ?_
              refine AWP.region ?_
              refine AOps.call (o_move _ rfl rfl) ?_
              refine AOps.call (o_add _ _ rfl rfl ⟨by (try dsimp only); omega, by (try dsimp only); omega⟩ rfl) ?_
              refine AOps.call (o_assign _ rfl rfl) ?_
              refine AOps.nil ?_
              refine ⟨j + 1, ?_, (Weak.mk' rfl ⟨⟨.refl rfl, rfl⟩, ⟨⟨.refl rfl, rfl⟩, ⟨⟨.refl rfl, rfl⟩, ⟨⟨.refl rfl, rfl⟩, ⟨⟨.refl rfl, rfl⟩, ⟨⟨.refl rfl, rfl⟩, ⟨⟨.refl rfl, rfl⟩, ⟨⟨.refl rfl, rfl⟩, trivial⟩⟩⟩⟩⟩⟩⟩⟩ ⟨⟨rfl, rfl, rfl⟩, ⟨⟨rfl, rfl, rfl⟩, trivial⟩⟩ ⟨⟨rfl, rfl⟩, trivial⟩)⟩
              exact ⟨by omega, by omega⟩
      · skip
        have hj3 : j = 3 := by have := of_decide_eq_false h24; omega
        subst hj3
        have hnx := accC_next (p := p) (w := w) (n := m + 1) hlt
        rw [← hnx]
        refine AWP.exit ?_
        refine AWP.region ?_
        refine AOps.call (o_move _ rfl rfl) ?_
        refine AOps.call (o_add _ _ rfl rfl ⟨by (try dsimp only); omega, by (try dsimp only); omega⟩ rfl) ?_
        refine AOps.call (o_assign _ rfl rfl) ?_
        refine AOps.nil ?_
        refine ⟨k + 1, ?_, (Weak.mk' rfl ⟨⟨.refl rfl, rfl⟩, ⟨⟨.refl rfl, rfl⟩, ⟨⟨.refl rfl, rfl⟩, ⟨⟨.refl rfl, rfl⟩, ⟨⟨.refl rfl, rfl⟩, ⟨⟨.refl rfl, rfl⟩, ⟨⟨.refl rfl, rfl⟩, trivial⟩⟩⟩⟩⟩⟩⟩ ⟨⟨rfl, rfl, rfl⟩, ⟨⟨rfl, rfl, rfl⟩, trivial⟩⟩ ⟨⟨rfl, rfl⟩, trivial⟩)⟩
        exact ⟨by omega, by omega⟩
    · skip
      have hkl : k = (lev (nx (p.pb w)) m []).length := by have := of_decide_eq_false h21; omega
      have hdone : (accC p w (m + 1) (lev (nx (p.pb w)) m []) k 0) = lev (nx (p.pb w)) (m + 1) [] := by rw [accC_zero, hkl, List.take_length]; exact lvl_step hp hmt
      rw [hdone]
      refine AWP.exit ?_
      refine AWP.region ?_
      refine AOps.call (o_move _ rfl rfl) ?_
      refine AOps.call (o_assign _ rfl rfl) ?_
      refine AOps.nil ?_
      refine AWP.region ?_
      refine AOps.call (o_move _ rfl rfl) ?_
      refine AOps.call (o_add _ _ rfl rfl ⟨by (try dsimp only); omega, by (try dsimp only); omega⟩ rfl) ?_
      refine AOps.call (o_assign _ rfl rfl) ?_
      refine AOps.nil ?_
      refine ⟨m + 1, ?_, (Weak.mk' rfl ⟨⟨.refl rfl, rfl⟩, ⟨⟨.refl rfl, rfl⟩, ⟨⟨.sl rfl, rfl⟩, ⟨⟨.refl (congrArg I (by (try dsimp only); omega)), rfl⟩, trivial⟩⟩⟩⟩ ⟨⟨rfl, rfl, rfl⟩, trivial⟩ trivial)⟩
      exact ⟨by omega, by omega⟩
  · skip
    have hml : m = p.log.length := by have := of_decide_eq_false h10; omega
    subst hml
    refine AWP.exit ?_
    refine AWP.seq ?_
    refine AWP.region ?_
    refine AOps.call (o_move _ rfl rfl) ?_
    refine AOps.call (o_assign _ rfl rfl) ?_
    refine AOps.nil ?_
    refine AWP.ret ?_
    exact postQ.ret1 Tryz.results68 rfl rfl
end Go.Proofs.YtelenedgaoglaaaGreatDoor
