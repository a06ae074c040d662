/- L2. -/
import Derived.Test.YtelenedgaoglaaaDoorR27
set_option linter.unusedSimpArgs false
set_option linter.unusedVariables false
namespace Go.Proofs.YtelenedgaoglaaaDoor
open Go.Ab
open Go.Pil Go.RowKit

def wid (p : Plw) (nz sl fl : Int) : Plw := ⟨p.no, p.cell, max p.noise nz, max p.slab sl, p.jump, max p.faults fl, p.log⟩
def wSp (x : Int) (s : Sp) : Sp := ⟨max (s.lo - x) (-65536), min (s.hi + x) 65536⟩
def wWid (w : List Sp) (x : Int) : List Sp := w.map (wSp x)
theorem wid_ok {p : Plw} (hp : OkP p) {nz sl fl : Int} (h1 : 0 ≤ nz ∧ nz ≤ 65536) (h2 : 0 ≤ sl ∧ sl ≤ 65536) (h3 : 0 ≤ fl ∧ fl ≤ 32) : OkP (wid p nz sl fl) := by
  obtain ⟨a1, a2, a3, a4, a5, a6, a7, a8⟩ := hp
  refine ⟨a1, a2, ?_, a4, ?_, ?_, a7, a8⟩
  · show 0 ≤ max p.faults fl ∧ max p.faults fl ≤ 32; omega
  · show 0 ≤ max p.noise nz ∧ max p.noise nz ≤ 65536; omega
  · show 0 ≤ max p.slab sl ∧ max p.slab sl ≤ 65536; omega
theorem wSp_in {x : Int} (hx : 0 ≤ x) {s : Sp} (h : s.lo ≤ s.hi ∧ -65536 ≤ s.lo ∧ s.hi ≤ 65536) : s.In (wSp x s) ∧ (wSp x s).lo ≤ (wSp x s).hi ∧ -65536 ≤ (wSp x s).lo ∧ (wSp x s).hi ≤ 65536 := by
  simp only [wSp, Sp.In]; omega
theorem okW_all {p : Plw} {w : List Sp} (h : okW p w = true) : w.length = p.log.length - 1 ∧ ∀ s ∈ w, s.lo ≤ s.hi ∧ -65536 ≤ s.lo ∧ s.hi ≤ 65536 := by
  simp only [okW, Bool.and_eq_true, decide_eq_true_eq, List.all_eq_true, spB] at h
  exact ⟨h.1, fun s hs => ⟨(h.2 s hs).1.1, (h.2 s hs).1.2, (h.2 s hs).2⟩⟩
theorem wWid_ok {p : Plw} {w : List Sp} (h : okW p w = true) {x nz sl fl : Int} (hx : 0 ≤ x) : okW (wid p nz sl fl) (wWid w x) = true := by
  obtain ⟨h1, h2⟩ := okW_all h
  simp only [okW, Bool.and_eq_true, decide_eq_true_eq, List.all_eq_true, spB]
  refine ⟨by rw [wWid, List.length_map]; exact h1, fun s hs => ?_⟩
  obtain ⟨t, ht, rfl⟩ := List.mem_map.1 hs
  obtain ⟨g1, g2, g3, g4⟩ := wSp_in hx (h2 t ht)
  exact ⟨⟨g2, g3⟩, g4⟩
theorem wider {p : Plw} {w : List Sp} {l : List Int} (h0 : rcE p w l = 0) (ha : aliveP p w l) {nz sl fl x : Int} (h1 : 0 ≤ nz ∧ nz ≤ 65536) (h2 : 0 ≤ sl ∧ sl ≤ 65536) (h3 : 0 ≤ fl ∧ fl ≤ 32) (hx : 0 ≤ x) :
    rcE (wid p nz sl fl) (wWid w x) l = 0 ∧ aliveP (wid p nz sl fl) (wWid w x) l := by
  obtain ⟨g1, g2, g3, g4⟩ := rcE_0.1 h0
  have hp := okP_iff.1 g1
  refine ⟨rcE_0.2 ⟨okP_iff.2 (wid_ok hp h1 h2 h3), wWid_ok g2 hx, g3, ?_⟩, ?_⟩
  · obtain ⟨r1, r2, r3, r4⟩ := g4
    refine ⟨r1, r2, r3, ?_⟩
    have : flt l ≤ p.faults := r4
    show flt l ≤ max p.faults fl
    omega
  · unfold aliveP at ha ⊢
    obtain ⟨e1, e2⟩ := okW_all g2
    refine al_mono (fun i _ => allow_mono (p := p) (p' := wid p nz sl fl) rfl (show p.noise ≤ max p.noise nz by omega) (show p.slab ≤ max p.slab sl by omega) hp.slab.1 i _) (fun i hi => ?_) ha
    have hi2 : i < w.length := by omega
    show (w.getD i ⟨0, 0⟩).In ((wWid w x).getD i ⟨0, 0⟩)
    rw [List.getD_eq_getElem?_getD, List.getD_eq_getElem?_getD, wWid, List.getElem?_map, List.getElem?_eq_getElem hi2]
    exact (wSp_in hx (e2 _ (List.getElem_mem hi2))).1
theorem wWid_snoc {w : List Sp} {k : Nat} (hk : k < w.length) (x : Int) : sps (wWid (w.take k) x) ++ [[I (max (w[k].lo - x) (-65536)), I (min (w[k].hi + x) 65536)]] = sps (wWid (w.take (k + 1)) x) := by
  rw [List.take_succ_eq_append_getElem hk]
  simp only [sps, wWid, List.map_append, List.map_cons, List.map_nil]
  rfl
theorem wWid_len (w : List Sp) (x : Int) : (wWid w x).length = w.length := by simp [wWid]

set_option maxHeartbeats 4000000 in
set_option maxRecDepth 20000 in
theorem PillowWider_s (p : Plw) (w : List Sp) (l : List Int) (hw1 : w.length ≤ 9223372036854775807) (hl1 : l.length ≤ 9223372036854775807) (nz sl fl wx : Int) : FSpecG Tryd.prog TAB 6 [.agg (eP p), .sl (sps w), .sl (ints l), I nz, I sl, I fl, I wx] (B true) (none) := by
  refine FSpecG.of_body tab_stable Tryd.func6 rfl (leB rfl) fun w0 M0 hG => ?_
  have hsl := sps_len w
  refine AWP.seq ?_
  refine AWP.region ?_
  refine AOps.call (o_box _ rfl rfl rfl) ?_
  refine AOps.call (o_assign _ rfl rfl) ?_
  refine AOps.nil ?_
  refine AWP.seq ?_
  refine AWP.seq ?_
  refine AWP.region ?_
  refine AOps.call (o_callG (sane_s) hG Tryd.call8 rfl rfl) ?_
  refine AOps.call (o_un _ rfl (fun _ => rfl) rfl) ?_
  refine AOps.nil ?_
  refine AWP.cond _ rfl (fun h4 => ?_) (fun h4 => ?_)
  · skip
    exfalso
    simp at h4
  · skip
    refine AWP.skip ?_
    refine AWP.seq ?_
    refine AWP.region ?_
    refine AOps.call (o_loadRef _ rfl rfl Tryd.sizeOf24 Tryd.isAgg24 rfl rfl rfl) ?_
    refine AOps.call (o_move _ rfl rfl) ?_
    refine AOps.call (o_move _ rfl rfl) ?_
    refine AOps.call (o_call (Alive_s p w l hw1 hl1) Tryd.call9 rfl rfl) ?_
    refine AOps.call (o_move _ rfl rfl) ?_
    refine AOps.call (o_extract _ rfl rfl rfl rfl) ?_
    refine AOps.call (o_extract _ rfl rfl rfl rfl) ?_
    refine AOps.call (o_assign _ rfl rfl) ?_
    refine AOps.call (o_assign _ rfl rfl) ?_
    refine AOps.nil ?_
    refine AWP.seq ?_
    refine AWP.seq ?_
    refine AWP.region ?_
    refine AOps.call (o_move _ rfl rfl) ?_
    refine AOps.call (o_bin _ _ rfl rfl (fun _ => rfl) rfl) ?_
    refine AOps.call (o_move _ rfl rfl) ?_
    refine AOps.split rfl rfl rfl (fun h12 => ?_) (fun h12 => ?_)
    · skip
      have h0 : rcE p w l = 0 := by simpa using h12
      refine AOps.go rfl rfl rfl h12 (o_move _ rfl rfl) ?_
      refine AOps.go rfl rfl rfl h12 (o_un _ rfl (fun _ => rfl) rfl) ?_
      refine AOps.call (o_pickF _ _ _ rfl h12 rfl rfl) ?_
      refine AOps.call (o_move _ rfl rfl) ?_
      refine AOps.split rfl rfl rfl (fun h14 => ?_) (fun h14 => ?_)
      · skip
        have ha : aliveP p w l := by
          have h2 : decide (rcE p w l = 0 ∧ aliveP p w l) = true := by simpa using h14
          exact (of_decide_eq_true h2).2
        refine AOps.go rfl rfl rfl h14 (o_move _ rfl rfl) ?_
        refine AOps.go rfl rfl rfl h14 (o_bin _ _ rfl rfl (fun _ => rfl) rfl) ?_
        refine AOps.call (o_pickF _ _ _ rfl h14 rfl rfl) ?_
        refine AOps.call (o_move _ rfl rfl) ?_
        refine AOps.split rfl rfl rfl (fun h17 => ?_) (fun h17 => ?_)
        · skip
          have b1 := of_decide_eq_false h17
          refine AOps.go rfl rfl rfl h17 (o_move _ rfl rfl) ?_
          refine AOps.go rfl rfl rfl h17 (o_bin _ _ rfl rfl (fun _ => rfl) rfl) ?_
          refine AOps.call (o_pickF _ _ _ rfl h17 rfl rfl) ?_
          refine AOps.call (o_move _ rfl rfl) ?_
          refine AOps.split rfl rfl rfl (fun h20 => ?_) (fun h20 => ?_)
          · skip
            have b2 := of_decide_eq_false h20
            refine AOps.go rfl rfl rfl h20 (o_move _ rfl rfl) ?_
            refine AOps.go rfl rfl rfl h20 (o_bin _ _ rfl rfl (fun _ => rfl) rfl) ?_
            refine AOps.call (o_pickF _ _ _ rfl h20 rfl rfl) ?_
            refine AOps.call (o_move _ rfl rfl) ?_
            refine AOps.split rfl rfl rfl (fun h23 => ?_) (fun h23 => ?_)
            · skip
              have b3 := of_decide_eq_false h23
              refine AOps.go rfl rfl rfl h23 (o_move _ rfl rfl) ?_
              refine AOps.go rfl rfl rfl h23 (o_bin _ _ rfl rfl (fun _ => rfl) rfl) ?_
              refine AOps.call (o_pickF _ _ _ rfl h23 rfl rfl) ?_
              refine AOps.call (o_move _ rfl rfl) ?_
              refine AOps.split rfl rfl rfl (fun h26 => ?_) (fun h26 => ?_)
              · skip
                have b4 := of_decide_eq_false h26
                refine AOps.go rfl rfl rfl h26 (o_move _ rfl rfl) ?_
                refine AOps.go rfl rfl rfl h26 (o_bin _ _ rfl rfl (fun _ => rfl) rfl) ?_
                refine AOps.call (o_pickF _ _ _ rfl h26 rfl rfl) ?_
                refine AOps.call (o_move _ rfl rfl) ?_
                refine AOps.split rfl rfl rfl (fun h29 => ?_) (fun h29 => ?_)
                · skip
                  have b5 := of_decide_eq_false h29
                  refine AOps.go rfl rfl rfl h29 (o_move _ rfl rfl) ?_
                  refine AOps.go rfl rfl rfl h29 (o_bin _ _ rfl rfl (fun _ => rfl) rfl) ?_
                  refine AOps.call (o_pickF _ _ _ rfl h29 rfl rfl) ?_
                  refine AOps.call (o_move _ rfl rfl) ?_
                  refine AOps.split rfl rfl rfl (fun h32 => ?_) (fun h32 => ?_)
                  · skip
                    have b6 := of_decide_eq_false h32
                    refine AOps.go rfl rfl rfl h32 (o_move _ rfl rfl) ?_
                    refine AOps.go rfl rfl rfl h32 (o_bin _ _ rfl rfl (fun _ => rfl) rfl) ?_
                    refine AOps.call (o_pickF _ _ _ rfl h32 rfl rfl) ?_
                    refine AOps.call (o_move _ rfl rfl) ?_
                    refine AOps.split rfl rfl rfl (fun h35 => ?_) (fun h35 => ?_)
                    · skip
                      have b7 := of_decide_eq_false h35
                      refine AOps.go rfl rfl rfl h35 (o_move _ rfl rfl) ?_
                      refine AOps.go rfl rfl rfl h35 (o_bin _ _ rfl rfl (fun _ => rfl) rfl) ?_
                      refine AOps.call (o_pickF _ _ _ rfl h35 rfl rfl) ?_
                      refine AOps.nil ?_
                      refine AWP.cond _ rfl (fun h38 => ?_) (fun h38 => ?_)
                      · skip
                        refine AWP.seq ?_
                        refine AWP.region ?_
                        refine AOps.call (o_assign _ rfl rfl) ?_
                        refine AOps.nil ?_
                        refine AWP.ret ?_
                        first
                        | exact postQ.ret1 Tryd.results6 rfl rfl
                        | (refine postQ.ret1 Tryd.results6 rfl ?_; simp [AV.close, AV.close.closeL, B, I]; done)
                        | (refine postQ.ret1 Tryd.results6 rfl ?_; simp [AV.close, AV.close.closeL, B, I]; omega)
                        | (refine postQ.ret1 Tryd.results6 rfl ?_; simp_all [AV.close, AV.close.closeL, B, I]; done)
                        | (refine postQ.ret1 Tryd.results6 rfl ?_; simp_all [AV.close, AV.close.closeL, B, I]; omega)
                      · skip
                        have b8 := of_decide_eq_false h38
                        obtain ⟨g1, g2, g3, g4⟩ := rcE_0.1 h0
                        have hwd := wider h0 ha (nz := nz) (sl := sl) (fl := fl) (x := wx) ⟨by omega, by omega⟩ ⟨by omega, by omega⟩ ⟨by omega, by omega⟩ (by omega)
                        obtain ⟨e1, e2⟩ := okW_all g2
                        have h32 := (okP_iff.1 g1).len
                        refine AWP.skip ?_
                        refine AWP.seq ?_
                        refine AWP.region ?_
                        refine AOps.call (o_loadRef _ rfl rfl Tryd.sizeOf24 Tryd.isAgg24 rfl rfl rfl) ?_
                        refine AOps.call (o_alloc ze24 rfl rfl) ?_
                        refine AOps.cons (o_store _ _ rfl rfl Tryd.sizeOf24 rfl rfl rfl rfl rfl) ?_
                        refine AOps.nil ?_
                        refine AWP.seq ?_
                        refine AWP.region ?_
                        refine AOps.call (o_fieldRef _ rfl fa24_2 rfl rfl) ?_
                        refine AOps.call (o_loadRef _ rfl rfl Tryd.sizeOf3 Tryd.isAgg3 rfl rfl rfl) ?_
                        refine AOps.call (o_move _ rfl rfl) ?_
                        refine AOps.call (o_maxZ _ _ rfl rfl rfl) ?_
                        refine AOps.call (o_fieldRef _ rfl fa24_2 rfl rfl) ?_
                        refine AOps.cons (o_store _ _ rfl rfl Tryd.sizeOf3 rfl rfl rfl rfl rfl) ?_
                        refine AOps.nil ?_
                        refine AWP.seq ?_
                        refine AWP.region ?_
                        refine AOps.call (o_fieldRef _ rfl fa24_3 rfl rfl) ?_
                        refine AOps.call (o_loadRef _ rfl rfl Tryd.sizeOf3 Tryd.isAgg3 rfl rfl rfl) ?_
                        refine AOps.call (o_move _ rfl rfl) ?_
                        refine AOps.call (o_maxZ _ _ rfl rfl rfl) ?_
                        refine AOps.call (o_fieldRef _ rfl fa24_3 rfl rfl) ?_
                        refine AOps.cons (o_store _ _ rfl rfl Tryd.sizeOf3 rfl rfl rfl rfl rfl) ?_
                        refine AOps.nil ?_
                        refine AWP.seq ?_
                        refine AWP.region ?_
                        refine AOps.call (o_fieldRef _ rfl fa24_5 rfl rfl) ?_
                        refine AOps.call (o_loadRef _ rfl rfl Tryd.sizeOf3 Tryd.isAgg3 rfl rfl rfl) ?_
                        refine AOps.call (o_move _ rfl rfl) ?_
                        refine AOps.call (o_maxZ _ _ rfl rfl rfl) ?_
                        refine AOps.call (o_fieldRef _ rfl fa24_5 rfl rfl) ?_
                        refine AOps.cons (o_store _ _ rfl rfl Tryd.sizeOf3 rfl rfl rfl rfl rfl) ?_
                        refine AOps.nil ?_
                        refine AWP.seq ?_
                        refine AWP.region ?_
                        refine AOps.call (o_nil (z := 2) (e := 45) rfl) ?_
                        refine AOps.nil ?_
                        refine AWP.seq ?_
                        refine AWP.seq ?_
                        refine AWP.region ?_
                        refine AOps.call (o_assign _ rfl rfl) ?_
                        refine AOps.nil ?_
                        refine AWP.block ?_
                        refine AWP.loop (ι := Nat) (fun i => AS.mk' 123 [(1, .sl (sps w)), (2, .sl (ints l)), (6, I wx), (17, .ref (17, 0) 0), (18, .own (18, 0) (sps (wWid (w.take i) wx))), (19, I i)] [((17, 0), eP (wid p nz sl fl))] [((18, 0), ((sps (wWid (w.take i) wx)).length, 2, 45))] [(17, 1), (18, 1)]) (fun i => i ≤ w.length) (fun i => w.length - i) (0) (Weak.mk' rfl ⟨⟨.refl rfl, rfl⟩, ⟨⟨.refl rfl, rfl⟩, ⟨⟨.refl rfl, rfl⟩, ⟨⟨.refl rfl, rfl⟩, ⟨⟨.refl rfl, rfl⟩, ⟨⟨.refl rfl, rfl⟩, trivial⟩⟩⟩⟩⟩⟩ ⟨⟨rfl, rfl, rfl⟩, trivial⟩ ⟨⟨rfl, rfl⟩, trivial⟩) (Nat.zero_le _) ?_
                        rintro k hk
                        try dsimp only at *
                        refine AWP.seq ?_
                        refine AWP.seq ?_
                        refine AWP.region ?_
                        refine AOps.call (o_move _ rfl rfl) ?_
                        refine AOps.call (o_move _ rfl rfl) ?_
                        refine AOps.call (o_len _ Tryd.underlying25 rfl rfl) ?_
                        refine AOps.call (o_bin _ _ rfl rfl (fun _ => rfl) rfl) ?_
                        refine AOps.nil ?_
                        refine AWP.cond _ rfl (fun h61 => ?_) (fun h61 => ?_)
                        · skip
                          have hlt : k < w.length := by have := of_decide_eq_true h61; omega
                          have hel := sps_at hlt
                          have hbd := e2 _ (List.getElem_mem hlt)
                          refine AWP.skip ?_
                          refine AWP.seq ?_
                          refine AWP.block ?_
                          refine AWP.drawn 19 mixed (by kernel_rfl) ?_
                          refine AHead.call (o_move _ rfl rfl) rfl ?_
                          refine AHead.call (o_move _ rfl rfl) rfl ?_
                          refine AHead.call (o_move _ rfl rfl) rfl ?_
                          refine AHead.call (o_index _ _ Tryd.underlying25 Tryd.sizeOf45 rfl rfl (by omega) (by assumption) rfl rfl) rfl ?_
                          refine AHead.call (o_fieldRd _ rfl fa45_0 rfl) rfl ?_
                          refine AHead.call (o_loadRd _ rfl Tryd.sizeOf3 Tryd.isAgg3 rfl rfl rfl) rfl ?_
                          refine AHead.call (o_move _ rfl rfl) rfl ?_
                          refine AHead.call (o_sub _ _ rfl rfl ⟨by (try dsimp only); omega, by (try dsimp only); omega⟩ rfl) rfl ?_
                          refine AHead.call (o_maxZ _ _ rfl rfl rfl) rfl ?_
                          refine AHead.call (o_move _ rfl rfl) rfl ?_
                          refine AHead.call (o_move _ rfl rfl) rfl ?_
                          refine AHead.call (o_index _ _ Tryd.underlying25 Tryd.sizeOf45 rfl rfl (by omega) (by assumption) rfl rfl) rfl ?_
                          refine AHead.call (o_fieldRd _ rfl fa45_1 rfl) rfl ?_
                          refine AHead.call (o_loadRd _ rfl Tryd.sizeOf3 Tryd.isAgg3 rfl rfl rfl) rfl ?_
                          refine AHead.call (o_move _ rfl rfl) rfl ?_
                          refine AHead.call (o_add _ _ rfl rfl ⟨by (try dsimp only); omega, by (try dsimp only); omega⟩ rfl) rfl ?_
                          refine AHead.call (o_minZ _ _ rfl rfl rfl) rfl ?_
                          refine AHead.call (o_build bu45 rfl rfl rfl) rfl ?_
                          refine AHead.call (o_lit Tryd.underlying25 Tryd.sizeOf45 Tryd.zeroValue45 rfl rfl rfl rfl rfl rfl rfl) rfl ?_
                          refine AHead.nil ?_
                          refine AOps.cons (o_append _ _ Tryd.underlying25 info45 rfl rfl rfl rfl rfl rfl rfl rfl (fun c hc => by simp at hc; subst hc; rfl) sps_z (by
                              rw [sps_len, wWid_len, List.length_take]; unfold Tryd.t45; simp only [List.length_cons, List.length_nil]; omega) rfl (wWid_snoc hlt wx) rfl) ?_
                          refine AOps.call (o_assign _ rfl rfl) ?_
                          refine AOps.nil ?_
                          refine AWP.region ?_
                          refine AOps.call (o_move _ rfl rfl) ?_
                          refine AOps.call (o_add _ _ rfl rfl ⟨by (try dsimp only); omega, by (try dsimp only); omega⟩ rfl) ?_
                          refine AOps.call (o_assign _ rfl rfl) ?_
                          refine AOps.nil ?_
                          refine ⟨k + 1, ?_, (Weak.mk' rfl ⟨⟨.refl rfl, rfl⟩, ⟨⟨.refl rfl, rfl⟩, ⟨⟨.refl rfl, rfl⟩, ⟨⟨.refl rfl, rfl⟩, ⟨⟨.refl rfl, rfl⟩, ⟨⟨.refl rfl, rfl⟩, trivial⟩⟩⟩⟩⟩⟩ ⟨⟨rfl, rfl, rfl⟩, trivial⟩ ⟨⟨rfl, rfl⟩, trivial⟩)⟩
                          exact ⟨by omega, by omega⟩
                        · skip
                          have hkl : k = w.length := by have := of_decide_eq_false h61; omega
                          subst hkl
                          rw [List.take_length]
                          have hB := Alive_s (wid p nz sl fl) (wWid w wx) l (by rw [wWid_len]; exact hw1) hl1
                          rw [decide_eq_true hwd, hwd.1] at hB
                          refine AWP.exit ?_
                          refine AWP.seq ?_
                          refine AWP.region ?_
                          refine AOps.call (o_loadRef _ rfl rfl Tryd.sizeOf24 Tryd.isAgg24 rfl rfl rfl) ?_
                          refine AOps.call (o_move _ rfl rfl) ?_
                          refine AOps.call (o_move _ rfl rfl) ?_
                          refine AOps.call (o_call (hB) Tryd.call9 rfl rfl) ?_
                          refine AOps.call (o_move _ rfl rfl) ?_
                          refine AOps.call (o_extract _ rfl rfl rfl rfl) ?_
                          refine AOps.call (o_extract _ rfl rfl rfl rfl) ?_
                          refine AOps.call (o_assign _ rfl rfl) ?_
                          refine AOps.call (o_assign _ rfl rfl) ?_
                          refine AOps.nil ?_
                          refine AWP.seq ?_
                          refine AWP.region ?_
                          refine AOps.call (o_move _ rfl rfl) ?_
                          refine AOps.call (o_bin _ _ rfl rfl (fun _ => rfl) rfl) ?_
                          refine AOps.call (o_move _ rfl rfl) ?_
                          refine AOps.split rfl rfl rfl (fun h86 => ?_) (fun h86 => ?_)
                          · skip
                            refine AOps.go rfl rfl rfl h86 (o_move _ rfl rfl) ?_
                            refine AOps.call (o_pickT _ _ _ rfl h86 rfl rfl) ?_
                            refine AOps.call (o_assign _ rfl rfl) ?_
                            refine AOps.nil ?_
                            refine AWP.ret ?_
                            first
                            | exact postQ.ret1 Tryd.results6 rfl rfl
                            | (refine postQ.ret1 Tryd.results6 rfl ?_; simp [AV.close, AV.close.closeL, B, I]; done)
                            | (refine postQ.ret1 Tryd.results6 rfl ?_; simp [AV.close, AV.close.closeL, B, I]; omega)
                            | (refine postQ.ret1 Tryd.results6 rfl ?_; simp_all [AV.close, AV.close.closeL, B, I]; done)
                            | (refine postQ.ret1 Tryd.results6 rfl ?_; simp_all [AV.close, AV.close.closeL, B, I]; omega)
                          · skip
                            refine AOps.pass rfl rfl rfl h86 rfl ?_
                            refine AOps.call (o_pickF _ _ _ rfl h86 rfl rfl) ?_
                            refine AOps.call (o_assign _ rfl rfl) ?_
                            refine AOps.nil ?_
                            refine AWP.ret ?_
                            first
                            | exact postQ.ret1 Tryd.results6 rfl rfl
                            | (refine postQ.ret1 Tryd.results6 rfl ?_; simp [AV.close, AV.close.closeL, B, I]; done)
                            | (refine postQ.ret1 Tryd.results6 rfl ?_; simp [AV.close, AV.close.closeL, B, I]; omega)
                            | (refine postQ.ret1 Tryd.results6 rfl ?_; simp_all [AV.close, AV.close.closeL, B, I]; done)
                            | (refine postQ.ret1 Tryd.results6 rfl ?_; simp_all [AV.close, AV.close.closeL, B, I]; omega)
                    · skip
                      refine AOps.pass rfl rfl rfl h35 rfl ?_
                      refine AOps.pass rfl rfl rfl h35 rfl ?_
                      refine AOps.call (o_pickT _ _ _ rfl h35 rfl rfl) ?_
                      refine AOps.nil ?_
                      refine AWP.condT rfl ?_
                      refine AWP.seq ?_
                      refine AWP.region ?_
                      refine AOps.call (o_assign _ rfl rfl) ?_
                      refine AOps.nil ?_
                      refine AWP.ret ?_
                      first
                      | exact postQ.ret1 Tryd.results6 rfl rfl
                      | (refine postQ.ret1 Tryd.results6 rfl ?_; simp [AV.close, AV.close.closeL, B, I]; done)
                      | (refine postQ.ret1 Tryd.results6 rfl ?_; simp [AV.close, AV.close.closeL, B, I]; omega)
                      | (refine postQ.ret1 Tryd.results6 rfl ?_; simp_all [AV.close, AV.close.closeL, B, I]; done)
                      | (refine postQ.ret1 Tryd.results6 rfl ?_; simp_all [AV.close, AV.close.closeL, B, I]; omega)
                  · skip
                    refine AOps.pass rfl rfl rfl h32 rfl ?_
                    refine AOps.pass rfl rfl rfl h32 rfl ?_
                    refine AOps.call (o_pickT _ _ _ rfl h32 rfl rfl) ?_
                    refine AOps.call (o_move _ rfl rfl) ?_
                    refine AOps.pass rfl rfl rfl rfl rfl ?_
                    refine AOps.pass rfl rfl rfl rfl rfl ?_
                    refine AOps.call (o_pickT _ _ _ rfl rfl rfl rfl) ?_
                    refine AOps.nil ?_
                    refine AWP.condT rfl ?_
                    refine AWP.seq ?_
                    refine AWP.region ?_
                    refine AOps.call (o_assign _ rfl rfl) ?_
                    refine AOps.nil ?_
                    refine AWP.ret ?_
                    first
                    | exact postQ.ret1 Tryd.results6 rfl rfl
                    | (refine postQ.ret1 Tryd.results6 rfl ?_; simp [AV.close, AV.close.closeL, B, I]; done)
                    | (refine postQ.ret1 Tryd.results6 rfl ?_; simp [AV.close, AV.close.closeL, B, I]; omega)
                    | (refine postQ.ret1 Tryd.results6 rfl ?_; simp_all [AV.close, AV.close.closeL, B, I]; done)
                    | (refine postQ.ret1 Tryd.results6 rfl ?_; simp_all [AV.close, AV.close.closeL, B, I]; omega)
                · skip
                  refine AOps.pass rfl rfl rfl h29 rfl ?_
                  refine AOps.pass rfl rfl rfl h29 rfl ?_
                  refine AOps.call (o_pickT _ _ _ rfl h29 rfl rfl) ?_
                  refine AOps.call (o_move _ rfl rfl) ?_
                  refine AOps.pass rfl rfl rfl rfl rfl ?_
                  refine AOps.pass rfl rfl rfl rfl rfl ?_
                  refine AOps.call (o_pickT _ _ _ rfl rfl rfl rfl) ?_
                  refine AOps.call (o_move _ rfl rfl) ?_
                  refine AOps.pass rfl rfl rfl rfl rfl ?_
                  refine AOps.pass rfl rfl rfl rfl rfl ?_
                  refine AOps.call (o_pickT _ _ _ rfl rfl rfl rfl) ?_
                  refine AOps.nil ?_
                  refine AWP.condT rfl ?_
                  refine AWP.seq ?_
                  refine AWP.region ?_
                  refine AOps.call (o_assign _ rfl rfl) ?_
                  refine AOps.nil ?_
                  refine AWP.ret ?_
                  first
                  | exact postQ.ret1 Tryd.results6 rfl rfl
                  | (refine postQ.ret1 Tryd.results6 rfl ?_; simp [AV.close, AV.close.closeL, B, I]; done)
                  | (refine postQ.ret1 Tryd.results6 rfl ?_; simp [AV.close, AV.close.closeL, B, I]; omega)
                  | (refine postQ.ret1 Tryd.results6 rfl ?_; simp_all [AV.close, AV.close.closeL, B, I]; done)
                  | (refine postQ.ret1 Tryd.results6 rfl ?_; simp_all [AV.close, AV.close.closeL, B, I]; omega)
              · skip
                refine AOps.pass rfl rfl rfl h26 rfl ?_
                refine AOps.pass rfl rfl rfl h26 rfl ?_
                refine AOps.call (o_pickT _ _ _ rfl h26 rfl rfl) ?_
                refine AOps.call (o_move _ rfl rfl) ?_
                refine AOps.pass rfl rfl rfl rfl rfl ?_
                refine AOps.pass rfl rfl rfl rfl rfl ?_
                refine AOps.call (o_pickT _ _ _ rfl rfl rfl rfl) ?_
                refine AOps.call (o_move _ rfl rfl) ?_
                refine AOps.pass rfl rfl rfl rfl rfl ?_
                refine AOps.pass rfl rfl rfl rfl rfl ?_
                refine AOps.call (o_pickT _ _ _ rfl rfl rfl rfl) ?_
                refine AOps.call (o_move _ rfl rfl) ?_
                refine AOps.pass rfl rfl rfl rfl rfl ?_
                refine AOps.pass rfl rfl rfl rfl rfl ?_
                refine AOps.call (o_pickT _ _ _ rfl rfl rfl rfl) ?_
                refine AOps.nil ?_
                refine AWP.condT rfl ?_
                refine AWP.seq ?_
                refine AWP.region ?_
                refine AOps.call (o_assign _ rfl rfl) ?_
                refine AOps.nil ?_
                refine AWP.ret ?_
                first
                | exact postQ.ret1 Tryd.results6 rfl rfl
                | (refine postQ.ret1 Tryd.results6 rfl ?_; simp [AV.close, AV.close.closeL, B, I]; done)
                | (refine postQ.ret1 Tryd.results6 rfl ?_; simp [AV.close, AV.close.closeL, B, I]; omega)
                | (refine postQ.ret1 Tryd.results6 rfl ?_; simp_all [AV.close, AV.close.closeL, B, I]; done)
                | (refine postQ.ret1 Tryd.results6 rfl ?_; simp_all [AV.close, AV.close.closeL, B, I]; omega)
            · skip
              refine AOps.pass rfl rfl rfl h23 rfl ?_
              refine AOps.pass rfl rfl rfl h23 rfl ?_
              refine AOps.call (o_pickT _ _ _ rfl h23 rfl rfl) ?_
              refine AOps.call (o_move _ rfl rfl) ?_
              refine AOps.pass rfl rfl rfl rfl rfl ?_
              refine AOps.pass rfl rfl rfl rfl rfl ?_
              refine AOps.call (o_pickT _ _ _ rfl rfl rfl rfl) ?_
              refine AOps.call (o_move _ rfl rfl) ?_
              refine AOps.pass rfl rfl rfl rfl rfl ?_
              refine AOps.pass rfl rfl rfl rfl rfl ?_
              refine AOps.call (o_pickT _ _ _ rfl rfl rfl rfl) ?_
              refine AOps.call (o_move _ rfl rfl) ?_
              refine AOps.pass rfl rfl rfl rfl rfl ?_
              refine AOps.pass rfl rfl rfl rfl rfl ?_
              refine AOps.call (o_pickT _ _ _ rfl rfl rfl rfl) ?_
              refine AOps.call (o_move _ rfl rfl) ?_
              refine AOps.pass rfl rfl rfl rfl rfl ?_
              refine AOps.pass rfl rfl rfl rfl rfl ?_
              refine AOps.call (o_pickT _ _ _ rfl rfl rfl rfl) ?_
              refine AOps.nil ?_
              refine AWP.condT rfl ?_
              refine AWP.seq ?_
              refine AWP.region ?_
              refine AOps.call (o_assign _ rfl rfl) ?_
              refine AOps.nil ?_
              refine AWP.ret ?_
              first
              | exact postQ.ret1 Tryd.results6 rfl rfl
              | (refine postQ.ret1 Tryd.results6 rfl ?_; simp [AV.close, AV.close.closeL, B, I]; done)
              | (refine postQ.ret1 Tryd.results6 rfl ?_; simp [AV.close, AV.close.closeL, B, I]; omega)
              | (refine postQ.ret1 Tryd.results6 rfl ?_; simp_all [AV.close, AV.close.closeL, B, I]; done)
              | (refine postQ.ret1 Tryd.results6 rfl ?_; simp_all [AV.close, AV.close.closeL, B, I]; omega)
          · skip
            refine AOps.pass rfl rfl rfl h20 rfl ?_
            refine AOps.pass rfl rfl rfl h20 rfl ?_
            refine AOps.call (o_pickT _ _ _ rfl h20 rfl rfl) ?_
            refine AOps.call (o_move _ rfl rfl) ?_
            refine AOps.pass rfl rfl rfl rfl rfl ?_
            refine AOps.pass rfl rfl rfl rfl rfl ?_
            refine AOps.call (o_pickT _ _ _ rfl rfl rfl rfl) ?_
            refine AOps.call (o_move _ rfl rfl) ?_
            refine AOps.pass rfl rfl rfl rfl rfl ?_
            refine AOps.pass rfl rfl rfl rfl rfl ?_
            refine AOps.call (o_pickT _ _ _ rfl rfl rfl rfl) ?_
            refine AOps.call (o_move _ rfl rfl) ?_
            refine AOps.pass rfl rfl rfl rfl rfl ?_
            refine AOps.pass rfl rfl rfl rfl rfl ?_
            refine AOps.call (o_pickT _ _ _ rfl rfl rfl rfl) ?_
            refine AOps.call (o_move _ rfl rfl) ?_
            refine AOps.pass rfl rfl rfl rfl rfl ?_
            refine AOps.pass rfl rfl rfl rfl rfl ?_
            refine AOps.call (o_pickT _ _ _ rfl rfl rfl rfl) ?_
            refine AOps.call (o_move _ rfl rfl) ?_
            refine AOps.pass rfl rfl rfl rfl rfl ?_
            refine AOps.pass rfl rfl rfl rfl rfl ?_
            refine AOps.call (o_pickT _ _ _ rfl rfl rfl rfl) ?_
            refine AOps.nil ?_
            refine AWP.condT rfl ?_
            refine AWP.seq ?_
            refine AWP.region ?_
            refine AOps.call (o_assign _ rfl rfl) ?_
            refine AOps.nil ?_
            refine AWP.ret ?_
            first
            | exact postQ.ret1 Tryd.results6 rfl rfl
            | (refine postQ.ret1 Tryd.results6 rfl ?_; simp [AV.close, AV.close.closeL, B, I]; done)
            | (refine postQ.ret1 Tryd.results6 rfl ?_; simp [AV.close, AV.close.closeL, B, I]; omega)
            | (refine postQ.ret1 Tryd.results6 rfl ?_; simp_all [AV.close, AV.close.closeL, B, I]; done)
            | (refine postQ.ret1 Tryd.results6 rfl ?_; simp_all [AV.close, AV.close.closeL, B, I]; omega)
        · skip
          refine AOps.pass rfl rfl rfl h17 rfl ?_
          refine AOps.pass rfl rfl rfl h17 rfl ?_
          refine AOps.call (o_pickT _ _ _ rfl h17 rfl rfl) ?_
          refine AOps.call (o_move _ rfl rfl) ?_
          refine AOps.pass rfl rfl rfl rfl rfl ?_
          refine AOps.pass rfl rfl rfl rfl rfl ?_
          refine AOps.call (o_pickT _ _ _ rfl rfl rfl rfl) ?_
          refine AOps.call (o_move _ rfl rfl) ?_
          refine AOps.pass rfl rfl rfl rfl rfl ?_
          refine AOps.pass rfl rfl rfl rfl rfl ?_
          refine AOps.call (o_pickT _ _ _ rfl rfl rfl rfl) ?_
          refine AOps.call (o_move _ rfl rfl) ?_
          refine AOps.pass rfl rfl rfl rfl rfl ?_
          refine AOps.pass rfl rfl rfl rfl rfl ?_
          refine AOps.call (o_pickT _ _ _ rfl rfl rfl rfl) ?_
          refine AOps.call (o_move _ rfl rfl) ?_
          refine AOps.pass rfl rfl rfl rfl rfl ?_
          refine AOps.pass rfl rfl rfl rfl rfl ?_
          refine AOps.call (o_pickT _ _ _ rfl rfl rfl rfl) ?_
          refine AOps.call (o_move _ rfl rfl) ?_
          refine AOps.pass rfl rfl rfl rfl rfl ?_
          refine AOps.pass rfl rfl rfl rfl rfl ?_
          refine AOps.call (o_pickT _ _ _ rfl rfl rfl rfl) ?_
          refine AOps.call (o_move _ rfl rfl) ?_
          refine AOps.pass rfl rfl rfl rfl rfl ?_
          refine AOps.pass rfl rfl rfl rfl rfl ?_
          refine AOps.call (o_pickT _ _ _ rfl rfl rfl rfl) ?_
          refine AOps.nil ?_
          refine AWP.condT rfl ?_
          refine AWP.seq ?_
          refine AWP.region ?_
          refine AOps.call (o_assign _ rfl rfl) ?_
          refine AOps.nil ?_
          refine AWP.ret ?_
          first
          | exact postQ.ret1 Tryd.results6 rfl rfl
          | (refine postQ.ret1 Tryd.results6 rfl ?_; simp [AV.close, AV.close.closeL, B, I]; done)
          | (refine postQ.ret1 Tryd.results6 rfl ?_; simp [AV.close, AV.close.closeL, B, I]; omega)
          | (refine postQ.ret1 Tryd.results6 rfl ?_; simp_all [AV.close, AV.close.closeL, B, I]; done)
          | (refine postQ.ret1 Tryd.results6 rfl ?_; simp_all [AV.close, AV.close.closeL, B, I]; omega)
      · skip
        refine AOps.pass rfl rfl rfl h14 rfl ?_
        refine AOps.pass rfl rfl rfl h14 rfl ?_
        refine AOps.call (o_pickT _ _ _ rfl h14 rfl rfl) ?_
        refine AOps.call (o_move _ rfl rfl) ?_
        refine AOps.pass rfl rfl rfl rfl rfl ?_
        refine AOps.pass rfl rfl rfl rfl rfl ?_
        refine AOps.call (o_pickT _ _ _ rfl rfl rfl rfl) ?_
        refine AOps.call (o_move _ rfl rfl) ?_
        refine AOps.pass rfl rfl rfl rfl rfl ?_
        refine AOps.pass rfl rfl rfl rfl rfl ?_
        refine AOps.call (o_pickT _ _ _ rfl rfl rfl rfl) ?_
        refine AOps.call (o_move _ rfl rfl) ?_
        refine AOps.pass rfl rfl rfl rfl rfl ?_
        refine AOps.pass rfl rfl rfl rfl rfl ?_
        refine AOps.call (o_pickT _ _ _ rfl rfl rfl rfl) ?_
        refine AOps.call (o_move _ rfl rfl) ?_
        refine AOps.pass rfl rfl rfl rfl rfl ?_
        refine AOps.pass rfl rfl rfl rfl rfl ?_
        refine AOps.call (o_pickT _ _ _ rfl rfl rfl rfl) ?_
        refine AOps.call (o_move _ rfl rfl) ?_
        refine AOps.pass rfl rfl rfl rfl rfl ?_
        refine AOps.pass rfl rfl rfl rfl rfl ?_
        refine AOps.call (o_pickT _ _ _ rfl rfl rfl rfl) ?_
        refine AOps.call (o_move _ rfl rfl) ?_
        refine AOps.pass rfl rfl rfl rfl rfl ?_
        refine AOps.pass rfl rfl rfl rfl rfl ?_
        refine AOps.call (o_pickT _ _ _ rfl rfl rfl rfl) ?_
        refine AOps.call (o_move _ rfl rfl) ?_
        refine AOps.pass rfl rfl rfl rfl rfl ?_
        refine AOps.pass rfl rfl rfl rfl rfl ?_
        refine AOps.call (o_pickT _ _ _ rfl rfl rfl rfl) ?_
        refine AOps.nil ?_
        refine AWP.condT rfl ?_
        refine AWP.seq ?_
        refine AWP.region ?_
        refine AOps.call (o_assign _ rfl rfl) ?_
        refine AOps.nil ?_
        refine AWP.ret ?_
        first
        | exact postQ.ret1 Tryd.results6 rfl rfl
        | (refine postQ.ret1 Tryd.results6 rfl ?_; simp [AV.close, AV.close.closeL, B, I]; done)
        | (refine postQ.ret1 Tryd.results6 rfl ?_; simp [AV.close, AV.close.closeL, B, I]; omega)
        | (refine postQ.ret1 Tryd.results6 rfl ?_; simp_all [AV.close, AV.close.closeL, B, I]; done)
        | (refine postQ.ret1 Tryd.results6 rfl ?_; simp_all [AV.close, AV.close.closeL, B, I]; omega)
    · skip
      refine AOps.pass rfl rfl rfl h12 rfl ?_
      refine AOps.pass rfl rfl rfl h12 rfl ?_
      refine AOps.call (o_pickT _ _ _ rfl h12 rfl rfl) ?_
      refine AOps.call (o_move _ rfl rfl) ?_
      refine AOps.pass rfl rfl rfl rfl rfl ?_
      refine AOps.pass rfl rfl rfl rfl rfl ?_
      refine AOps.call (o_pickT _ _ _ rfl rfl rfl rfl) ?_
      refine AOps.call (o_move _ rfl rfl) ?_
      refine AOps.pass rfl rfl rfl rfl rfl ?_
      refine AOps.pass rfl rfl rfl rfl rfl ?_
      refine AOps.call (o_pickT _ _ _ rfl rfl rfl rfl) ?_
      refine AOps.call (o_move _ rfl rfl) ?_
      refine AOps.pass rfl rfl rfl rfl rfl ?_
      refine AOps.pass rfl rfl rfl rfl rfl ?_
      refine AOps.call (o_pickT _ _ _ rfl rfl rfl rfl) ?_
      refine AOps.call (o_move _ rfl rfl) ?_
      refine AOps.pass rfl rfl rfl rfl rfl ?_
      refine AOps.pass rfl rfl rfl rfl rfl ?_
      refine AOps.call (o_pickT _ _ _ rfl rfl rfl rfl) ?_
      refine AOps.call (o_move _ rfl rfl) ?_
      refine AOps.pass rfl rfl rfl rfl rfl ?_
      refine AOps.pass rfl rfl rfl rfl rfl ?_
      refine AOps.call (o_pickT _ _ _ rfl rfl rfl rfl) ?_
      refine AOps.call (o_move _ rfl rfl) ?_
      refine AOps.pass rfl rfl rfl rfl rfl ?_
      refine AOps.pass rfl rfl rfl rfl rfl ?_
      refine AOps.call (o_pickT _ _ _ rfl rfl rfl rfl) ?_
      refine AOps.call (o_move _ rfl rfl) ?_
      refine AOps.pass rfl rfl rfl rfl rfl ?_
      refine AOps.pass rfl rfl rfl rfl rfl ?_
      refine AOps.call (o_pickT _ _ _ rfl rfl rfl rfl) ?_
      refine AOps.call (o_move _ rfl rfl) ?_
      refine AOps.pass rfl rfl rfl rfl rfl ?_
      refine AOps.pass rfl rfl rfl rfl rfl ?_
      refine AOps.call (o_pickT _ _ _ rfl rfl rfl rfl) ?_
      refine AOps.nil ?_
      refine AWP.condT rfl ?_
      refine AWP.seq ?_
      refine AWP.region ?_
      refine AOps.call (o_assign _ rfl rfl) ?_
      refine AOps.nil ?_
      refine AWP.ret ?_
      first
      | exact postQ.ret1 Tryd.results6 rfl rfl
      | (refine postQ.ret1 Tryd.results6 rfl ?_; simp [AV.close, AV.close.closeL, B, I]; done)
      | (refine postQ.ret1 Tryd.results6 rfl ?_; simp [AV.close, AV.close.closeL, B, I]; omega)
      | (refine postQ.ret1 Tryd.results6 rfl ?_; simp_all [AV.close, AV.close.closeL, B, I]; done)
      | (refine postQ.ret1 Tryd.results6 rfl ?_; simp_all [AV.close, AV.close.closeL, B, I]; omega)

end Go.Proofs.YtelenedgaoglaaaDoor
