/- Part of the proof: R9I. -/
import Derived.Test.YtnpcmealdfapjaaDoorR9H
set_option linter.unusedVariables false
set_option linter.unusedSimpArgs false
set_option maxRecDepth 20000
namespace Go.Ex
open Go.Proofs
def flC : List (Nat × Nat) → List X
  | [] => []
  | (i, a) :: l => N6 i :: B8 a :: flC l
def FlP (h0 : H) (n0 : Pt) (o : Option (List (Nat × Nat))) (x : X) (h' : H) (n' : Pt) : Prop := n0.num ≤ n'.num ∧ (∀ id, id.num < n0.num → h'.get id = h0.get id) ∧ match o with
  | none => x = .tup [.nils, BX false]
  | some [] => x = .tup [.nils, BX true]
  | some (p :: l) => ∃ nd, x = .tup [.sl nd 0 (p :: l).length (p :: l).length 0, BX true] ∧ h'.get nd = some (.cells (flC (p :: l))) ∧ n0.num ≤ nd.num ∧ nd.num < n'.num
def twoL (v ps : List Nat) : Option (List (Nat × Nat)) := match twoF v ps ps.length 0 with
  | some (i, a, m, b) => some [(i, a), (m, b)]
  | none => none
theorem eqp6 {t : T X} {a b : D} {r0 r1 r2 r3 r4 r5 : Nat} (ha : ev t a = some (.agg ([r0, r1, r2, r3, r4, r5].map B8))) (hb : ev t b = some (.agg (z6.map B8))) : opP (.eqp false [.i .u8, .i .u8, .i .u8, .i .u8, .i .u8, .i .u8] a b) t = some (BX (decide ([r0, r1, r2, r3, r4, r5] = z6))) := by
  show rEqp _ _ a b t = _
  unfold rEqp; rw [ha, hb]
  show some (X.bool (decide (Int.ofNat r0 = Int.ofNat 0) && (decide (Int.ofNat r1 = Int.ofNat 0) && (decide (Int.ofNat r2 = Int.ofNat 0) && (decide (Int.ofNat r3 = Int.ofNat 0) && (decide (Int.ofNat r4 = Int.ofNat 0) && (decide (Int.ofNat r5 = Int.ofNat 0) && true))))))) = _
  have e : ∀ r : Nat, decide (Int.ofNat r = Int.ofNat 0) = decide (r = 0) := fun r => decide_eq_decide.2 ⟨fun h => Int.ofNat_inj.1 h, fun h => congrArg Int.ofNat h⟩
  rw [e, e, e, e, e, e]
  refine congrArg (fun q => some (X.bool q)) ?_
  unfold z6
  by_cases h : [r0, r1, r2, r3, r4, r5] = [0, 0, 0, 0, 0, 0]
  · rw [decide_eq_true h]
    simp only [List.cons.injEq, and_true] at h
    obtain ⟨h0, h1, h2, h3, h4, h5⟩ := h
    simp [h0, h1, h2, h3, h4, h5]
  · rw [decide_eq_false h]
    cases hq : (decide (r0 = 0) && (decide (r1 = 0) && (decide (r2 = 0) && (decide (r3 = 0) && (decide (r4 = 0) && (decide (r5 = 0) && true)))))) with
    | false => rfl
    | true =>
      exfalso
      apply h
      simp only [Bool.and_eq_true, decide_eq_true_eq, and_true] at hq
      obtain ⟨h0, h1, h2, h3, h4, h5⟩ := hq
      rw [h0, h1, h2, h3, h4, h5]
theorem lgetL_all {l : List X} {k : Nat} (h : l.length = k) : lgetL l 0 k = some l := by
  unfold lgetL
  rw [show Nat.ble (0 + k) l.length = true from Nat.ble_eq_true_of_le (by omega), cond_true, List.drop_zero, List.take_of_length_le (by omega)]

theorem twoFlaws_c (h : H) (n pid : Pt) (v ps : List Nat) (v8 : all8 v) (hv6 : v.length = 6) (hps8 : all8 ps) (hN42 : ps.length ≤ 42) (hpid : pid.num < n.num) (hp : h.get pid = some (.cells (ps.map B8))) : XF Tryd.prog eqs9 103 [.agg (v.map B8), .sl pid 0 ps.length ps.length 0] h n (FlP h n (twoL v ps)) := by
  refine XF.body S9 fk103 rfl ?_
  refine XK.seq ?_
  refine XK.op0' S9 ?_
  refine OG_a (rfl) ?_
  refine OG_p rfl ?_
  refine OG_p rfl ?_
  refine OG_nil ?_
  refine seqQ_n ?_
  refine XK.seq ?_
  refine XK.seq ?_
  refine XK.op0' S9 ?_
  refine OG_p rfl ?_
  refine OG_p (op_len rfl) ?_
  refine OG_p rfl ?_
  refine OG_nil ?_
  refine seqQ_n ?_
  refine XK.block ?_
  refine XK.loop ?_
  refine XL.less (t1 := ofPL [(p1, .sl pid 0 ps.length ps.length 0), (p2, .ptr n 0), (p12, .sl pid 0 ps.length ps.length 0), (p13, N6 ps.length), (p14, N6 0)]) (Le.cons (p := p1) rfl rfl (Le.cons (p := p2) rfl rfl (Le.cons (p := p12) rfl rfl (Le.cons (p := p13) rfl rfl (Le.cons (p := p14) rfl rfl Le.nil))))) (Le.refl _) ?_
  refine two_L _ h n pid n v ps v8 hv6 hps8 hN42 ps.length 0 _ _ (by omega) get_at (by rw [get_lt hpid]; exact hp) (by rw [num_inc]; omega) (by rw [num_inc]; omega) (by rw [num_inc]; omega) (fun id hid => get_lt hid) (fun t' h' n' i a m b nd htw hle hnd hn1 hn2 hfr => ?_) (fun t' h' n' htw hn1 hfr => ?_)
  · refine blockQ_r ?_
    refine seqQ_r ?_
    have hfin : ∃ xs, resX t' h' k103.results = some xs ∧ FlP h n (twoL v ps) (packX xs) h' n' :=
      ⟨_, res_tmp (hle.at (p := p4) rfl) (res_tmp (hle.at (p := p5) rfl) res_nil), by omega, hfr, by unfold twoL; rw [htw]; exact ⟨nd, rfl, hnd, hn1, hn2⟩⟩
    first
      | exact hfin
      | (refine seqQ_r ?_; exact hfin)
      | (refine seqQ_r ?_; refine seqQ_r ?_; exact hfin)
  · skip
    refine blockQ_h rfl ?_
    refine seqQ_n ?_
    refine XK.less (t1 := T.e) Le.nil (Le.refl _) ?_
    refine XK.seq ?_
    refine XK.op S9 rfl ?_
    refine seqQ_n ?_
    refine XK.ret S9 ?_
    exact ⟨_, rfl, hn1, hfr, by unfold twoL; rw [htw]; rfl⟩

def flawsL (v ps : List Nat) : Option (List (Nat × Nat)) := if v = z6 then some [] else match oneF v ps ps.length 0 with
  | some m => some [(m, v.getD 0 0)]
  | none => twoL v ps
def flawsS (s : List UInt8) : Option (List (Nat × Nat)) := flawsL (valS s) (ptsN s.length)
theorem ptF_8 : ∀ (k pt : Nat) (l : List Nat), pt < 256 → all8 l → all8 (ptF k pt l) := by
  intro k
  induction k with
  | zero => intro pt l _ h; exact h
  | succ k ih => intro pt l hp h; exact ih _ _ (tw_lt pt) (all8_set h hp)
theorem all8_rep (N : Nat) : all8 (List.replicate N 0) := fun i => by
  rw [List.getD_eq_getElem?_getD, List.getElem?_replicate]
  split <;> exact (by decide : 0 < 256)
theorem ptsN_8 (N : Nat) : all8 (ptsN N) := ptF_8 _ _ _ (by omega) (all8_rep N)

theorem flawsZ_x (h : H) (n : Pt) (s : List UInt8) (hs : s.length ≤ 42) (r0 r1 r2 r3 r4 r5 : Nat) (hr : valS s = [r0, r1, r2, r3, r4, r5]) (hval : Pure1 eqs9.gs Tryd.prog 100 [.str s] (.agg ([r0, r1, r2, r3, r4, r5].map B8))) (v8 : all8 [r0, r1, r2, r3, r4, r5]) (hz : [r0, r1, r2, r3, r4, r5] = z6) : XF Tryd.prog eqs9 70 [.str s] h n (FlP h n (flawsL [r0, r1, r2, r3, r4, r5] (ptsN s.length))) := by
  refine XF.body S9 fk70 rfl ?_
  have e1 := num_inc n
  have e2 := num_inc n.inc
  have hfH : ∀ id, id.num < n.num → (((h.put n (.cells [B8 0, B8 0, B8 0, B8 0, B8 0, B8 0])).put n (.cells ([r0, r1, r2, r3, r4, r5].map B8))).put n.inc (.cells ((ptsN s.length).map B8))).get id = h.get id := fun id hid => by rw [get_lt (by omega), get_lt hid, get_lt hid]
  have hbv : (((h.put n (.cells [B8 0, B8 0, B8 0, B8 0, B8 0, B8 0])).put n (.cells ([r0, r1, r2, r3, r4, r5].map B8))).put n.inc (.cells ((ptsN s.length).map B8))).get n = some (.cells ([r0, r1, r2, r3, r4, r5].map B8)) := by rw [get_lt (by omega)]; exact get_at
  have hbp : (((h.put n (.cells [B8 0, B8 0, B8 0, B8 0, B8 0, B8 0])).put n (.cells ([r0, r1, r2, r3, r4, r5].map B8))).put n.inc (.cells ((ptsN s.length).map B8))).get n.inc = some (.cells ((ptsN s.length).map B8)) := get_at
  refine XK.seq ?_
  refine XK.op S9 rfl ?_
  refine seqQ_n ?_
  refine XK.seq ?_
  refine XK.reg1 S9 (hval) fun call hcl => ?_
  refine OG_p rfl ?_
  refine OG_c rfl hcl ?_
  refine OG_a (rfl) ?_
  refine OG_w (op_stA rfl rfl rfl get_at rfl) ?_
  refine OG_nil ?_
  refine seqQ_n ?_
  refine XK.seq ?_
  refine XK.seq ?_
  refine XK.op0' S9 ?_
  refine OG_r (op_ldA rfl get_at (lgetL_all rfl)) ?_
  refine OG_p rfl ?_
  refine OG_p ((eqp6 rfl rfl).trans (by rw [decide_eq_true hz])) ?_
  refine OG_nil ?_
  refine seqQ_n ?_
  refine XK.condT rfl ?_
  refine XK.seq ?_
  refine XK.op S9 rfl ?_
  refine seqQ_n ?_
  refine XK.ret S9 ?_
  refine seqQ_r ?_
  exact ⟨_, rfl, by omega, fun id hid => by rw [get_lt hid, get_lt hid], by unfold flawsL; rw [if_pos hz]; rfl⟩

theorem flawsO_x (h : H) (n : Pt) (s : List UInt8) (hs : s.length ≤ 42) (r0 r1 r2 r3 r4 r5 : Nat) (hr : valS s = [r0, r1, r2, r3, r4, r5]) (hval : Pure1 eqs9.gs Tryd.prog 100 [.str s] (.agg ([r0, r1, r2, r3, r4, r5].map B8))) (v8 : all8 [r0, r1, r2, r3, r4, r5]) (m : Nat) (hz : ¬ [r0, r1, r2, r3, r4, r5] = z6) (hm : oneF [r0, r1, r2, r3, r4, r5] (ptsN s.length) (ptsN s.length).length 0 = some m) : XF Tryd.prog eqs9 70 [.str s] h n (FlP h n (flawsL [r0, r1, r2, r3, r4, r5] (ptsN s.length))) := by
  refine XF.body S9 fk70 rfl ?_
  have e1 := num_inc n
  have e2 := num_inc n.inc
  have hfH : ∀ id, id.num < n.num → (((h.put n (.cells [B8 0, B8 0, B8 0, B8 0, B8 0, B8 0])).put n (.cells ([r0, r1, r2, r3, r4, r5].map B8))).put n.inc (.cells ((ptsN s.length).map B8))).get id = h.get id := fun id hid => by rw [get_lt (by omega), get_lt hid, get_lt hid]
  have hbv : (((h.put n (.cells [B8 0, B8 0, B8 0, B8 0, B8 0, B8 0])).put n (.cells ([r0, r1, r2, r3, r4, r5].map B8))).put n.inc (.cells ((ptsN s.length).map B8))).get n = some (.cells ([r0, r1, r2, r3, r4, r5].map B8)) := by rw [get_lt (by omega)]; exact get_at
  have hbp : (((h.put n (.cells [B8 0, B8 0, B8 0, B8 0, B8 0, B8 0])).put n (.cells ([r0, r1, r2, r3, r4, r5].map B8))).put n.inc (.cells ((ptsN s.length).map B8))).get n.inc = some (.cells ((ptsN s.length).map B8)) := get_at
  obtain ⟨n3, hn3, cg⟩ := oneFlaw_c (((h.put n (.cells [B8 0, B8 0, B8 0, B8 0, B8 0, B8 0])).put n (.cells ([r0, r1, r2, r3, r4, r5].map B8))).put n.inc (.cells ((ptsN s.length).map B8))) n.inc.inc n n.inc 6 s.length [r0, r1, r2, r3, r4, r5] (ptsN s.length) v8 (ptsN_8 _) rfl (by omega) (by omega) (ptsN_len _) hs (by omega) (by omega) hbv hbp
  have e3 := num_inc n3
  have e4 := num_inc n3.inc
  have hlen : (ptsN s.length).length = s.length := ptsN_len _
  rw [oneX_some hm] at cg
  refine XK.seq ?_
  refine XK.op S9 rfl ?_
  refine seqQ_n ?_
  refine XK.seq ?_
  refine XK.reg1 S9 (hval) fun call hcl => ?_
  refine OG_p rfl ?_
  refine OG_c rfl hcl ?_
  refine OG_a (rfl) ?_
  refine OG_w (op_stA rfl rfl rfl get_at rfl) ?_
  refine OG_nil ?_
  refine seqQ_n ?_
  refine XK.seq ?_
  refine XK.seq ?_
  refine XK.op0' S9 ?_
  refine OG_r (op_ldA rfl get_at (lgetL_all rfl)) ?_
  refine OG_p rfl ?_
  refine OG_p ((eqp6 rfl rfl).trans (by rw [decide_eq_false hz])) ?_
  refine OG_nil ?_
  refine seqQ_n ?_
  refine XK.condF rfl ?_
  refine XK.skip S9 ?_
  refine seqQ_n ?_
  refine XK.seq ?_
  refine XK.regC S9 (points_c s.length (by omega) ((h.put n (.cells [B8 0, B8 0, B8 0, B8 0, B8 0, B8 0])).put n (.cells ([r0, r1, r2, r3, r4, r5].map B8))) n.inc) fun call hcl => ?_
  refine OG_p rfl ?_
  refine OG_p (op_slen rfl) ?_
  refine OG_c rfl hcl ?_
  refine OG_p rfl ?_
  refine OG_nil ?_
  refine seqQ_n ?_
  refine XK.seq ?_
  refine XK.seq ?_
  refine XK.regC S9 (cg) fun call hcl => ?_
  refine OG_p rfl ?_
  refine OG_p rfl ?_
  refine OG_c rfl hcl ?_
  refine OG_p rfl ?_
  refine OG_p rfl ?_
  refine OG_p rfl ?_
  refine OG_a (rfl) ?_
  refine OG_w (op_stA rfl rfl rfl get_at rfl) ?_
  refine OG_p rfl ?_
  refine OG_nil ?_
  refine seqQ_n ?_
  refine XK.seq ?_
  refine XK.op S9 rfl ?_
  refine seqQ_n ?_
  refine XK.condT rfl ?_
  refine XK.seq ?_
  refine XK.op0' S9 ?_
  refine OG_r (op_ldA rfl get_at (lgetL_all rfl)) ?_
  refine OG_a (rfl) ?_
  refine OG_p rfl ?_
  refine OG_p rfl ?_
  refine OG_nil ?_
  refine seqQ_n ?_
  refine XK.ret S9 ?_
  refine seqQ_r ?_
  exact ⟨_, rfl, by omega, fun id hid => by rw [get_lt (by omega), get_lt (by omega), get_lt (by omega)]; exact hfH id hid, by unfold flawsL; rw [if_neg hz, hm]; exact ⟨n3.inc, rfl, get_at, by omega, by omega⟩⟩

theorem flx {h : H} {n n3 n2 : Pt} {h2 : H} {o o' : Option (List (Nat × Nat))} {x : X} (ho : o' = o) (hn : n.num ≤ n3.num) (hfr : ∀ id, id.num < n.num → h2.get id = h.get id) (hn2 : n.num ≤ n2.num) (hx : match o with
  | none => x = .tup [.nils, BX false]
  | some [] => x = .tup [.nils, BX true]
  | some (p :: l) => ∃ nd, x = .tup [.sl nd 0 (p :: l).length (p :: l).length 0, BX true] ∧ h2.get nd = some (.cells (flC (p :: l))) ∧ n3.num ≤ nd.num ∧ nd.num < n2.num) : ∃ xa xb, x = .tup [xa, xb] ∧ FlP h n o' (.tup [xa, xb]) h2 n2 := by
  subst ho
  match o', hx with
  | none, hx => exact ⟨_, _, hx, hn2, hfr, rfl⟩
  | some [], hx => exact ⟨_, _, hx, hn2, hfr, rfl⟩
  | some (p :: l), ⟨nd, hx, h1, h3, h4⟩ => exact ⟨_, _, hx, hn2, hfr, nd, rfl, h1, by omega, h4⟩

theorem flawsT_x (h : H) (n : Pt) (s : List UInt8) (hs : s.length ≤ 42) (r0 r1 r2 r3 r4 r5 : Nat) (hr : valS s = [r0, r1, r2, r3, r4, r5]) (hval : Pure1 eqs9.gs Tryd.prog 100 [.str s] (.agg ([r0, r1, r2, r3, r4, r5].map B8))) (v8 : all8 [r0, r1, r2, r3, r4, r5]) (hz : ¬ [r0, r1, r2, r3, r4, r5] = z6) (hm : oneF [r0, r1, r2, r3, r4, r5] (ptsN s.length) (ptsN s.length).length 0 = none) : XF Tryd.prog eqs9 70 [.str s] h n (FlP h n (flawsL [r0, r1, r2, r3, r4, r5] (ptsN s.length))) := by
  refine XF.body S9 fk70 rfl ?_
  have e1 := num_inc n
  have e2 := num_inc n.inc
  have hfH : ∀ id, id.num < n.num → (((h.put n (.cells [B8 0, B8 0, B8 0, B8 0, B8 0, B8 0])).put n (.cells ([r0, r1, r2, r3, r4, r5].map B8))).put n.inc (.cells ((ptsN s.length).map B8))).get id = h.get id := fun id hid => by rw [get_lt (by omega), get_lt hid, get_lt hid]
  have hbv : (((h.put n (.cells [B8 0, B8 0, B8 0, B8 0, B8 0, B8 0])).put n (.cells ([r0, r1, r2, r3, r4, r5].map B8))).put n.inc (.cells ((ptsN s.length).map B8))).get n = some (.cells ([r0, r1, r2, r3, r4, r5].map B8)) := by rw [get_lt (by omega)]; exact get_at
  have hbp : (((h.put n (.cells [B8 0, B8 0, B8 0, B8 0, B8 0, B8 0])).put n (.cells ([r0, r1, r2, r3, r4, r5].map B8))).put n.inc (.cells ((ptsN s.length).map B8))).get n.inc = some (.cells ((ptsN s.length).map B8)) := get_at
  obtain ⟨n3, hn3, cg⟩ := oneFlaw_c (((h.put n (.cells [B8 0, B8 0, B8 0, B8 0, B8 0, B8 0])).put n (.cells ([r0, r1, r2, r3, r4, r5].map B8))).put n.inc (.cells ((ptsN s.length).map B8))) n.inc.inc n n.inc 6 s.length [r0, r1, r2, r3, r4, r5] (ptsN s.length) v8 (ptsN_8 _) rfl (by omega) (by omega) (ptsN_len _) hs (by omega) (by omega) hbv hbp
  have e3 := num_inc n3
  have e4 := num_inc n3.inc
  have hlen : (ptsN s.length).length = s.length := ptsN_len _
  rw [oneX_none hm] at cg
  have hbv3 : (((((h.put n (.cells [B8 0, B8 0, B8 0, B8 0, B8 0, B8 0])).put n (.cells ([r0, r1, r2, r3, r4, r5].map B8))).put n.inc (.cells ((ptsN s.length).map B8))).put n3 (.cells [N6 0, B8 0])).put n3 (.cells [N6 0, B8 0])).get n = some (.cells ([r0, r1, r2, r3, r4, r5].map B8)) := by rw [get_lt (by omega), get_lt (by omega)]; exact hbv
  have hbp3 : (((((h.put n (.cells [B8 0, B8 0, B8 0, B8 0, B8 0, B8 0])).put n (.cells ([r0, r1, r2, r3, r4, r5].map B8))).put n.inc (.cells ((ptsN s.length).map B8))).put n3 (.cells [N6 0, B8 0])).put n3 (.cells [N6 0, B8 0])).get n.inc = some (.cells ((ptsN s.length).map B8)) := by rw [get_lt (by omega), get_lt (by omega)]; exact hbp
  obtain ⟨x2, h2, n2, c2, hn2, hfr2, hx2⟩ := twoFlaws_c (((((h.put n (.cells [B8 0, B8 0, B8 0, B8 0, B8 0, B8 0])).put n (.cells ([r0, r1, r2, r3, r4, r5].map B8))).put n.inc (.cells ((ptsN s.length).map B8))).put n3 (.cells [N6 0, B8 0])).put n3 (.cells [N6 0, B8 0])) n3.inc n.inc [r0, r1, r2, r3, r4, r5] (ptsN s.length) v8 rfl (ptsN_8 _) (by omega) (by omega) hbp3
  rw [hlen] at c2
  have hfr3 : ∀ id, id.num < n.num → h2.get id = h.get id := fun id hid => by rw [hfr2 id (by omega), get_lt (by omega), get_lt (by omega)]; exact hfH id hid
  obtain ⟨xa, xb, rfl, hpost⟩ : ∃ xa xb, x2 = .tup [xa, xb] ∧ FlP h n (flawsL [r0, r1, r2, r3, r4, r5] (ptsN s.length)) (.tup [xa, xb]) h2 n2 := flx (by unfold flawsL; rw [if_neg hz, hm]) (by omega) hfr3 (by omega) hx2
  refine XK.seq ?_
  refine XK.op S9 rfl ?_
  refine seqQ_n ?_
  refine XK.seq ?_
  refine XK.reg1 S9 (hval) fun call hcl => ?_
  refine OG_p rfl ?_
  refine OG_c rfl hcl ?_
  refine OG_a (rfl) ?_
  refine OG_w (op_stA rfl rfl rfl get_at rfl) ?_
  refine OG_nil ?_
  refine seqQ_n ?_
  refine XK.seq ?_
  refine XK.seq ?_
  refine XK.op0' S9 ?_
  refine OG_r (op_ldA rfl get_at (lgetL_all rfl)) ?_
  refine OG_p rfl ?_
  refine OG_p ((eqp6 rfl rfl).trans (by rw [decide_eq_false hz])) ?_
  refine OG_nil ?_
  refine seqQ_n ?_
  refine XK.condF rfl ?_
  refine XK.skip S9 ?_
  refine seqQ_n ?_
  refine XK.seq ?_
  refine XK.regC S9 (points_c s.length (by omega) ((h.put n (.cells [B8 0, B8 0, B8 0, B8 0, B8 0, B8 0])).put n (.cells ([r0, r1, r2, r3, r4, r5].map B8))) n.inc) fun call hcl => ?_
  refine OG_p rfl ?_
  refine OG_p (op_slen rfl) ?_
  refine OG_c rfl hcl ?_
  refine OG_p rfl ?_
  refine OG_nil ?_
  refine seqQ_n ?_
  refine XK.seq ?_
  refine XK.seq ?_
  refine XK.regC S9 (cg) fun call hcl => ?_
  refine OG_p rfl ?_
  refine OG_p rfl ?_
  refine OG_c rfl hcl ?_
  refine OG_p rfl ?_
  refine OG_p rfl ?_
  refine OG_p rfl ?_
  refine OG_a (rfl) ?_
  refine OG_w (op_stA rfl rfl rfl get_at rfl) ?_
  refine OG_p rfl ?_
  refine OG_nil ?_
  refine seqQ_n ?_
  refine XK.seq ?_
  refine XK.op S9 rfl ?_
  refine seqQ_n ?_
  refine XK.condF rfl ?_
  refine XK.skip S9 ?_
  refine seqQ_n ?_
  refine XK.seq ?_
  refine XK.regC S9 (c2) fun call hcl => ?_
  refine OG_r (op_ldA rfl hbv3 (lgetL_all rfl)) ?_
  refine OG_p rfl ?_
  refine OG_c rfl hcl ?_
  refine OG_p rfl ?_
  refine OG_p rfl ?_
  refine OG_p rfl ?_
  refine OG_p rfl ?_
  refine OG_nil ?_
  refine seqQ_n ?_
  refine XK.ret S9 ?_
  exact ⟨_, rfl, hpost⟩

theorem flaws_c (h : H) (n : Pt) (s : List UInt8) (hs : s.length ≤ 42) : XF Tryd.prog eqs9 70 [.str s] h n (FlP h n (flawsS s)) := by
  obtain ⟨r0, r1, r2, r3, r4, r5, hr⟩ := six (valS_len s)
  have hval := values_c s (by omega)
  have v8 := valS_8 s
  unfold flawsS
  rw [hr] at hval v8 ⊢
  by_cases hz : [r0, r1, r2, r3, r4, r5] = z6
  · exact flawsZ_x h n s hs r0 r1 r2 r3 r4 r5 hr hval v8 hz
  · cases hm : oneF [r0, r1, r2, r3, r4, r5] (ptsN s.length) (ptsN s.length).length 0 with
    | some m => exact flawsO_x h n s hs r0 r1 r2 r3 r4 r5 hr hval v8 m hz hm
    | none => exact flawsT_x h n s hs r0 r1 r2 r3 r4 r5 hr hval v8 hz hm

end Go.Ex

