/- Part of the proof: R9Q. -/
import Derived.Test.YtnpcmealdfapjaaDoorR9P
set_option linter.unusedVariables false
set_option linter.unusedSimpArgs false
set_option maxRecDepth 20000
namespace Go.Ex
open Go.Proofs
theorem SG_yr {call : CallT} {h : H} {ll : List (J × List Nat)} {t : T X} {n : Pt} {R' : T X → Pt → Prop} {ms : List Nat} {p : Pt} {q : Bool} {d : Pt} {i : IR} {x : X} (hp : t.get p = some (.bool q)) (hx : opR i t h = some x) (hp' : (t.put d x).get p = some (.bool q)) (hx' : opR i (t.put d x) h = some x) (r : SeqGo call h ll (t.put d x) n R') : SeqGo call h ((.g p q (some d) (.r d i), ms) :: ll) t n R' := by
  have st : ∀ {t : T X} {n : Pt}, t.get p = some (.bool q) → opR i t h = some x → step (.g p q (some d) (.r d i)) call t h n = .ok (t.put d x) h n := fun {t n} hp hx => by
    show stG p q (some d) (.r d i) (step (.r d i)) call t h n = _
    unfold stG
    rw [hp]
    simp only [beq_self_eq_true, cond_true]
    exact st_r hx
  refine SG_cons rfl (st hp hx) (fun _ => ?_) r
  show reR call (.g p q (some d) (.r d i)) (some d) (t.put d x) h = true
  unfold reR
  simp only [get_put, if_true]
  rw [st hp' hx']
  simp only [get_put, if_true]
  exact beqX_refl x
theorem eqp_self {t : T X} {a b : D} {c0 c1 c2 c3 : Int} {u : List UInt8} (ha : ev t a = some (.agg [I6 c0, I6 c1, I6 c2, I6 c3, .str u])) (hb : ev t b = some (.agg [I6 c0, I6 c1, I6 c2, I6 c3, .str u])) : opP (.eqp false [.i .i64, .i .i64, .i .i64, .i .i64, .s] a b) t = some (BX true) := by
  show rEqp _ _ a b t = _
  unfold rEqp; rw [ha, hb]
  show some (X.bool (decide (c0 = c0) && (decide (c1 = c1) && (decide (c2 = c2) && (decide (c3 = c3) && (decide (u = u) && true)))))) = _
  simp

theorem framesA_x (o no pt ps : Int) (w s : List UInt8) (hs : ¬ s.length ≤ 300) : XF Tryd.prog eqs9 4 [FrX o no pt ps w, .str s] .e .z (fun xx _ _ => xx = BX true) := by
  refine XF.body S9 fk4 rfl ?_
  refine XK.seq ?_
  refine XK.op S9 rfl ?_
  refine seqQ_n ?_
  refine XK.seq ?_
  refine XK.seq ?_
  refine XK.reg1 S9 (sane_c) fun call hcl => ?_
  refine OG_c rfl (hcl) ?_
  refine OG_p rfl ?_
  refine OG_nil ?_
  refine seqQ_n ?_
  refine XK.condF rfl ?_
  refine XK.skip S9 ?_
  refine seqQ_n ?_
  refine XK.seq ?_
  refine XK.seq ?_
  refine XK.op0' S9 ?_
  refine OG_p rfl ?_
  refine OG_p rfl ?_
  refine OG_p (show opP _ _ = some (X.bool true) from tru (show ((300 : Nat) : Int) < (s.length : Int) by omega)) ?_
  refine OG_p rfl ?_
  refine OG_o (rfl) rfl ?_
  refine OG_o (rfl) rfl ?_
  refine OG_o (rfl) rfl ?_
  refine OG_o (rfl) rfl ?_
  refine OG_p rfl ?_
  refine OG_nil ?_
  refine seqQ_n ?_
  refine XK.condT rfl ?_
  refine XK.seq ?_
  refine XK.op S9 rfl ?_
  refine seqQ_n ?_
  refine XK.ret S9 ?_
  refine seqQ_r ?_
  exact ⟨_, rfl, rfl⟩

theorem framesA_c (o no pt ps : Int) (w s : List UInt8) (hs : ¬ s.length ≤ 300) : Pure1 eqs9.gs Tryd.prog 4 [FrX o no pt ps w, .str s] (BX true) := fun hh nn => (framesA_x o no pt ps w s hs).pure rfl rfl hh nn

theorem framesB_x (o no pt ps : Int) (w s : List UInt8) (hs : s.length ≤ 300) (hw : ¬ w.length ≤ 300) : XF Tryd.prog eqs9 4 [FrX o no pt ps w, .str s] .e .z (fun xx _ _ => xx = BX true) := by
  refine XF.body S9 fk4 rfl ?_
  refine XK.seq ?_
  refine XK.op S9 rfl ?_
  refine seqQ_n ?_
  refine XK.seq ?_
  refine XK.seq ?_
  refine XK.reg1 S9 (sane_c) fun call hcl => ?_
  refine OG_c rfl (hcl) ?_
  refine OG_p rfl ?_
  refine OG_nil ?_
  refine seqQ_n ?_
  refine XK.condF rfl ?_
  refine XK.skip S9 ?_
  refine seqQ_n ?_
  refine XK.seq ?_
  refine XK.seq ?_
  refine XK.op0' S9 ?_
  refine OG_p rfl ?_
  refine OG_p rfl ?_
  refine OG_p (show opP _ _ = some (X.bool false) from fls (show ¬ ((300 : Nat) : Int) < (s.length : Int) by omega)) ?_
  refine OG_p rfl ?_
  refine OG_y (rfl) rfl ?_
  refine OG_y (rfl) rfl ?_
  refine OG_y (rfl) rfl ?_
  refine OG_y (rfl) (st_p (show opP _ _ = some (X.bool true) from tru (show ((300 : Nat) : Int) < (w.length : Int) by omega))) ?_
  refine OG_p rfl ?_
  refine OG_nil ?_
  refine seqQ_n ?_
  refine XK.condT rfl ?_
  refine XK.seq ?_
  refine XK.op S9 rfl ?_
  refine seqQ_n ?_
  refine XK.ret S9 ?_
  refine seqQ_r ?_
  exact ⟨_, rfl, rfl⟩

theorem framesB_c (o no pt ps : Int) (w s : List UInt8) (hs : s.length ≤ 300) (hw : ¬ w.length ≤ 300) : Pure1 eqs9.gs Tryd.prog 4 [FrX o no pt ps w, .str s] (BX true) := fun hh nn => (framesB_x o no pt ps w s hs hw).pure rfl rfl hh nn

theorem framesC_x (o no pt ps : Int) (w s : List UInt8) (hs : s.length ≤ 300) (hw : w.length ≤ 300) (u1 : List UInt8) (e1 : Nat) (c1 : Pure1 eqs9.gs Tryd.prog 19 [FrX o no pt ps w] (X.tup [.str u1, N6 e1])) (d1 : Pure1 eqs9.gs Tryd.prog 20 [FrX o no pt ps w] (X.tup [.str u1, N6 e1])) (b0 b1 b2 b3 : Nat) (u2 : List UInt8) (m2 e2 : Nat) (c2 : Pure1 eqs9.gs Tryd.prog 21 [.str s] (X.tup [.agg [N6 b0, N6 b1, N6 b2, N6 b3, .str u2], N6 m2, N6 e2])) (d2 : Pure1 eqs9.gs Tryd.prog 22 [.str s] (X.tup [.agg [N6 b0, N6 b1, N6 b2, N6 b3, .str u2], N6 m2, N6 e2])) : XF Tryd.prog eqs9 4 [FrX o no pt ps w, .str s] .e .z (fun xx _ _ => xx = BX true) := by
  refine XF.body S9 fk4 rfl ?_
  refine XK.seq ?_
  refine XK.op S9 rfl ?_
  refine seqQ_n ?_
  refine XK.seq ?_
  refine XK.seq ?_
  refine XK.reg1 S9 (sane_c) fun call hcl => ?_
  refine OG_c rfl (hcl) ?_
  refine OG_p rfl ?_
  refine OG_nil ?_
  refine seqQ_n ?_
  refine XK.condF rfl ?_
  refine XK.skip S9 ?_
  refine seqQ_n ?_
  refine XK.seq ?_
  refine XK.seq ?_
  refine XK.op0' S9 ?_
  refine OG_p rfl ?_
  refine OG_p rfl ?_
  refine OG_p (show opP _ _ = some (X.bool false) from fls (show ¬ ((300 : Nat) : Int) < (s.length : Int) by omega)) ?_
  refine OG_p rfl ?_
  refine OG_y (rfl) rfl ?_
  refine OG_y (rfl) rfl ?_
  refine OG_y (rfl) rfl ?_
  refine OG_y (rfl) (st_p (show opP _ _ = some (X.bool false) from fls (show ¬ ((300 : Nat) : Int) < (w.length : Int) by omega))) ?_
  refine OG_p rfl ?_
  refine OG_nil ?_
  refine seqQ_n ?_
  refine XK.condF rfl ?_
  refine XK.skip S9 ?_
  refine seqQ_n ?_
  refine XK.seq ?_
  refine XK.reg1 S9 (c1) fun call hcl => ?_
  refine OG_r rfl ?_
  refine OG_c rfl (hcl) ?_
  refine OG_p rfl ?_
  refine OG_p rfl ?_
  refine OG_p rfl ?_
  refine OG_p rfl ?_
  refine OG_p rfl ?_
  refine OG_nil ?_
  refine seqQ_n ?_
  refine XK.seq ?_
  refine XK.reg1 S9 (d1) fun call hcl => ?_
  refine OG_r rfl ?_
  refine OG_c rfl (hcl) ?_
  refine OG_p rfl ?_
  refine OG_p rfl ?_
  refine OG_p rfl ?_
  refine OG_p rfl ?_
  refine OG_p rfl ?_
  refine OG_nil ?_
  refine seqQ_n ?_
  refine XK.seq ?_
  refine XK.reg1 S9 (c2) fun call hcl => ?_
  refine OG_p rfl ?_
  refine OG_c rfl (hcl) ?_
  refine OG_p rfl ?_
  refine OG_p rfl ?_
  refine OG_p rfl ?_
  refine OG_p rfl ?_
  refine OG_a rfl ?_
  refine OG_cons rfl ?_
  refine OG_p rfl ?_
  refine OG_p rfl ?_
  refine OG_nil ?_
  refine seqQ_n ?_
  refine XK.seq ?_
  refine XK.reg1 S9 (d2) fun call hcl => ?_
  refine OG_p rfl ?_
  refine OG_c rfl (hcl) ?_
  refine OG_p rfl ?_
  refine OG_p rfl ?_
  refine OG_p rfl ?_
  refine OG_p rfl ?_
  refine OG_a rfl ?_
  refine OG_cons rfl ?_
  refine OG_p rfl ?_
  refine OG_p rfl ?_
  refine OG_nil ?_
  refine seqQ_n ?_
  refine XK.seq ?_
  refine XK.dr2 S9 ((CheckFrame_both o no pt ps w).1) ((CheckFrame_both o no pt ps w).2) (.inl (by decide)) fun call hcl hcm => ?_
  refine SG_r rfl rfl ?_
  refine SG_c rfl (hcl) ?_
  refine SG_r rfl rfl ?_
  refine SG_c rfl (hcm) ?_
  refine SG_p (show opP _ _ = some (X.bool true) from tru (rfl)) ?_
  refine SG_p rfl ?_
  refine SG_y rfl rfl (rfl) rfl ?_
  refine SG_y rfl rfl (rfl) rfl ?_
  refine SG_y rfl rfl (rfl) (st_p (show opP _ _ = some (X.bool true) from tru (rfl))) ?_
  refine SG_p rfl ?_
  refine SG_p rfl ?_
  refine SG_y rfl rfl (rfl) rfl ?_
  refine SG_y rfl rfl (rfl) rfl ?_
  refine SG_y rfl rfl (rfl) (st_p (show opP _ _ = some (X.bool true) from tru (rfl))) ?_
  refine SG_p rfl ?_
  refine SG_p rfl ?_
  refine SG_yr (rfl) (rfl) rfl (rfl) ?_
  refine SG_yr (rfl) (rfl) rfl (rfl) ?_
  refine SG_y rfl rfl (rfl) (st_p (eqp_self (c0 := (b0 : Int)) (c1 := (b1 : Int)) (c2 := (b2 : Int)) (c3 := (b3 : Int)) (u := u2) rfl rfl)) ?_
  refine SG_p rfl ?_
  refine SG_p rfl ?_
  refine SG_y rfl rfl (rfl) rfl ?_
  refine SG_y rfl rfl (rfl) rfl ?_
  refine SG_y rfl rfl (rfl) (st_p (show opP _ _ = some (X.bool true) from tru (rfl))) ?_
  refine SG_p rfl ?_
  refine SG_p rfl ?_
  refine SG_y rfl rfl (rfl) rfl ?_
  refine SG_y rfl rfl (rfl) rfl ?_
  refine SG_y rfl rfl (rfl) (st_p (show opP _ _ = some (X.bool true) from tru (rfl))) ?_
  refine SG_p rfl ?_
  refine SG_p rfl ?_
  refine SG_nil ?_
  refine seqQ_n ?_
  refine XK.ret S9 ?_
  exact ⟨_, rfl, rfl⟩

theorem frames_c (o no pt ps : Int) (w s : List UInt8) : Pure1 eqs9.gs Tryd.prog 4 [FrX o no pt ps w, .str s] (BX true) := by
  by_cases hs : s.length ≤ 300
  · by_cases hw : w.length ≤ 300
    · obtain ⟨u1, e1, c1, d1⟩ := Encode_both o no pt ps w
      obtain ⟨b0, b1, b2, b3, u2, m2, e2, c2, d2⟩ := Decode_both s
      exact fun hh nn => (framesC_x o no pt ps w s hs hw u1 e1 c1 d1 b0 b1 b2 b3 u2 m2 e2 c2 d2).pure rfl rfl hh nn
    · exact framesB_c o no pt ps w s hs hw
  · exact framesA_c o no pt ps w s hs

end Go.Ex

