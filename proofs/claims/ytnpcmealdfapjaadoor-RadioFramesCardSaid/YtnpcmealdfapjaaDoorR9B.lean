/- Part of the proof: R9B. -/
import Derived.Test.YtnpcmealdfapjaaDoorR9A
import Derived.Test.YtnpcmealdfapjaaDoorExE
import Derived.Test.YtnpcmealdfapjaaDoorFk3
set_option linter.unusedVariables false
set_option linter.unusedSimpArgs false
set_option maxRecDepth 20000
namespace Go.Ex
open Go.Proofs
theorem isOffice_x (x : Int) : XF Tryd.prog eqs9 72 [I6 x] .e .z (fun xx _ _ => xx = BX (inI x 0 7)) := by
  refine XF.body S9 fk72 rfl ?_
  refine XK.seq ?_
  refine XK.op S9 rfl ?_
  refine seqQ_n ?_
  refine XK.seq ?_
  refine XK.reg1 S9 (isIn_c x 0 7) fun call hcl => ?_
  refine OG_p rfl ?_
  refine OG_c rfl hcl ?_
  refine OG_p rfl ?_
  refine OG_nil ?_
  refine seqQ_n ?_
  refine XK.ret S9 ?_
  exact ⟨_, rfl, rfl⟩

theorem isOffice_c (x : Int) : Pure1 eqs9.gs Tryd.prog 72 [I6 x] (BX (inI x 0 7)) := fun hh nn => (isOffice_x x).pure rfl rfl hh nn

theorem isNo_x (x : Int) : XF Tryd.prog eqs9 73 [I6 x] .e .z (fun xx _ _ => xx = BX (inI x 0 63)) := by
  refine XF.body S9 fk73 rfl ?_
  refine XK.seq ?_
  refine XK.op S9 rfl ?_
  refine seqQ_n ?_
  refine XK.seq ?_
  refine XK.reg1 S9 (isIn_c x 0 63) fun call hcl => ?_
  refine OG_p rfl ?_
  refine OG_c rfl hcl ?_
  refine OG_p rfl ?_
  refine OG_nil ?_
  refine seqQ_n ?_
  refine XK.ret S9 ?_
  exact ⟨_, rfl, rfl⟩

theorem isNo_c (x : Int) : Pure1 eqs9.gs Tryd.prog 73 [I6 x] (BX (inI x 0 63)) := fun hh nn => (isNo_x x).pure rfl rfl hh nn

theorem withinT_x (x l g : Int) (h : l ≤ x) : XF Tryd.prog eqs9 74 [I6 x, I6 l, I6 g] .e .z (fun xx _ _ => xx = BX (decide (x ≤ g))) := by
  refine XF.body S9 fk74 rfl ?_
  refine XK.seq ?_
  refine XK.op S9 rfl ?_
  refine seqQ_n ?_
  refine XK.seq ?_
  refine XK.op0' S9 ?_
  refine OG_p rfl ?_
  refine OG_p rfl ?_
  refine OG_p (show opP _ _ = some (X.bool true) from tru (h)) ?_
  refine OG_p rfl ?_
  refine OG_y (rfl) rfl ?_
  refine OG_y (rfl) rfl ?_
  refine OG_y (rfl) rfl ?_
  refine OG_p rfl ?_
  refine OG_p rfl ?_
  refine OG_nil ?_
  refine seqQ_n ?_
  refine XK.ret S9 ?_
  exact ⟨_, rfl, rfl⟩

theorem withinT_c (x l g : Int) (h : l ≤ x) : Pure1 eqs9.gs Tryd.prog 74 [I6 x, I6 l, I6 g] (BX (decide (x ≤ g))) := fun hh nn => (withinT_x x l g h).pure rfl rfl hh nn

theorem withinF_x (x l g : Int) (h : ¬ l ≤ x) : XF Tryd.prog eqs9 74 [I6 x, I6 l, I6 g] .e .z (fun xx _ _ => xx = BX false) := by
  refine XF.body S9 fk74 rfl ?_
  refine XK.seq ?_
  refine XK.op S9 rfl ?_
  refine seqQ_n ?_
  refine XK.seq ?_
  refine XK.op0' S9 ?_
  refine OG_p rfl ?_
  refine OG_p rfl ?_
  refine OG_p (show opP _ _ = some (X.bool false) from fls (h)) ?_
  refine OG_p rfl ?_
  refine OG_o (rfl) rfl ?_
  refine OG_o (rfl) rfl ?_
  refine OG_o (rfl) rfl ?_
  refine OG_p rfl ?_
  refine OG_p rfl ?_
  refine OG_nil ?_
  refine seqQ_n ?_
  refine XK.ret S9 ?_
  exact ⟨_, rfl, rfl⟩

theorem withinF_c (x l g : Int) (h : ¬ l ≤ x) : Pure1 eqs9.gs Tryd.prog 74 [I6 x, I6 l, I6 g] (BX false) := fun hh nn => (withinF_x x l g h).pure rfl rfl hh nn

theorem within_c (x l g : Int) : Pure1 eqs9.gs Tryd.prog 74 [I6 x, I6 l, I6 g] (BX (inI x l g)) := by
  unfold inI
  by_cases h : l ≤ x
  · rw [decide_eq_true h]; exact withinT_c x l g h
  · rw [decide_eq_false h]; exact withinF_c x l g h
def tab9 : FuncId → List X → Option X
  | 69, [.int .i64 x, .int .i64 l, .int .i64 g] => some (BX (inI x l g))
  | 74, [.int .i64 x, .int .i64 l, .int .i64 g] => some (BX (inI x l g))
  | 72, [.int .i64 x] => some (BX (inI x 0 7))
  | 73, [.int .i64 x] => some (BX (inI x 0 63))
  | _, _ => none
theorem tab9_ok : CallTab eqs9.gs Tryd.prog tab9 := by
  intro f args x h
  unfold tab9 at h
  split at h
  · cases h; exact isIn_c _ _ _
  · cases h; exact within_c _ _ _
  · cases h; exact isOffice_c _
  · cases h; exact isNo_c _
  · cases h
/-- Is it a valid frame? -/
def okF (o no pt ps : Int) (n : Nat) : Bool := inI o 0 7 && (inI no 0 63 && (inI ps 1 32 && (inI pt 0 (ps - 1) && (if ps = 1 then decide (n ≤ 32) else if pt < ps - 1 then decide (n = 32) else decide (1 ≤ n) && decide (n ≤ 32)))))
abbrev FrX (o no pt ps : Int) (w : List UInt8) : X := .agg [I6 o, I6 no, I6 pt, I6 ps, .str w]
theorem op_sub1I {t : T X} {a b : D} {m : Int} (ha : ev t a = some (I6 m)) (hb : ev t b = some (N6 1)) (h1 : 1 ≤ m) (h2 : m ≤ 32) : opP (.bin .sub a b) t = some (I6 (m - 1)) := op_subI ha hb (show _ ≤ m - (1 : Int) by omega) (show m - (1 : Int) < _ by omega)
theorem inI_iff {x l g : Int} : inI x l g = true ↔ l ≤ x ∧ x ≤ g := by unfold inI; simp

theorem ckF0_x (o no pt ps : Int) (w : List UInt8) (h0 : inI o 0 7 = false) : XF Tryd.prog eqs9 23 [FrX o no pt ps w] .e .z (fun xx _ _ => xx = N6 90) := by
  refine XF.body S9 fk23 rfl ?_
  refine XK.seq ?_
  refine XK.op S9 rfl ?_
  refine seqQ_n ?_
  refine XK.seq ?_
  refine XK.op S9 rfl ?_
  refine seqQ_n ?_
  refine XK.seq ?_
  refine XK.seq ?_
  refine XK.regS S9 tab9_ok ?_
  refine OG_p rfl ?_
  refine OG_r rfl ?_
  refine OG_c rfl rfl ?_
  refine OG_p (show opP _ _ = some (X.bool true) from ntf h0) ?_
  refine OG_p rfl ?_
  refine OG_o (rfl) rfl ?_
  refine OG_o (rfl) rfl ?_
  refine OG_o (rfl) rfl ?_
  refine OG_o (rfl) rfl ?_
  refine OG_p rfl ?_
  refine OG_p rfl ?_
  refine OG_o (rfl) rfl ?_
  refine OG_o (rfl) rfl ?_
  refine OG_o (rfl) rfl ?_
  refine OG_o (rfl) rfl ?_
  refine OG_o (rfl) rfl ?_
  refine OG_p rfl ?_
  refine OG_p rfl ?_
  refine OG_o (rfl) rfl ?_
  refine OG_o (rfl) rfl ?_
  refine OG_o (rfl) rfl ?_
  refine OG_o (rfl) rfl ?_
  refine OG_o (rfl) rfl ?_
  refine OG_o (rfl) rfl ?_
  refine OG_o (rfl) rfl ?_
  refine OG_p rfl ?_
  refine OG_nil ?_
  refine seqQ_n ?_
  refine XK.condT rfl ?_
  refine XK.seq ?_
  refine XK.op S9 rfl ?_
  refine seqQ_n ?_
  refine XK.ret S9 ?_
  refine seqQ_r ?_
  exact ⟨_, rfl, rfl⟩

theorem ckF0_c (o no pt ps : Int) (w : List UInt8) (h0 : inI o 0 7 = false) : Pure1 eqs9.gs Tryd.prog 23 [FrX o no pt ps w] (N6 90) := fun hh nn => (ckF0_x o no pt ps w h0).pure rfl rfl hh nn

theorem ckF1_x (o no pt ps : Int) (w : List UInt8) (h0 : inI o 0 7 = true) (h1 : inI no 0 63 = false) : XF Tryd.prog eqs9 23 [FrX o no pt ps w] .e .z (fun xx _ _ => xx = N6 90) := by
  refine XF.body S9 fk23 rfl ?_
  refine XK.seq ?_
  refine XK.op S9 rfl ?_
  refine seqQ_n ?_
  refine XK.seq ?_
  refine XK.op S9 rfl ?_
  refine seqQ_n ?_
  refine XK.seq ?_
  refine XK.seq ?_
  refine XK.regS S9 tab9_ok ?_
  refine OG_p rfl ?_
  refine OG_r rfl ?_
  refine OG_c rfl rfl ?_
  refine OG_p (show opP _ _ = some (X.bool false) from ntt h0) ?_
  refine OG_p rfl ?_
  refine OG_y (rfl) rfl ?_
  refine OG_y (rfl) rfl ?_
  refine OG_y (rfl) (st_call rfl rfl) ?_
  refine OG_y (rfl) (st_p (show opP _ _ = some (X.bool true) from ntf h1)) ?_
  refine OG_p rfl ?_
  refine OG_p rfl ?_
  refine OG_o (rfl) rfl ?_
  refine OG_o (rfl) rfl ?_
  refine OG_o (rfl) rfl ?_
  refine OG_o (rfl) rfl ?_
  refine OG_o (rfl) rfl ?_
  refine OG_p rfl ?_
  refine OG_p rfl ?_
  refine OG_o (rfl) rfl ?_
  refine OG_o (rfl) rfl ?_
  refine OG_o (rfl) rfl ?_
  refine OG_o (rfl) rfl ?_
  refine OG_o (rfl) rfl ?_
  refine OG_o (rfl) rfl ?_
  refine OG_o (rfl) rfl ?_
  refine OG_p rfl ?_
  refine OG_nil ?_
  refine seqQ_n ?_
  refine XK.condT rfl ?_
  refine XK.seq ?_
  refine XK.op S9 rfl ?_
  refine seqQ_n ?_
  refine XK.ret S9 ?_
  refine seqQ_r ?_
  exact ⟨_, rfl, rfl⟩

theorem ckF1_c (o no pt ps : Int) (w : List UInt8) (h0 : inI o 0 7 = true) (h1 : inI no 0 63 = false) : Pure1 eqs9.gs Tryd.prog 23 [FrX o no pt ps w] (N6 90) := fun hh nn => (ckF1_x o no pt ps w h0 h1).pure rfl rfl hh nn

theorem ckF2_x (o no pt ps : Int) (w : List UInt8) (h0 : inI o 0 7 = true) (h1 : inI no 0 63 = true) (h2 : inI ps 1 32 = false) : XF Tryd.prog eqs9 23 [FrX o no pt ps w] .e .z (fun xx _ _ => xx = N6 90) := by
  refine XF.body S9 fk23 rfl ?_
  refine XK.seq ?_
  refine XK.op S9 rfl ?_
  refine seqQ_n ?_
  refine XK.seq ?_
  refine XK.op S9 rfl ?_
  refine seqQ_n ?_
  refine XK.seq ?_
  refine XK.seq ?_
  refine XK.regS S9 tab9_ok ?_
  refine OG_p rfl ?_
  refine OG_r rfl ?_
  refine OG_c rfl rfl ?_
  refine OG_p (show opP _ _ = some (X.bool false) from ntt h0) ?_
  refine OG_p rfl ?_
  refine OG_y (rfl) rfl ?_
  refine OG_y (rfl) rfl ?_
  refine OG_y (rfl) (st_call rfl rfl) ?_
  refine OG_y (rfl) (st_p (show opP _ _ = some (X.bool false) from ntt h1)) ?_
  refine OG_p rfl ?_
  refine OG_p rfl ?_
  refine OG_y (rfl) rfl ?_
  refine OG_y (rfl) rfl ?_
  refine OG_y (rfl) rfl ?_
  refine OG_y (rfl) (st_call rfl rfl) ?_
  refine OG_y (rfl) (st_p (show opP _ _ = some (X.bool true) from ntf h2)) ?_
  refine OG_p rfl ?_
  refine OG_p rfl ?_
  refine OG_o (rfl) rfl ?_
  refine OG_o (rfl) rfl ?_
  refine OG_o (rfl) rfl ?_
  refine OG_o (rfl) rfl ?_
  refine OG_o (rfl) rfl ?_
  refine OG_o (rfl) rfl ?_
  refine OG_o (rfl) rfl ?_
  refine OG_p rfl ?_
  refine OG_nil ?_
  refine seqQ_n ?_
  refine XK.condT rfl ?_
  refine XK.seq ?_
  refine XK.op S9 rfl ?_
  refine seqQ_n ?_
  refine XK.ret S9 ?_
  refine seqQ_r ?_
  exact ⟨_, rfl, rfl⟩

theorem ckF2_c (o no pt ps : Int) (w : List UInt8) (h0 : inI o 0 7 = true) (h1 : inI no 0 63 = true) (h2 : inI ps 1 32 = false) : Pure1 eqs9.gs Tryd.prog 23 [FrX o no pt ps w] (N6 90) := fun hh nn => (ckF2_x o no pt ps w h0 h1 h2).pure rfl rfl hh nn

theorem ckF3_x (o no pt ps : Int) (w : List UInt8) (h0 : inI o 0 7 = true) (h1 : inI no 0 63 = true) (h2 : inI ps 1 32 = true) (h3 : inI pt 0 (ps - 1) = false) : XF Tryd.prog eqs9 23 [FrX o no pt ps w] .e .z (fun xx _ _ => xx = N6 90) := by
  refine XF.body S9 fk23 rfl ?_
  have hp := inI_iff.1 h2
  refine XK.seq ?_
  refine XK.op S9 rfl ?_
  refine seqQ_n ?_
  refine XK.seq ?_
  refine XK.op S9 rfl ?_
  refine seqQ_n ?_
  refine XK.seq ?_
  refine XK.seq ?_
  refine XK.regS S9 tab9_ok ?_
  refine OG_p rfl ?_
  refine OG_r rfl ?_
  refine OG_c rfl rfl ?_
  refine OG_p (show opP _ _ = some (X.bool false) from ntt h0) ?_
  refine OG_p rfl ?_
  refine OG_y (rfl) rfl ?_
  refine OG_y (rfl) rfl ?_
  refine OG_y (rfl) (st_call rfl rfl) ?_
  refine OG_y (rfl) (st_p (show opP _ _ = some (X.bool false) from ntt h1)) ?_
  refine OG_p rfl ?_
  refine OG_p rfl ?_
  refine OG_y (rfl) rfl ?_
  refine OG_y (rfl) rfl ?_
  refine OG_y (rfl) rfl ?_
  refine OG_y (rfl) (st_call rfl rfl) ?_
  refine OG_y (rfl) (st_p (show opP _ _ = some (X.bool false) from ntt h2)) ?_
  refine OG_p rfl ?_
  refine OG_p rfl ?_
  refine OG_y (rfl) rfl ?_
  refine OG_y (rfl) rfl ?_
  refine OG_y (rfl) rfl ?_
  refine OG_y (rfl) rfl ?_
  refine OG_y (rfl) (st_p (op_sub1I rfl rfl (by omega) (by omega))) ?_
  refine OG_y (rfl) (st_call rfl rfl) ?_
  refine OG_y (rfl) (st_p (show opP _ _ = some (X.bool true) from ntf h3)) ?_
  refine OG_p rfl ?_
  refine OG_nil ?_
  refine seqQ_n ?_
  refine XK.condT rfl ?_
  refine XK.seq ?_
  refine XK.op S9 rfl ?_
  refine seqQ_n ?_
  refine XK.ret S9 ?_
  refine seqQ_r ?_
  exact ⟨_, rfl, rfl⟩

theorem ckF3_c (o no pt ps : Int) (w : List UInt8) (h0 : inI o 0 7 = true) (h1 : inI no 0 63 = true) (h2 : inI ps 1 32 = true) (h3 : inI pt 0 (ps - 1) = false) : Pure1 eqs9.gs Tryd.prog 23 [FrX o no pt ps w] (N6 90) := fun hh nn => (ckF3_x o no pt ps w h0 h1 h2 h3).pure rfl rfl hh nn

theorem rckF0_x (o no pt ps : Int) (w : List UInt8) (h0 : inI o 0 7 = false) : XF Tryd.prog eqs9 24 [FrX o no pt ps w] .e .z (fun xx _ _ => xx = N6 90) := by
  refine XF.body S9 fk24 rfl ?_
  refine XK.seq ?_
  refine XK.op S9 rfl ?_
  refine seqQ_n ?_
  refine XK.seq ?_
  refine XK.seq ?_
  refine XK.regS S9 tab9_ok ?_
  refine OG_p rfl ?_
  refine OG_r rfl ?_
  refine OG_c rfl rfl ?_
  refine OG_p (show opP _ _ = some (X.bool true) from ntf h0) ?_
  refine OG_p rfl ?_
  refine OG_o (rfl) rfl ?_
  refine OG_o (rfl) rfl ?_
  refine OG_o (rfl) rfl ?_
  refine OG_o (rfl) rfl ?_
  refine OG_p rfl ?_
  refine OG_p rfl ?_
  refine OG_o (rfl) rfl ?_
  refine OG_o (rfl) rfl ?_
  refine OG_o (rfl) rfl ?_
  refine OG_o (rfl) rfl ?_
  refine OG_p rfl ?_
  refine OG_p rfl ?_
  refine OG_o (rfl) rfl ?_
  refine OG_o (rfl) rfl ?_
  refine OG_o (rfl) rfl ?_
  refine OG_o (rfl) rfl ?_
  refine OG_o (rfl) rfl ?_
  refine OG_o (rfl) rfl ?_
  refine OG_o (rfl) rfl ?_
  refine OG_p rfl ?_
  refine OG_nil ?_
  refine seqQ_n ?_
  refine XK.condT rfl ?_
  refine XK.seq ?_
  refine XK.op S9 rfl ?_
  refine seqQ_n ?_
  refine XK.ret S9 ?_
  refine seqQ_r ?_
  exact ⟨_, rfl, rfl⟩

theorem rckF0_c (o no pt ps : Int) (w : List UInt8) (h0 : inI o 0 7 = false) : Pure1 eqs9.gs Tryd.prog 24 [FrX o no pt ps w] (N6 90) := fun hh nn => (rckF0_x o no pt ps w h0).pure rfl rfl hh nn

theorem rckF1_x (o no pt ps : Int) (w : List UInt8) (h0 : inI o 0 7 = true) (h1 : inI no 0 63 = false) : XF Tryd.prog eqs9 24 [FrX o no pt ps w] .e .z (fun xx _ _ => xx = N6 90) := by
  refine XF.body S9 fk24 rfl ?_
  refine XK.seq ?_
  refine XK.op S9 rfl ?_
  refine seqQ_n ?_
  refine XK.seq ?_
  refine XK.seq ?_
  refine XK.regS S9 tab9_ok ?_
  refine OG_p rfl ?_
  refine OG_r rfl ?_
  refine OG_c rfl rfl ?_
  refine OG_p (show opP _ _ = some (X.bool false) from ntt h0) ?_
  refine OG_p rfl ?_
  refine OG_y (rfl) rfl ?_
  refine OG_y (rfl) rfl ?_
  refine OG_y (rfl) (st_call rfl rfl) ?_
  refine OG_y (rfl) (st_p (show opP _ _ = some (X.bool true) from ntf h1)) ?_
  refine OG_p rfl ?_
  refine OG_p rfl ?_
  refine OG_o (rfl) rfl ?_
  refine OG_o (rfl) rfl ?_
  refine OG_o (rfl) rfl ?_
  refine OG_o (rfl) rfl ?_
  refine OG_p rfl ?_
  refine OG_p rfl ?_
  refine OG_o (rfl) rfl ?_
  refine OG_o (rfl) rfl ?_
  refine OG_o (rfl) rfl ?_
  refine OG_o (rfl) rfl ?_
  refine OG_o (rfl) rfl ?_
  refine OG_o (rfl) rfl ?_
  refine OG_o (rfl) rfl ?_
  refine OG_p rfl ?_
  refine OG_nil ?_
  refine seqQ_n ?_
  refine XK.condT rfl ?_
  refine XK.seq ?_
  refine XK.op S9 rfl ?_
  refine seqQ_n ?_
  refine XK.ret S9 ?_
  refine seqQ_r ?_
  exact ⟨_, rfl, rfl⟩

theorem rckF1_c (o no pt ps : Int) (w : List UInt8) (h0 : inI o 0 7 = true) (h1 : inI no 0 63 = false) : Pure1 eqs9.gs Tryd.prog 24 [FrX o no pt ps w] (N6 90) := fun hh nn => (rckF1_x o no pt ps w h0 h1).pure rfl rfl hh nn

theorem rckF2_x (o no pt ps : Int) (w : List UInt8) (h0 : inI o 0 7 = true) (h1 : inI no 0 63 = true) (h2 : inI ps 1 32 = false) : XF Tryd.prog eqs9 24 [FrX o no pt ps w] .e .z (fun xx _ _ => xx = N6 90) := by
  refine XF.body S9 fk24 rfl ?_
  refine XK.seq ?_
  refine XK.op S9 rfl ?_
  refine seqQ_n ?_
  refine XK.seq ?_
  refine XK.seq ?_
  refine XK.regS S9 tab9_ok ?_
  refine OG_p rfl ?_
  refine OG_r rfl ?_
  refine OG_c rfl rfl ?_
  refine OG_p (show opP _ _ = some (X.bool false) from ntt h0) ?_
  refine OG_p rfl ?_
  refine OG_y (rfl) rfl ?_
  refine OG_y (rfl) rfl ?_
  refine OG_y (rfl) (st_call rfl rfl) ?_
  refine OG_y (rfl) (st_p (show opP _ _ = some (X.bool false) from ntt h1)) ?_
  refine OG_p rfl ?_
  refine OG_p rfl ?_
  refine OG_y (rfl) rfl ?_
  refine OG_y (rfl) rfl ?_
  refine OG_y (rfl) (st_call rfl rfl) ?_
  refine OG_y (rfl) (st_p (show opP _ _ = some (X.bool true) from ntf h2)) ?_
  refine OG_p rfl ?_
  refine OG_p rfl ?_
  refine OG_o (rfl) rfl ?_
  refine OG_o (rfl) rfl ?_
  refine OG_o (rfl) rfl ?_
  refine OG_o (rfl) rfl ?_
  refine OG_o (rfl) rfl ?_
  refine OG_o (rfl) rfl ?_
  refine OG_o (rfl) rfl ?_
  refine OG_p rfl ?_
  refine OG_nil ?_
  refine seqQ_n ?_
  refine XK.condT rfl ?_
  refine XK.seq ?_
  refine XK.op S9 rfl ?_
  refine seqQ_n ?_
  refine XK.ret S9 ?_
  refine seqQ_r ?_
  exact ⟨_, rfl, rfl⟩

theorem rckF2_c (o no pt ps : Int) (w : List UInt8) (h0 : inI o 0 7 = true) (h1 : inI no 0 63 = true) (h2 : inI ps 1 32 = false) : Pure1 eqs9.gs Tryd.prog 24 [FrX o no pt ps w] (N6 90) := fun hh nn => (rckF2_x o no pt ps w h0 h1 h2).pure rfl rfl hh nn

theorem rckF3_x (o no pt ps : Int) (w : List UInt8) (h0 : inI o 0 7 = true) (h1 : inI no 0 63 = true) (h2 : inI ps 1 32 = true) (h3 : inI pt 0 (ps - 1) = false) : XF Tryd.prog eqs9 24 [FrX o no pt ps w] .e .z (fun xx _ _ => xx = N6 90) := by
  refine XF.body S9 fk24 rfl ?_
  have hp := inI_iff.1 h2
  refine XK.seq ?_
  refine XK.op S9 rfl ?_
  refine seqQ_n ?_
  refine XK.seq ?_
  refine XK.seq ?_
  refine XK.regS S9 tab9_ok ?_
  refine OG_p rfl ?_
  refine OG_r rfl ?_
  refine OG_c rfl rfl ?_
  refine OG_p (show opP _ _ = some (X.bool false) from ntt h0) ?_
  refine OG_p rfl ?_
  refine OG_y (rfl) rfl ?_
  refine OG_y (rfl) rfl ?_
  refine OG_y (rfl) (st_call rfl rfl) ?_
  refine OG_y (rfl) (st_p (show opP _ _ = some (X.bool false) from ntt h1)) ?_
  refine OG_p rfl ?_
  refine OG_p rfl ?_
  refine OG_y (rfl) rfl ?_
  refine OG_y (rfl) rfl ?_
  refine OG_y (rfl) (st_call rfl rfl) ?_
  refine OG_y (rfl) (st_p (show opP _ _ = some (X.bool false) from ntt h2)) ?_
  refine OG_p rfl ?_
  refine OG_p rfl ?_
  refine OG_y (rfl) rfl ?_
  refine OG_y (rfl) rfl ?_
  refine OG_y (rfl) rfl ?_
  refine OG_y (rfl) rfl ?_
  refine OG_y (rfl) (st_p (op_sub1I rfl rfl (by omega) (by omega))) ?_
  refine OG_y (rfl) (st_call rfl rfl) ?_
  refine OG_y (rfl) (st_p (show opP _ _ = some (X.bool true) from ntf h3)) ?_
  refine OG_p rfl ?_
  refine OG_nil ?_
  refine seqQ_n ?_
  refine XK.condT rfl ?_
  refine XK.seq ?_
  refine XK.op S9 rfl ?_
  refine seqQ_n ?_
  refine XK.ret S9 ?_
  refine seqQ_r ?_
  exact ⟨_, rfl, rfl⟩

theorem rckF3_c (o no pt ps : Int) (w : List UInt8) (h0 : inI o 0 7 = true) (h1 : inI no 0 63 = true) (h2 : inI ps 1 32 = true) (h3 : inI pt 0 (ps - 1) = false) : Pure1 eqs9.gs Tryd.prog 24 [FrX o no pt ps w] (N6 90) := fun hh nn => (rckF3_x o no pt ps w h0 h1 h2 h3).pure rfl rfl hh nn

theorem ckFaT_x (o no pt ps : Int) (w : List UInt8) (h0 : inI o 0 7 = true) (h1 : inI no 0 63 = true) (h2 : inI ps 1 32 = true) (h3 : inI pt 0 (ps - 1) = true) (hp1 : ps = 1) (hl : inI (Int.ofNat w.length) 0 32 = true) : XF Tryd.prog eqs9 23 [FrX o no pt ps w] .e .z (fun xx _ _ => xx = N6 0) := by
  refine XF.body S9 fk23 rfl ?_
  have hp := inI_iff.1 h2
  refine XK.seq ?_
  refine XK.op S9 rfl ?_
  refine seqQ_n ?_
  refine XK.seq ?_
  refine XK.op S9 rfl ?_
  refine seqQ_n ?_
  refine XK.seq ?_
  refine XK.seq ?_
  refine XK.regS S9 tab9_ok ?_
  refine OG_p rfl ?_
  refine OG_r rfl ?_
  refine OG_c rfl rfl ?_
  refine OG_p (show opP _ _ = some (X.bool false) from ntt h0) ?_
  refine OG_p rfl ?_
  refine OG_y (rfl) rfl ?_
  refine OG_y (rfl) rfl ?_
  refine OG_y (rfl) (st_call rfl rfl) ?_
  refine OG_y (rfl) (st_p (show opP _ _ = some (X.bool false) from ntt h1)) ?_
  refine OG_p rfl ?_
  refine OG_p rfl ?_
  refine OG_y (rfl) rfl ?_
  refine OG_y (rfl) rfl ?_
  refine OG_y (rfl) rfl ?_
  refine OG_y (rfl) (st_call rfl rfl) ?_
  refine OG_y (rfl) (st_p (show opP _ _ = some (X.bool false) from ntt h2)) ?_
  refine OG_p rfl ?_
  refine OG_p rfl ?_
  refine OG_y (rfl) rfl ?_
  refine OG_y (rfl) rfl ?_
  refine OG_y (rfl) rfl ?_
  refine OG_y (rfl) rfl ?_
  refine OG_y (rfl) (st_p (op_sub1I rfl rfl (by omega) (by omega))) ?_
  refine OG_y (rfl) (st_call rfl rfl) ?_
  refine OG_y (rfl) (st_p (show opP _ _ = some (X.bool false) from ntt h3)) ?_
  refine OG_p rfl ?_
  refine OG_nil ?_
  refine seqQ_n ?_
  refine XK.condF rfl ?_
  refine XK.skip S9 ?_
  refine seqQ_n ?_
  refine XK.seq ?_
  refine XK.op S9 rfl ?_
  refine seqQ_n ?_
  refine XK.seq ?_
  refine XK.seq ?_
  refine XK.op0' S9 ?_
  refine OG_p rfl ?_
  refine OG_r rfl ?_
  refine OG_p (show opP _ _ = some (X.bool true) from tru (hp1)) ?_
  refine OG_nil ?_
  refine seqQ_n ?_
  refine XK.condT rfl ?_
  refine XK.op S9 rfl ?_
  refine seqQ_n ?_
  refine XK.seq ?_
  refine XK.seq ?_
  refine XK.regS S9 tab9_ok ?_
  refine OG_p rfl ?_
  refine OG_r rfl ?_
  refine OG_p rfl ?_
  refine OG_p rfl ?_
  refine OG_c rfl rfl ?_
  refine OG_p (show opP _ _ = some (X.bool false) from ntt hl) ?_
  refine OG_nil ?_
  refine seqQ_n ?_
  refine XK.condF rfl ?_
  refine XK.skip S9 ?_
  refine seqQ_n ?_
  refine XK.seq ?_
  refine XK.op S9 rfl ?_
  refine seqQ_n ?_
  refine XK.ret S9 ?_
  exact ⟨_, rfl, rfl⟩

theorem ckFaT_c (o no pt ps : Int) (w : List UInt8) (h0 : inI o 0 7 = true) (h1 : inI no 0 63 = true) (h2 : inI ps 1 32 = true) (h3 : inI pt 0 (ps - 1) = true) (hp1 : ps = 1) (hl : inI (Int.ofNat w.length) 0 32 = true) : Pure1 eqs9.gs Tryd.prog 23 [FrX o no pt ps w] (N6 0) := fun hh nn => (ckFaT_x o no pt ps w h0 h1 h2 h3 hp1 hl).pure rfl rfl hh nn

theorem ckFaF_x (o no pt ps : Int) (w : List UInt8) (h0 : inI o 0 7 = true) (h1 : inI no 0 63 = true) (h2 : inI ps 1 32 = true) (h3 : inI pt 0 (ps - 1) = true) (hp1 : ps = 1) (hl : inI (Int.ofNat w.length) 0 32 = false) : XF Tryd.prog eqs9 23 [FrX o no pt ps w] .e .z (fun xx _ _ => xx = N6 90) := by
  refine XF.body S9 fk23 rfl ?_
  have hp := inI_iff.1 h2
  refine XK.seq ?_
  refine XK.op S9 rfl ?_
  refine seqQ_n ?_
  refine XK.seq ?_
  refine XK.op S9 rfl ?_
  refine seqQ_n ?_
  refine XK.seq ?_
  refine XK.seq ?_
  refine XK.regS S9 tab9_ok ?_
  refine OG_p rfl ?_
  refine OG_r rfl ?_
  refine OG_c rfl rfl ?_
  refine OG_p (show opP _ _ = some (X.bool false) from ntt h0) ?_
  refine OG_p rfl ?_
  refine OG_y (rfl) rfl ?_
  refine OG_y (rfl) rfl ?_
  refine OG_y (rfl) (st_call rfl rfl) ?_
  refine OG_y (rfl) (st_p (show opP _ _ = some (X.bool false) from ntt h1)) ?_
  refine OG_p rfl ?_
  refine OG_p rfl ?_
  refine OG_y (rfl) rfl ?_
  refine OG_y (rfl) rfl ?_
  refine OG_y (rfl) rfl ?_
  refine OG_y (rfl) (st_call rfl rfl) ?_
  refine OG_y (rfl) (st_p (show opP _ _ = some (X.bool false) from ntt h2)) ?_
  refine OG_p rfl ?_
  refine OG_p rfl ?_
  refine OG_y (rfl) rfl ?_
  refine OG_y (rfl) rfl ?_
  refine OG_y (rfl) rfl ?_
  refine OG_y (rfl) rfl ?_
  refine OG_y (rfl) (st_p (op_sub1I rfl rfl (by omega) (by omega))) ?_
  refine OG_y (rfl) (st_call rfl rfl) ?_
  refine OG_y (rfl) (st_p (show opP _ _ = some (X.bool false) from ntt h3)) ?_
  refine OG_p rfl ?_
  refine OG_nil ?_
  refine seqQ_n ?_
  refine XK.condF rfl ?_
  refine XK.skip S9 ?_
  refine seqQ_n ?_
  refine XK.seq ?_
  refine XK.op S9 rfl ?_
  refine seqQ_n ?_
  refine XK.seq ?_
  refine XK.seq ?_
  refine XK.op0' S9 ?_
  refine OG_p rfl ?_
  refine OG_r rfl ?_
  refine OG_p (show opP _ _ = some (X.bool true) from tru (hp1)) ?_
  refine OG_nil ?_
  refine seqQ_n ?_
  refine XK.condT rfl ?_
  refine XK.op S9 rfl ?_
  refine seqQ_n ?_
  refine XK.seq ?_
  refine XK.seq ?_
  refine XK.regS S9 tab9_ok ?_
  refine OG_p rfl ?_
  refine OG_r rfl ?_
  refine OG_p rfl ?_
  refine OG_p rfl ?_
  refine OG_c rfl rfl ?_
  refine OG_p (show opP _ _ = some (X.bool true) from ntf hl) ?_
  refine OG_nil ?_
  refine seqQ_n ?_
  refine XK.condT rfl ?_
  refine XK.seq ?_
  refine XK.op S9 rfl ?_
  refine seqQ_n ?_
  refine XK.ret S9 ?_
  refine seqQ_r ?_
  exact ⟨_, rfl, rfl⟩

theorem ckFaF_c (o no pt ps : Int) (w : List UInt8) (h0 : inI o 0 7 = true) (h1 : inI no 0 63 = true) (h2 : inI ps 1 32 = true) (h3 : inI pt 0 (ps - 1) = true) (hp1 : ps = 1) (hl : inI (Int.ofNat w.length) 0 32 = false) : Pure1 eqs9.gs Tryd.prog 23 [FrX o no pt ps w] (N6 90) := fun hh nn => (ckFaF_x o no pt ps w h0 h1 h2 h3 hp1 hl).pure rfl rfl hh nn

theorem ckFbT_x (o no pt ps : Int) (w : List UInt8) (h0 : inI o 0 7 = true) (h1 : inI no 0 63 = true) (h2 : inI ps 1 32 = true) (h3 : inI pt 0 (ps - 1) = true) (hp1 : ¬ ps = 1) (hp2 : pt < ps - 1) (hl : inI (Int.ofNat w.length) 32 32 = true) : XF Tryd.prog eqs9 23 [FrX o no pt ps w] .e .z (fun xx _ _ => xx = N6 0) := by
  refine XF.body S9 fk23 rfl ?_
  have hp := inI_iff.1 h2
  refine XK.seq ?_
  refine XK.op S9 rfl ?_
  refine seqQ_n ?_
  refine XK.seq ?_
  refine XK.op S9 rfl ?_
  refine seqQ_n ?_
  refine XK.seq ?_
  refine XK.seq ?_
  refine XK.regS S9 tab9_ok ?_
  refine OG_p rfl ?_
  refine OG_r rfl ?_
  refine OG_c rfl rfl ?_
  refine OG_p (show opP _ _ = some (X.bool false) from ntt h0) ?_
  refine OG_p rfl ?_
  refine OG_y (rfl) rfl ?_
  refine OG_y (rfl) rfl ?_
  refine OG_y (rfl) (st_call rfl rfl) ?_
  refine OG_y (rfl) (st_p (show opP _ _ = some (X.bool false) from ntt h1)) ?_
  refine OG_p rfl ?_
  refine OG_p rfl ?_
  refine OG_y (rfl) rfl ?_
  refine OG_y (rfl) rfl ?_
  refine OG_y (rfl) rfl ?_
  refine OG_y (rfl) (st_call rfl rfl) ?_
  refine OG_y (rfl) (st_p (show opP _ _ = some (X.bool false) from ntt h2)) ?_
  refine OG_p rfl ?_
  refine OG_p rfl ?_
  refine OG_y (rfl) rfl ?_
  refine OG_y (rfl) rfl ?_
  refine OG_y (rfl) rfl ?_
  refine OG_y (rfl) rfl ?_
  refine OG_y (rfl) (st_p (op_sub1I rfl rfl (by omega) (by omega))) ?_
  refine OG_y (rfl) (st_call rfl rfl) ?_
  refine OG_y (rfl) (st_p (show opP _ _ = some (X.bool false) from ntt h3)) ?_
  refine OG_p rfl ?_
  refine OG_nil ?_
  refine seqQ_n ?_
  refine XK.condF rfl ?_
  refine XK.skip S9 ?_
  refine seqQ_n ?_
  refine XK.seq ?_
  refine XK.op S9 rfl ?_
  refine seqQ_n ?_
  refine XK.seq ?_
  refine XK.seq ?_
  refine XK.op0' S9 ?_
  refine OG_p rfl ?_
  refine OG_r rfl ?_
  refine OG_p (show opP _ _ = some (X.bool false) from fls (hp1)) ?_
  refine OG_nil ?_
  refine seqQ_n ?_
  refine XK.condF rfl ?_
  refine XK.seq ?_
  refine XK.op0' S9 ?_
  refine OG_p rfl ?_
  refine OG_r rfl ?_
  refine OG_p rfl ?_
  refine OG_r rfl ?_
  refine OG_p (op_sub1I rfl rfl (by omega) (by omega)) ?_
  refine OG_p (show opP _ _ = some (X.bool true) from tru (hp2)) ?_
  refine OG_nil ?_
  refine seqQ_n ?_
  refine XK.condT rfl ?_
  refine XK.op S9 rfl ?_
  refine seqQ_n ?_
  refine XK.seq ?_
  refine XK.seq ?_
  refine XK.regS S9 tab9_ok ?_
  refine OG_p rfl ?_
  refine OG_r rfl ?_
  refine OG_p rfl ?_
  refine OG_p rfl ?_
  refine OG_c rfl rfl ?_
  refine OG_p (show opP _ _ = some (X.bool false) from ntt hl) ?_
  refine OG_nil ?_
  refine seqQ_n ?_
  refine XK.condF rfl ?_
  refine XK.skip S9 ?_
  refine seqQ_n ?_
  refine XK.seq ?_
  refine XK.op S9 rfl ?_
  refine seqQ_n ?_
  refine XK.ret S9 ?_
  exact ⟨_, rfl, rfl⟩

theorem ckFbT_c (o no pt ps : Int) (w : List UInt8) (h0 : inI o 0 7 = true) (h1 : inI no 0 63 = true) (h2 : inI ps 1 32 = true) (h3 : inI pt 0 (ps - 1) = true) (hp1 : ¬ ps = 1) (hp2 : pt < ps - 1) (hl : inI (Int.ofNat w.length) 32 32 = true) : Pure1 eqs9.gs Tryd.prog 23 [FrX o no pt ps w] (N6 0) := fun hh nn => (ckFbT_x o no pt ps w h0 h1 h2 h3 hp1 hp2 hl).pure rfl rfl hh nn

theorem ckFbF_x (o no pt ps : Int) (w : List UInt8) (h0 : inI o 0 7 = true) (h1 : inI no 0 63 = true) (h2 : inI ps 1 32 = true) (h3 : inI pt 0 (ps - 1) = true) (hp1 : ¬ ps = 1) (hp2 : pt < ps - 1) (hl : inI (Int.ofNat w.length) 32 32 = false) : XF Tryd.prog eqs9 23 [FrX o no pt ps w] .e .z (fun xx _ _ => xx = N6 90) := by
  refine XF.body S9 fk23 rfl ?_
  have hp := inI_iff.1 h2
  refine XK.seq ?_
  refine XK.op S9 rfl ?_
  refine seqQ_n ?_
  refine XK.seq ?_
  refine XK.op S9 rfl ?_
  refine seqQ_n ?_
  refine XK.seq ?_
  refine XK.seq ?_
  refine XK.regS S9 tab9_ok ?_
  refine OG_p rfl ?_
  refine OG_r rfl ?_
  refine OG_c rfl rfl ?_
  refine OG_p (show opP _ _ = some (X.bool false) from ntt h0) ?_
  refine OG_p rfl ?_
  refine OG_y (rfl) rfl ?_
  refine OG_y (rfl) rfl ?_
  refine OG_y (rfl) (st_call rfl rfl) ?_
  refine OG_y (rfl) (st_p (show opP _ _ = some (X.bool false) from ntt h1)) ?_
  refine OG_p rfl ?_
  refine OG_p rfl ?_
  refine OG_y (rfl) rfl ?_
  refine OG_y (rfl) rfl ?_
  refine OG_y (rfl) rfl ?_
  refine OG_y (rfl) (st_call rfl rfl) ?_
  refine OG_y (rfl) (st_p (show opP _ _ = some (X.bool false) from ntt h2)) ?_
  refine OG_p rfl ?_
  refine OG_p rfl ?_
  refine OG_y (rfl) rfl ?_
  refine OG_y (rfl) rfl ?_
  refine OG_y (rfl) rfl ?_
  refine OG_y (rfl) rfl ?_
  refine OG_y (rfl) (st_p (op_sub1I rfl rfl (by omega) (by omega))) ?_
  refine OG_y (rfl) (st_call rfl rfl) ?_
  refine OG_y (rfl) (st_p (show opP _ _ = some (X.bool false) from ntt h3)) ?_
  refine OG_p rfl ?_
  refine OG_nil ?_
  refine seqQ_n ?_
  refine XK.condF rfl ?_
  refine XK.skip S9 ?_
  refine seqQ_n ?_
  refine XK.seq ?_
  refine XK.op S9 rfl ?_
  refine seqQ_n ?_
  refine XK.seq ?_
  refine XK.seq ?_
  refine XK.op0' S9 ?_
  refine OG_p rfl ?_
  refine OG_r rfl ?_
  refine OG_p (show opP _ _ = some (X.bool false) from fls (hp1)) ?_
  refine OG_nil ?_
  refine seqQ_n ?_
  refine XK.condF rfl ?_
  refine XK.seq ?_
  refine XK.op0' S9 ?_
  refine OG_p rfl ?_
  refine OG_r rfl ?_
  refine OG_p rfl ?_
  refine OG_r rfl ?_
  refine OG_p (op_sub1I rfl rfl (by omega) (by omega)) ?_
  refine OG_p (show opP _ _ = some (X.bool true) from tru (hp2)) ?_
  refine OG_nil ?_
  refine seqQ_n ?_
  refine XK.condT rfl ?_
  refine XK.op S9 rfl ?_
  refine seqQ_n ?_
  refine XK.seq ?_
  refine XK.seq ?_
  refine XK.regS S9 tab9_ok ?_
  refine OG_p rfl ?_
  refine OG_r rfl ?_
  refine OG_p rfl ?_
  refine OG_p rfl ?_
  refine OG_c rfl rfl ?_
  refine OG_p (show opP _ _ = some (X.bool true) from ntf hl) ?_
  refine OG_nil ?_
  refine seqQ_n ?_
  refine XK.condT rfl ?_
  refine XK.seq ?_
  refine XK.op S9 rfl ?_
  refine seqQ_n ?_
  refine XK.ret S9 ?_
  refine seqQ_r ?_
  exact ⟨_, rfl, rfl⟩

theorem ckFbF_c (o no pt ps : Int) (w : List UInt8) (h0 : inI o 0 7 = true) (h1 : inI no 0 63 = true) (h2 : inI ps 1 32 = true) (h3 : inI pt 0 (ps - 1) = true) (hp1 : ¬ ps = 1) (hp2 : pt < ps - 1) (hl : inI (Int.ofNat w.length) 32 32 = false) : Pure1 eqs9.gs Tryd.prog 23 [FrX o no pt ps w] (N6 90) := fun hh nn => (ckFbF_x o no pt ps w h0 h1 h2 h3 hp1 hp2 hl).pure rfl rfl hh nn

theorem ckFcT_x (o no pt ps : Int) (w : List UInt8) (h0 : inI o 0 7 = true) (h1 : inI no 0 63 = true) (h2 : inI ps 1 32 = true) (h3 : inI pt 0 (ps - 1) = true) (hp1 : ¬ ps = 1) (hp2 : ¬ pt < ps - 1) (hl : inI (Int.ofNat w.length) 1 32 = true) : XF Tryd.prog eqs9 23 [FrX o no pt ps w] .e .z (fun xx _ _ => xx = N6 0) := by
  refine XF.body S9 fk23 rfl ?_
  have hp := inI_iff.1 h2
  refine XK.seq ?_
  refine XK.op S9 rfl ?_
  refine seqQ_n ?_
  refine XK.seq ?_
  refine XK.op S9 rfl ?_
  refine seqQ_n ?_
  refine XK.seq ?_
  refine XK.seq ?_
  refine XK.regS S9 tab9_ok ?_
  refine OG_p rfl ?_
  refine OG_r rfl ?_
  refine OG_c rfl rfl ?_
  refine OG_p (show opP _ _ = some (X.bool false) from ntt h0) ?_
  refine OG_p rfl ?_
  refine OG_y (rfl) rfl ?_
  refine OG_y (rfl) rfl ?_
  refine OG_y (rfl) (st_call rfl rfl) ?_
  refine OG_y (rfl) (st_p (show opP _ _ = some (X.bool false) from ntt h1)) ?_
  refine OG_p rfl ?_
  refine OG_p rfl ?_
  refine OG_y (rfl) rfl ?_
  refine OG_y (rfl) rfl ?_
  refine OG_y (rfl) rfl ?_
  refine OG_y (rfl) (st_call rfl rfl) ?_
  refine OG_y (rfl) (st_p (show opP _ _ = some (X.bool false) from ntt h2)) ?_
  refine OG_p rfl ?_
  refine OG_p rfl ?_
  refine OG_y (rfl) rfl ?_
  refine OG_y (rfl) rfl ?_
  refine OG_y (rfl) rfl ?_
  refine OG_y (rfl) rfl ?_
  refine OG_y (rfl) (st_p (op_sub1I rfl rfl (by omega) (by omega))) ?_
  refine OG_y (rfl) (st_call rfl rfl) ?_
  refine OG_y (rfl) (st_p (show opP _ _ = some (X.bool false) from ntt h3)) ?_
  refine OG_p rfl ?_
  refine OG_nil ?_
  refine seqQ_n ?_
  refine XK.condF rfl ?_
  refine XK.skip S9 ?_
  refine seqQ_n ?_
  refine XK.seq ?_
  refine XK.op S9 rfl ?_
  refine seqQ_n ?_
  refine XK.seq ?_
  refine XK.seq ?_
  refine XK.op0' S9 ?_
  refine OG_p rfl ?_
  refine OG_r rfl ?_
  refine OG_p (show opP _ _ = some (X.bool false) from fls (hp1)) ?_
  refine OG_nil ?_
  refine seqQ_n ?_
  refine XK.condF rfl ?_
  refine XK.seq ?_
  refine XK.op0' S9 ?_
  refine OG_p rfl ?_
  refine OG_r rfl ?_
  refine OG_p rfl ?_
  refine OG_r rfl ?_
  refine OG_p (op_sub1I rfl rfl (by omega) (by omega)) ?_
  refine OG_p (show opP _ _ = some (X.bool false) from fls (hp2)) ?_
  refine OG_nil ?_
  refine seqQ_n ?_
  refine XK.condF rfl ?_
  refine XK.skip S9 ?_
  refine seqQ_n ?_
  refine XK.seq ?_
  refine XK.seq ?_
  refine XK.regS S9 tab9_ok ?_
  refine OG_p rfl ?_
  refine OG_r rfl ?_
  refine OG_p rfl ?_
  refine OG_p rfl ?_
  refine OG_c rfl rfl ?_
  refine OG_p (show opP _ _ = some (X.bool false) from ntt hl) ?_
  refine OG_nil ?_
  refine seqQ_n ?_
  refine XK.condF rfl ?_
  refine XK.skip S9 ?_
  refine seqQ_n ?_
  refine XK.seq ?_
  refine XK.op S9 rfl ?_
  refine seqQ_n ?_
  refine XK.ret S9 ?_
  exact ⟨_, rfl, rfl⟩

theorem ckFcT_c (o no pt ps : Int) (w : List UInt8) (h0 : inI o 0 7 = true) (h1 : inI no 0 63 = true) (h2 : inI ps 1 32 = true) (h3 : inI pt 0 (ps - 1) = true) (hp1 : ¬ ps = 1) (hp2 : ¬ pt < ps - 1) (hl : inI (Int.ofNat w.length) 1 32 = true) : Pure1 eqs9.gs Tryd.prog 23 [FrX o no pt ps w] (N6 0) := fun hh nn => (ckFcT_x o no pt ps w h0 h1 h2 h3 hp1 hp2 hl).pure rfl rfl hh nn

theorem ckFcF_x (o no pt ps : Int) (w : List UInt8) (h0 : inI o 0 7 = true) (h1 : inI no 0 63 = true) (h2 : inI ps 1 32 = true) (h3 : inI pt 0 (ps - 1) = true) (hp1 : ¬ ps = 1) (hp2 : ¬ pt < ps - 1) (hl : inI (Int.ofNat w.length) 1 32 = false) : XF Tryd.prog eqs9 23 [FrX o no pt ps w] .e .z (fun xx _ _ => xx = N6 90) := by
  refine XF.body S9 fk23 rfl ?_
  have hp := inI_iff.1 h2
  refine XK.seq ?_
  refine XK.op S9 rfl ?_
  refine seqQ_n ?_
  refine XK.seq ?_
  refine XK.op S9 rfl ?_
  refine seqQ_n ?_
  refine XK.seq ?_
  refine XK.seq ?_
  refine XK.regS S9 tab9_ok ?_
  refine OG_p rfl ?_
  refine OG_r rfl ?_
  refine OG_c rfl rfl ?_
  refine OG_p (show opP _ _ = some (X.bool false) from ntt h0) ?_
  refine OG_p rfl ?_
  refine OG_y (rfl) rfl ?_
  refine OG_y (rfl) rfl ?_
  refine OG_y (rfl) (st_call rfl rfl) ?_
  refine OG_y (rfl) (st_p (show opP _ _ = some (X.bool false) from ntt h1)) ?_
  refine OG_p rfl ?_
  refine OG_p rfl ?_
  refine OG_y (rfl) rfl ?_
  refine OG_y (rfl) rfl ?_
  refine OG_y (rfl) rfl ?_
  refine OG_y (rfl) (st_call rfl rfl) ?_
  refine OG_y (rfl) (st_p (show opP _ _ = some (X.bool false) from ntt h2)) ?_
  refine OG_p rfl ?_
  refine OG_p rfl ?_
  refine OG_y (rfl) rfl ?_
  refine OG_y (rfl) rfl ?_
  refine OG_y (rfl) rfl ?_
  refine OG_y (rfl) rfl ?_
  refine OG_y (rfl) (st_p (op_sub1I rfl rfl (by omega) (by omega))) ?_
  refine OG_y (rfl) (st_call rfl rfl) ?_
  refine OG_y (rfl) (st_p (show opP _ _ = some (X.bool false) from ntt h3)) ?_
  refine OG_p rfl ?_
  refine OG_nil ?_
  refine seqQ_n ?_
  refine XK.condF rfl ?_
  refine XK.skip S9 ?_
  refine seqQ_n ?_
  refine XK.seq ?_
  refine XK.op S9 rfl ?_
  refine seqQ_n ?_
  refine XK.seq ?_
  refine XK.seq ?_
  refine XK.op0' S9 ?_
  refine OG_p rfl ?_
  refine OG_r rfl ?_
  refine OG_p (show opP _ _ = some (X.bool false) from fls (hp1)) ?_
  refine OG_nil ?_
  refine seqQ_n ?_
  refine XK.condF rfl ?_
  refine XK.seq ?_
  refine XK.op0' S9 ?_
  refine OG_p rfl ?_
  refine OG_r rfl ?_
  refine OG_p rfl ?_
  refine OG_r rfl ?_
  refine OG_p (op_sub1I rfl rfl (by omega) (by omega)) ?_
  refine OG_p (show opP _ _ = some (X.bool false) from fls (hp2)) ?_
  refine OG_nil ?_
  refine seqQ_n ?_
  refine XK.condF rfl ?_
  refine XK.skip S9 ?_
  refine seqQ_n ?_
  refine XK.seq ?_
  refine XK.seq ?_
  refine XK.regS S9 tab9_ok ?_
  refine OG_p rfl ?_
  refine OG_r rfl ?_
  refine OG_p rfl ?_
  refine OG_p rfl ?_
  refine OG_c rfl rfl ?_
  refine OG_p (show opP _ _ = some (X.bool true) from ntf hl) ?_
  refine OG_nil ?_
  refine seqQ_n ?_
  refine XK.condT rfl ?_
  refine XK.seq ?_
  refine XK.op S9 rfl ?_
  refine seqQ_n ?_
  refine XK.ret S9 ?_
  refine seqQ_r ?_
  exact ⟨_, rfl, rfl⟩

theorem ckFcF_c (o no pt ps : Int) (w : List UInt8) (h0 : inI o 0 7 = true) (h1 : inI no 0 63 = true) (h2 : inI ps 1 32 = true) (h3 : inI pt 0 (ps - 1) = true) (hp1 : ¬ ps = 1) (hp2 : ¬ pt < ps - 1) (hl : inI (Int.ofNat w.length) 1 32 = false) : Pure1 eqs9.gs Tryd.prog 23 [FrX o no pt ps w] (N6 90) := fun hh nn => (ckFcF_x o no pt ps w h0 h1 h2 h3 hp1 hp2 hl).pure rfl rfl hh nn

theorem rckFa_x (o no pt ps : Int) (w : List UInt8) (h0 : inI o 0 7 = true) (h1 : inI no 0 63 = true) (h2 : inI ps 1 32 = true) (h3 : inI pt 0 (ps - 1) = true) (hp2 : pt < ps - 1) (hl : ¬ w.length = 32) : XF Tryd.prog eqs9 24 [FrX o no pt ps w] .e .z (fun xx _ _ => xx = N6 90) := by
  refine XF.body S9 fk24 rfl ?_
  have hp := inI_iff.1 h2
  refine XK.seq ?_
  refine XK.op S9 rfl ?_
  refine seqQ_n ?_
  refine XK.seq ?_
  refine XK.seq ?_
  refine XK.regS S9 tab9_ok ?_
  refine OG_p rfl ?_
  refine OG_r rfl ?_
  refine OG_c rfl rfl ?_
  refine OG_p (show opP _ _ = some (X.bool false) from ntt h0) ?_
  refine OG_p rfl ?_
  refine OG_y (rfl) rfl ?_
  refine OG_y (rfl) rfl ?_
  refine OG_y (rfl) (st_call rfl rfl) ?_
  refine OG_y (rfl) (st_p (show opP _ _ = some (X.bool false) from ntt h1)) ?_
  refine OG_p rfl ?_
  refine OG_p rfl ?_
  refine OG_y (rfl) rfl ?_
  refine OG_y (rfl) rfl ?_
  refine OG_y (rfl) (st_call rfl rfl) ?_
  refine OG_y (rfl) (st_p (show opP _ _ = some (X.bool false) from ntt h2)) ?_
  refine OG_p rfl ?_
  refine OG_p rfl ?_
  refine OG_y (rfl) rfl ?_
  refine OG_y (rfl) rfl ?_
  refine OG_y (rfl) rfl ?_
  refine OG_y (rfl) rfl ?_
  refine OG_y (rfl) (st_p (op_sub1I rfl rfl (by omega) (by omega))) ?_
  refine OG_y (rfl) (st_call rfl rfl) ?_
  refine OG_y (rfl) (st_p (show opP _ _ = some (X.bool false) from ntt h3)) ?_
  refine OG_p rfl ?_
  refine OG_nil ?_
  refine seqQ_n ?_
  refine XK.condF rfl ?_
  refine XK.skip S9 ?_
  refine seqQ_n ?_
  refine XK.seq ?_
  refine XK.op S9 rfl ?_
  refine seqQ_n ?_
  refine XK.seq ?_
  refine XK.seq ?_
  refine XK.op0' S9 ?_
  refine OG_p rfl ?_
  refine OG_r rfl ?_
  refine OG_p rfl ?_
  refine OG_r rfl ?_
  refine OG_p (op_sub1I rfl rfl (by omega) (by omega)) ?_
  refine OG_p (show opP _ _ = some (X.bool true) from tru (hp2)) ?_
  refine OG_p rfl ?_
  refine OG_y (rfl) rfl ?_
  refine OG_y (rfl) (st_p (show opP _ _ = some (X.bool true) from nfls (show ¬ (w.length : Int) = ((32 : Nat) : Int) by omega))) ?_
  refine OG_p rfl ?_
  refine OG_p rfl ?_
  refine OG_o (rfl) rfl ?_
  refine OG_o (rfl) rfl ?_
  refine OG_p rfl ?_
  refine OG_p rfl ?_
  refine OG_o (rfl) rfl ?_
  refine OG_o (rfl) rfl ?_
  refine OG_o (rfl) rfl ?_
  refine OG_cons rfl ?_
  refine OG_cons rfl ?_
  refine OG_cons rfl ?_
  refine OG_o (rfl) rfl ?_
  refine OG_p rfl ?_
  refine OG_nil ?_
  refine seqQ_n ?_
  refine XK.condT rfl ?_
  refine XK.seq ?_
  refine XK.op S9 rfl ?_
  refine seqQ_n ?_
  refine XK.ret S9 ?_
  refine seqQ_r ?_
  exact ⟨_, rfl, rfl⟩

theorem rckFa_c (o no pt ps : Int) (w : List UInt8) (h0 : inI o 0 7 = true) (h1 : inI no 0 63 = true) (h2 : inI ps 1 32 = true) (h3 : inI pt 0 (ps - 1) = true) (hp2 : pt < ps - 1) (hl : ¬ w.length = 32) : Pure1 eqs9.gs Tryd.prog 24 [FrX o no pt ps w] (N6 90) := fun hh nn => (rckFa_x o no pt ps w h0 h1 h2 h3 hp2 hl).pure rfl rfl hh nn

theorem rckFb_x (o no pt ps : Int) (w : List UInt8) (h0 : inI o 0 7 = true) (h1 : inI no 0 63 = true) (h2 : inI ps 1 32 = true) (h3 : inI pt 0 (ps - 1) = true) (hp2 : pt < ps - 1) (hl : w.length = 32) : XF Tryd.prog eqs9 24 [FrX o no pt ps w] .e .z (fun xx _ _ => xx = N6 0) := by
  refine XF.body S9 fk24 rfl ?_
  have hp := inI_iff.1 h2
  refine XK.seq ?_
  refine XK.op S9 rfl ?_
  refine seqQ_n ?_
  refine XK.seq ?_
  refine XK.seq ?_
  refine XK.regS S9 tab9_ok ?_
  refine OG_p rfl ?_
  refine OG_r rfl ?_
  refine OG_c rfl rfl ?_
  refine OG_p (show opP _ _ = some (X.bool false) from ntt h0) ?_
  refine OG_p rfl ?_
  refine OG_y (rfl) rfl ?_
  refine OG_y (rfl) rfl ?_
  refine OG_y (rfl) (st_call rfl rfl) ?_
  refine OG_y (rfl) (st_p (show opP _ _ = some (X.bool false) from ntt h1)) ?_
  refine OG_p rfl ?_
  refine OG_p rfl ?_
  refine OG_y (rfl) rfl ?_
  refine OG_y (rfl) rfl ?_
  refine OG_y (rfl) (st_call rfl rfl) ?_
  refine OG_y (rfl) (st_p (show opP _ _ = some (X.bool false) from ntt h2)) ?_
  refine OG_p rfl ?_
  refine OG_p rfl ?_
  refine OG_y (rfl) rfl ?_
  refine OG_y (rfl) rfl ?_
  refine OG_y (rfl) rfl ?_
  refine OG_y (rfl) rfl ?_
  refine OG_y (rfl) (st_p (op_sub1I rfl rfl (by omega) (by omega))) ?_
  refine OG_y (rfl) (st_call rfl rfl) ?_
  refine OG_y (rfl) (st_p (show opP _ _ = some (X.bool false) from ntt h3)) ?_
  refine OG_p rfl ?_
  refine OG_nil ?_
  refine seqQ_n ?_
  refine XK.condF rfl ?_
  refine XK.skip S9 ?_
  refine seqQ_n ?_
  refine XK.seq ?_
  refine XK.op S9 rfl ?_
  refine seqQ_n ?_
  refine XK.seq ?_
  refine XK.seq ?_
  refine XK.op0' S9 ?_
  refine OG_p rfl ?_
  refine OG_r rfl ?_
  refine OG_p rfl ?_
  refine OG_r rfl ?_
  refine OG_p (op_sub1I rfl rfl (by omega) (by omega)) ?_
  refine OG_p (show opP _ _ = some (X.bool true) from tru (hp2)) ?_
  refine OG_p rfl ?_
  refine OG_y (rfl) rfl ?_
  refine OG_y (rfl) (st_p (show opP _ _ = some (X.bool false) from ntru (show (w.length : Int) = ((32 : Nat) : Int) by omega))) ?_
  refine OG_p rfl ?_
  refine OG_p rfl ?_
  refine OG_y (rfl) rfl ?_
  refine OG_y (rfl) (st_p (show opP _ _ = some (X.bool false) from fls (show ¬ ((32 : Nat) : Int) < (w.length : Int) by omega))) ?_
  refine OG_p rfl ?_
  refine OG_p rfl ?_
  refine OG_y (rfl) rfl ?_
  refine OG_y (rfl) (st_p (show opP _ _ = some (X.bool false) from fls (show ¬ (w.length : Int) = ((0 : Nat) : Int) by omega))) ?_
  refine OG_y (rfl) rfl ?_
  refine OG_o (rfl) rfl ?_
  refine OG_o (rfl) rfl ?_
  refine OG_o (rfl) rfl ?_
  refine OG_y (rfl) rfl ?_
  refine OG_p rfl ?_
  refine OG_nil ?_
  refine seqQ_n ?_
  refine XK.condF rfl ?_
  refine XK.skip S9 ?_
  refine seqQ_n ?_
  refine XK.seq ?_
  refine XK.op S9 rfl ?_
  refine seqQ_n ?_
  refine XK.ret S9 ?_
  exact ⟨_, rfl, rfl⟩

theorem rckFb_c (o no pt ps : Int) (w : List UInt8) (h0 : inI o 0 7 = true) (h1 : inI no 0 63 = true) (h2 : inI ps 1 32 = true) (h3 : inI pt 0 (ps - 1) = true) (hp2 : pt < ps - 1) (hl : w.length = 32) : Pure1 eqs9.gs Tryd.prog 24 [FrX o no pt ps w] (N6 0) := fun hh nn => (rckFb_x o no pt ps w h0 h1 h2 h3 hp2 hl).pure rfl rfl hh nn

theorem rckFc_x (o no pt ps : Int) (w : List UInt8) (h0 : inI o 0 7 = true) (h1 : inI no 0 63 = true) (h2 : inI ps 1 32 = true) (h3 : inI pt 0 (ps - 1) = true) (hp2 : ¬ pt < ps - 1) (hl : 32 < w.length) : XF Tryd.prog eqs9 24 [FrX o no pt ps w] .e .z (fun xx _ _ => xx = N6 90) := by
  refine XF.body S9 fk24 rfl ?_
  have hp := inI_iff.1 h2
  refine XK.seq ?_
  refine XK.op S9 rfl ?_
  refine seqQ_n ?_
  refine XK.seq ?_
  refine XK.seq ?_
  refine XK.regS S9 tab9_ok ?_
  refine OG_p rfl ?_
  refine OG_r rfl ?_
  refine OG_c rfl rfl ?_
  refine OG_p (show opP _ _ = some (X.bool false) from ntt h0) ?_
  refine OG_p rfl ?_
  refine OG_y (rfl) rfl ?_
  refine OG_y (rfl) rfl ?_
  refine OG_y (rfl) (st_call rfl rfl) ?_
  refine OG_y (rfl) (st_p (show opP _ _ = some (X.bool false) from ntt h1)) ?_
  refine OG_p rfl ?_
  refine OG_p rfl ?_
  refine OG_y (rfl) rfl ?_
  refine OG_y (rfl) rfl ?_
  refine OG_y (rfl) (st_call rfl rfl) ?_
  refine OG_y (rfl) (st_p (show opP _ _ = some (X.bool false) from ntt h2)) ?_
  refine OG_p rfl ?_
  refine OG_p rfl ?_
  refine OG_y (rfl) rfl ?_
  refine OG_y (rfl) rfl ?_
  refine OG_y (rfl) rfl ?_
  refine OG_y (rfl) rfl ?_
  refine OG_y (rfl) (st_p (op_sub1I rfl rfl (by omega) (by omega))) ?_
  refine OG_y (rfl) (st_call rfl rfl) ?_
  refine OG_y (rfl) (st_p (show opP _ _ = some (X.bool false) from ntt h3)) ?_
  refine OG_p rfl ?_
  refine OG_nil ?_
  refine seqQ_n ?_
  refine XK.condF rfl ?_
  refine XK.skip S9 ?_
  refine seqQ_n ?_
  refine XK.seq ?_
  refine XK.op S9 rfl ?_
  refine seqQ_n ?_
  refine XK.seq ?_
  refine XK.seq ?_
  refine XK.op0' S9 ?_
  refine OG_p rfl ?_
  refine OG_r rfl ?_
  refine OG_p rfl ?_
  refine OG_r rfl ?_
  refine OG_p (op_sub1I rfl rfl (by omega) (by omega)) ?_
  refine OG_p (show opP _ _ = some (X.bool false) from fls (hp2)) ?_
  refine OG_p rfl ?_
  refine OG_o (rfl) rfl ?_
  refine OG_o (rfl) rfl ?_
  refine OG_p rfl ?_
  refine OG_p rfl ?_
  refine OG_y (rfl) rfl ?_
  refine OG_y (rfl) (st_p (show opP _ _ = some (X.bool true) from tru (show ((32 : Nat) : Int) < (w.length : Int) by omega))) ?_
  refine OG_p rfl ?_
  refine OG_p rfl ?_
  refine OG_o (rfl) rfl ?_
  refine OG_o (rfl) rfl ?_
  refine OG_o (rfl) rfl ?_
  refine OG_cons rfl ?_
  refine OG_cons rfl ?_
  refine OG_cons rfl ?_
  refine OG_o (rfl) rfl ?_
  refine OG_p rfl ?_
  refine OG_nil ?_
  refine seqQ_n ?_
  refine XK.condT rfl ?_
  refine XK.seq ?_
  refine XK.op S9 rfl ?_
  refine seqQ_n ?_
  refine XK.ret S9 ?_
  refine seqQ_r ?_
  exact ⟨_, rfl, rfl⟩

theorem rckFc_c (o no pt ps : Int) (w : List UInt8) (h0 : inI o 0 7 = true) (h1 : inI no 0 63 = true) (h2 : inI ps 1 32 = true) (h3 : inI pt 0 (ps - 1) = true) (hp2 : ¬ pt < ps - 1) (hl : 32 < w.length) : Pure1 eqs9.gs Tryd.prog 24 [FrX o no pt ps w] (N6 90) := fun hh nn => (rckFc_x o no pt ps w h0 h1 h2 h3 hp2 hl).pure rfl rfl hh nn

theorem rckFd_x (o no pt ps : Int) (w : List UInt8) (h0 : inI o 0 7 = true) (h1 : inI no 0 63 = true) (h2 : inI ps 1 32 = true) (h3 : inI pt 0 (ps - 1) = true) (hp2 : ¬ pt < ps - 1) (hl : 1 ≤ w.length ∧ w.length ≤ 32) : XF Tryd.prog eqs9 24 [FrX o no pt ps w] .e .z (fun xx _ _ => xx = N6 0) := by
  refine XF.body S9 fk24 rfl ?_
  have hp := inI_iff.1 h2
  refine XK.seq ?_
  refine XK.op S9 rfl ?_
  refine seqQ_n ?_
  refine XK.seq ?_
  refine XK.seq ?_
  refine XK.regS S9 tab9_ok ?_
  refine OG_p rfl ?_
  refine OG_r rfl ?_
  refine OG_c rfl rfl ?_
  refine OG_p (show opP _ _ = some (X.bool false) from ntt h0) ?_
  refine OG_p rfl ?_
  refine OG_y (rfl) rfl ?_
  refine OG_y (rfl) rfl ?_
  refine OG_y (rfl) (st_call rfl rfl) ?_
  refine OG_y (rfl) (st_p (show opP _ _ = some (X.bool false) from ntt h1)) ?_
  refine OG_p rfl ?_
  refine OG_p rfl ?_
  refine OG_y (rfl) rfl ?_
  refine OG_y (rfl) rfl ?_
  refine OG_y (rfl) (st_call rfl rfl) ?_
  refine OG_y (rfl) (st_p (show opP _ _ = some (X.bool false) from ntt h2)) ?_
  refine OG_p rfl ?_
  refine OG_p rfl ?_
  refine OG_y (rfl) rfl ?_
  refine OG_y (rfl) rfl ?_
  refine OG_y (rfl) rfl ?_
  refine OG_y (rfl) rfl ?_
  refine OG_y (rfl) (st_p (op_sub1I rfl rfl (by omega) (by omega))) ?_
  refine OG_y (rfl) (st_call rfl rfl) ?_
  refine OG_y (rfl) (st_p (show opP _ _ = some (X.bool false) from ntt h3)) ?_
  refine OG_p rfl ?_
  refine OG_nil ?_
  refine seqQ_n ?_
  refine XK.condF rfl ?_
  refine XK.skip S9 ?_
  refine seqQ_n ?_
  refine XK.seq ?_
  refine XK.op S9 rfl ?_
  refine seqQ_n ?_
  refine XK.seq ?_
  refine XK.seq ?_
  refine XK.op0' S9 ?_
  refine OG_p rfl ?_
  refine OG_r rfl ?_
  refine OG_p rfl ?_
  refine OG_r rfl ?_
  refine OG_p (op_sub1I rfl rfl (by omega) (by omega)) ?_
  refine OG_p (show opP _ _ = some (X.bool false) from fls (hp2)) ?_
  refine OG_p rfl ?_
  refine OG_o (rfl) rfl ?_
  refine OG_o (rfl) rfl ?_
  refine OG_p rfl ?_
  refine OG_p rfl ?_
  refine OG_y (rfl) rfl ?_
  refine OG_y (rfl) (st_p (show opP _ _ = some (X.bool false) from fls (show ¬ ((32 : Nat) : Int) < (w.length : Int) by omega))) ?_
  refine OG_p rfl ?_
  refine OG_p rfl ?_
  refine OG_y (rfl) rfl ?_
  refine OG_y (rfl) (st_p (show opP _ _ = some (X.bool false) from fls (show ¬ (w.length : Int) = ((0 : Nat) : Int) by omega))) ?_
  refine OG_y (rfl) rfl ?_
  refine OG_o (rfl) rfl ?_
  refine OG_o (rfl) rfl ?_
  refine OG_o (rfl) rfl ?_
  refine OG_y (rfl) rfl ?_
  refine OG_p rfl ?_
  refine OG_nil ?_
  refine seqQ_n ?_
  refine XK.condF rfl ?_
  refine XK.skip S9 ?_
  refine seqQ_n ?_
  refine XK.seq ?_
  refine XK.op S9 rfl ?_
  refine seqQ_n ?_
  refine XK.ret S9 ?_
  exact ⟨_, rfl, rfl⟩

theorem rckFd_c (o no pt ps : Int) (w : List UInt8) (h0 : inI o 0 7 = true) (h1 : inI no 0 63 = true) (h2 : inI ps 1 32 = true) (h3 : inI pt 0 (ps - 1) = true) (hp2 : ¬ pt < ps - 1) (hl : 1 ≤ w.length ∧ w.length ≤ 32) : Pure1 eqs9.gs Tryd.prog 24 [FrX o no pt ps w] (N6 0) := fun hh nn => (rckFd_x o no pt ps w h0 h1 h2 h3 hp2 hl).pure rfl rfl hh nn

theorem rckFe_x (o no pt ps : Int) (w : List UInt8) (h0 : inI o 0 7 = true) (h1 : inI no 0 63 = true) (h2 : inI ps 1 32 = true) (h3 : inI pt 0 (ps - 1) = true) (hp2 : ¬ pt < ps - 1) (hl : w.length = 0) (hp1 : 1 < ps) : XF Tryd.prog eqs9 24 [FrX o no pt ps w] .e .z (fun xx _ _ => xx = N6 90) := by
  refine XF.body S9 fk24 rfl ?_
  have hp := inI_iff.1 h2
  refine XK.seq ?_
  refine XK.op S9 rfl ?_
  refine seqQ_n ?_
  refine XK.seq ?_
  refine XK.seq ?_
  refine XK.regS S9 tab9_ok ?_
  refine OG_p rfl ?_
  refine OG_r rfl ?_
  refine OG_c rfl rfl ?_
  refine OG_p (show opP _ _ = some (X.bool false) from ntt h0) ?_
  refine OG_p rfl ?_
  refine OG_y (rfl) rfl ?_
  refine OG_y (rfl) rfl ?_
  refine OG_y (rfl) (st_call rfl rfl) ?_
  refine OG_y (rfl) (st_p (show opP _ _ = some (X.bool false) from ntt h1)) ?_
  refine OG_p rfl ?_
  refine OG_p rfl ?_
  refine OG_y (rfl) rfl ?_
  refine OG_y (rfl) rfl ?_
  refine OG_y (rfl) (st_call rfl rfl) ?_
  refine OG_y (rfl) (st_p (show opP _ _ = some (X.bool false) from ntt h2)) ?_
  refine OG_p rfl ?_
  refine OG_p rfl ?_
  refine OG_y (rfl) rfl ?_
  refine OG_y (rfl) rfl ?_
  refine OG_y (rfl) rfl ?_
  refine OG_y (rfl) rfl ?_
  refine OG_y (rfl) (st_p (op_sub1I rfl rfl (by omega) (by omega))) ?_
  refine OG_y (rfl) (st_call rfl rfl) ?_
  refine OG_y (rfl) (st_p (show opP _ _ = some (X.bool false) from ntt h3)) ?_
  refine OG_p rfl ?_
  refine OG_nil ?_
  refine seqQ_n ?_
  refine XK.condF rfl ?_
  refine XK.skip S9 ?_
  refine seqQ_n ?_
  refine XK.seq ?_
  refine XK.op S9 rfl ?_
  refine seqQ_n ?_
  refine XK.seq ?_
  refine XK.seq ?_
  refine XK.op0' S9 ?_
  refine OG_p rfl ?_
  refine OG_r rfl ?_
  refine OG_p rfl ?_
  refine OG_r rfl ?_
  refine OG_p (op_sub1I rfl rfl (by omega) (by omega)) ?_
  refine OG_p (show opP _ _ = some (X.bool false) from fls (hp2)) ?_
  refine OG_p rfl ?_
  refine OG_o (rfl) rfl ?_
  refine OG_o (rfl) rfl ?_
  refine OG_p rfl ?_
  refine OG_p rfl ?_
  refine OG_y (rfl) rfl ?_
  refine OG_y (rfl) (st_p (show opP _ _ = some (X.bool false) from fls (show ¬ ((32 : Nat) : Int) < (w.length : Int) by omega))) ?_
  refine OG_p rfl ?_
  refine OG_p rfl ?_
  refine OG_y (rfl) rfl ?_
  refine OG_y (rfl) (st_p (show opP _ _ = some (X.bool true) from tru (show (w.length : Int) = ((0 : Nat) : Int) by omega))) ?_
  refine OG_y (rfl) rfl ?_
  refine OG_y (rfl) rfl ?_
  refine OG_y (rfl) rfl ?_
  refine OG_y (rfl) (st_p (show opP _ _ = some (X.bool true) from tru (hp1))) ?_
  refine OG_y (rfl) rfl ?_
  refine OG_p rfl ?_
  refine OG_nil ?_
  refine seqQ_n ?_
  refine XK.condT rfl ?_
  refine XK.seq ?_
  refine XK.op S9 rfl ?_
  refine seqQ_n ?_
  refine XK.ret S9 ?_
  refine seqQ_r ?_
  exact ⟨_, rfl, rfl⟩

theorem rckFe_c (o no pt ps : Int) (w : List UInt8) (h0 : inI o 0 7 = true) (h1 : inI no 0 63 = true) (h2 : inI ps 1 32 = true) (h3 : inI pt 0 (ps - 1) = true) (hp2 : ¬ pt < ps - 1) (hl : w.length = 0) (hp1 : 1 < ps) : Pure1 eqs9.gs Tryd.prog 24 [FrX o no pt ps w] (N6 90) := fun hh nn => (rckFe_x o no pt ps w h0 h1 h2 h3 hp2 hl hp1).pure rfl rfl hh nn

theorem rckFf_x (o no pt ps : Int) (w : List UInt8) (h0 : inI o 0 7 = true) (h1 : inI no 0 63 = true) (h2 : inI ps 1 32 = true) (h3 : inI pt 0 (ps - 1) = true) (hp2 : ¬ pt < ps - 1) (hl : w.length = 0) (hp1 : ¬ 1 < ps) : XF Tryd.prog eqs9 24 [FrX o no pt ps w] .e .z (fun xx _ _ => xx = N6 0) := by
  refine XF.body S9 fk24 rfl ?_
  have hp := inI_iff.1 h2
  refine XK.seq ?_
  refine XK.op S9 rfl ?_
  refine seqQ_n ?_
  refine XK.seq ?_
  refine XK.seq ?_
  refine XK.regS S9 tab9_ok ?_
  refine OG_p rfl ?_
  refine OG_r rfl ?_
  refine OG_c rfl rfl ?_
  refine OG_p (show opP _ _ = some (X.bool false) from ntt h0) ?_
  refine OG_p rfl ?_
  refine OG_y (rfl) rfl ?_
  refine OG_y (rfl) rfl ?_
  refine OG_y (rfl) (st_call rfl rfl) ?_
  refine OG_y (rfl) (st_p (show opP _ _ = some (X.bool false) from ntt h1)) ?_
  refine OG_p rfl ?_
  refine OG_p rfl ?_
  refine OG_y (rfl) rfl ?_
  refine OG_y (rfl) rfl ?_
  refine OG_y (rfl) (st_call rfl rfl) ?_
  refine OG_y (rfl) (st_p (show opP _ _ = some (X.bool false) from ntt h2)) ?_
  refine OG_p rfl ?_
  refine OG_p rfl ?_
  refine OG_y (rfl) rfl ?_
  refine OG_y (rfl) rfl ?_
  refine OG_y (rfl) rfl ?_
  refine OG_y (rfl) rfl ?_
  refine OG_y (rfl) (st_p (op_sub1I rfl rfl (by omega) (by omega))) ?_
  refine OG_y (rfl) (st_call rfl rfl) ?_
  refine OG_y (rfl) (st_p (show opP _ _ = some (X.bool false) from ntt h3)) ?_
  refine OG_p rfl ?_
  refine OG_nil ?_
  refine seqQ_n ?_
  refine XK.condF rfl ?_
  refine XK.skip S9 ?_
  refine seqQ_n ?_
  refine XK.seq ?_
  refine XK.op S9 rfl ?_
  refine seqQ_n ?_
  refine XK.seq ?_
  refine XK.seq ?_
  refine XK.op0' S9 ?_
  refine OG_p rfl ?_
  refine OG_r rfl ?_
  refine OG_p rfl ?_
  refine OG_r rfl ?_
  refine OG_p (op_sub1I rfl rfl (by omega) (by omega)) ?_
  refine OG_p (show opP _ _ = some (X.bool false) from fls (hp2)) ?_
  refine OG_p rfl ?_
  refine OG_o (rfl) rfl ?_
  refine OG_o (rfl) rfl ?_
  refine OG_p rfl ?_
  refine OG_p rfl ?_
  refine OG_y (rfl) rfl ?_
  refine OG_y (rfl) (st_p (show opP _ _ = some (X.bool false) from fls (show ¬ ((32 : Nat) : Int) < (w.length : Int) by omega))) ?_
  refine OG_p rfl ?_
  refine OG_p rfl ?_
  refine OG_y (rfl) rfl ?_
  refine OG_y (rfl) (st_p (show opP _ _ = some (X.bool true) from tru (show (w.length : Int) = ((0 : Nat) : Int) by omega))) ?_
  refine OG_y (rfl) rfl ?_
  refine OG_y (rfl) rfl ?_
  refine OG_y (rfl) rfl ?_
  refine OG_y (rfl) (st_p (show opP _ _ = some (X.bool false) from fls (hp1))) ?_
  refine OG_y (rfl) rfl ?_
  refine OG_p rfl ?_
  refine OG_nil ?_
  refine seqQ_n ?_
  refine XK.condF rfl ?_
  refine XK.skip S9 ?_
  refine seqQ_n ?_
  refine XK.seq ?_
  refine XK.op S9 rfl ?_
  refine seqQ_n ?_
  refine XK.ret S9 ?_
  exact ⟨_, rfl, rfl⟩

theorem rckFf_c (o no pt ps : Int) (w : List UInt8) (h0 : inI o 0 7 = true) (h1 : inI no 0 63 = true) (h2 : inI ps 1 32 = true) (h3 : inI pt 0 (ps - 1) = true) (hp2 : ¬ pt < ps - 1) (hl : w.length = 0) (hp1 : ¬ 1 < ps) : Pure1 eqs9.gs Tryd.prog 24 [FrX o no pt ps w] (N6 0) := fun hh nn => (rckFf_x o no pt ps w h0 h1 h2 h3 hp2 hl hp1).pure rfl rfl hh nn

theorem okF_f0 {o no pt ps : Int} {n : Nat} (h : inI o 0 7 = false) : okF o no pt ps n = false := by unfold okF; rw [h]; rfl
theorem okF_f1 {o no pt ps : Int} {n : Nat} (h0 : inI o 0 7 = true) (h : inI no 0 63 = false) : okF o no pt ps n = false := by unfold okF; rw [h0, h]; rfl
theorem okF_f2 {o no pt ps : Int} {n : Nat} (h0 : inI o 0 7 = true) (h1 : inI no 0 63 = true) (h : inI ps 1 32 = false) : okF o no pt ps n = false := by unfold okF; rw [h0, h1, h]; rfl
theorem okF_f3 {o no pt ps : Int} {n : Nat} (h0 : inI o 0 7 = true) (h1 : inI no 0 63 = true) (h2 : inI ps 1 32 = true) (h : inI pt 0 (ps - 1) = false) : okF o no pt ps n = false := by unfold okF; rw [h0, h1, h2, h]; rfl
theorem okF_t {o no pt ps : Int} {n : Nat} (h0 : inI o 0 7 = true) (h1 : inI no 0 63 = true) (h2 : inI ps 1 32 = true) (h3 : inI pt 0 (ps - 1) = true) : okF o no pt ps n = (if ps = 1 then decide (n ≤ 32) else if pt < ps - 1 then decide (n = 32) else decide (1 ≤ n) && decide (n ≤ 32)) := by unfold okF; rw [h0, h1, h2, h3]; rfl
def ckX (o no pt ps : Int) (w : List UInt8) : Nat := if okF o no pt ps w.length = true then 0 else 90
theorem ck_of {o no pt ps : Int} {w : List UInt8} {b : Bool} (h : okF o no pt ps w.length = b) : N6 (ckX o no pt ps w) = N6 (bif b then 0 else 90) := by
  unfold ckX; rw [h]; cases b <;> rfl
theorem CheckFrame_both (o no pt ps : Int) (w : List UInt8) : Pure1 eqs9.gs Tryd.prog 23 [FrX o no pt ps w] (N6 (ckX o no pt ps w)) ∧ Pure1 eqs9.gs Tryd.prog 24 [FrX o no pt ps w] (N6 (ckX o no pt ps w)) := by
  have in32 : ∀ l : Int, inI (Int.ofNat w.length) l 32 = (decide (l ≤ (w.length : Int)) && decide (w.length ≤ 32)) := fun l => by
    unfold inI
    congr 1
    exact decide_eq_decide.2 (show (w.length : Int) ≤ 32 ↔ w.length ≤ 32 by omega)
  cases h0 : inI o 0 7 with
  | false => rw [ck_of (okF_f0 h0)]; exact ⟨ckF0_c o no pt ps w h0, rckF0_c o no pt ps w h0⟩
  | true =>
    cases h1 : inI no 0 63 with
    | false => rw [ck_of (okF_f1 h0 h1)]; exact ⟨ckF1_c o no pt ps w h0 h1, rckF1_c o no pt ps w h0 h1⟩
    | true =>
      cases h2 : inI ps 1 32 with
      | false => rw [ck_of (okF_f2 h0 h1 h2)]; exact ⟨ckF2_c o no pt ps w h0 h1 h2, rckF2_c o no pt ps w h0 h1 h2⟩
      | true =>
        cases h3 : inI pt 0 (ps - 1) with
        | false => rw [ck_of (okF_f3 h0 h1 h2 h3)]; exact ⟨ckF3_c o no pt ps w h0 h1 h2 h3, rckF3_c o no pt ps w h0 h1 h2 h3⟩
        | true =>
          have hok := okF_t (n := w.length) h0 h1 h2 h3
          have hp := inI_iff.1 h2
          have hq := inI_iff.1 h3
          by_cases hp1 : ps = 1
          · rw [if_pos hp1] at hok
            have hp2 : ¬ pt < ps - 1 := by omega
            by_cases hl : w.length ≤ 32
            · rw [decide_eq_true hl] at hok
              rw [ck_of hok]
              refine ⟨ckFaT_c o no pt ps w h0 h1 h2 h3 hp1 (by rw [in32, decide_eq_true hl, decide_eq_true (by omega)]; rfl), ?_⟩
              by_cases hz : w.length = 0
              · exact rckFf_c o no pt ps w h0 h1 h2 h3 hp2 hz (by omega)
              · exact rckFd_c o no pt ps w h0 h1 h2 h3 hp2 ⟨by omega, hl⟩
            · rw [decide_eq_false hl] at hok
              rw [ck_of hok]
              exact ⟨ckFaF_c o no pt ps w h0 h1 h2 h3 hp1 (by rw [in32, decide_eq_false hl, Bool.and_false]), rckFc_c o no pt ps w h0 h1 h2 h3 hp2 (by omega)⟩
          · rw [if_neg hp1] at hok
            by_cases hp2 : pt < ps - 1
            · rw [if_pos hp2] at hok
              by_cases hl : w.length = 32
              · rw [decide_eq_true hl] at hok
                rw [ck_of hok]
                exact ⟨ckFbT_c o no pt ps w h0 h1 h2 h3 hp1 hp2 (by rw [in32, decide_eq_true (by omega), decide_eq_true (by omega)]; rfl), rckFb_c o no pt ps w h0 h1 h2 h3 hp2 hl⟩
              · rw [decide_eq_false hl] at hok
                rw [ck_of hok]
                refine ⟨ckFbF_c o no pt ps w h0 h1 h2 h3 hp1 hp2 ?_, rckFa_c o no pt ps w h0 h1 h2 h3 hp2 hl⟩
                rw [in32]
                by_cases hx : w.length ≤ 32
                · rw [decide_eq_false (by omega)]; rfl
                · rw [decide_eq_false hx, Bool.and_false]
            · rw [if_neg hp2] at hok
              by_cases hl : 1 ≤ w.length ∧ w.length ≤ 32
              · rw [decide_eq_true hl.1, decide_eq_true hl.2] at hok
                rw [ck_of hok]
                exact ⟨ckFcT_c o no pt ps w h0 h1 h2 h3 hp1 hp2 (by rw [in32, decide_eq_true (by omega), decide_eq_true hl.2]; rfl), rckFd_c o no pt ps w h0 h1 h2 h3 hp2 hl⟩
              · have hf : (decide (1 ≤ w.length) && decide (w.length ≤ 32)) = false := by
                  by_cases hx : w.length ≤ 32
                  · rw [decide_eq_false (show ¬ 1 ≤ w.length by omega)]; rfl
                  · rw [decide_eq_false hx, Bool.and_false]
                rw [hf] at hok
                rw [ck_of hok]
                refine ⟨ckFcF_c o no pt ps w h0 h1 h2 h3 hp1 hp2 ?_, ?_⟩
                · rw [in32]
                  by_cases hx : w.length ≤ 32
                  · rw [decide_eq_false (by omega)]; rfl
                  · rw [decide_eq_false hx, Bool.and_false]
                · by_cases hx : w.length ≤ 32
                  · exact rckFe_c o no pt ps w h0 h1 h2 h3 hp2 (by omega) (by omega)
                  · exact rckFc_c o no pt ps w h0 h1 h2 h3 hp2 (by omega)

end Go.Ex

