/- Part of the proof: R9A. -/
import Derived.Test.YtnpcmealdfapjaaDoorR99
set_option linter.unusedVariables false
set_option linter.unusedSimpArgs false
set_option maxRecDepth 20000
namespace Go.Ex
open Go.Proofs
theorem Times_both (x y : Int) : ∃ m e : Nat, Pure1 eqs9.gs Tryd.prog 11 [I6 x, I6 y] (X.tup [N6 m, N6 e]) ∧ Pure1 eqs9.gs Tryd.prog 12 [I6 x, I6 y] (X.tup [N6 m, N6 e]) := by
  cases h1 : el x with
  | false => exact ⟨0, 1, Times1_c x y h1, RTimes1_c x y h1⟩
  | true =>
    obtain ⟨a, rfl, ha⟩ := el_nat h1
    cases h2 : el y with
    | false => exact ⟨0, 1, Times2_c a y ha h2, RTimes2_c a y ha h2⟩
    | true =>
      obtain ⟨b, rfl, hb⟩ := el_nat h2
      refine ⟨pr a b, 0, TimesT_c a b ha hb, ?_⟩
      have := RTimesT_c a b ha hb
      rw [rt_pr ha hb] at this; exact this
theorem Inverse_both (x : Int) : ∃ m e : Nat, Pure1 eqs9.gs Tryd.prog 13 [I6 x] (X.tup [N6 m, N6 e]) ∧ Pure1 eqs9.gs Tryd.prog 14 [I6 x] (X.tup [N6 m, N6 e]) := by
  cases h1 : el x with
  | false => exact ⟨0, 1, Inverse1_c x h1, RInverse1_c x h1⟩
  | true =>
    obtain ⟨a, rfl, ha⟩ := el_nat h1
    rcases Nat.eq_zero_or_pos a with rfl | h0
    · exact ⟨0, 1, InverseZ_c, RInverseZ_c⟩
    · exact ⟨inv a, 0, InverseT_c a ha h0, RInverseT_c a ha h0⟩
theorem Checks_both (s : List UInt8) : ∃ (u : List UInt8) (e : Nat), Pure1 eqs9.gs Tryd.prog 15 [.str s] (X.tup [.str u, N6 e]) ∧ Pure1 eqs9.gs Tryd.prog 16 [.str s] (X.tup [.str u, N6 e]) := by
  by_cases hs : s.length ≤ 249
  · refine ⟨chkS s, 0, ChecksT_c s hs, ?_⟩
    have := RChecksT_c s hs
    rw [ref_chk] at this; exact this
  · exact ⟨[], 2, ChecksF_c s hs, RChecksF_c s hs⟩
theorem Apart_both (s u : List UInt8) (hs : s.length ≤ 300) : ∃ (m : Nat) (b : Bool), Pure1 eqs9.gs Tryd.prog 17 [.str s, .str u] (X.tup [N6 m, BX b]) ∧ Pure1 eqs9.gs Tryd.prog 18 [.str s, .str u] (X.tup [N6 m, BX b]) := by
  by_cases hu : s.length = u.length
  · exact ⟨_, true, apartT_c s u hs hu, rapartT_c s u hs hu⟩
  · exact ⟨0, false, apartF_c s u hu, rapartF_c s u hu⟩

theorem codesA_x (a b : Int) (s u : List UInt8) (hs : ¬ s.length ≤ 300) : XF Tryd.prog eqs9 3 [I6 a, I6 b, .str s, .str u] .e .z (fun xx _ _ => xx = BX true) := by
  refine XF.body S9 fk3 rfl ?_
  refine XK.seq ?_
  refine XK.op S9 rfl ?_
  refine seqQ_n ?_
  refine XK.seq ?_
  refine XK.seq ?_
  refine XK.reg1 S9 (sane_c) fun call hcl => ?_
  refine OG_c rfl hcl ?_
  refine OG_p rfl ?_
  refine OG_nil ?_
  refine seqQ_n ?_
  refine XK.condF rfl ?_
  refine XK.skip S9 ?_
  refine seqQ_n ?_
  refine XK.seq ?_
  refine XK.seq ?_
  refine XK.op0' S9 ?_
  refine OG_p rfl ?_
  refine OG_p rfl ?_
  refine OG_p (show opP _ _ = some (X.bool true) from tru (show ((300 : Nat) : Int) < (s.length : Int) by omega)) ?_
  refine OG_p rfl ?_
  refine OG_o (rfl) rfl ?_
  refine OG_o (rfl) rfl ?_
  refine OG_o (rfl) rfl ?_
  refine OG_p rfl ?_
  refine OG_nil ?_
  refine seqQ_n ?_
  refine XK.condT rfl ?_
  refine XK.seq ?_
  refine XK.op S9 rfl ?_
  refine seqQ_n ?_
  refine XK.ret S9 ?_
  refine seqQ_r ?_
  exact ⟨_, rfl, rfl⟩

theorem codesA_c (a b : Int) (s u : List UInt8) (hs : ¬ s.length ≤ 300) : Pure1 eqs9.gs Tryd.prog 3 [I6 a, I6 b, .str s, .str u] (BX true) := fun hh nn => (codesA_x a b s u hs).pure rfl rfl hh nn

theorem codesB_x (a b : Int) (s u : List UInt8) (hs : s.length ≤ 300) (hu : ¬ u.length ≤ 300) : XF Tryd.prog eqs9 3 [I6 a, I6 b, .str s, .str u] .e .z (fun xx _ _ => xx = BX true) := by
  refine XF.body S9 fk3 rfl ?_
  refine XK.seq ?_
  refine XK.op S9 rfl ?_
  refine seqQ_n ?_
  refine XK.seq ?_
  refine XK.seq ?_
  refine XK.reg1 S9 (sane_c) fun call hcl => ?_
  refine OG_c rfl hcl ?_
  refine OG_p rfl ?_
  refine OG_nil ?_
  refine seqQ_n ?_
  refine XK.condF rfl ?_
  refine XK.skip S9 ?_
  refine seqQ_n ?_
  refine XK.seq ?_
  refine XK.seq ?_
  refine XK.op0' S9 ?_
  refine OG_p rfl ?_
  refine OG_p rfl ?_
  refine OG_p (show opP _ _ = some (X.bool false) from fls (show ¬ ((300 : Nat) : Int) < (s.length : Int) by omega)) ?_
  refine OG_p rfl ?_
  refine OG_y (rfl) rfl ?_
  refine OG_y (rfl) rfl ?_
  refine OG_y (rfl) (st_p (show opP _ _ = some (X.bool true) from tru (show ((300 : Nat) : Int) < (u.length : Int) by omega))) ?_
  refine OG_p rfl ?_
  refine OG_nil ?_
  refine seqQ_n ?_
  refine XK.condT rfl ?_
  refine XK.seq ?_
  refine XK.op S9 rfl ?_
  refine seqQ_n ?_
  refine XK.ret S9 ?_
  refine seqQ_r ?_
  exact ⟨_, rfl, rfl⟩

theorem codesB_c (a b : Int) (s u : List UInt8) (hs : s.length ≤ 300) (hu : ¬ u.length ≤ 300) : Pure1 eqs9.gs Tryd.prog 3 [I6 a, I6 b, .str s, .str u] (BX true) := fun hh nn => (codesB_x a b s u hs hu).pure rfl rfl hh nn

theorem codesC_x (a b : Int) (s u : List UInt8) (hs : s.length ≤ 300) (hu : u.length ≤ 300) (m1 e1 m2 e2 e3 m4 : Nat) (w : List UInt8) (b4 : Bool) (c1 : Pure1 eqs9.gs Tryd.prog 11 [I6 a, I6 b] (X.tup [N6 m1, N6 e1])) (d1 : Pure1 eqs9.gs Tryd.prog 12 [I6 a, I6 b] (X.tup [N6 m1, N6 e1])) (c2 : Pure1 eqs9.gs Tryd.prog 13 [I6 a] (X.tup [N6 m2, N6 e2])) (d2 : Pure1 eqs9.gs Tryd.prog 14 [I6 a] (X.tup [N6 m2, N6 e2])) (c3 : Pure1 eqs9.gs Tryd.prog 15 [.str s] (X.tup [.str w, N6 e3])) (d3 : Pure1 eqs9.gs Tryd.prog 16 [.str s] (X.tup [.str w, N6 e3])) (c4 : Pure1 eqs9.gs Tryd.prog 17 [.str s, .str u] (X.tup [N6 m4, BX b4])) (d4 : Pure1 eqs9.gs Tryd.prog 18 [.str s, .str u] (X.tup [N6 m4, BX b4])) : XF Tryd.prog eqs9 3 [I6 a, I6 b, .str s, .str u] .e .z (fun xx _ _ => xx = BX true) := by
  refine XF.body S9 fk3 rfl ?_
  refine XK.seq ?_
  refine XK.op S9 rfl ?_
  refine seqQ_n ?_
  refine XK.seq ?_
  refine XK.seq ?_
  refine XK.reg1 S9 (sane_c) fun call hcl => ?_
  refine OG_c rfl hcl ?_
  refine OG_p rfl ?_
  refine OG_nil ?_
  refine seqQ_n ?_
  refine XK.condF rfl ?_
  refine XK.skip S9 ?_
  refine seqQ_n ?_
  refine XK.seq ?_
  refine XK.seq ?_
  refine XK.op0' S9 ?_
  refine OG_p rfl ?_
  refine OG_p rfl ?_
  refine OG_p (show opP _ _ = some (X.bool false) from fls (show ¬ ((300 : Nat) : Int) < (s.length : Int) by omega)) ?_
  refine OG_p rfl ?_
  refine OG_y (rfl) rfl ?_
  refine OG_y (rfl) rfl ?_
  refine OG_y (rfl) (st_p (show opP _ _ = some (X.bool false) from fls (show ¬ ((300 : Nat) : Int) < (u.length : Int) by omega))) ?_
  refine OG_p rfl ?_
  refine OG_nil ?_
  refine seqQ_n ?_
  refine XK.condF rfl ?_
  refine XK.skip S9 ?_
  refine seqQ_n ?_
  refine XK.seq ?_
  refine XK.reg1 S9 (c1) fun call hcl => ?_
  refine OG_p rfl ?_
  refine OG_p rfl ?_
  refine OG_c rfl hcl ?_
  refine OG_p rfl ?_
  refine OG_p rfl ?_
  refine OG_p rfl ?_
  refine OG_p rfl ?_
  refine OG_p rfl ?_
  refine OG_nil ?_
  refine seqQ_n ?_
  refine XK.seq ?_
  refine XK.reg1 S9 (d1) fun call hcl => ?_
  refine OG_p rfl ?_
  refine OG_p rfl ?_
  refine OG_c rfl hcl ?_
  refine OG_p rfl ?_
  refine OG_p rfl ?_
  refine OG_p rfl ?_
  refine OG_p rfl ?_
  refine OG_p rfl ?_
  refine OG_nil ?_
  refine seqQ_n ?_
  refine XK.seq ?_
  refine XK.reg1 S9 (c2) fun call hcl => ?_
  refine OG_p rfl ?_
  refine OG_c rfl hcl ?_
  refine OG_p rfl ?_
  refine OG_p rfl ?_
  refine OG_p rfl ?_
  refine OG_p rfl ?_
  refine OG_p rfl ?_
  refine OG_nil ?_
  refine seqQ_n ?_
  refine XK.seq ?_
  refine XK.reg1 S9 (d2) fun call hcl => ?_
  refine OG_p rfl ?_
  refine OG_c rfl hcl ?_
  refine OG_p rfl ?_
  refine OG_p rfl ?_
  refine OG_p rfl ?_
  refine OG_p rfl ?_
  refine OG_p rfl ?_
  refine OG_nil ?_
  refine seqQ_n ?_
  refine XK.seq ?_
  refine XK.reg1 S9 (c3) fun call hcl => ?_
  refine OG_p rfl ?_
  refine OG_c rfl hcl ?_
  refine OG_p rfl ?_
  refine OG_p rfl ?_
  refine OG_p rfl ?_
  refine OG_p rfl ?_
  refine OG_p rfl ?_
  refine OG_nil ?_
  refine seqQ_n ?_
  refine XK.seq ?_
  refine XK.reg1 S9 (d3) fun call hcl => ?_
  refine OG_p rfl ?_
  refine OG_c rfl hcl ?_
  refine OG_p rfl ?_
  refine OG_p rfl ?_
  refine OG_p rfl ?_
  refine OG_p rfl ?_
  refine OG_p rfl ?_
  refine OG_nil ?_
  refine seqQ_n ?_
  refine XK.seq ?_
  refine XK.reg1 S9 (c4) fun call hcl => ?_
  refine OG_p rfl ?_
  refine OG_p rfl ?_
  refine OG_c rfl hcl ?_
  refine OG_p rfl ?_
  refine OG_p rfl ?_
  refine OG_p rfl ?_
  refine OG_p rfl ?_
  refine OG_p rfl ?_
  refine OG_nil ?_
  refine seqQ_n ?_
  refine XK.seq ?_
  refine XK.reg1 S9 (d4) fun call hcl => ?_
  refine OG_p rfl ?_
  refine OG_p rfl ?_
  refine OG_c rfl hcl ?_
  refine OG_p rfl ?_
  refine OG_p rfl ?_
  refine OG_p rfl ?_
  refine OG_p rfl ?_
  refine OG_p rfl ?_
  refine OG_nil ?_
  refine seqQ_n ?_
  refine XK.seq ?_
  refine XK.op0' S9 ?_
  refine OG_p rfl ?_
  refine OG_p rfl ?_
  refine OG_p (show opP _ _ = some (X.bool true) from tru (rfl)) ?_
  refine OG_p rfl ?_
  refine OG_y (rfl) rfl ?_
  refine OG_y (rfl) rfl ?_
  refine OG_y (rfl) (st_p (show opP _ _ = some (X.bool true) from tru (rfl))) ?_
  refine OG_p rfl ?_
  refine OG_p rfl ?_
  refine OG_y (rfl) rfl ?_
  refine OG_y (rfl) rfl ?_
  refine OG_y (rfl) (st_p (show opP _ _ = some (X.bool true) from tru (rfl))) ?_
  refine OG_p rfl ?_
  refine OG_p rfl ?_
  refine OG_y (rfl) rfl ?_
  refine OG_y (rfl) rfl ?_
  refine OG_y (rfl) (st_p (show opP _ _ = some (X.bool true) from tru (rfl))) ?_
  refine OG_p rfl ?_
  refine OG_p rfl ?_
  refine OG_y (rfl) rfl ?_
  refine OG_y (rfl) rfl ?_
  refine OG_y (rfl) (st_p (show opP _ _ = some (X.bool true) from tru (rfl))) ?_
  refine OG_p rfl ?_
  refine OG_p rfl ?_
  refine OG_y (rfl) rfl ?_
  refine OG_y (rfl) rfl ?_
  refine OG_y (rfl) (st_p (show opP _ _ = some (X.bool true) from tru (rfl))) ?_
  refine OG_p rfl ?_
  refine OG_p rfl ?_
  refine OG_y (rfl) rfl ?_
  refine OG_y (rfl) rfl ?_
  refine OG_y (rfl) (st_p (show opP _ _ = some (X.bool true) from tru (rfl))) ?_
  refine OG_p rfl ?_
  refine OG_p rfl ?_
  refine OG_y (rfl) rfl ?_
  refine OG_y (rfl) rfl ?_
  refine OG_y (rfl) (st_p (show opP _ _ = some (X.bool true) from congrArg (fun z => some (X.bool z)) (beq_self_eq_true _))) ?_
  refine OG_p rfl ?_
  refine OG_p rfl ?_
  refine OG_nil ?_
  refine seqQ_n ?_
  refine XK.ret S9 ?_
  exact ⟨_, rfl, rfl⟩

theorem codes_c (a b : Int) (s u : List UInt8) : Pure1 eqs9.gs Tryd.prog 3 [I6 a, I6 b, .str s, .str u] (BX true) := by
  by_cases hs : s.length ≤ 300
  · by_cases hu : u.length ≤ 300
    · obtain ⟨m1, e1, c1, d1⟩ := Times_both a b
      obtain ⟨m2, e2, c2, d2⟩ := Inverse_both a
      obtain ⟨w, e3, c3, d3⟩ := Checks_both s
      obtain ⟨m4, b4, c4, d4⟩ := Apart_both s u hs
      exact fun hh nn => (codesC_x a b s u hs hu m1 e1 m2 e2 e3 m4 w b4 c1 d1 c2 d2 c3 d3 c4 d4).pure rfl rfl hh nn
    · exact codesB_c a b s u hs hu
  · exact codesA_c a b s u hs

end Go.Ex

