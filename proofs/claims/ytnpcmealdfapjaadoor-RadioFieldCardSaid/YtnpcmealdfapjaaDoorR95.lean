/- The law of the field, walked. -/
import Derived.Test.YtnpcmealdfapjaaDoorFI9
import Derived.Test.YtnpcmealdfapjaaDoorR9f
set_option linter.unusedVariables false
set_option linter.unusedSimpArgs false
set_option maxRecDepth 20000
namespace Go.Ex
open Go.Proofs
theorem xor64 {b c : Nat} (hb : b < 256) (hc : c < 256) : some (X.int .i64 (IntKind.wrap .i64 (((BitVec.ofInt 64 (Int.ofNat b) ^^^ BitVec.ofInt 64 (Int.ofNat c)).toNat : Nat) : Int))) = some (N6 (b ^^^ c)) := by
  have e : (BitVec.ofInt 64 (Int.ofNat b) ^^^ BitVec.ofInt 64 (Int.ofNat c)).toNat = b ^^^ c := by
    have h1 : (BitVec.ofInt 64 (Int.ofNat b)).toNat = b := by show (BitVec.ofInt 64 (b : Int)).toNat = b; simp; omega
    have h2 : (BitVec.ofInt 64 (Int.ofNat c)).toNat = c := by show (BitVec.ofInt 64 (c : Int)).toNat = c; simp; omega
    rw [BitVec.toNat_xor, h1, h2]
  rw [e]
  have := xor_lt hb hc
  exact congrArg (fun z => some (X.int .i64 z)) (wrap64 (n := ((b ^^^ c : Nat) : Int)) (by omega) (by omega))

theorem fieldZ_x (a b c : Nat) (ha : a < 256) (hb : b < 256) (hc : c < 256) (hz : a = 0) : XF Tryd.prog eqs9 6 [B8 a, B8 b, B8 c] .e .z (fun xx _ _ => xx = BX true) := by
  refine XF.body S9 fk6 rfl ?_
  refine XK.seq ?_
  refine XK.op S9 rfl ?_
  refine seqQ_n ?_
  refine XK.seq ?_
  refine XK.seq ?_
  refine XK.reg1 S9 (sane_c) fun call hcl => ?_
  refine OG_c rfl hcl ?_
  refine OG_p rfl ?_
  refine OG_nil ?_
  refine seqQ_n ?_
  refine XK.condF rfl ?_
  refine XK.skip S9 ?_
  refine seqQ_n ?_
  refine XK.seq ?_
  refine XK.op S9 rfl ?_
  refine seqQ_n ?_
  refine XK.seq ?_
  refine XK.op S9 rfl ?_
  refine seqQ_n ?_
  refine XK.seq ?_
  refine XK.op0' S9 ?_
  refine OG_p rfl ?_
  refine OG_p (show opP _ _ = some (N6 _) from conv64 (ha)) ?_
  refine OG_p rfl ?_
  refine OG_p (show opP _ _ = some (N6 _) from conv64 (hb)) ?_
  refine OG_p rfl ?_
  refine OG_p (show opP _ _ = some (N6 _) from conv64 (hc)) ?_
  refine OG_p rfl ?_
  refine OG_p rfl ?_
  refine OG_p rfl ?_
  refine OG_nil ?_
  refine seqQ_n ?_
  refine XK.seq ?_
  refine XK.regF S9 (⟨43, [N6 a, N6 b, .ptr .z 0], h43, .l .z, N6 (pr a b), h43, .l .z⟩) (field1_c a b ha hb) fun call hcl => ?_
  refine OG_p rfl ?_
  refine OG_p rfl ?_
  refine OG_p rfl ?_
  refine OG_v rfl rfl hcl ?_
  refine OG_p rfl ?_
  refine OG_nil ?_
  refine seqQ_n ?_
  refine XK.seq ?_
  refine XK.regF S9 (⟨43, [N6 b, N6 a, .ptr .z 0], h43, .l .z, N6 (pr b a), h43, .l .z⟩) (field1_c b a hb ha) fun call hcl => ?_
  refine OG_p rfl ?_
  refine OG_p rfl ?_
  refine OG_p rfl ?_
  refine OG_v rfl rfl hcl ?_
  refine OG_p rfl ?_
  refine OG_nil ?_
  refine seqQ_n ?_
  refine XK.seq ?_
  refine XK.regF S9 (⟨43, [N6 b, N6 c, .ptr .z 0], h43, .l .z, N6 (pr b c), h43, .l .z⟩) (field1_c b c hb hc) fun call hcl => ?_
  refine OG_p rfl ?_
  refine OG_p rfl ?_
  refine OG_p rfl ?_
  refine OG_v rfl rfl hcl ?_
  refine OG_p rfl ?_
  refine OG_nil ?_
  refine seqQ_n ?_
  refine XK.seq ?_
  refine XK.regF S9 (⟨43, [N6 (pr a b), N6 c, .ptr .z 0], h43, .l .z, N6 (pr (pr a b) c), h43, .l .z⟩) (field1_c (pr a b) c (pr_lt a b ha) hc) fun call hcl => ?_
  refine OG_p rfl ?_
  refine OG_p rfl ?_
  refine OG_p rfl ?_
  refine OG_v rfl rfl hcl ?_
  refine OG_p rfl ?_
  refine OG_nil ?_
  refine seqQ_n ?_
  refine XK.seq ?_
  refine XK.regF S9 (⟨43, [N6 a, N6 (pr b c), .ptr .z 0], h43, .l .z, N6 (pr a (pr b c)), h43, .l .z⟩) (field1_c a (pr b c) ha (pr_lt b c hb)) fun call hcl => ?_
  refine OG_p rfl ?_
  refine OG_p rfl ?_
  refine OG_p rfl ?_
  refine OG_v rfl rfl hcl ?_
  refine OG_p rfl ?_
  refine OG_nil ?_
  refine seqQ_n ?_
  refine XK.seq ?_
  refine XK.regF S9 (⟨43, [N6 a, N6 c, .ptr .z 0], h43, .l .z, N6 (pr a c), h43, .l .z⟩) (field1_c a c ha hc) fun call hcl => ?_
  refine OG_p rfl ?_
  refine OG_p rfl ?_
  refine OG_p rfl ?_
  refine OG_v rfl rfl hcl ?_
  refine OG_p rfl ?_
  refine OG_nil ?_
  refine seqQ_n ?_
  refine XK.seq ?_
  refine XK.regF S9 (⟨43, [N6 a, N6 (b ^^^ c), .ptr .z 0], h43, .l .z, N6 (pr a (b ^^^ c)), h43, .l .z⟩) (field1_c a (b ^^^ c) ha (xor_lt hb hc)) fun call hcl => ?_
  refine OG_p rfl ?_
  refine OG_p rfl ?_
  refine OG_p rfl ?_
  refine OG_p rfl ?_
  refine OG_p (show opP _ _ = some (N6 (b ^^^ c)) from xor64 hb hc) ?_
  refine OG_v rfl rfl hcl ?_
  refine OG_p rfl ?_
  refine OG_nil ?_
  refine seqQ_n ?_
  refine XK.seq ?_
  refine XK.regF S9 (⟨43, [N6 a, N6 1, .ptr .z 0], h43, .l .z, N6 (pr a 1), h43, .l .z⟩) (field1_c a 1 ha (by omega)) fun call hcl => ?_
  refine OG_p rfl ?_
  refine OG_p rfl ?_
  refine OG_v rfl rfl hcl ?_
  refine OG_p rfl ?_
  refine OG_nil ?_
  refine seqQ_n ?_
  refine XK.seq ?_
  refine XK.regF S9 (⟨43, [N6 a, N6 0, .ptr .z 0], h43, .l .z, N6 (pr a 0), h43, .l .z⟩) (field1_c a 0 ha (by omega)) fun call hcl => ?_
  refine OG_p rfl ?_
  refine OG_p rfl ?_
  refine OG_v rfl rfl hcl ?_
  refine OG_p rfl ?_
  refine OG_nil ?_
  refine seqQ_n ?_
  refine XK.seq ?_
  refine XK.seq ?_
  refine XK.op0' S9 ?_
  refine OG_r rfl ?_
  refine OG_p rfl ?_
  refine OG_p rfl ?_
  refine OG_y (rfl) rfl ?_
  refine OG_y (rfl) rfl ?_
  refine OG_y (rfl) (st_p (show opP _ _ = some (X.bool false) from ntru (congrArg Int.ofNat (pr_comm ha hb)))) ?_
  refine OG_p rfl ?_
  refine OG_p rfl ?_
  refine OG_y (rfl) rfl ?_
  refine OG_y (rfl) rfl ?_
  refine OG_y (rfl) (st_p (show opP _ _ = some (X.bool false) from ntru (congrArg Int.ofNat (pr_assoc ha hb hc)))) ?_
  refine OG_p rfl ?_
  refine OG_p rfl ?_
  refine OG_y (rfl) rfl ?_
  refine OG_y (rfl) rfl ?_
  refine OG_y (rfl) rfl ?_
  refine OG_y (rfl) (st_p (show opP _ _ = some (N6 ((pr a b) ^^^ (pr a c))) from xor64 (pr_lt a b ha) (pr_lt a c ha))) ?_
  refine OG_y (rfl) (st_p (show opP _ _ = some (X.bool false) from ntru (congrArg Int.ofNat (pr_xorR a b c)))) ?_
  refine OG_p rfl ?_
  refine OG_p rfl ?_
  refine OG_y (rfl) rfl ?_
  refine OG_y (rfl) rfl ?_
  refine OG_y (rfl) (st_p (show opP _ _ = some (X.bool false) from ntru (congrArg Int.ofNat (pr_one ha)))) ?_
  refine OG_p rfl ?_
  refine OG_p rfl ?_
  refine OG_y (rfl) rfl ?_
  refine OG_y (rfl) (st_p (show opP _ _ = some (X.bool false) from ntru (congrArg Int.ofNat (pr_zero a)))) ?_
  refine OG_p rfl ?_
  refine OG_nil ?_
  refine seqQ_n ?_
  refine XK.condF rfl ?_
  refine XK.skip S9 ?_
  refine seqQ_n ?_
  refine XK.seq ?_
  refine XK.reg1 S9 (show Pure1 eqs9.gs Tryd.prog 13 [N6 a] (X.tup [N6 0, N6 1]) by rw [hz]; exact InverseZ_c) fun call hcl => ?_
  refine OG_p rfl ?_
  refine OG_c rfl hcl ?_
  refine OG_p rfl ?_
  refine OG_p rfl ?_
  refine OG_p rfl ?_
  refine OG_p rfl ?_
  refine OG_p rfl ?_
  refine OG_nil ?_
  refine seqQ_n ?_
  refine XK.seq ?_
  refine XK.seq ?_
  refine XK.op0' S9 ?_
  refine OG_p rfl ?_
  refine OG_p (show opP _ _ = some (X.bool true) from tru (show Int.ofNat a = Int.ofNat 0 by rw [hz])) ?_
  refine OG_nil ?_
  refine seqQ_n ?_
  refine XK.condT rfl ?_
  refine XK.seq ?_
  refine XK.op0' S9 ?_
  refine OG_p rfl ?_
  refine OG_p rfl ?_
  refine OG_p rfl ?_
  refine OG_y (rfl) rfl ?_
  refine OG_y (rfl) rfl ?_
  refine OG_p rfl ?_
  refine OG_p rfl ?_
  refine OG_nil ?_
  refine seqQ_n ?_
  refine XK.ret S9 ?_
  refine seqQ_r ?_
  exact ⟨_, rfl, rfl⟩

theorem fieldP_x (a b c : Nat) (ha : a < 256) (hb : b < 256) (hc : c < 256) (h0 : 0 < a) : XF Tryd.prog eqs9 6 [B8 a, B8 b, B8 c] .e .z (fun xx _ _ => xx = BX true) := by
  refine XF.body S9 fk6 rfl ?_
  refine XK.seq ?_
  refine XK.op S9 rfl ?_
  refine seqQ_n ?_
  refine XK.seq ?_
  refine XK.seq ?_
  refine XK.reg1 S9 (sane_c) fun call hcl => ?_
  refine OG_c rfl hcl ?_
  refine OG_p rfl ?_
  refine OG_nil ?_
  refine seqQ_n ?_
  refine XK.condF rfl ?_
  refine XK.skip S9 ?_
  refine seqQ_n ?_
  refine XK.seq ?_
  refine XK.op S9 rfl ?_
  refine seqQ_n ?_
  refine XK.seq ?_
  refine XK.op S9 rfl ?_
  refine seqQ_n ?_
  refine XK.seq ?_
  refine XK.op0' S9 ?_
  refine OG_p rfl ?_
  refine OG_p (show opP _ _ = some (N6 _) from conv64 (ha)) ?_
  refine OG_p rfl ?_
  refine OG_p (show opP _ _ = some (N6 _) from conv64 (hb)) ?_
  refine OG_p rfl ?_
  refine OG_p (show opP _ _ = some (N6 _) from conv64 (hc)) ?_
  refine OG_p rfl ?_
  refine OG_p rfl ?_
  refine OG_p rfl ?_
  refine OG_nil ?_
  refine seqQ_n ?_
  refine XK.seq ?_
  refine XK.regF S9 (⟨43, [N6 a, N6 b, .ptr .z 0], h43, .l .z, N6 (pr a b), h43, .l .z⟩) (field1_c a b ha hb) fun call hcl => ?_
  refine OG_p rfl ?_
  refine OG_p rfl ?_
  refine OG_p rfl ?_
  refine OG_v rfl rfl hcl ?_
  refine OG_p rfl ?_
  refine OG_nil ?_
  refine seqQ_n ?_
  refine XK.seq ?_
  refine XK.regF S9 (⟨43, [N6 b, N6 a, .ptr .z 0], h43, .l .z, N6 (pr b a), h43, .l .z⟩) (field1_c b a hb ha) fun call hcl => ?_
  refine OG_p rfl ?_
  refine OG_p rfl ?_
  refine OG_p rfl ?_
  refine OG_v rfl rfl hcl ?_
  refine OG_p rfl ?_
  refine OG_nil ?_
  refine seqQ_n ?_
  refine XK.seq ?_
  refine XK.regF S9 (⟨43, [N6 b, N6 c, .ptr .z 0], h43, .l .z, N6 (pr b c), h43, .l .z⟩) (field1_c b c hb hc) fun call hcl => ?_
  refine OG_p rfl ?_
  refine OG_p rfl ?_
  refine OG_p rfl ?_
  refine OG_v rfl rfl hcl ?_
  refine OG_p rfl ?_
  refine OG_nil ?_
  refine seqQ_n ?_
  refine XK.seq ?_
  refine XK.regF S9 (⟨43, [N6 (pr a b), N6 c, .ptr .z 0], h43, .l .z, N6 (pr (pr a b) c), h43, .l .z⟩) (field1_c (pr a b) c (pr_lt a b ha) hc) fun call hcl => ?_
  refine OG_p rfl ?_
  refine OG_p rfl ?_
  refine OG_p rfl ?_
  refine OG_v rfl rfl hcl ?_
  refine OG_p rfl ?_
  refine OG_nil ?_
  refine seqQ_n ?_
  refine XK.seq ?_
  refine XK.regF S9 (⟨43, [N6 a, N6 (pr b c), .ptr .z 0], h43, .l .z, N6 (pr a (pr b c)), h43, .l .z⟩) (field1_c a (pr b c) ha (pr_lt b c hb)) fun call hcl => ?_
  refine OG_p rfl ?_
  refine OG_p rfl ?_
  refine OG_p rfl ?_
  refine OG_v rfl rfl hcl ?_
  refine OG_p rfl ?_
  refine OG_nil ?_
  refine seqQ_n ?_
  refine XK.seq ?_
  refine XK.regF S9 (⟨43, [N6 a, N6 c, .ptr .z 0], h43, .l .z, N6 (pr a c), h43, .l .z⟩) (field1_c a c ha hc) fun call hcl => ?_
  refine OG_p rfl ?_
  refine OG_p rfl ?_
  refine OG_p rfl ?_
  refine OG_v rfl rfl hcl ?_
  refine OG_p rfl ?_
  refine OG_nil ?_
  refine seqQ_n ?_
  refine XK.seq ?_
  refine XK.regF S9 (⟨43, [N6 a, N6 (b ^^^ c), .ptr .z 0], h43, .l .z, N6 (pr a (b ^^^ c)), h43, .l .z⟩) (field1_c a (b ^^^ c) ha (xor_lt hb hc)) fun call hcl => ?_
  refine OG_p rfl ?_
  refine OG_p rfl ?_
  refine OG_p rfl ?_
  refine OG_p rfl ?_
  refine OG_p (show opP _ _ = some (N6 (b ^^^ c)) from xor64 hb hc) ?_
  refine OG_v rfl rfl hcl ?_
  refine OG_p rfl ?_
  refine OG_nil ?_
  refine seqQ_n ?_
  refine XK.seq ?_
  refine XK.regF S9 (⟨43, [N6 a, N6 1, .ptr .z 0], h43, .l .z, N6 (pr a 1), h43, .l .z⟩) (field1_c a 1 ha (by omega)) fun call hcl => ?_
  refine OG_p rfl ?_
  refine OG_p rfl ?_
  refine OG_v rfl rfl hcl ?_
  refine OG_p rfl ?_
  refine OG_nil ?_
  refine seqQ_n ?_
  refine XK.seq ?_
  refine XK.regF S9 (⟨43, [N6 a, N6 0, .ptr .z 0], h43, .l .z, N6 (pr a 0), h43, .l .z⟩) (field1_c a 0 ha (by omega)) fun call hcl => ?_
  refine OG_p rfl ?_
  refine OG_p rfl ?_
  refine OG_v rfl rfl hcl ?_
  refine OG_p rfl ?_
  refine OG_nil ?_
  refine seqQ_n ?_
  refine XK.seq ?_
  refine XK.seq ?_
  refine XK.op0' S9 ?_
  refine OG_r rfl ?_
  refine OG_p rfl ?_
  refine OG_p rfl ?_
  refine OG_y (rfl) rfl ?_
  refine OG_y (rfl) rfl ?_
  refine OG_y (rfl) (st_p (show opP _ _ = some (X.bool false) from ntru (congrArg Int.ofNat (pr_comm ha hb)))) ?_
  refine OG_p rfl ?_
  refine OG_p rfl ?_
  refine OG_y (rfl) rfl ?_
  refine OG_y (rfl) rfl ?_
  refine OG_y (rfl) (st_p (show opP _ _ = some (X.bool false) from ntru (congrArg Int.ofNat (pr_assoc ha hb hc)))) ?_
  refine OG_p rfl ?_
  refine OG_p rfl ?_
  refine OG_y (rfl) rfl ?_
  refine OG_y (rfl) rfl ?_
  refine OG_y (rfl) rfl ?_
  refine OG_y (rfl) (st_p (show opP _ _ = some (N6 ((pr a b) ^^^ (pr a c))) from xor64 (pr_lt a b ha) (pr_lt a c ha))) ?_
  refine OG_y (rfl) (st_p (show opP _ _ = some (X.bool false) from ntru (congrArg Int.ofNat (pr_xorR a b c)))) ?_
  refine OG_p rfl ?_
  refine OG_p rfl ?_
  refine OG_y (rfl) rfl ?_
  refine OG_y (rfl) rfl ?_
  refine OG_y (rfl) (st_p (show opP _ _ = some (X.bool false) from ntru (congrArg Int.ofNat (pr_one ha)))) ?_
  refine OG_p rfl ?_
  refine OG_p rfl ?_
  refine OG_y (rfl) rfl ?_
  refine OG_y (rfl) (st_p (show opP _ _ = some (X.bool false) from ntru (congrArg Int.ofNat (pr_zero a)))) ?_
  refine OG_p rfl ?_
  refine OG_nil ?_
  refine seqQ_n ?_
  refine XK.condF rfl ?_
  refine XK.skip S9 ?_
  refine seqQ_n ?_
  refine XK.seq ?_
  refine XK.reg1 S9 (InverseT_c a ha h0) fun call hcl => ?_
  refine OG_p rfl ?_
  refine OG_c rfl hcl ?_
  refine OG_p rfl ?_
  refine OG_p rfl ?_
  refine OG_p rfl ?_
  refine OG_p rfl ?_
  refine OG_p rfl ?_
  refine OG_nil ?_
  refine seqQ_n ?_
  refine XK.seq ?_
  refine XK.seq ?_
  refine XK.op0' S9 ?_
  refine OG_p rfl ?_
  refine OG_p (show opP _ _ = some (X.bool false) from fls (show ¬ Int.ofNat a = Int.ofNat 0 from fun h => by simp at h; omega)) ?_
  refine OG_nil ?_
  refine seqQ_n ?_
  refine XK.condF rfl ?_
  refine XK.skip S9 ?_
  refine seqQ_n ?_
  refine XK.seq ?_
  refine XK.regF S9 (⟨43, [N6 a, N6 (inv a), .ptr .z 0], h43, .l .z, N6 (pr a (inv a)), h43, .l .z⟩) (field1_c a (inv a) ha (inv_lt a ha)) fun call hcl => ?_
  refine OG_p rfl ?_
  refine OG_p rfl ?_
  refine OG_p rfl ?_
  refine OG_y (rfl) rfl ?_
  refine OG_y (rfl) rfl ?_
  refine OG_y (rfl) rfl ?_
  refine OG_y (rfl) (st_callv rfl rfl hcl) ?_
  refine OG_y (rfl) (st_p (show opP _ _ = some (X.bool true) from tru (congrArg Int.ofNat (pr_inv ha h0)))) ?_
  refine OG_p rfl ?_
  refine OG_p rfl ?_
  refine OG_y (rfl) rfl ?_
  refine OG_p rfl ?_
  refine OG_p rfl ?_
  refine OG_nil ?_
  refine seqQ_n ?_
  refine XK.ret S9 ?_
  exact ⟨_, rfl, rfl⟩

end Go.Ex

