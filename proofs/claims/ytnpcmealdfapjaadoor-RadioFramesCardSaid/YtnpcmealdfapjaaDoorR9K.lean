/- Part of the proof: R9K. -/
import Derived.Test.YtnpcmealdfapjaaDoorR9J
set_option linter.unusedVariables false
set_option linter.unusedSimpArgs false
set_option maxRecDepth 20000
namespace Go.Ex
open Go.Proofs
theorem flv {hF : H} {n0 nF : Pt} {x : X} {fl : List (Nat × Nat)} (hx : match some fl with
  | none => x = .tup [.nils, BX false]
  | some [] => x = .tup [.nils, BX true]
  | some (p :: l) => ∃ nd, x = .tup [.sl nd 0 (p :: l).length (p :: l).length 0, BX true] ∧ hF.get nd = some (.cells (flC (p :: l))) ∧ n0.num ≤ nd.num ∧ nd.num < nF.num) : ∃ fv nd, x = .tup [fv, BX true] ∧ FlV fl fv nd ∧ (fl ≠ [] → hF.get nd = some (.cells (flC fl)) ∧ nd.num < nF.num) := by
  match fl, hx with
  | [], hx => exact ⟨.nils, .z, hx, .inl ⟨rfl, rfl⟩, fun h => absurd rfl h⟩
  | p :: l, ⟨nd, hx, h1, _, h3⟩ => exact ⟨_, nd, hx, .inr rfl, fun _ => ⟨h1, h3⟩⟩
def wordN (fl : List (Nat × Nat)) (s : List UInt8) : List Nat := applyF fl (bytesN s)
def bodyN (w : List Nat) : List UInt8 := ((w.drop (0 + 4 * 1)).take (w.length - 6 - 4)).map UInt8.ofNat
theorem bytesN_len (s : List UInt8) : (bytesN s).length = s.length := by unfold bytesN; rw [List.length_map]
theorem wordN_len (fl : List (Nat × Nat)) (s : List UInt8) : (wordN fl s).length = s.length := by unfold wordN; rw [applyF_len, bytesN_len]

theorem Decode0_x (s : List UInt8) (hi : inI (Int.ofNat s.length) 10 42 = false) : XF Tryd.prog eqs9 21 [.str s] .e .z (fun xx _ _ => xx = X.tup [.agg [N6 0, N6 0, N6 0, N6 0, .str []], N6 0, N6 91]) := by
  refine XF.body S9 fk21 rfl ?_
  refine XK.seq ?_
  refine XK.op S9 rfl ?_
  refine seqQ_n ?_
  refine XK.seq ?_
  refine XK.seq ?_
  refine XK.reg1 S9 (isIn_c (Int.ofNat s.length) 10 42) fun call hcl => ?_
  refine OG_p rfl ?_
  refine OG_p rfl ?_
  refine OG_c rfl hcl ?_
  refine OG_p (show opP _ _ = some (X.bool true) from ntf hi) ?_
  refine OG_nil ?_
  refine seqQ_n ?_
  refine XK.condT rfl ?_
  refine XK.seq ?_
  refine XK.op0' S9 ?_
  refine OG_p rfl ?_
  refine OG_w (op_stA rfl rfl rfl rfl rfl) ?_
  refine OG_p rfl ?_
  refine OG_p rfl ?_
  refine OG_nil ?_
  refine seqQ_n ?_
  refine XK.ret S9 ?_
  refine seqQ_r ?_
  exact ⟨_, res_cellA (id := .z) rfl get_at rfl (res_tmp rfl (res_tmp rfl res_nil)), rfl⟩

theorem Decode1_x (s : List UInt8) (hs10 : 10 ≤ s.length) (hs42 : s.length ≤ 42) (hfl : flawsS s = none) : XF Tryd.prog eqs9 21 [.str s] .e .z (fun xx _ _ => xx = X.tup [.agg [N6 0, N6 0, N6 0, N6 0, .str []], N6 0, N6 91]) := by
  refine XF.body S9 fk21 rfl ?_
  have hi : inI (Int.ofNat s.length) 10 42 = true := inI_iff.2 ⟨show (10 : Int) ≤ (s.length : Int) by omega, show (s.length : Int) ≤ 42 by omega⟩
  obtain ⟨x, hF, nF, cfl, hnF, hfrF, hxF⟩ := flaws_c (T.put T.e .z (.cells [N6 0, N6 0, N6 0, N6 0, .str []])) (.l .z) s hs42
  have hl1 : (Pt.l Pt.z).num = 1 := rfl
  have hz0 : Pt.z.num = 0 := rfl
  have hz5 : hF.get .z = some (.cells [N6 0, N6 0, N6 0, N6 0, .str []]) := (hfrF .z (by omega)).trans rfl
  replace hxF : x = .tup [.nils, BX false] := by rw [hfl] at hxF; exact hxF
  subst hxF
  refine XK.seq ?_
  refine XK.op S9 rfl ?_
  refine seqQ_n ?_
  refine XK.seq ?_
  refine XK.seq ?_
  refine XK.reg1 S9 (isIn_c (Int.ofNat s.length) 10 42) fun call hcl => ?_
  refine OG_p rfl ?_
  refine OG_p rfl ?_
  refine OG_c rfl hcl ?_
  refine OG_p (show opP _ _ = some (X.bool false) from ntt hi) ?_
  refine OG_nil ?_
  refine seqQ_n ?_
  refine XK.condF rfl ?_
  refine XK.skip S9 ?_
  refine seqQ_n ?_
  refine XK.seq ?_
  refine XK.regC S9 (cfl) fun call hcl => ?_
  refine OG_p rfl ?_
  refine OG_c rfl hcl ?_
  refine OG_p rfl ?_
  refine OG_p rfl ?_
  refine OG_p rfl ?_
  refine OG_p rfl ?_
  refine OG_p rfl ?_
  refine OG_nil ?_
  refine seqQ_n ?_
  refine XK.seq ?_
  refine XK.seq ?_
  refine XK.op S9 rfl ?_
  refine seqQ_n ?_
  refine XK.condT rfl ?_
  refine XK.seq ?_
  refine XK.op0' S9 ?_
  refine OG_p rfl ?_
  refine OG_w (op_stA rfl rfl rfl hz5 rfl) ?_
  refine OG_p rfl ?_
  refine OG_p rfl ?_
  refine OG_nil ?_
  refine seqQ_n ?_
  refine XK.ret S9 ?_
  refine seqQ_r ?_
  exact ⟨_, res_cellA (id := .z) rfl get_at rfl (res_tmp rfl (res_tmp rfl res_nil)), rfl⟩

theorem DecodeT_x (s : List UInt8) (hs10 : 10 ≤ s.length) (hs42 : s.length ≤ 42) (fl : List (Nat × Nat)) (hfl : flawsS s = some fl) (hflo : flOk s.length fl) (hfl3 : fl.length ≤ 3) (hok : okF (Int.ofNat ((wordN fl s).getD 0 0)) (Int.ofNat ((wordN fl s).getD 1 0)) (Int.ofNat ((wordN fl s).getD 2 0)) (Int.ofNat ((wordN fl s).getD 3 0)) (bodyN (wordN fl s)).length = true) : XF Tryd.prog eqs9 21 [.str s] .e .z (fun xx _ _ => xx = X.tup [.agg [N6 ((wordN fl s).getD 0 0), N6 ((wordN fl s).getD 1 0), N6 ((wordN fl s).getD 2 0), N6 ((wordN fl s).getD 3 0), .str (bodyN (wordN fl s))], N6 fl.length, N6 0]) := by
  refine XF.body S9 fk21 rfl ?_
  have hi : inI (Int.ofNat s.length) 10 42 = true := inI_iff.2 ⟨show (10 : Int) ≤ (s.length : Int) by omega, show (s.length : Int) ≤ 42 by omega⟩
  obtain ⟨x, hF, nF, cfl, hnF, hfrF, hxF⟩ := flaws_c (T.put T.e .z (.cells [N6 0, N6 0, N6 0, N6 0, .str []])) (.l .z) s hs42
  have hl1 : (Pt.l Pt.z).num = 1 := rfl
  have hz0 : Pt.z.num = 0 := rfl
  have hz5 : hF.get .z = some (.cells [N6 0, N6 0, N6 0, N6 0, .str []]) := (hfrF .z (by omega)).trans rfl
  rw [hfl] at hxF
  obtain ⟨fv, nd, rfl, ho, hnd⟩ := flv hxF
  refine XK.seq ?_
  refine XK.op S9 rfl ?_
  refine seqQ_n ?_
  refine XK.seq ?_
  refine XK.seq ?_
  refine XK.reg1 S9 (isIn_c (Int.ofNat s.length) 10 42) fun call hcl => ?_
  refine OG_p rfl ?_
  refine OG_p rfl ?_
  refine OG_c rfl hcl ?_
  refine OG_p (show opP _ _ = some (X.bool false) from ntt hi) ?_
  refine OG_nil ?_
  refine seqQ_n ?_
  refine XK.condF rfl ?_
  refine XK.skip S9 ?_
  refine seqQ_n ?_
  refine XK.seq ?_
  refine XK.regC S9 (cfl) fun call hcl => ?_
  refine OG_p rfl ?_
  refine OG_c rfl hcl ?_
  refine OG_p rfl ?_
  refine OG_p rfl ?_
  refine OG_p rfl ?_
  refine OG_p rfl ?_
  refine OG_p rfl ?_
  refine OG_nil ?_
  refine seqQ_n ?_
  refine XK.seq ?_
  refine XK.seq ?_
  refine XK.op S9 rfl ?_
  refine seqQ_n ?_
  refine XK.condF rfl ?_
  refine XK.skip S9 ?_
  refine seqQ_n ?_
  refine XK.seq ?_
  refine XK.op0' S9 ?_
  refine OG_p rfl ?_
  refine OG_w (op_s2b rfl (by omega)) ?_
  refine OG_p rfl ?_
  refine OG_nil ?_
  refine seqQ_n ?_
  refine XK.seq ?_
  refine XK.seq ?_
  refine XK.op0' S9 ?_
  refine OG_p rfl ?_
  refine OG_p (ho.len rfl) ?_
  refine OG_p rfl ?_
  refine OG_nil ?_
  refine seqQ_n ?_
  refine XK.block ?_
  refine XK.loop ?_
  refine XL.less (t1 := ofPL [(p2, .ptr .z 0), (p5, fv), (p7, .sl nF 0 s.length s.length 2), (p27, fv), (p28, N6 fl.length), (p29, N6 (0))]) (Le.cons (p := p2) rfl rfl (Le.cons (p := p5) rfl rfl (Le.cons (p := p7) rfl rfl (Le.cons (p := p27) rfl rfl (Le.cons (p := p28) rfl rfl (Le.cons (p := p29) rfl rfl Le.nil)))))) (Le.refl _) ?_
  refine app2_L _ fl fv nd nF s.length hs42 hflo hfl3 ho (fun e => by rw [← e] at hnF; omega) fl.length 0 (bytesN s) _ _ (by omega) (bytesN_len s) (bytesN_8 s) (by rw [get_put, if_pos rfl, byteX_map]) (fun hne => ⟨by rw [get_lt (hnd hne).2]; exact (hnd hne).1, by have := (hnd hne).2; rw [num_inc]; omega⟩) (by rw [get_lt (by omega)]; exact hz5) (by rw [num_inc]; omega) (by rw [num_inc]; omega) (fun t' h' n' hle hw hz5 hwn hzn => ?_) (fun hne e => by have := (hnd hne).2; rw [e] at this; omega)
  have hwl := wordN_len fl s
  have hw8 : all8 (wordN fl s) := applyF_8 fl _ hflo (bytesN_8 s)
  replace hw : h'.get nF = some (.cells ((wordN fl s).map B8)) := hw
  have hzM : ((h'.put n' (.cells [N6 0, N6 0, N6 0, N6 0, .str []])).put n' (.cells [N6 ((wordN fl s).getD 0 0), N6 ((wordN fl s).getD 1 0), N6 ((wordN fl s).getD 2 0), N6 ((wordN fl s).getD 3 0), .str (bodyN (wordN fl s))])).get .z = some (.cells [N6 0, N6 0, N6 0, N6 0, .str []]) := by rw [get_lt (by omega), get_lt (by omega)]; exact hz5
  refine blockQ_h rfl ?_
  refine seqQ_n ?_
  refine XK.less hle (Le.refl _) ?_
  refine XK.seq ?_
  refine XK.op0' S9 ?_
  refine OG_p rfl ?_
  refine OG_p rfl ?_
  refine OG_p (op_len rfl) ?_
  refine OG_p (op_sub rfl rfl (by omega) (by omega)) ?_
  refine OG_p (op_slS4 rfl rfl rfl (by omega) (by omega) (by omega)) ?_
  refine OG_r (op_b2so rfl hw (by omega)) ?_
  refine OG_p rfl ?_
  refine OG_nil ?_
  refine seqQ_n ?_
  refine XK.seq ?_
  have hbd : ((((wordN fl s).drop (0 + 4 * 1)).take (s.length - 6 - 4)).map UInt8.ofNat) = bodyN (wordN fl s) := by unfold bodyN; rw [hwl]
  rw [hbd]
  refine XK.ds0 S9 (HS := [(20, ((h'.put n' (.cells [N6 0, N6 0, N6 0, N6 0, .str []])).put n' (.cells [N6 ((wordN fl s).getD 0 0), N6 ((wordN fl s).getD 1 0), N6 ((wordN fl s).getD 2 0), N6 ((wordN fl s).getD 3 0), .str (bodyN (wordN fl s))]))), (0, h')]) ?_
  refine DS_p rfl ?_
  refine DS_p (op_ia rfl rfl (by omega)) ?_
  refine DS_r (op_ld rfl hw (map_at0 (j := 0) (by omega))) ⟨fun hh => absurd hh (by decide), fun hh => absurd hh (by decide), trivial⟩ ?_
  refine DS_p (op_c64 rfl (Nat.lt_trans (hw8 0) (by omega))) ?_
  refine DS_p rfl ?_
  refine DS_p (op_ia rfl rfl (by omega)) ?_
  refine DS_r (op_ld rfl hw (map_at0 (j := 1) (by omega))) ⟨fun hh => absurd hh (by decide), fun hh => absurd hh (by decide), trivial⟩ ?_
  refine DS_p (op_c64 rfl (Nat.lt_trans (hw8 1) (by omega))) ?_
  refine DS_p rfl ?_
  refine DS_p (op_ia rfl rfl (by omega)) ?_
  refine DS_r (op_ld rfl hw (map_at0 (j := 2) (by omega))) ⟨fun hh => absurd hh (by decide), fun hh => absurd hh (by decide), trivial⟩ ?_
  refine DS_p (op_c64 rfl (Nat.lt_trans (hw8 2) (by omega))) ?_
  refine DS_p rfl ?_
  refine DS_p (op_ia rfl rfl (by omega)) ?_
  refine DS_r (op_ld rfl hw (map_at0 (j := 3) (by omega))) ⟨fun hh => absurd hh (by decide), fun hh => absurd hh (by decide), trivial⟩ ?_
  refine DS_p (op_c64 rfl (Nat.lt_trans (hw8 3) (by omega))) ?_
  refine DS_p rfl ?_
  refine DS_p rfl ?_
  refine DS_a (rfl) ⟨fun hh => absurd hh (by decide), fun hh => absurd hh (by decide), trivial⟩ ?_
  refine DS_w (op_stA rfl rfl rfl get_at rfl) ?_
  refine DS_nil rfl ?_
  refine seqQ_n ?_
  refine XK.seq ?_
  refine XK.seq ?_
  refine XK.reg1 S9 ((ck_ok hok).1) fun call hcl => ?_
  refine OG_r (op_ldA rfl get_at (lgetL_all rfl)) ?_
  refine OG_c rfl hcl ?_
  refine OG_p rfl ?_
  refine OG_nil ?_
  refine seqQ_n ?_
  refine XK.condF rfl ?_
  refine XK.skip S9 ?_
  refine seqQ_n ?_
  refine XK.seq ?_
  refine XK.op0' S9 ?_
  refine OG_r (op_ldA rfl get_at (lgetL_all rfl)) ?_
  refine OG_p rfl ?_
  refine OG_p (ho.len rfl) ?_
  refine OG_w (op_stA rfl rfl rfl hzM rfl) ?_
  refine OG_p rfl ?_
  refine OG_p rfl ?_
  refine OG_nil ?_
  refine seqQ_n ?_
  refine XK.ret S9 ?_
  exact ⟨_, res_cellA (id := .z) rfl get_at rfl (res_tmp rfl (res_tmp rfl res_nil)), rfl⟩

theorem DecodeF_x (s : List UInt8) (hs10 : 10 ≤ s.length) (hs42 : s.length ≤ 42) (fl : List (Nat × Nat)) (hfl : flawsS s = some fl) (hflo : flOk s.length fl) (hfl3 : fl.length ≤ 3) (hok : okF (Int.ofNat ((wordN fl s).getD 0 0)) (Int.ofNat ((wordN fl s).getD 1 0)) (Int.ofNat ((wordN fl s).getD 2 0)) (Int.ofNat ((wordN fl s).getD 3 0)) (bodyN (wordN fl s)).length = false) : XF Tryd.prog eqs9 21 [.str s] .e .z (fun xx _ _ => xx = X.tup [.agg [N6 0, N6 0, N6 0, N6 0, .str []], N6 0, N6 91]) := by
  refine XF.body S9 fk21 rfl ?_
  have hi : inI (Int.ofNat s.length) 10 42 = true := inI_iff.2 ⟨show (10 : Int) ≤ (s.length : Int) by omega, show (s.length : Int) ≤ 42 by omega⟩
  obtain ⟨x, hF, nF, cfl, hnF, hfrF, hxF⟩ := flaws_c (T.put T.e .z (.cells [N6 0, N6 0, N6 0, N6 0, .str []])) (.l .z) s hs42
  have hl1 : (Pt.l Pt.z).num = 1 := rfl
  have hz0 : Pt.z.num = 0 := rfl
  have hz5 : hF.get .z = some (.cells [N6 0, N6 0, N6 0, N6 0, .str []]) := (hfrF .z (by omega)).trans rfl
  rw [hfl] at hxF
  obtain ⟨fv, nd, rfl, ho, hnd⟩ := flv hxF
  refine XK.seq ?_
  refine XK.op S9 rfl ?_
  refine seqQ_n ?_
  refine XK.seq ?_
  refine XK.seq ?_
  refine XK.reg1 S9 (isIn_c (Int.ofNat s.length) 10 42) fun call hcl => ?_
  refine OG_p rfl ?_
  refine OG_p rfl ?_
  refine OG_c rfl hcl ?_
  refine OG_p (show opP _ _ = some (X.bool false) from ntt hi) ?_
  refine OG_nil ?_
  refine seqQ_n ?_
  refine XK.condF rfl ?_
  refine XK.skip S9 ?_
  refine seqQ_n ?_
  refine XK.seq ?_
  refine XK.regC S9 (cfl) fun call hcl => ?_
  refine OG_p rfl ?_
  refine OG_c rfl hcl ?_
  refine OG_p rfl ?_
  refine OG_p rfl ?_
  refine OG_p rfl ?_
  refine OG_p rfl ?_
  refine OG_p rfl ?_
  refine OG_nil ?_
  refine seqQ_n ?_
  refine XK.seq ?_
  refine XK.seq ?_
  refine XK.op S9 rfl ?_
  refine seqQ_n ?_
  refine XK.condF rfl ?_
  refine XK.skip S9 ?_
  refine seqQ_n ?_
  refine XK.seq ?_
  refine XK.op0' S9 ?_
  refine OG_p rfl ?_
  refine OG_w (op_s2b rfl (by omega)) ?_
  refine OG_p rfl ?_
  refine OG_nil ?_
  refine seqQ_n ?_
  refine XK.seq ?_
  refine XK.seq ?_
  refine XK.op0' S9 ?_
  refine OG_p rfl ?_
  refine OG_p (ho.len rfl) ?_
  refine OG_p rfl ?_
  refine OG_nil ?_
  refine seqQ_n ?_
  refine XK.block ?_
  refine XK.loop ?_
  refine XL.less (t1 := ofPL [(p2, .ptr .z 0), (p5, fv), (p7, .sl nF 0 s.length s.length 2), (p27, fv), (p28, N6 fl.length), (p29, N6 (0))]) (Le.cons (p := p2) rfl rfl (Le.cons (p := p5) rfl rfl (Le.cons (p := p7) rfl rfl (Le.cons (p := p27) rfl rfl (Le.cons (p := p28) rfl rfl (Le.cons (p := p29) rfl rfl Le.nil)))))) (Le.refl _) ?_
  refine app2_L _ fl fv nd nF s.length hs42 hflo hfl3 ho (fun e => by rw [← e] at hnF; omega) fl.length 0 (bytesN s) _ _ (by omega) (bytesN_len s) (bytesN_8 s) (by rw [get_put, if_pos rfl, byteX_map]) (fun hne => ⟨by rw [get_lt (hnd hne).2]; exact (hnd hne).1, by have := (hnd hne).2; rw [num_inc]; omega⟩) (by rw [get_lt (by omega)]; exact hz5) (by rw [num_inc]; omega) (by rw [num_inc]; omega) (fun t' h' n' hle hw hz5 hwn hzn => ?_) (fun hne e => by have := (hnd hne).2; rw [e] at this; omega)
  have hwl := wordN_len fl s
  have hw8 : all8 (wordN fl s) := applyF_8 fl _ hflo (bytesN_8 s)
  replace hw : h'.get nF = some (.cells ((wordN fl s).map B8)) := hw
  have hzM : ((h'.put n' (.cells [N6 0, N6 0, N6 0, N6 0, .str []])).put n' (.cells [N6 ((wordN fl s).getD 0 0), N6 ((wordN fl s).getD 1 0), N6 ((wordN fl s).getD 2 0), N6 ((wordN fl s).getD 3 0), .str (bodyN (wordN fl s))])).get .z = some (.cells [N6 0, N6 0, N6 0, N6 0, .str []]) := by rw [get_lt (by omega), get_lt (by omega)]; exact hz5
  refine blockQ_h rfl ?_
  refine seqQ_n ?_
  refine XK.less hle (Le.refl _) ?_
  refine XK.seq ?_
  refine XK.op0' S9 ?_
  refine OG_p rfl ?_
  refine OG_p rfl ?_
  refine OG_p (op_len rfl) ?_
  refine OG_p (op_sub rfl rfl (by omega) (by omega)) ?_
  refine OG_p (op_slS4 rfl rfl rfl (by omega) (by omega) (by omega)) ?_
  refine OG_r (op_b2so rfl hw (by omega)) ?_
  refine OG_p rfl ?_
  refine OG_nil ?_
  refine seqQ_n ?_
  refine XK.seq ?_
  have hbd : ((((wordN fl s).drop (0 + 4 * 1)).take (s.length - 6 - 4)).map UInt8.ofNat) = bodyN (wordN fl s) := by unfold bodyN; rw [hwl]
  rw [hbd]
  refine XK.ds0 S9 (HS := [(20, ((h'.put n' (.cells [N6 0, N6 0, N6 0, N6 0, .str []])).put n' (.cells [N6 ((wordN fl s).getD 0 0), N6 ((wordN fl s).getD 1 0), N6 ((wordN fl s).getD 2 0), N6 ((wordN fl s).getD 3 0), .str (bodyN (wordN fl s))]))), (0, h')]) ?_
  refine DS_p rfl ?_
  refine DS_p (op_ia rfl rfl (by omega)) ?_
  refine DS_r (op_ld rfl hw (map_at0 (j := 0) (by omega))) ⟨fun hh => absurd hh (by decide), fun hh => absurd hh (by decide), trivial⟩ ?_
  refine DS_p (op_c64 rfl (Nat.lt_trans (hw8 0) (by omega))) ?_
  refine DS_p rfl ?_
  refine DS_p (op_ia rfl rfl (by omega)) ?_
  refine DS_r (op_ld rfl hw (map_at0 (j := 1) (by omega))) ⟨fun hh => absurd hh (by decide), fun hh => absurd hh (by decide), trivial⟩ ?_
  refine DS_p (op_c64 rfl (Nat.lt_trans (hw8 1) (by omega))) ?_
  refine DS_p rfl ?_
  refine DS_p (op_ia rfl rfl (by omega)) ?_
  refine DS_r (op_ld rfl hw (map_at0 (j := 2) (by omega))) ⟨fun hh => absurd hh (by decide), fun hh => absurd hh (by decide), trivial⟩ ?_
  refine DS_p (op_c64 rfl (Nat.lt_trans (hw8 2) (by omega))) ?_
  refine DS_p rfl ?_
  refine DS_p (op_ia rfl rfl (by omega)) ?_
  refine DS_r (op_ld rfl hw (map_at0 (j := 3) (by omega))) ⟨fun hh => absurd hh (by decide), fun hh => absurd hh (by decide), trivial⟩ ?_
  refine DS_p (op_c64 rfl (Nat.lt_trans (hw8 3) (by omega))) ?_
  refine DS_p rfl ?_
  refine DS_p rfl ?_
  refine DS_a (rfl) ⟨fun hh => absurd hh (by decide), fun hh => absurd hh (by decide), trivial⟩ ?_
  refine DS_w (op_stA rfl rfl rfl get_at rfl) ?_
  refine DS_nil rfl ?_
  refine seqQ_n ?_
  refine XK.seq ?_
  refine XK.seq ?_
  refine XK.reg1 S9 ((ck_no hok).1) fun call hcl => ?_
  refine OG_r (op_ldA rfl get_at (lgetL_all rfl)) ?_
  refine OG_c rfl hcl ?_
  refine OG_p rfl ?_
  refine OG_nil ?_
  refine seqQ_n ?_
  refine XK.condT rfl ?_
  refine XK.seq ?_
  refine XK.op0' S9 ?_
  refine OG_p rfl ?_
  refine OG_w (op_stA rfl rfl rfl hzM rfl) ?_
  refine OG_p rfl ?_
  refine OG_p rfl ?_
  refine OG_nil ?_
  refine seqQ_n ?_
  refine XK.ret S9 ?_
  refine seqQ_r ?_
  exact ⟨_, res_cellA (id := .z) rfl get_at rfl (res_tmp rfl (res_tmp rfl res_nil)), rfl⟩

end Go.Ex

