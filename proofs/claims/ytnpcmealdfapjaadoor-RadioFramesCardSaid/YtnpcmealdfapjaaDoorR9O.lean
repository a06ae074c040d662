/- Part of the proof: R9O. -/
import Derived.Test.YtnpcmealdfapjaaDoorR9N
set_option linter.unusedVariables false
set_option linter.unusedSimpArgs false
set_option maxRecDepth 20000
namespace Go.Ex
open Go.Proofs
theorem wordZ_x (s : List UInt8) (hs : s.length ≤ 42) (hs1 : 1 ≤ s.length) (hd : ∀ i m, i < m → m < s.length → 0 < (ptsN s.length).getD i 0 ^^^ (ptsN s.length).getD m 0) (hz : zB (vR s) 6 0 true = true) : XF Tryd.prog eqs9 71 [.str s] .e .z (fun xx _ _ => xx = X.tup [.str s, BX true]) := by
  refine XF.body S9 fk71 rfl ?_
  refine XK.seq ?_
  refine XK.op S9 rfl ?_
  refine seqQ_n ?_
  refine XK.seq ?_
  refine XK.op0' S9 ?_
  refine OG_p rfl ?_
  refine OG_p (op_slen rfl) ?_
  refine OG_p rfl ?_
  refine OG_nil ?_
  refine seqQ_n ?_
  refine XK.seq ?_
  refine XK.op S9 rfl ?_
  refine seqQ_n ?_
  refine XK.seq ?_
  refine XK.seq ?_
  refine XK.op S9 rfl ?_
  refine seqQ_n ?_
  refine XK.block ?_
  refine XK.loop ?_
  refine XL.less (t1 := ofPL [(p0, .str s), (p4, N6 s.length), (p5, .nils), (p6, N6 0)]) (Le.cons (p := p0) rfl rfl (Le.cons (p := p4) rfl rfl (Le.cons (p := p5) rfl rfl (Le.cons (p := p6) rfl rfl Le.nil)))) (Le.refl _) ?_
  refine vw_L _ s hs 6 0 _ _ .nils rfl (.inl ⟨rfl, rfl⟩) (fun t' h' n' v' hle ho => ?_)
  obtain ⟨vid, rfl, hv, hvn⟩ := ho.sl (k := 6) rfl (by omega)
  refine blockQ_h rfl ?_
  refine seqQ_n ?_
  refine XK.less hle (Le.refl _) ?_
  refine XK.seq ?_
  refine XK.op S9 rfl ?_
  refine seqQ_n ?_
  refine XK.seq ?_
  refine XK.seq ?_
  refine XK.op S9 rfl ?_
  refine seqQ_n ?_
  refine XK.block ?_
  refine XK.loop ?_
  refine XL.less (t1 := ofPL [(p0, .str s), (p4, N6 s.length), (p5, .sl vid 0 6 6 2), (p7, BX true), (p8, N6 0)]) (Le.cons (p := p0) rfl rfl (Le.cons (p := p4) rfl rfl (Le.cons (p := p5) rfl rfl (Le.cons (p := p7) rfl rfl (Le.cons (p := p8) rfl rfl Le.nil))))) (Le.refl _) ?_
  refine zw_L _ s vid (vR s) rfl h' n' hv 6 0 true rfl (fun t' hle => ?_)
  refine blockQ_h rfl ?_
  refine seqQ_n ?_
  refine XK.less hle (Le.refl _) ?_
  refine XK.seq ?_
  refine XK.seq ?_
  refine XK.op S9 rfl ?_
  refine seqQ_n ?_
  refine XK.condT (congrArg (fun q => some (X.bool q)) hz) ?_
  refine XK.seq ?_
  refine XK.op S9 rfl ?_
  refine seqQ_n ?_
  refine XK.ret S9 ?_
  refine seqQ_r ?_
  exact ⟨_, rfl, rfl⟩

theorem wordZ_c (s : List UInt8) (hs : s.length ≤ 42) (hs1 : 1 ≤ s.length) (hd : ∀ i m, i < m → m < s.length → 0 < (ptsN s.length).getD i 0 ^^^ (ptsN s.length).getD m 0) (hz : zB (vR s) 6 0 true = true) : Pure1 eqs9.gs Tryd.prog 71 [.str s] (X.tup [.str s, BX true]) := fun hh nn => (wordZ_x s hs hs1 hd hz).pure rfl rfl hh nn

theorem wordT_x (s : List UInt8) (hs : s.length ≤ 42) (hs1 : 1 ≤ s.length) (hd : ∀ i m, i < m → m < s.length → 0 < (ptsN s.length).getD i 0 ^^^ (ptsN s.length).getD m 0) (hz : zB (vR s) 6 0 true = false) (fl : List (Nat × Nat)) (hf : wordF (vR s) (ptsN s.length) s.length 0 = some fl) : XF Tryd.prog eqs9 71 [.str s] .e .z (fun xx _ _ => xx = X.tup [.str (putL s fl), BX true]) := by
  refine XF.body S9 fk71 rfl ?_
  refine XK.seq ?_
  refine XK.op S9 rfl ?_
  refine seqQ_n ?_
  refine XK.seq ?_
  refine XK.op0' S9 ?_
  refine OG_p rfl ?_
  refine OG_p (op_slen rfl) ?_
  refine OG_p rfl ?_
  refine OG_nil ?_
  refine seqQ_n ?_
  refine XK.seq ?_
  refine XK.op S9 rfl ?_
  refine seqQ_n ?_
  refine XK.seq ?_
  refine XK.seq ?_
  refine XK.op S9 rfl ?_
  refine seqQ_n ?_
  refine XK.block ?_
  refine XK.loop ?_
  refine XL.less (t1 := ofPL [(p0, .str s), (p4, N6 s.length), (p5, .nils), (p6, N6 0)]) (Le.cons (p := p0) rfl rfl (Le.cons (p := p4) rfl rfl (Le.cons (p := p5) rfl rfl (Le.cons (p := p6) rfl rfl Le.nil)))) (Le.refl _) ?_
  refine vw_L _ s hs 6 0 _ _ .nils rfl (.inl ⟨rfl, rfl⟩) (fun t' h' n' v' hle ho => ?_)
  obtain ⟨vid, rfl, hv, hvn⟩ := ho.sl (k := 6) rfl (by omega)
  refine blockQ_h rfl ?_
  refine seqQ_n ?_
  refine XK.less hle (Le.refl _) ?_
  refine XK.seq ?_
  refine XK.op S9 rfl ?_
  refine seqQ_n ?_
  refine XK.seq ?_
  refine XK.seq ?_
  refine XK.op S9 rfl ?_
  refine seqQ_n ?_
  refine XK.block ?_
  refine XK.loop ?_
  refine XL.less (t1 := ofPL [(p0, .str s), (p4, N6 s.length), (p5, .sl vid 0 6 6 2), (p7, BX true), (p8, N6 0)]) (Le.cons (p := p0) rfl rfl (Le.cons (p := p4) rfl rfl (Le.cons (p := p5) rfl rfl (Le.cons (p := p7) rfl rfl (Le.cons (p := p8) rfl rfl Le.nil))))) (Le.refl _) ?_
  refine zw_L _ s vid (vR s) rfl h' n' hv 6 0 true rfl (fun t' hle => ?_)
  refine blockQ_h rfl ?_
  refine seqQ_n ?_
  refine XK.less hle (Le.refl _) ?_
  refine XK.seq ?_
  refine XK.seq ?_
  refine XK.op S9 rfl ?_
  refine seqQ_n ?_
  refine XK.condF (congrArg (fun q => some (X.bool q)) hz) ?_
  refine XK.skip S9 ?_
  refine seqQ_n ?_
  refine XK.seq ?_
  refine XK.op S9 rfl ?_
  refine seqQ_n ?_
  refine XK.seq ?_
  refine XK.seq ?_
  refine XK.op S9 rfl ?_
  refine seqQ_n ?_
  refine XK.block ?_
  refine XK.loop ?_
  refine XL.less (t1 := ofPL [(p0, .str s), (p4, N6 s.length), (p5, .sl vid 0 6 6 2), (p9, .nils), (p10, N6 0)]) (Le.cons (p := p0) rfl rfl (Le.cons (p := p4) rfl rfl (Le.cons (p := p5) rfl rfl (Le.cons (p := p9) rfl rfl (Le.cons (p := p10) rfl rfl Le.nil))))) (Le.refl _) ?_
  refine xw_L _ s hs vid (vR s) s.length 0 h' n' .nils (by omega) (.inl ⟨rfl, rfl⟩) hv hvn (fun e => by cases e) (fun t' h' n' v' hle ho hv hvn hvb => ?_)
  obtain ⟨xid, rfl, hx, hxn⟩ := ho.sl (k := s.length) (by rw [List.length_map, ptsN_len]) (by omega)
  refine blockQ_h rfl ?_
  refine seqQ_n ?_
  refine XK.less hle (Le.refl _) ?_
  refine XK.seq ?_
  refine XK.seq ?_
  refine XK.op S9 rfl ?_
  refine seqQ_n ?_
  refine XK.block ?_
  refine XK.loop ?_
  refine XL.less (t1 := ofPL [(p0, .str s), (p4, N6 s.length), (p5, .sl vid 0 6 6 2), (p9, .sl xid 0 s.length s.length 2), (p11, N6 0)]) (Le.cons (p := p0) rfl rfl (Le.cons (p := p4) rfl rfl (Le.cons (p := p5) rfl rfl (Le.cons (p := p9) rfl rfl (Le.cons (p := p11) rfl rfl Le.nil))))) (Le.refl _) ?_
  refine word_L _ s hs vid xid (vR s) (ptsN s.length) rfl (ptsN_len _) (vR_8 s) (ptsN_8 _) hd s.length 0 _ _ (by omega) hv hvn hx hxn (fun t' h' n' fl2 hf2 hle => ?_) (fun t' h' n' hf2 => ?_)
  · repeat (first | refine blockQ_r ?_ | refine seqQ_r ?_ | refine loopQ_r ?_)
    obtain rfl : fl2 = fl := Option.some.inj (hf2.symm.trans hf)
    exact ⟨_, res_tmp (hle.at (p := p2) rfl) (res_tmp (hle.at (p := p3) rfl) res_nil), rfl⟩
  · rw [hf] at hf2; cases hf2
theorem wordN_x (s : List UInt8) (hs : s.length ≤ 42) (hs1 : 1 ≤ s.length) (hd : ∀ i m, i < m → m < s.length → 0 < (ptsN s.length).getD i 0 ^^^ (ptsN s.length).getD m 0) (hz : zB (vR s) 6 0 true = false) (hf : wordF (vR s) (ptsN s.length) s.length 0 = none) : XF Tryd.prog eqs9 71 [.str s] .e .z (fun xx _ _ => xx = X.tup [.str [], BX false]) := by
  refine XF.body S9 fk71 rfl ?_
  refine XK.seq ?_
  refine XK.op S9 rfl ?_
  refine seqQ_n ?_
  refine XK.seq ?_
  refine XK.op0' S9 ?_
  refine OG_p rfl ?_
  refine OG_p (op_slen rfl) ?_
  refine OG_p rfl ?_
  refine OG_nil ?_
  refine seqQ_n ?_
  refine XK.seq ?_
  refine XK.op S9 rfl ?_
  refine seqQ_n ?_
  refine XK.seq ?_
  refine XK.seq ?_
  refine XK.op S9 rfl ?_
  refine seqQ_n ?_
  refine XK.block ?_
  refine XK.loop ?_
  refine XL.less (t1 := ofPL [(p0, .str s), (p4, N6 s.length), (p5, .nils), (p6, N6 0)]) (Le.cons (p := p0) rfl rfl (Le.cons (p := p4) rfl rfl (Le.cons (p := p5) rfl rfl (Le.cons (p := p6) rfl rfl Le.nil)))) (Le.refl _) ?_
  refine vw_L _ s hs 6 0 _ _ .nils rfl (.inl ⟨rfl, rfl⟩) (fun t' h' n' v' hle ho => ?_)
  obtain ⟨vid, rfl, hv, hvn⟩ := ho.sl (k := 6) rfl (by omega)
  refine blockQ_h rfl ?_
  refine seqQ_n ?_
  refine XK.less hle (Le.refl _) ?_
  refine XK.seq ?_
  refine XK.op S9 rfl ?_
  refine seqQ_n ?_
  refine XK.seq ?_
  refine XK.seq ?_
  refine XK.op S9 rfl ?_
  refine seqQ_n ?_
  refine XK.block ?_
  refine XK.loop ?_
  refine XL.less (t1 := ofPL [(p0, .str s), (p4, N6 s.length), (p5, .sl vid 0 6 6 2), (p7, BX true), (p8, N6 0)]) (Le.cons (p := p0) rfl rfl (Le.cons (p := p4) rfl rfl (Le.cons (p := p5) rfl rfl (Le.cons (p := p7) rfl rfl (Le.cons (p := p8) rfl rfl Le.nil))))) (Le.refl _) ?_
  refine zw_L _ s vid (vR s) rfl h' n' hv 6 0 true rfl (fun t' hle => ?_)
  refine blockQ_h rfl ?_
  refine seqQ_n ?_
  refine XK.less hle (Le.refl _) ?_
  refine XK.seq ?_
  refine XK.seq ?_
  refine XK.op S9 rfl ?_
  refine seqQ_n ?_
  refine XK.condF (congrArg (fun q => some (X.bool q)) hz) ?_
  refine XK.skip S9 ?_
  refine seqQ_n ?_
  refine XK.seq ?_
  refine XK.op S9 rfl ?_
  refine seqQ_n ?_
  refine XK.seq ?_
  refine XK.seq ?_
  refine XK.op S9 rfl ?_
  refine seqQ_n ?_
  refine XK.block ?_
  refine XK.loop ?_
  refine XL.less (t1 := ofPL [(p0, .str s), (p4, N6 s.length), (p5, .sl vid 0 6 6 2), (p9, .nils), (p10, N6 0)]) (Le.cons (p := p0) rfl rfl (Le.cons (p := p4) rfl rfl (Le.cons (p := p5) rfl rfl (Le.cons (p := p9) rfl rfl (Le.cons (p := p10) rfl rfl Le.nil))))) (Le.refl _) ?_
  refine xw_L _ s hs vid (vR s) s.length 0 h' n' .nils (by omega) (.inl ⟨rfl, rfl⟩) hv hvn (fun e => by cases e) (fun t' h' n' v' hle ho hv hvn hvb => ?_)
  obtain ⟨xid, rfl, hx, hxn⟩ := ho.sl (k := s.length) (by rw [List.length_map, ptsN_len]) (by omega)
  refine blockQ_h rfl ?_
  refine seqQ_n ?_
  refine XK.less hle (Le.refl _) ?_
  refine XK.seq ?_
  refine XK.seq ?_
  refine XK.op S9 rfl ?_
  refine seqQ_n ?_
  refine XK.block ?_
  refine XK.loop ?_
  refine XL.less (t1 := ofPL [(p0, .str s), (p4, N6 s.length), (p5, .sl vid 0 6 6 2), (p9, .sl xid 0 s.length s.length 2), (p11, N6 0)]) (Le.cons (p := p0) rfl rfl (Le.cons (p := p4) rfl rfl (Le.cons (p := p5) rfl rfl (Le.cons (p := p9) rfl rfl (Le.cons (p := p11) rfl rfl Le.nil))))) (Le.refl _) ?_
  refine word_L _ s hs vid xid (vR s) (ptsN s.length) rfl (ptsN_len _) (vR_8 s) (ptsN_8 _) hd s.length 0 _ _ (by omega) hv hvn hx hxn (fun t' h' n' fl2 hf2 hle => ?_) (fun t' h' n' hf2 => ?_)
  · repeat (first | refine blockQ_r ?_ | refine seqQ_r ?_ | refine loopQ_r ?_)
    rw [hf] at hf2; cases hf2
  · skip
    refine blockQ_h rfl ?_
    refine seqQ_n ?_
    refine XK.less (t1 := T.e) Le.nil (Le.refl _) ?_
    refine XK.seq ?_
    refine XK.op S9 rfl ?_
    refine seqQ_n ?_
    refine XK.ret S9 ?_
    exact ⟨_, rfl, rfl⟩

theorem op_sslc4 {t : T X} {a b c : D} {s : List UInt8} {M : Nat} (ha : ev t a = some (.str s)) (hb : ev t b = some (N6 4)) (hc : ev t c = some (N6 M)) (h4 : 4 ≤ M) (hM : M ≤ s.length) : opP (.sslc a (some b) (some c)) t = some (.str ((s.drop 4).take (M - 4))) := by
  show rSslc a (some b) (some c) t = _
  unfold rSslc; rw [ha]
  show (match bnd t (some b) 0, bnd t (some c) s.length with
    | some l, some hh => bif Nat.ble l hh && Nat.ble hh s.length then some (X.str ((s.drop l).take (hh - l))) else none
    | _, _ => none) = _
  rw [show bnd t (some b) 0 = some 4 from by unfold bnd; simp only; rw [hb]; rfl, show bnd t (some c) s.length = some M from by unfold bnd; simp only; rw [hc]; rfl]
  show (bif Nat.ble 4 M && Nat.ble M s.length then some (X.str ((s.drop 4).take (M - 4))) else none) = _
  rw [Nat.ble_eq_true_of_le h4, Nat.ble_eq_true_of_le hM]
  rfl
def bodyS (w : List UInt8) : List UInt8 := (w.drop 4).take (w.length - 6 - 4)

theorem RDecodeA_x (s : List UInt8) (hs : s.length < 10) : XF Tryd.prog eqs9 22 [.str s] .e .z (fun xx _ _ => xx = X.tup [.agg [N6 0, N6 0, N6 0, N6 0, .str []], N6 0, N6 91]) := by
  refine XF.body S9 fk22 rfl ?_
  refine XK.seq ?_
  refine XK.op S9 rfl ?_
  refine seqQ_n ?_
  refine XK.seq ?_
  refine XK.seq ?_
  refine XK.op0' S9 ?_
  refine OG_p rfl ?_
  refine OG_p rfl ?_
  refine OG_p (show opP _ _ = some (X.bool true) from tru (show (s.length : Int) < ((10 : Nat) : Int) by omega)) ?_
  refine OG_p rfl ?_
  refine OG_o (rfl) rfl ?_
  refine OG_o (rfl) rfl ?_
  refine OG_o (rfl) rfl ?_
  refine OG_p rfl ?_
  refine OG_nil ?_
  refine seqQ_n ?_
  refine XK.condT rfl ?_
  refine XK.seq ?_
  refine XK.op S9 rfl ?_
  refine seqQ_n ?_
  refine XK.ret S9 ?_
  refine seqQ_r ?_
  exact ⟨_, rfl, rfl⟩

theorem RDecodeA_c (s : List UInt8) (hs : s.length < 10) : Pure1 eqs9.gs Tryd.prog 22 [.str s] (X.tup [.agg [N6 0, N6 0, N6 0, N6 0, .str []], N6 0, N6 91]) := fun hh nn => (RDecodeA_x s hs).pure rfl rfl hh nn

theorem RDecodeB_x (s : List UInt8) (hs : 42 < s.length) : XF Tryd.prog eqs9 22 [.str s] .e .z (fun xx _ _ => xx = X.tup [.agg [N6 0, N6 0, N6 0, N6 0, .str []], N6 0, N6 91]) := by
  refine XF.body S9 fk22 rfl ?_
  refine XK.seq ?_
  refine XK.op S9 rfl ?_
  refine seqQ_n ?_
  refine XK.seq ?_
  refine XK.seq ?_
  refine XK.op0' S9 ?_
  refine OG_p rfl ?_
  refine OG_p rfl ?_
  refine OG_p (show opP _ _ = some (X.bool false) from fls (show ¬ (s.length : Int) < ((10 : Nat) : Int) by omega)) ?_
  refine OG_p rfl ?_
  refine OG_y (rfl) rfl ?_
  refine OG_y (rfl) rfl ?_
  refine OG_y (rfl) (st_p (show opP _ _ = some (X.bool true) from tru (show ((42 : Nat) : Int) < (s.length : Int) by omega))) ?_
  refine OG_p rfl ?_
  refine OG_nil ?_
  refine seqQ_n ?_
  refine XK.condT rfl ?_
  refine XK.seq ?_
  refine XK.op S9 rfl ?_
  refine seqQ_n ?_
  refine XK.ret S9 ?_
  refine seqQ_r ?_
  exact ⟨_, rfl, rfl⟩

theorem RDecodeB_c (s : List UInt8) (hs : 42 < s.length) : Pure1 eqs9.gs Tryd.prog 22 [.str s] (X.tup [.agg [N6 0, N6 0, N6 0, N6 0, .str []], N6 0, N6 91]) := fun hh nn => (RDecodeB_x s hs).pure rfl rfl hh nn

theorem RDecodeN_x (s : List UInt8) (hs10 : 10 ≤ s.length) (hs : s.length ≤ 42) (cw : Pure1 eqs9.gs Tryd.prog 71 [.str s] (X.tup [.str [], BX false])) : XF Tryd.prog eqs9 22 [.str s] .e .z (fun xx _ _ => xx = X.tup [.agg [N6 0, N6 0, N6 0, N6 0, .str []], N6 0, N6 91]) := by
  refine XF.body S9 fk22 rfl ?_
  refine XK.seq ?_
  refine XK.op S9 rfl ?_
  refine seqQ_n ?_
  refine XK.seq ?_
  refine XK.seq ?_
  refine XK.op0' S9 ?_
  refine OG_p rfl ?_
  refine OG_p rfl ?_
  refine OG_p (show opP _ _ = some (X.bool false) from fls (show ¬ (s.length : Int) < ((10 : Nat) : Int) by omega)) ?_
  refine OG_p rfl ?_
  refine OG_y (rfl) rfl ?_
  refine OG_y (rfl) rfl ?_
  refine OG_y (rfl) (st_p (show opP _ _ = some (X.bool false) from fls (show ¬ ((42 : Nat) : Int) < (s.length : Int) by omega))) ?_
  refine OG_p rfl ?_
  refine OG_nil ?_
  refine seqQ_n ?_
  refine XK.condF rfl ?_
  refine XK.skip S9 ?_
  refine seqQ_n ?_
  refine XK.seq ?_
  refine XK.reg1 S9 (cw) fun call hcl => ?_
  refine OG_p rfl ?_
  refine OG_c rfl (hcl) ?_
  refine OG_p rfl ?_
  refine OG_p rfl ?_
  refine OG_p rfl ?_
  refine OG_p rfl ?_
  refine OG_p rfl ?_
  refine OG_nil ?_
  refine seqQ_n ?_
  refine XK.seq ?_
  refine XK.seq ?_
  refine XK.op S9 rfl ?_
  refine seqQ_n ?_
  refine XK.condT rfl ?_
  refine XK.seq ?_
  refine XK.op S9 rfl ?_
  refine seqQ_n ?_
  refine XK.ret S9 ?_
  refine seqQ_r ?_
  exact ⟨_, rfl, rfl⟩

theorem RDecodeN_c (s : List UInt8) (hs10 : 10 ≤ s.length) (hs : s.length ≤ 42) (cw : Pure1 eqs9.gs Tryd.prog 71 [.str s] (X.tup [.str [], BX false])) : Pure1 eqs9.gs Tryd.prog 22 [.str s] (X.tup [.agg [N6 0, N6 0, N6 0, N6 0, .str []], N6 0, N6 91]) := fun hh nn => (RDecodeN_x s hs10 hs cw).pure rfl rfl hh nn

theorem RDecodeT_x (s w : List UInt8) (hs10 : 10 ≤ s.length) (hs : s.length ≤ 42) (hwl : w.length = s.length) (cw : Pure1 eqs9.gs Tryd.prog 71 [.str s] (X.tup [.str w, BX true])) (b0 b1 b2 b3 : UInt8) (hb0 : w[0]? = some b0) (hb1 : w[1]? = some b1) (hb2 : w[2]? = some b2) (hb3 : w[3]? = some b3) (hok : okF (Int.ofNat b0.toNat) (Int.ofNat b1.toNat) (Int.ofNat b2.toNat) (Int.ofNat b3.toNat) (bodyS w).length = true) : XF Tryd.prog eqs9 22 [.str s] .e .z (fun xx _ _ => xx = X.tup [.agg [N6 b0.toNat, N6 b1.toNat, N6 b2.toNat, N6 b3.toNat, .str (bodyS w)], N6 (apF w s w.length 0 0), N6 0]) := by
  refine XF.body S9 fk22 rfl ?_
  refine XK.seq ?_
  refine XK.op S9 rfl ?_
  refine seqQ_n ?_
  refine XK.seq ?_
  refine XK.seq ?_
  refine XK.op0' S9 ?_
  refine OG_p rfl ?_
  refine OG_p rfl ?_
  refine OG_p (show opP _ _ = some (X.bool false) from fls (show ¬ (s.length : Int) < ((10 : Nat) : Int) by omega)) ?_
  refine OG_p rfl ?_
  refine OG_y (rfl) rfl ?_
  refine OG_y (rfl) rfl ?_
  refine OG_y (rfl) (st_p (show opP _ _ = some (X.bool false) from fls (show ¬ ((42 : Nat) : Int) < (s.length : Int) by omega))) ?_
  refine OG_p rfl ?_
  refine OG_nil ?_
  refine seqQ_n ?_
  refine XK.condF rfl ?_
  refine XK.skip S9 ?_
  refine seqQ_n ?_
  refine XK.seq ?_
  refine XK.reg1 S9 (cw) fun call hcl => ?_
  refine OG_p rfl ?_
  refine OG_c rfl (hcl) ?_
  refine OG_p rfl ?_
  refine OG_p rfl ?_
  refine OG_p rfl ?_
  refine OG_p rfl ?_
  refine OG_p rfl ?_
  refine OG_nil ?_
  refine seqQ_n ?_
  refine XK.seq ?_
  refine XK.seq ?_
  refine XK.op S9 rfl ?_
  refine seqQ_n ?_
  refine XK.condF rfl ?_
  refine XK.skip S9 ?_
  refine seqQ_n ?_
  refine XK.seq ?_
  refine XK.ds0 S9 (HS := [(20, (((T.put T.e .z (.cells [N6 0, N6 0, N6 0, N6 0, .str []])).put (.l .z) (.cells [N6 0, N6 0, N6 0, N6 0, .str []])).put (.l .z) (.cells [N6 b0.toNat, N6 b1.toNat, N6 b2.toNat, N6 b3.toNat, .str (bodyS w)]))), (0, (T.put T.e .z (.cells [N6 0, N6 0, N6 0, N6 0, .str []])))]) ?_
  refine DS_p rfl ?_
  refine DS_p (op_sidx rfl rfl hb0) ?_
  refine DS_p (op_c64 rfl (Nat.lt_trans (UInt8.toNat_lt _) (by omega))) ?_
  refine DS_p rfl ?_
  refine DS_p (op_sidx rfl rfl hb1) ?_
  refine DS_p (op_c64 rfl (Nat.lt_trans (UInt8.toNat_lt _) (by omega))) ?_
  refine DS_p rfl ?_
  refine DS_p (op_sidx rfl rfl hb2) ?_
  refine DS_p (op_c64 rfl (Nat.lt_trans (UInt8.toNat_lt _) (by omega))) ?_
  refine DS_p rfl ?_
  refine DS_p (op_sidx rfl rfl hb3) ?_
  refine DS_p (op_c64 rfl (Nat.lt_trans (UInt8.toNat_lt _) (by omega))) ?_
  refine DS_p rfl ?_
  refine DS_p rfl ?_
  refine DS_p rfl ?_
  refine DS_p (op_sub rfl rfl (by omega) (by omega)) ?_
  refine DS_p (op_sslc4 rfl rfl rfl (by omega) (by omega)) ?_
  refine DS_p rfl ?_
  refine DS_a (rfl) ⟨fun hh => absurd hh (by decide), fun hh => absurd hh (by decide), trivial⟩ ?_
  refine DS_w (op_stA rfl rfl rfl get_at rfl) ?_
  refine DS_nil rfl ?_
  refine seqQ_n ?_
  refine XK.seq ?_
  refine XK.seq ?_
  refine XK.reg1 S9 ((ck_ok hok).2) fun call hcl => ?_
  refine OG_r (op_ldA rfl get_at (lgetL_all rfl)) ?_
  refine OG_c rfl (hcl) ?_
  refine OG_p rfl ?_
  refine OG_nil ?_
  refine seqQ_n ?_
  refine XK.condF rfl ?_
  refine XK.skip S9 ?_
  refine seqQ_n ?_
  refine XK.seq ?_
  refine XK.reg1 S9 (rapartT_c w s (by omega) hwl) fun call hcl => ?_
  refine OG_p rfl ?_
  refine OG_p rfl ?_
  refine OG_c rfl (hcl) ?_
  refine OG_p rfl ?_
  refine OG_p rfl ?_
  refine OG_p rfl ?_
  refine OG_p rfl ?_
  refine OG_p rfl ?_
  refine OG_nil ?_
  refine seqQ_n ?_
  refine XK.seq ?_
  refine XK.op0' S9 ?_
  refine OG_r (op_ldA rfl get_at (lgetL_all rfl)) ?_
  refine OG_p rfl ?_
  refine OG_w (op_stA rfl rfl rfl rfl rfl) ?_
  refine OG_p rfl ?_
  refine OG_p rfl ?_
  refine OG_nil ?_
  refine seqQ_n ?_
  refine XK.ret S9 ?_
  exact ⟨_, rfl, rfl⟩

theorem RDecodeF_x (s w : List UInt8) (hs10 : 10 ≤ s.length) (hs : s.length ≤ 42) (hwl : w.length = s.length) (cw : Pure1 eqs9.gs Tryd.prog 71 [.str s] (X.tup [.str w, BX true])) (b0 b1 b2 b3 : UInt8) (hb0 : w[0]? = some b0) (hb1 : w[1]? = some b1) (hb2 : w[2]? = some b2) (hb3 : w[3]? = some b3) (hok : okF (Int.ofNat b0.toNat) (Int.ofNat b1.toNat) (Int.ofNat b2.toNat) (Int.ofNat b3.toNat) (bodyS w).length = false) : XF Tryd.prog eqs9 22 [.str s] .e .z (fun xx _ _ => xx = X.tup [.agg [N6 0, N6 0, N6 0, N6 0, .str []], N6 0, N6 91]) := by
  refine XF.body S9 fk22 rfl ?_
  refine XK.seq ?_
  refine XK.op S9 rfl ?_
  refine seqQ_n ?_
  refine XK.seq ?_
  refine XK.seq ?_
  refine XK.op0' S9 ?_
  refine OG_p rfl ?_
  refine OG_p rfl ?_
  refine OG_p (show opP _ _ = some (X.bool false) from fls (show ¬ (s.length : Int) < ((10 : Nat) : Int) by omega)) ?_
  refine OG_p rfl ?_
  refine OG_y (rfl) rfl ?_
  refine OG_y (rfl) rfl ?_
  refine OG_y (rfl) (st_p (show opP _ _ = some (X.bool false) from fls (show ¬ ((42 : Nat) : Int) < (s.length : Int) by omega))) ?_
  refine OG_p rfl ?_
  refine OG_nil ?_
  refine seqQ_n ?_
  refine XK.condF rfl ?_
  refine XK.skip S9 ?_
  refine seqQ_n ?_
  refine XK.seq ?_
  refine XK.reg1 S9 (cw) fun call hcl => ?_
  refine OG_p rfl ?_
  refine OG_c rfl (hcl) ?_
  refine OG_p rfl ?_
  refine OG_p rfl ?_
  refine OG_p rfl ?_
  refine OG_p rfl ?_
  refine OG_p rfl ?_
  refine OG_nil ?_
  refine seqQ_n ?_
  refine XK.seq ?_
  refine XK.seq ?_
  refine XK.op S9 rfl ?_
  refine seqQ_n ?_
  refine XK.condF rfl ?_
  refine XK.skip S9 ?_
  refine seqQ_n ?_
  refine XK.seq ?_
  refine XK.ds0 S9 (HS := [(20, (((T.put T.e .z (.cells [N6 0, N6 0, N6 0, N6 0, .str []])).put (.l .z) (.cells [N6 0, N6 0, N6 0, N6 0, .str []])).put (.l .z) (.cells [N6 b0.toNat, N6 b1.toNat, N6 b2.toNat, N6 b3.toNat, .str (bodyS w)]))), (0, (T.put T.e .z (.cells [N6 0, N6 0, N6 0, N6 0, .str []])))]) ?_
  refine DS_p rfl ?_
  refine DS_p (op_sidx rfl rfl hb0) ?_
  refine DS_p (op_c64 rfl (Nat.lt_trans (UInt8.toNat_lt _) (by omega))) ?_
  refine DS_p rfl ?_
  refine DS_p (op_sidx rfl rfl hb1) ?_
  refine DS_p (op_c64 rfl (Nat.lt_trans (UInt8.toNat_lt _) (by omega))) ?_
  refine DS_p rfl ?_
  refine DS_p (op_sidx rfl rfl hb2) ?_
  refine DS_p (op_c64 rfl (Nat.lt_trans (UInt8.toNat_lt _) (by omega))) ?_
  refine DS_p rfl ?_
  refine DS_p (op_sidx rfl rfl hb3) ?_
  refine DS_p (op_c64 rfl (Nat.lt_trans (UInt8.toNat_lt _) (by omega))) ?_
  refine DS_p rfl ?_
  refine DS_p rfl ?_
  refine DS_p rfl ?_
  refine DS_p (op_sub rfl rfl (by omega) (by omega)) ?_
  refine DS_p (op_sslc4 rfl rfl rfl (by omega) (by omega)) ?_
  refine DS_p rfl ?_
  refine DS_a (rfl) ⟨fun hh => absurd hh (by decide), fun hh => absurd hh (by decide), trivial⟩ ?_
  refine DS_w (op_stA rfl rfl rfl get_at rfl) ?_
  refine DS_nil rfl ?_
  refine seqQ_n ?_
  refine XK.seq ?_
  refine XK.seq ?_
  refine XK.reg1 S9 ((ck_no hok).2) fun call hcl => ?_
  refine OG_r (op_ldA rfl get_at (lgetL_all rfl)) ?_
  refine OG_c rfl (hcl) ?_
  refine OG_p rfl ?_
  refine OG_nil ?_
  refine seqQ_n ?_
  refine XK.condT rfl ?_
  refine XK.seq ?_
  refine XK.op0' S9 ?_
  refine OG_p rfl ?_
  refine OG_w (op_stA rfl rfl rfl rfl rfl) ?_
  refine OG_p rfl ?_
  refine OG_p rfl ?_
  refine OG_nil ?_
  refine seqQ_n ?_
  refine XK.ret S9 ?_
  refine seqQ_r ?_
  exact ⟨_, rfl, rfl⟩

end Go.Ex

