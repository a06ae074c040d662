/- Part of the proof: R9C. -/
import Derived.Test.YtnpcmealdfapjaaDoorR9B
set_option linter.unusedVariables false
set_option linter.unusedSimpArgs false
set_option maxRecDepth 20000
namespace Go.Ex
open Go.Proofs
theorem op_sadd {t : T X} {a b : D} {s u : List UInt8} (ha : ev t a = some (.str s)) (hb : ev t b = some (.str u)) (hl : s.length + u.length ≤ 1000000) : opP (.sbin .add a b) t = some (.str (s ++ u)) := by
  show rSbin .add a b t = _
  unfold rSbin; rw [ha, hb]
  show (bif Nat.ble (s.length + u.length) 1000000 then some (X.str (s ++ u)) else none) = _
  rw [Nat.ble_eq_true_of_le hl]; rfl
def hd4 (a b c d : Nat) (w : List UInt8) : List UInt8 := [a, b, c, d].map UInt8.ofNat ++ w
theorem hd4_len (a b c d : Nat) (w : List UInt8) : (hd4 a b c d w).length = 4 + w.length := by simp [hd4]; omega
theorem chkS_len (s : List UInt8) : (chkS s).length = 6 := by unfold chkS; rw [List.length_map]; exact chk_len _ _ rfl
def encS (a b c d : Nat) (w : List UInt8) : List UInt8 := hd4 a b c d w ++ chkS (hd4 a b c d w)
theorem rchecks_p (s : List UInt8) (hs : s.length ≤ 249) : Pure1 eqs9.gs Tryd.prog 16 [.str s] (X.tup [.str (chkS s), N6 0]) := by
  have := RChecksT_c s hs
  rw [ref_chk] at this; exact this
theorem ck_ok {o no pt ps : Int} {w : List UInt8} (h : okF o no pt ps w.length = true) : Pure1 eqs9.gs Tryd.prog 23 [FrX o no pt ps w] (N6 0) ∧ Pure1 eqs9.gs Tryd.prog 24 [FrX o no pt ps w] (N6 0) := by
  have := CheckFrame_both o no pt ps w
  rw [ck_of h] at this; exact this
theorem ck_no {o no pt ps : Int} {w : List UInt8} (h : okF o no pt ps w.length = false) : Pure1 eqs9.gs Tryd.prog 23 [FrX o no pt ps w] (N6 90) ∧ Pure1 eqs9.gs Tryd.prog 24 [FrX o no pt ps w] (N6 90) := by
  have := CheckFrame_both o no pt ps w
  rw [ck_of h] at this; exact this
theorem okF_nat {o no pt ps : Int} {n : Nat} (h : okF o no pt ps n = true) : ∃ a b c d : Nat, o = Int.ofNat a ∧ no = Int.ofNat b ∧ pt = Int.ofNat c ∧ ps = Int.ofNat d ∧ a < 8 ∧ b < 64 ∧ c < 32 ∧ d < 33 ∧ n ≤ 32 := by
  unfold okF at h
  simp only [Bool.and_eq_true, inI_iff] at h
  obtain ⟨h1, h2, h3, h4, h5⟩ := h
  refine ⟨o.toNat, no.toNat, pt.toNat, ps.toNat, by show o = (o.toNat : Int); omega, by show no = (no.toNat : Int); omega, by show pt = (pt.toNat : Int); omega, by show ps = (ps.toNat : Int); omega, by omega, by omega, by omega, by omega, ?_⟩
  split at h5
  · exact of_decide_eq_true h5
  · split at h5
    · have := of_decide_eq_true h5; omega
    · simp at h5; omega

theorem EncodeT_x (a b c d : Nat) (w : List UInt8) (ha : a < 8) (hb : b < 64) (hc : c < 32) (hd : d < 33) (hw : w.length ≤ 32) (hok : okF (Int.ofNat a) (Int.ofNat b) (Int.ofNat c) (Int.ofNat d) w.length = true) : XF Tryd.prog eqs9 19 [FrX (Int.ofNat a) (Int.ofNat b) (Int.ofNat c) (Int.ofNat d) w] .e .z (fun xx _ _ => xx = X.tup [.str (encS a b c d w), N6 0]) := by
  refine XF.body S9 fk19 rfl ?_
  refine XK.seq ?_
  refine XK.op S9 rfl ?_
  refine seqQ_n ?_
  refine XK.seq ?_
  refine XK.seq ?_
  refine XK.reg1 S9 ((ck_ok hok).1) fun call hcl => ?_
  refine OG_r rfl ?_
  refine OG_c rfl hcl ?_
  refine OG_p rfl ?_
  refine OG_nil ?_
  refine seqQ_n ?_
  refine XK.seq ?_
  refine XK.op S9 rfl ?_
  refine seqQ_n ?_
  refine XK.condF rfl ?_
  refine XK.skip S9 ?_
  refine seqQ_n ?_
  refine XK.seq ?_
  refine XK.op0' S9 ?_
  refine OG_p rfl ?_
  refine OG_r rfl ?_
  refine OG_p (op_c8 rfl (by omega)) ?_
  refine OG_p rfl ?_
  refine OG_r rfl ?_
  refine OG_p (op_c8 rfl (by omega)) ?_
  refine OG_p rfl ?_
  refine OG_r rfl ?_
  refine OG_p (op_c8 rfl (by omega)) ?_
  refine OG_p rfl ?_
  refine OG_r rfl ?_
  refine OG_p (op_c8 rfl (by omega)) ?_
  refine OG_a rfl ?_
  refine OG_r rfl ?_
  refine OG_p rfl ?_
  refine OG_r rfl ?_
  refine OG_p (op_sadd (s := [a, b, c, d].map UInt8.ofNat) rfl rfl (by simp; omega)) ?_
  refine OG_p rfl ?_
  refine OG_nil ?_
  refine seqQ_n ?_
  refine XK.seq ?_
  refine XK.reg1 S9 (checks_c (hd4 a b c d w) (by rw [hd4_len]; omega)) fun call hcl => ?_
  refine OG_p rfl ?_
  refine OG_p rfl ?_
  refine OG_c rfl hcl ?_
  refine OG_p (op_sadd (s := hd4 a b c d w) rfl rfl (by rw [hd4_len, chkS_len]; omega)) ?_
  refine OG_p rfl ?_
  refine OG_p rfl ?_
  refine OG_nil ?_
  refine seqQ_n ?_
  refine XK.ret S9 ?_
  exact ⟨_, rfl, rfl⟩

theorem EncodeT_c (a b c d : Nat) (w : List UInt8) (ha : a < 8) (hb : b < 64) (hc : c < 32) (hd : d < 33) (hw : w.length ≤ 32) (hok : okF (Int.ofNat a) (Int.ofNat b) (Int.ofNat c) (Int.ofNat d) w.length = true) : Pure1 eqs9.gs Tryd.prog 19 [FrX (Int.ofNat a) (Int.ofNat b) (Int.ofNat c) (Int.ofNat d) w] (X.tup [.str (encS a b c d w), N6 0]) := fun hh nn => (EncodeT_x a b c d w ha hb hc hd hw hok).pure rfl rfl hh nn

theorem EncodeF_x (o no pt ps : Int) (w : List UInt8) (hok : okF o no pt ps w.length = false) : XF Tryd.prog eqs9 19 [FrX o no pt ps w] .e .z (fun xx _ _ => xx = X.tup [.str [], N6 90]) := by
  refine XF.body S9 fk19 rfl ?_
  refine XK.seq ?_
  refine XK.op S9 rfl ?_
  refine seqQ_n ?_
  refine XK.seq ?_
  refine XK.seq ?_
  refine XK.reg1 S9 ((ck_no hok).1) fun call hcl => ?_
  refine OG_r rfl ?_
  refine OG_c rfl hcl ?_
  refine OG_p rfl ?_
  refine OG_nil ?_
  refine seqQ_n ?_
  refine XK.seq ?_
  refine XK.op S9 rfl ?_
  refine seqQ_n ?_
  refine XK.condT rfl ?_
  refine XK.seq ?_
  refine XK.op S9 rfl ?_
  refine seqQ_n ?_
  refine XK.ret S9 ?_
  refine seqQ_r ?_
  exact ⟨_, rfl, rfl⟩

theorem EncodeF_c (o no pt ps : Int) (w : List UInt8) (hok : okF o no pt ps w.length = false) : Pure1 eqs9.gs Tryd.prog 19 [FrX o no pt ps w] (X.tup [.str [], N6 90]) := fun hh nn => (EncodeF_x o no pt ps w hok).pure rfl rfl hh nn

theorem rencode_x (a b c d : Nat) (w : List UInt8) (ha : a < 8) (hb : b < 64) (hc : c < 32) (hd : d < 33) (hw : w.length ≤ 32) : XF Tryd.prog eqs9 68 [FrX (Int.ofNat a) (Int.ofNat b) (Int.ofNat c) (Int.ofNat d) w] .e .z (fun xx _ _ => xx = .str (encS a b c d w)) := by
  refine XF.body S9 fk68 rfl ?_
  refine XK.seq ?_
  refine XK.op S9 rfl ?_
  refine seqQ_n ?_
  refine XK.seq ?_
  refine XK.op0' S9 ?_
  refine OG_p rfl ?_
  refine OG_r rfl ?_
  refine OG_p (op_c8 rfl (by omega)) ?_
  refine OG_p rfl ?_
  refine OG_r rfl ?_
  refine OG_p (op_c8 rfl (by omega)) ?_
  refine OG_p rfl ?_
  refine OG_r rfl ?_
  refine OG_p (op_c8 rfl (by omega)) ?_
  refine OG_p rfl ?_
  refine OG_r rfl ?_
  refine OG_p (op_c8 rfl (by omega)) ?_
  refine OG_a rfl ?_
  refine OG_r rfl ?_
  refine OG_p rfl ?_
  refine OG_r rfl ?_
  refine OG_p (op_sadd (s := [a, b, c, d].map UInt8.ofNat) rfl rfl (by simp; omega)) ?_
  refine OG_p rfl ?_
  refine OG_nil ?_
  refine seqQ_n ?_
  refine XK.seq ?_
  refine XK.reg1 S9 (rchecks_p (hd4 a b c d w) (by rw [hd4_len]; omega)) fun call hcl => ?_
  refine OG_p rfl ?_
  refine OG_c rfl hcl ?_
  refine OG_p rfl ?_
  refine OG_p rfl ?_
  refine OG_p rfl ?_
  refine OG_p rfl ?_
  refine OG_p rfl ?_
  refine OG_nil ?_
  refine seqQ_n ?_
  refine XK.seq ?_
  refine XK.op0' S9 ?_
  refine OG_p rfl ?_
  refine OG_p rfl ?_
  refine OG_p (op_sadd (s := hd4 a b c d w) rfl rfl (by rw [hd4_len, chkS_len]; omega)) ?_
  refine OG_p rfl ?_
  refine OG_nil ?_
  refine seqQ_n ?_
  refine XK.ret S9 ?_
  exact ⟨_, rfl, rfl⟩

theorem rencode_c (a b c d : Nat) (w : List UInt8) (ha : a < 8) (hb : b < 64) (hc : c < 32) (hd : d < 33) (hw : w.length ≤ 32) : Pure1 eqs9.gs Tryd.prog 68 [FrX (Int.ofNat a) (Int.ofNat b) (Int.ofNat c) (Int.ofNat d) w] (.str (encS a b c d w)) := fun hh nn => (rencode_x a b c d w ha hb hc hd hw).pure rfl rfl hh nn

theorem REncodeT_x (a b c d : Nat) (w : List UInt8) (ha : a < 8) (hb : b < 64) (hc : c < 32) (hd : d < 33) (hw : w.length ≤ 32) (hok : okF (Int.ofNat a) (Int.ofNat b) (Int.ofNat c) (Int.ofNat d) w.length = true) : XF Tryd.prog eqs9 20 [FrX (Int.ofNat a) (Int.ofNat b) (Int.ofNat c) (Int.ofNat d) w] .e .z (fun xx _ _ => xx = X.tup [.str (encS a b c d w), N6 0]) := by
  refine XF.body S9 fk20 rfl ?_
  refine XK.seq ?_
  refine XK.op S9 rfl ?_
  refine seqQ_n ?_
  refine XK.seq ?_
  refine XK.seq ?_
  refine XK.reg1 S9 ((ck_ok hok).2) fun call hcl => ?_
  refine OG_r rfl ?_
  refine OG_c rfl hcl ?_
  refine OG_p rfl ?_
  refine OG_nil ?_
  refine seqQ_n ?_
  refine XK.condF rfl ?_
  refine XK.skip S9 ?_
  refine seqQ_n ?_
  refine XK.seq ?_
  refine XK.reg1 S9 (rencode_c a b c d w ha hb hc hd hw) fun call hcl => ?_
  refine OG_r rfl ?_
  refine OG_c rfl hcl ?_
  refine OG_p rfl ?_
  refine OG_p rfl ?_
  refine OG_nil ?_
  refine seqQ_n ?_
  refine XK.ret S9 ?_
  exact ⟨_, rfl, rfl⟩

theorem REncodeT_c (a b c d : Nat) (w : List UInt8) (ha : a < 8) (hb : b < 64) (hc : c < 32) (hd : d < 33) (hw : w.length ≤ 32) (hok : okF (Int.ofNat a) (Int.ofNat b) (Int.ofNat c) (Int.ofNat d) w.length = true) : Pure1 eqs9.gs Tryd.prog 20 [FrX (Int.ofNat a) (Int.ofNat b) (Int.ofNat c) (Int.ofNat d) w] (X.tup [.str (encS a b c d w), N6 0]) := fun hh nn => (REncodeT_x a b c d w ha hb hc hd hw hok).pure rfl rfl hh nn

theorem REncodeF_x (o no pt ps : Int) (w : List UInt8) (hok : okF o no pt ps w.length = false) : XF Tryd.prog eqs9 20 [FrX o no pt ps w] .e .z (fun xx _ _ => xx = X.tup [.str [], N6 90]) := by
  refine XF.body S9 fk20 rfl ?_
  refine XK.seq ?_
  refine XK.op S9 rfl ?_
  refine seqQ_n ?_
  refine XK.seq ?_
  refine XK.seq ?_
  refine XK.reg1 S9 ((ck_no hok).2) fun call hcl => ?_
  refine OG_r rfl ?_
  refine OG_c rfl hcl ?_
  refine OG_p rfl ?_
  refine OG_nil ?_
  refine seqQ_n ?_
  refine XK.condT rfl ?_
  refine XK.seq ?_
  refine XK.op S9 rfl ?_
  refine seqQ_n ?_
  refine XK.ret S9 ?_
  refine seqQ_r ?_
  exact ⟨_, rfl, rfl⟩

theorem REncodeF_c (o no pt ps : Int) (w : List UInt8) (hok : okF o no pt ps w.length = false) : Pure1 eqs9.gs Tryd.prog 20 [FrX o no pt ps w] (X.tup [.str [], N6 90]) := fun hh nn => (REncodeF_x o no pt ps w hok).pure rfl rfl hh nn

theorem Encode_both (o no pt ps : Int) (w : List UInt8) : ∃ (u : List UInt8) (e : Nat), Pure1 eqs9.gs Tryd.prog 19 [FrX o no pt ps w] (X.tup [.str u, N6 e]) ∧ Pure1 eqs9.gs Tryd.prog 20 [FrX o no pt ps w] (X.tup [.str u, N6 e]) := by
  cases hok : okF o no pt ps w.length with
  | false => exact ⟨[], 90, EncodeF_c o no pt ps w hok, REncodeF_c o no pt ps w hok⟩
  | true =>
    obtain ⟨a, b, c, d, rfl, rfl, rfl, rfl, ha, hb, hc, hd, hw⟩ := okF_nat hok
    exact ⟨_, 0, EncodeT_c a b c d w ha hb hc hd hw hok, REncodeT_c a b c d w ha hb hc hd hw hok⟩

end Go.Ex

