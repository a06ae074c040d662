/- Part of the proof: R9F. -/
import Derived.Test.YtnpcmealdfapjaaDoorR9E
set_option linter.unusedVariables false
set_option linter.unusedSimpArgs false
set_option maxRecDepth 20000
namespace Go.Ex
open Go.Proofs
def vinF : Nat → Nat → Nat → List Nat → List Nat
  | 0, _, _, l => l
  | k + 1, j, b, l => vinF k (j + 1) b (l.set j (pr (l.getD j 0) (pw j) ^^^ b))
def valF : List UInt8 → List Nat → List Nat
  | [], r => r
  | b :: s, r => valF s (vinF 6 0 b.toNat r)
noncomputable def HV (l : List Nat) : H := T.put (T.put T.e .z (.cells [B8 0, B8 0, B8 0, B8 0, B8 0, B8 0])) (.l .z) (.cells (l.map B8))
theorem vinF_len : ∀ (k j b : Nat) (l : List Nat), (vinF k j b l).length = l.length := by
  intro k
  induction k with
  | zero => intro j b l; rfl
  | succ k ih => intro j b l; show (vinF k _ _ _).length = _; rw [ih, List.length_set]
theorem vinF_8 : ∀ (k j b : Nat) (l : List Nat), b < 256 → all8 l → all8 (vinF k j b l) := by
  intro k
  induction k with
  | zero => intro j b l _ h; exact h
  | succ k ih => intro j b l hb h; exact ih _ _ _ hb (all8_set h (xor_lt (pr_lt _ _ (h j)) hb))
theorem valF_len : ∀ (s : List UInt8) (r : List Nat), (valF s r).length = r.length := by
  intro s
  induction s with
  | nil => intro r; rfl
  | cons b s ih => intro r; show (valF s _).length = _; rw [ih, vinF_len]
theorem valF_8 : ∀ (s : List UInt8) (r : List Nat), all8 r → all8 (valF s r) := by
  intro s
  induction s with
  | nil => intro r h; exact h
  | cons b s ih => intro r h; exact ih _ (vinF_8 _ _ _ _ b.toNat_lt h)
theorem stV {t : T X} {a b : D} {l : List Nat} {j v : Nat} {call : CallT} {n : Pt} (ha : ev t a = some (.ptr (.l .z) (0 + j * 1))) (hb : ev t b = some (B8 v)) (hj : j < l.length) : opW (.store 1 a b) call t (HV l) n = some (.tup [], HV (l.set j v), n) :=
  op_st_map (F := B8) (h := HV l) (fun _ => rfl) ha hb rfl hj
theorem six {l : List Nat} (h : l.length = 6) : ∃ r0 r1 r2 r3 r4 r5, l = [r0, r1, r2, r3, r4, r5] := by
  match l, h with
  | [r0, r1, r2, r3, r4, r5], _ => exact ⟨r0, r1, r2, r3, r4, r5, rfl⟩

theorem valI_L (Q : E → T X → H → Pt → Prop) (s : List UInt8) (i : Nat) (b1 : UInt8) (hb1 : s[i]? = some b1) : ∀ (k j : Nat) (l : List Nat) (n : Pt), j + k = 6 → l.length = 6 → all8 l → (∀ t' n', Le (ofPL [(p0, .str s), (p2, .ptr .z 0), (p3, .ptr (.l .z) 0), (p8, N6 s.length), (p9, N6 i)]) t' → Q (.exit 2) t' (HV (vinF k j b1.toNat l)) n') →
    XL Tryd.prog eqs9 31 k100L1 (ofPL [(p0, .str s), (p2, .ptr .z 0), (p3, .ptr (.l .z) 0), (p4, N6 i), (p8, N6 s.length), (p9, N6 i), (p5, B8 (pw (j))), (p12, N6 (j))]) (HV l) n Q := by
  intro k
  induction k with
  | zero =>
    intro j l n hj h6 hl hQ
    refine XL.body ?_
    refine XK.seq ?_
    refine XK.op0' S9 ?_
    refine OG_p (op_nlt rfl rfl (by omega)) ?_
    refine OG_nil ?_
    refine seqQ_n ?_
    refine XK.seq ?_
    refine XK.condF rfl ?_
    refine XK.exit S9 ?_
    refine seqQ_x ?_
    refine loopQ_x ?_
    exact hQ _ _ (Le.cons (p := p0) rfl rfl (Le.cons (p := p2) rfl rfl (Le.cons (p := p3) rfl rfl (Le.cons (p := p8) rfl rfl (Le.cons (p := p9) rfl rfl Le.nil)))))
  | succ k ih =>
    intro j l n hj h6 hl hQ
    refine XL.body ?_
    refine XK.seq ?_
    refine XK.op0' S9 ?_
    refine OG_p (op_lt rfl rfl (by omega)) ?_
    refine OG_nil ?_
    refine seqQ_n ?_
    refine XK.seq ?_
    refine XK.condT rfl ?_
    refine XK.skip S9 ?_
    refine seqQ_n ?_
    refine XK.seq ?_
    refine XK.block ?_
    refine XK.seq ?_
    refine XK.op S9 rfl ?_
    refine seqQ_n ?_
    refine XK.seq ?_
    refine XK.ds1 S9 (HS := [(12, HV (l.set j (pr (l.getD j 0) (pw j) ^^^ b1.toNat))), (6, HV l), (0, HV l)]) (product_c (l.getD j 0) (pw j) (hl j) (pw_lt j)) fun call hcl => ?_
    refine DS_p rfl ?_
    refine DS_p rfl ?_
    refine DS_p (op_iaA rfl rfl (by omega)) ?_
    refine DS_r (op_ld rfl rfl (map_at0 (by omega))) ⟨fun hh => absurd hh (by decide), fun hh => absurd hh (by decide), fun hh => absurd hh (by decide), trivial⟩ ?_
    refine DS_p rfl ?_
    refine DS_c rfl hcl ?_
    refine DS_p rfl ?_
    refine DS_p rfl ?_
    refine DS_p (op_sidx rfl rfl hb1) ?_
    refine DS_p (op_x8 rfl rfl (pr_lt _ _ (hl j)) b1.toNat_lt) ?_
    refine DS_p (op_iaA rfl rfl (by omega)) ?_
    refine DS_w (stV rfl rfl (by omega)) ?_
    refine DS_nil rfl ?_
    refine seqQ_n ?_
    refine XK.reg1 S9 (twice_c (pw j) (pw_lt j)) fun call hcl => ?_
    refine OG_p rfl ?_
    refine OG_c rfl hcl ?_
    refine OG_p rfl ?_
    refine OG_nil ?_
    refine blockQ_n ?_
    refine seqQ_n ?_
    refine XK.op0' S9 ?_
    refine OG_p (op_add rfl rfl (by omega)) ?_
    refine OG_p rfl ?_
    refine OG_nil ?_
    refine loopQ_n ?_
    refine XL.less (t1 := ofPL [(p0, .str s), (p2, .ptr .z 0), (p3, .ptr (.l .z) 0), (p4, N6 i), (p8, N6 s.length), (p9, N6 i), (p5, B8 (pw (j + 1))), (p12, N6 (j + 1))]) (Le.cons (p := p0) rfl rfl (Le.cons (p := p2) rfl rfl (Le.cons (p := p3) rfl rfl (Le.cons (p := p4) rfl rfl (Le.cons (p := p8) rfl rfl (Le.cons (p := p9) rfl rfl (Le.cons (p := p5) rfl rfl (Le.cons (p := p12) rfl rfl Le.nil)))))))) (Le.refl _) ?_
    exact ih (j + 1) _ _ (by omega) (by rw [List.length_set]; exact h6) (all8_set hl (xor_lt (pr_lt _ _ (hl j)) b1.toNat_lt)) hQ

theorem val_L (Q : E → T X → H → Pt → Prop) (s : List UInt8) (hs : s.length ≤ 300) : ∀ (k i : Nat) (r : List Nat) (n : Pt), i + k = s.length → r.length = 6 → all8 r → (∀ t' n', Le (ofPL [(p2, .ptr .z 0), (p3, .ptr (.l .z) 0)]) t' → Q (.exit 0) t' (HV (valF (s.drop i) r)) n') →
    XL Tryd.prog eqs9 31 k100L0 (ofPL [(p0, .str s), (p2, .ptr .z 0), (p3, .ptr (.l .z) 0), (p8, N6 s.length), (p9, N6 (i))]) (HV r) n Q := by
  intro k
  induction k with
  | zero =>
    intro i r n hi h6 hr hQ
    rw [List.drop_eq_nil_of_le (by omega)] at hQ
    refine XL.body ?_
    refine XK.seq ?_
    refine XK.op0' S9 ?_
    refine OG_p (op_nlt rfl rfl (by omega)) ?_
    refine OG_nil ?_
    refine seqQ_n ?_
    refine XK.seq ?_
    refine XK.condF rfl ?_
    refine XK.exit S9 ?_
    refine seqQ_x ?_
    refine loopQ_x ?_
    exact hQ _ _ (Le.cons (p := p2) rfl rfl (Le.cons (p := p3) rfl rfl Le.nil))
  | succ k ih =>
    intro i r n hi h6 hr hQ
    obtain ⟨b1, hb1⟩ := at_some (s := s) (i := i) (by omega)
    have hd : s.drop i = b1 :: s.drop (i + 1) := by
      have hlt : i < s.length := by omega
      have hb2 := hb1
      rw [List.getElem?_eq_getElem hlt] at hb2
      rw [List.drop_eq_getElem_cons hlt, Option.some.inj hb2]
    rw [hd] at hQ
    refine XL.body ?_
    refine XK.seq ?_
    refine XK.op0' S9 ?_
    refine OG_p (op_lt rfl rfl (by omega)) ?_
    refine OG_nil ?_
    refine seqQ_n ?_
    refine XK.seq ?_
    refine XK.condT rfl ?_
    refine XK.skip S9 ?_
    refine seqQ_n ?_
    refine XK.seq ?_
    refine XK.block ?_
    refine XK.seq ?_
    refine XK.op S9 rfl ?_
    refine seqQ_n ?_
    refine XK.seq ?_
    refine XK.op S9 rfl ?_
    refine seqQ_n ?_
    refine XK.seq ?_
    refine XK.op S9 rfl ?_
    refine seqQ_n ?_
    refine XK.block ?_
    refine XK.loop ?_
    refine XL.less (t1 := ofPL [(p0, .str s), (p2, .ptr .z 0), (p3, .ptr (.l .z) 0), (p4, N6 i), (p8, N6 s.length), (p9, N6 i), (p5, B8 (pw (0))), (p12, N6 (0))]) (Le.cons (p := p0) rfl rfl (Le.cons (p := p2) rfl rfl (Le.cons (p := p3) rfl rfl (Le.cons (p := p4) rfl rfl (Le.cons (p := p8) rfl rfl (Le.cons (p := p9) rfl rfl (Le.cons (p := p5) rfl rfl (Le.cons (p := p12) rfl rfl Le.nil)))))))) (Le.refl _) ?_
    refine valI_L _ s i b1 hb1 6 0 r _ rfl h6 hr (fun t' n' hle => ?_)
    refine blockQ_h rfl ?_
    refine blockQ_n ?_
    refine seqQ_n ?_
    refine XK.less hle (Le.refl _) ?_
    refine XK.op0' S9 ?_
    refine OG_p (op_add rfl rfl (by omega)) ?_
    refine OG_p rfl ?_
    refine OG_nil ?_
    refine loopQ_n ?_
    refine XL.less (t1 := ofPL [(p0, .str s), (p2, .ptr .z 0), (p3, .ptr (.l .z) 0), (p8, N6 s.length), (p9, N6 (i + 1))]) (Le.cons (p := p0) rfl rfl (Le.cons (p := p2) rfl rfl (Le.cons (p := p3) rfl rfl (Le.cons (p := p8) rfl rfl (Le.cons (p := p9) rfl rfl Le.nil))))) (Le.refl _) ?_
    exact ih (i + 1) _ _ (by omega) (by rw [vinF_len]; exact h6) (vinF_8 _ _ _ _ b1.toNat_lt hr) fun t' n' hle => hQ t' n' hle

def z6 : List Nat := [0, 0, 0, 0, 0, 0]
def valS (s : List UInt8) : List Nat := valF s z6
theorem valS_len (s : List UInt8) : (valS s).length = 6 := valF_len s z6
theorem valS_8 (s : List UInt8) : all8 (valS s) := valF_8 s z6 all8z

theorem values_x (s : List UInt8) (hs : s.length ≤ 300) : XF Tryd.prog eqs9 100 [.str s] .e .z (fun xx _ _ => xx = .agg ((valS s).map B8)) := by
  refine XF.body S9 fk100 rfl ?_
  refine XK.seq ?_
  refine XK.op S9 rfl ?_
  refine seqQ_n ?_
  refine XK.seq ?_
  refine XK.op S9 rfl ?_
  refine seqQ_n ?_
  refine XK.seq ?_
  refine XK.seq ?_
  refine XK.op S9 rfl ?_
  refine seqQ_n ?_
  refine XK.block ?_
  refine XK.loop ?_
  refine XL.less (t1 := ofPL [(p0, .str s), (p2, .ptr .z 0), (p3, .ptr (.l .z) 0), (p8, N6 s.length), (p9, N6 0)]) (Le.cons (p := p0) rfl rfl (Le.cons (p := p2) rfl rfl (Le.cons (p := p3) rfl rfl (Le.cons (p := p8) rfl rfl (Le.cons (p := p9) rfl rfl Le.nil))))) (show Le (HV z6) _ from Le.refl _) ?_
  refine val_L _ s hs s.length 0 z6 _ (by omega) rfl all8z (fun t' n' hle => ?_)
  obtain ⟨r0, r1, r2, r3, r4, r5, hr⟩ := six (valS_len s)
  rw [show valF (s.drop 0) z6 = [r0, r1, r2, r3, r4, r5] from hr]
  refine blockQ_h rfl ?_
  refine seqQ_n ?_
  refine XK.less hle (Le.refl _) ?_
  refine XK.seq ?_
  refine XK.op S9 rfl ?_
  refine seqQ_n ?_
  refine XK.ret S9 ?_
  exact ⟨_, rfl, by rw [hr]; rfl⟩

theorem noF_map (l : List Nat) : idsL noF (l.map B8) = true := by
  induction l with
  | nil => rfl
  | cons a l ih => show (idsX noF (B8 a) && idsL noF (l.map B8)) = true; rw [ih]; rfl
theorem values_c (s : List UInt8) (hs : s.length ≤ 300) : Pure1 eqs9.gs Tryd.prog 100 [.str s] (.agg ((valS s).map B8)) := fun hh nn => (values_x s hs).pure rfl (noF_map _) hh nn

theorem pow_L (Q : E → T X → H → Pt → Prop) (j : Nat) (hj : j ≤ 300) : ∀ (k i : Nat) (n : Pt), i + k = j → (∀ t' n', Le (ofPL [(p3, N6 (pw j))]) t' → Q (.exit 0) t' .e n') →
    XL Tryd.prog eqs9 13 k99L0 (ofPL [(p0, N6 j), (p3, N6 (pw (i))), (p4, N6 (i))]) .e n Q := by
  intro k
  induction k with
  | zero =>
    intro i n hi hQ
    refine XL.body ?_
    refine XK.seq ?_
    refine XK.seq ?_
    refine XK.op0' S9 ?_
    refine OG_p rfl ?_
    refine OG_p rfl ?_
    refine OG_p (op_nlt rfl rfl (by omega)) ?_
    refine OG_nil ?_
    refine seqQ_n ?_
    refine XK.condF rfl ?_
    refine XK.exit S9 ?_
    refine seqQ_x ?_
    refine loopQ_x ?_
    exact hQ _ _ (Le.cons (p := p3) rfl (by rw [show i = j by omega]) Le.nil)
  | succ k ih =>
    intro i n hi hQ
    refine XL.body ?_
    refine XK.seq ?_
    refine XK.seq ?_
    refine XK.op0' S9 ?_
    refine OG_p rfl ?_
    refine OG_p rfl ?_
    refine OG_p (op_lt rfl rfl (by omega)) ?_
    refine OG_nil ?_
    refine seqQ_n ?_
    refine XK.condT rfl ?_
    refine XK.skip S9 ?_
    refine seqQ_n ?_
    refine XK.seq ?_
    refine XK.block ?_
    refine XK.reg1 S9 (rtimes_p (pw i) 2 (pw_lt i) (by omega)) fun call hcl => ?_
    refine OG_p rfl ?_
    refine OG_c rfl hcl ?_
    refine OG_p rfl ?_
    refine OG_nil ?_
    refine blockQ_n ?_
    refine seqQ_n ?_
    refine XK.op0' S9 ?_
    refine OG_p rfl ?_
    refine OG_p (op_add rfl rfl (by omega)) ?_
    refine OG_p rfl ?_
    refine OG_nil ?_
    refine loopQ_n ?_
    refine XL.less (t1 := ofPL [(p0, N6 j), (p3, N6 (pw (i + 1))), (p4, N6 (i + 1))]) (Le.cons (p := p0) rfl rfl (Le.cons (p := p3) rfl (congrArg N6 (tw_pr (pw_lt i)).symm) (Le.cons (p := p4) rfl rfl Le.nil))) (Le.refl _) ?_
    exact ih (i + 1) _ (by omega) hQ

theorem power_x (j : Nat) (hj : j ≤ 300) : XF Tryd.prog eqs9 99 [N6 j] .e .z (fun xx _ _ => xx = N6 (pw j)) := by
  refine XF.body S9 fk99 rfl ?_
  refine XK.seq ?_
  refine XK.op S9 rfl ?_
  refine seqQ_n ?_
  refine XK.seq ?_
  refine XK.op S9 rfl ?_
  refine seqQ_n ?_
  refine XK.seq ?_
  refine XK.seq ?_
  refine XK.op S9 rfl ?_
  refine seqQ_n ?_
  refine XK.block ?_
  refine XK.loop ?_
  refine XL.less (t1 := ofPL [(p0, N6 j), (p3, N6 (pw (0))), (p4, N6 (0))]) (Le.cons (p := p0) rfl rfl (Le.cons (p := p3) rfl rfl (Le.cons (p := p4) rfl rfl Le.nil))) (Le.refl _) ?_
  refine pow_L _ j hj j 0 _ (by omega) (fun t' n' hle => ?_)
  refine blockQ_h rfl ?_
  refine seqQ_n ?_
  refine XK.less hle (Le.refl _) ?_
  refine XK.seq ?_
  refine XK.op S9 rfl ?_
  refine seqQ_n ?_
  refine XK.ret S9 ?_
  exact ⟨_, rfl, rfl⟩

theorem power_c (j : Nat) (hj : j ≤ 300) : Pure1 eqs9.gs Tryd.prog 99 [N6 j] (N6 (pw j)) := fun hh nn => (power_x j hj).pure rfl rfl hh nn

def hvF (a : Nat) : List UInt8 → Nat → Nat
  | [], m => m
  | b :: s, m => hvF a s (pr m a ^^^ b.toNat)
theorem hvF_lt (a : Nat) : ∀ (s : List UInt8) (m : Nat), m < 256 → hvF a s m < 256 := by
  intro s
  induction s with
  | nil => intro m h; exact h
  | cons b s ih => intro m h; exact ih _ (xor_lt (pr_lt _ _ h) b.toNat_lt)
theorem drop_cons {s : List UInt8} {i : Nat} {b1 : UInt8} (hb1 : s[i]? = some b1) : s.drop i = b1 :: s.drop (i + 1) := by
  obtain ⟨hlt, hb2⟩ := List.getElem?_eq_some_iff.1 hb1
  rw [List.drop_eq_getElem_cons hlt, hb2]

theorem hv_L (Q : E → T X → H → Pt → Prop) (s : List UInt8) (a : Nat) (ha : a < 256) (hs : s.length ≤ 300) : ∀ (k i m : Nat) (n : Pt), i + k = s.length → m < 256 → (∀ t' n', Le (ofPL [(p5, N6 (hvF a (s.drop i) m))]) t' → Q (.exit 0) t' .e n') →
    XL Tryd.prog eqs9 22 k104L0 (ofPL [(p0, .str s), (p1, N6 a), (p5, N6 (m)), (p6, N6 (i))]) .e n Q := by
  intro k
  induction k with
  | zero =>
    intro i m n hi hm hQ
    rw [List.drop_eq_nil_of_le (by omega)] at hQ
    refine XL.body ?_
    refine XK.seq ?_
    refine XK.seq ?_
    refine XK.op0' S9 ?_
    refine OG_p rfl ?_
    refine OG_p rfl ?_
    refine OG_p rfl ?_
    refine OG_p (op_nlt rfl rfl (by omega)) ?_
    refine OG_nil ?_
    refine seqQ_n ?_
    refine XK.condF rfl ?_
    refine XK.exit S9 ?_
    refine seqQ_x ?_
    refine loopQ_x ?_
    exact hQ _ _ (Le.cons (p := p5) rfl rfl Le.nil)
  | succ k ih =>
    intro i m n hi hm hQ
    obtain ⟨b1, hb1⟩ := at_some (s := s) (i := i) (by omega)
    rw [drop_cons hb1] at hQ
    refine XL.body ?_
    refine XK.seq ?_
    refine XK.seq ?_
    refine XK.op0' S9 ?_
    refine OG_p rfl ?_
    refine OG_p rfl ?_
    refine OG_p rfl ?_
    refine OG_p (op_lt rfl rfl (by omega)) ?_
    refine OG_nil ?_
    refine seqQ_n ?_
    refine XK.condT rfl ?_
    refine XK.skip S9 ?_
    refine seqQ_n ?_
    refine XK.seq ?_
    refine XK.block ?_
    refine XK.dr1 S9 (rtimes_p m a hm ha) fun call hcl => ?_
    refine SG_p rfl ?_
    refine SG_p rfl ?_
    refine SG_c rfl hcl ?_
    refine SG_p rfl ?_
    refine SG_p rfl ?_
    refine SG_p (op_sidx rfl rfl hb1) ?_
    refine SG_p (op_c64 rfl (Nat.lt_trans b1.toNat_lt (by omega))) ?_
    refine SG_p (op_xor rfl rfl (Nat.lt_trans (pr_lt _ _ hm) (by omega)) (Nat.lt_trans b1.toNat_lt (by omega))) ?_
    refine SG_p rfl ?_
    refine SG_nil ?_
    refine blockQ_n ?_
    refine seqQ_n ?_
    refine XK.op0' S9 ?_
    refine OG_p rfl ?_
    refine OG_p (op_add rfl rfl (by omega)) ?_
    refine OG_p rfl ?_
    refine OG_nil ?_
    refine loopQ_n ?_
    refine XL.less (t1 := ofPL [(p0, .str s), (p1, N6 a), (p5, N6 (pr m a ^^^ b1.toNat)), (p6, N6 (i + 1))]) (Le.cons (p := p0) rfl rfl (Le.cons (p := p1) rfl rfl (Le.cons (p := p5) rfl rfl (Le.cons (p := p6) rfl rfl Le.nil)))) (Le.refl _) ?_
    exact ih (i + 1) _ _ (by omega) (xor_lt (pr_lt _ _ hm) b1.toNat_lt) hQ

theorem Value_x (s : List UInt8) (a : Nat) (ha : a < 256) (hs : s.length ≤ 300) : XF Tryd.prog eqs9 104 [.str s, N6 a] .e .z (fun xx _ _ => xx = N6 (hvF a s 0)) := by
  refine XF.body S9 fk104 rfl ?_
  refine XK.seq ?_
  refine XK.op S9 rfl ?_
  refine seqQ_n ?_
  refine XK.seq ?_
  refine XK.op S9 rfl ?_
  refine seqQ_n ?_
  refine XK.seq ?_
  refine XK.seq ?_
  refine XK.op S9 rfl ?_
  refine seqQ_n ?_
  refine XK.block ?_
  refine XK.loop ?_
  refine XL.less (t1 := ofPL [(p0, .str s), (p1, N6 a), (p5, N6 (0)), (p6, N6 (0))]) (Le.cons (p := p0) rfl rfl (Le.cons (p := p1) rfl rfl (Le.cons (p := p5) rfl rfl (Le.cons (p := p6) rfl rfl Le.nil)))) (Le.refl _) ?_
  refine hv_L _ s a ha hs s.length 0 0 _ (by omega) (by omega) (fun t' n' hle => ?_)
  refine blockQ_h rfl ?_
  refine seqQ_n ?_
  refine XK.less hle (Le.refl _) ?_
  refine XK.seq ?_
  refine XK.op S9 rfl ?_
  refine seqQ_n ?_
  refine XK.ret S9 ?_
  exact ⟨_, rfl, rfl⟩

theorem Value_c (s : List UInt8) (a : Nat) (ha : a < 256) (hs : s.length ≤ 300) : Pure1 eqs9.gs Tryd.prog 104 [.str s, N6 a] (N6 (hvF a s 0)) := fun hh nn => (Value_x s a ha hs).pure rfl rfl hh nn

theorem op_s2b {t : T X} {a : D} {s : List UInt8} {call : CallT} {h : H} {n : Pt} (ha : ev t a = some (.str s)) (hl : s.length ≤ 1000000) : opW (.s2b a) call t h n = some (.sl n 0 s.length s.length 2, h.put n (.cells (s.map byteX)), n.inc) := by
  show rS2b a call t h n = _
  unfold rS2b; rw [ha]
  show (bif Nat.ble s.length 1000000 then _ else _) = _
  rw [Nat.ble_eq_true_of_le hl, cond_true, incK_eq]
def bytesN (s : List UInt8) : List Nat := s.map UInt8.toNat
theorem byteX_map (s : List UInt8) : s.map byteX = (bytesN s).map B8 := by unfold bytesN; rw [List.map_map]; rfl
theorem bytes_str : ∀ l : List Nat, bytesOf (l.map B8) = some (l.map UInt8.ofNat) := by
  intro l
  induction l with
  | nil => rfl
  | cons x l ih =>
    show (match bytesOf (l.map B8) with | some r => some (UInt8.ofNat (Int.ofNat x).toNat :: r) | none => none) = _
    rw [ih]; rfl
theorem op_b2sl {t : T X} {a : D} {h : H} {id : Pt} {L c z : Nat} {l : List Nat} (ha : ev t a = some (.sl id 0 L c z)) (hg : h.get id = some (.cells (l.map B8))) (hL : l.length = L) : opR (.b2s a) t h = some (.str (l.map UInt8.ofNat)) := by
  show rB2s a t h = _
  unfold rB2s; rw [ha]; simp only; rw [hg]; simp only
  have : lgetL (l.map B8) 0 L = some (l.map B8) := by
    unfold lgetL
    rw [show Nat.ble (0 + L) (l.map B8).length = true from Nat.ble_eq_true_of_le (by rw [List.length_map]; omega), cond_true, List.drop_zero, List.take_of_length_le (by rw [List.length_map]; omega)]
  rw [this]; simp only; rw [bytes_str]
def withS (s : List UInt8) (i e : Nat) : List UInt8 := ((bytesN s).set i ((bytesN s).getD i 0 ^^^ e)).map UInt8.ofNat
theorem bytesN_8 (s : List UInt8) : all8 (bytesN s) := fun m => by
  unfold bytesN
  rw [List.getD_eq_getElem?_getD]
  by_cases h : m < s.length
  · rw [List.getElem?_map, List.getElem?_eq_getElem h]; exact s[m].toNat_lt
  · rw [List.getElem?_eq_none (by rw [List.length_map]; omega)]; exact (by decide : 0 < 256)

theorem withB_x (s : List UInt8) (i e : Nat) (hs : s.length ≤ 300) (hi : i < s.length) (he : e < 256) : XF Tryd.prog eqs9 106 [.str s, N6 i, N6 e] .e .z (fun xx _ _ => xx = .str (withS s i e)) := by
  refine XF.body S9 fk106 rfl ?_
  refine XK.seq ?_
  refine XK.op S9 rfl ?_
  refine seqQ_n ?_
  refine XK.seq ?_
  refine XK.op0' S9 ?_
  refine OG_p rfl ?_
  refine OG_w (op_s2b rfl (by omega)) ?_
  refine OG_p rfl ?_
  refine OG_nil ?_
  refine seqQ_n ?_
  refine XK.seq ?_
  refine XK.op0' S9 ?_
  refine OG_p rfl ?_
  refine OG_p rfl ?_
  refine OG_p rfl ?_
  refine OG_p rfl ?_
  refine OG_p (op_ia rfl rfl (by omega)) ?_
  refine OG_r (op_ld rfl (by first | (rw [byteX_map]; done) | (rw [byteX_map]; rfl)) (map_at0 (by unfold bytesN; rw [List.length_map]; omega))) ?_
  refine OG_p rfl ?_
  refine OG_p (op_c8 rfl he) ?_
  refine OG_p (op_x8 rfl rfl (bytesN_8 s i) he) ?_
  refine OG_p (op_ia rfl rfl (by omega)) ?_
  refine OG_w (op_st_map (F := B8) (l := bytesN s) (fun _ => rfl) rfl rfl (by first | (rw [byteX_map]; done) | (rw [byteX_map]; rfl)) (by unfold bytesN; rw [List.length_map]; omega)) ?_
  refine OG_nil ?_
  refine seqQ_n ?_
  refine XK.seq ?_
  refine XK.op0' S9 ?_
  refine OG_p rfl ?_
  refine OG_r (op_b2sl rfl rfl (by rw [List.length_set]; unfold bytesN; rw [List.length_map])) ?_
  refine OG_p rfl ?_
  refine OG_nil ?_
  refine seqQ_n ?_
  refine XK.ret S9 ?_
  exact ⟨_, rfl, rfl⟩

theorem withB_c (s : List UInt8) (i e : Nat) (hs : s.length ≤ 300) (hi : i < s.length) (he : e < 256) : Pure1 eqs9.gs Tryd.prog 106 [.str s, N6 i, N6 e] (.str (withS s i e)) := fun hh nn => (withB_x s i e hs hi he).pure rfl rfl hh nn

end Go.Ex

