/- Part of the proof: R98. -/
import Derived.Test.YtnpcmealdfapjaaDoorR97
import Derived.Test.YtnpcmealdfapjaaDoorExE
set_option linter.unusedVariables false
set_option linter.unusedSimpArgs false
set_option maxRecDepth 20000
namespace Go.Ex
open Go.Proofs
def gen6 : List Nat := [63, 1, 218, 32, 227, 38]
def inF : Nat → Nat → Nat → List Nat → List Nat
  | 0, _, _, l => l
  | k + 1, j, f, l => inF k (j + 1) f (l.set j (l.getD j 0 ^^^ pr f (gen6.getD j 0)))
def stepR (r : List Nat) (b : Nat) : List Nat := inF 6 0 (r.getD 0 0 ^^^ b) (r.drop 1 ++ [0])
def chk : List UInt8 → List Nat → List Nat
  | [], r => r
  | b :: s, r => chk s (stepR r b.toNat)
noncomputable def H6 (l : List Nat) : H := T.put T.e .z (.cells (l.map B8))
def all8 (l : List Nat) : Prop := ∀ i, l.getD i 0 < 256
theorem all8_set {l : List Nat} {j v : Nat} (h : all8 l) (hv : v < 256) : all8 (l.set j v) := fun i => by
  have := h i
  rw [List.getD_eq_getElem?_getD] at this ⊢
  rw [List.getElem?_set]
  split
  · split
    · exact hv
    · simp
  · exact this
theorem gen8 : all8 gen6 := fun i => by
  by_cases h : i < 6
  · have : ∀ k : Fin 6, gen6.getD k.val 0 < 256 := by decide
    exact this ⟨i, h⟩
  · rw [List.getD_eq_getElem?_getD, List.getElem?_eq_none (by simpa [gen6] using h)]; simp
theorem inF_len : ∀ (k j f : Nat) (l : List Nat), (inF k j f l).length = l.length := by
  intro k
  induction k with
  | zero => intro j f l; rfl
  | succ k ih => intro j f l; show (inF k (j + 1) f _).length = _; rw [ih, List.length_set]
theorem inF_8 : ∀ (k j f : Nat) (l : List Nat), f < 256 → all8 l → all8 (inF k j f l) := by
  intro k
  induction k with
  | zero => intro j f l _ h; exact h
  | succ k ih => intro j f l hf h; exact ih _ _ _ hf (all8_set h (xor_lt (h j) (pr_lt _ _ hf)))
theorem st6 {t : T X} {a b : D} {l : List Nat} {j v : Nat} {call : CallT} {n : Pt} (ha : ev t a = some (.ptr .z (0 + j * 1))) (hb : ev t b = some (B8 v)) (hj : j < l.length) : opW (.store 1 a b) call t (H6 l) n = some (.tup [], H6 (l.set j v), n) := by
  rw [op_st (cs := l.map B8) ha hb rfl rfl (by rw [List.length_map]; omega)]
  rw [Nat.zero_add, Nat.mul_one]
  unfold H6
  rw [show (l.set j v).map B8 = (l.map B8).set j (B8 v) from by rw [List.map_set]]

theorem chkI_L (Q : E → T X → H → Pt → Prop) (s : List UInt8) (i f : Nat) (hf : f < 256) : ∀ (k j : Nat) (l : List Nat) (n : Pt), j + k = 6 → l.length = 6 → all8 l → (∀ t' n', Le (ofPL [(p0, .str s), (p3, .ptr .z 0), (p9, N6 s.length), (p10, N6 i)]) t' → Q (.exit 2) t' (H6 (inF k j f l)) n') →
    XL Tryd.prog eqs9 40 k66L1 (ofPL [(p0, .str s), (p3, .ptr .z 0), (p9, N6 s.length), (p10, N6 i), (p5, B8 f), (p23, .agg (gen6.map B8)), (p24, N6 (j))]) (H6 l) n Q := by
  intro k
  induction k with
  | zero =>
    intro j l n hj h6 hl hQ
    refine XL.body ?_
    refine XK.seq ?_
    refine XK.op0' S9 ?_
    refine OG_p (op_nlt rfl rfl (by omega)) ?_
    refine OG_nil ?_
    refine seqQ_n ?_
    refine XK.seq ?_
    refine XK.condF rfl ?_
    refine XK.exit S9 ?_
    refine seqQ_x ?_
    refine loopQ_x ?_
    exact hQ _ _ (Le.cons (p := p0) rfl rfl (Le.cons (p := p3) rfl rfl (Le.cons (p := p9) rfl rfl (Le.cons (p := p10) rfl rfl Le.nil))))
  | succ k ih =>
    intro j l n hj h6 hl hQ
    refine XL.body ?_
    refine XK.seq ?_
    refine XK.op0' S9 ?_
    refine OG_p (op_lt rfl rfl (by omega)) ?_
    refine OG_nil ?_
    refine seqQ_n ?_
    refine XK.seq ?_
    refine XK.condT rfl ?_
    refine XK.skip S9 ?_
    refine seqQ_n ?_
    refine XK.seq ?_
    refine XK.block ?_
    refine XK.seq ?_
    refine XK.op0' S9 ?_
    refine OG_p rfl ?_
    refine OG_p (op_idxA rfl rfl (by omega) (map_at1 (show j < gen6.length from by show j < 6; omega))) ?_
    refine OG_p rfl ?_
    refine OG_p rfl ?_
    refine OG_nil ?_
    refine seqQ_n ?_
    refine XK.ds1 S9 (HS := [(9, H6 (l.set j (l.getD j 0 ^^^ pr f (gen6.getD j 0)))), (6, H6 l), (0, H6 l)]) (product_c f (gen6.getD j 0) hf (gen8 j)) fun call hcl => ?_
    refine DS_p rfl ?_
    refine DS_p (op_iaA rfl rfl (by omega)) ?_
    refine DS_r (op_ld rfl rfl (map_at0 (by omega))) ⟨fun hh => absurd hh (by decide), fun _ => (op_ld rfl rfl (map_at0 (by omega))), fun hh => absurd hh (by decide), trivial⟩ ?_
    refine DS_p rfl ?_
    refine DS_p rfl ?_
    refine DS_c rfl hcl ?_
    refine DS_p (op_x8 rfl rfl (hl j) (pr_lt _ _ hf)) ?_
    refine DS_p (op_iaA rfl rfl (by omega)) ?_
    refine DS_w (st6 rfl rfl (by omega)) ?_
    refine DS_nil rfl ?_
    refine blockQ_n ?_
    refine seqQ_n ?_
    refine XK.op0' S9 ?_
    refine OG_p (op_add rfl rfl (by omega)) ?_
    refine OG_p rfl ?_
    refine OG_nil ?_
    refine loopQ_n ?_
    refine XL.less (t1 := ofPL [(p0, .str s), (p3, .ptr .z 0), (p9, N6 s.length), (p10, N6 i), (p5, B8 f), (p23, .agg (gen6.map B8)), (p24, N6 (j + 1))]) (Le.cons (p := p0) rfl rfl (Le.cons (p := p3) rfl rfl (Le.cons (p := p9) rfl rfl (Le.cons (p := p10) rfl rfl (Le.cons (p := p5) rfl rfl (Le.cons (p := p23) rfl rfl (Le.cons (p := p24) rfl rfl Le.nil))))))) (Le.refl _) ?_
    exact ih (j + 1) _ _ (by omega) (by rw [List.length_set]; exact h6) (all8_set hl (xor_lt (hl j) (pr_lt _ _ hf))) hQ

theorem chk_L (Q : E → T X → H → Pt → Prop) (s : List UInt8) (hs : s.length ≤ 300) : ∀ (k i : Nat) (r : List Nat) (n : Pt), i + k = s.length → r.length = 6 → all8 r → (∀ t' n', Le (ofPL [(p3, .ptr .z 0)]) t' → Q (.exit 0) t' (H6 (chk (s.drop i) r)) n') →
    XL Tryd.prog eqs9 40 k66L0 (ofPL [(p0, .str s), (p3, .ptr .z 0), (p9, N6 s.length), (p10, N6 (i))]) (H6 r) n Q := by
  intro k
  induction k with
  | zero =>
    intro i r n hi h6 hr hQ
    rw [List.drop_eq_nil_of_le (by omega)] at hQ
    refine XL.body ?_
    refine XK.seq ?_
    refine XK.op0' S9 ?_
    refine OG_p (op_nlt rfl rfl (by omega)) ?_
    refine OG_nil ?_
    refine seqQ_n ?_
    refine XK.seq ?_
    refine XK.condF rfl ?_
    refine XK.exit S9 ?_
    refine seqQ_x ?_
    refine loopQ_x ?_
    exact hQ _ _ (Le.cons (p := p3) rfl rfl Le.nil)
  | succ k ih =>
    intro i r n hi h6 hr hQ
    obtain ⟨b1, hb1⟩ := at_some (s := s) (i := i) (by omega)
    have hd : s.drop i = b1 :: s.drop (i + 1) := by
      have hlt : i < s.length := by omega
      rw [List.getElem?_eq_getElem hlt] at hb1
      rw [List.drop_eq_getElem_cons hlt, Option.some.inj hb1]
    rw [hd] at hQ
    obtain ⟨r0, r1, r2, r3, r4, r5, rfl⟩ : ∃ r0 r1 r2 r3 r4 r5, r = [r0, r1, r2, r3, r4, r5] := by
      match r, h6 with
      | [r0, r1, r2, r3, r4, r5], _ => exact ⟨r0, r1, r2, r3, r4, r5, rfl⟩
    have hsh : all8 [r1, r2, r3, r4, r5, 0] := fun i => by
      match i with
      | 0 => exact hr 1
      | 1 => exact hr 2
      | 2 => exact hr 3
      | 3 => exact hr 4
      | 4 => exact hr 5
      | 5 => exact (by decide : 0 < 256)
      | i + 6 => exact (by simp : ([] : List Nat).getD i 0 < 256)
    refine XL.body ?_
    refine XK.seq ?_
    refine XK.op0' S9 ?_
    refine OG_p (op_lt rfl rfl (by omega)) ?_
    refine OG_nil ?_
    refine seqQ_n ?_
    refine XK.seq ?_
    refine XK.condT rfl ?_
    refine XK.skip S9 ?_
    refine seqQ_n ?_
    refine XK.seq ?_
    refine XK.block ?_
    refine XK.seq ?_
    refine XK.op S9 rfl ?_
    refine seqQ_n ?_
    refine XK.seq ?_
    refine XK.dr0 S9 ?_
    refine SG_p rfl ?_
    refine SG_r rfl rfl ?_
    refine SG_p rfl ?_
    refine SG_p rfl ?_
    refine SG_p (op_sidx rfl rfl hb1) ?_
    refine SG_p (op_x8 rfl rfl (hr 0) b1.toNat_lt) ?_
    refine SG_p rfl ?_
    refine SG_nil ?_
    refine seqQ_n ?_
    refine XK.seq ?_
    refine XK.ds0 S9 (HS := [(3, H6 [r1, r2, r3, r4, r5, r5]), (0, H6 [r0, r1, r2, r3, r4, r5])]) ?_
    refine DS_p rfl ?_
    refine DS_p rfl ?_
    refine DS_w rfl ?_
    refine DS_nil rfl ?_
    refine seqQ_n ?_
    refine XK.seq ?_
    refine XK.op S9 rfl ?_
    refine seqQ_n ?_
    refine XK.seq ?_
    refine XK.op S9 rfl ?_
    refine seqQ_n ?_
    refine XK.block ?_
    refine XK.loop ?_
    refine XL.less (t1 := ofPL [(p0, .str s), (p3, .ptr .z 0), (p9, N6 s.length), (p10, N6 i), (p5, B8 (r0 ^^^ b1.toNat)), (p23, .agg (gen6.map B8)), (p24, N6 0)]) (Le.cons (p := p0) rfl rfl (Le.cons (p := p3) rfl rfl (Le.cons (p := p9) rfl rfl (Le.cons (p := p10) rfl rfl (Le.cons (p := p5) rfl rfl (Le.cons (p := p23) rfl rfl (Le.cons (p := p24) rfl rfl Le.nil))))))) (show Le (H6 [r1, r2, r3, r4, r5, 0]) _ from Le.refl _) ?_
    refine chkI_L _ s i _ (xor_lt (hr 0) b1.toNat_lt) 6 0 [r1, r2, r3, r4, r5, 0] _ rfl rfl hsh (fun t' n' hle => ?_)
    refine blockQ_h rfl ?_
    refine blockQ_n ?_
    refine seqQ_n ?_
    refine XK.less hle (Le.refl _) ?_
    refine XK.op0' S9 ?_
    refine OG_p (op_add rfl rfl (by omega)) ?_
    refine OG_p rfl ?_
    refine OG_nil ?_
    refine loopQ_n ?_
    refine XL.less (t1 := ofPL [(p0, .str s), (p3, .ptr .z 0), (p9, N6 s.length), (p10, N6 (i + 1))]) (Le.cons (p := p0) rfl rfl (Le.cons (p := p3) rfl rfl (Le.cons (p := p9) rfl rfl (Le.cons (p := p10) rfl rfl Le.nil)))) (Le.refl _) ?_
    exact ih (i + 1) _ _ (by omega) (by rw [inF_len]; rfl) (inF_8 _ _ _ _ (xor_lt (hr 0) b1.toNat_lt) hsh) fun t' n' hle => hQ t' n' hle

theorem chk_len : ∀ (s : List UInt8) (r : List Nat), r.length = 6 → (chk s r).length = 6 := by
  intro s
  induction s with
  | nil => intro r h; exact h
  | cons b s ih => intro r h; exact ih _ (by unfold stepR; rw [inF_len, List.length_append, List.length_drop, h]; rfl)
def chkS (s : List UInt8) : List UInt8 := (chk s [0, 0, 0, 0, 0, 0]).map UInt8.ofNat
theorem slA6 {t : T X} {a : D} (ha : ev t a = some (.ptr .z 0)) : opP (.slA 6 1 a none none) t = some (.sl .z 0 6 6 0) := by
  show rSlA 6 1 a none none t = _
  unfold rSlA; rw [ha]; rfl
theorem b2s6 {t : T X} {a : D} {l : List Nat} (ha : ev t a = some (.sl .z 0 6 6 0)) (h6 : l.length = 6) : opR (.b2s a) t (H6 l) = some (.str (l.map UInt8.ofNat)) := by
  match l, h6 with
  | [r0, r1, r2, r3, r4, r5], _ =>
    show rB2s a t _ = _
    unfold rB2s; rw [ha]; rfl
theorem all8z : all8 [0, 0, 0, 0, 0, 0] := fun i => by
  match i with
  | 0 => decide
  | 1 => decide
  | 2 => decide
  | 3 => decide
  | 4 => decide
  | 5 => decide
  | i + 6 => exact (by simp : ([] : List Nat).getD i 0 < 256)

theorem checks_x (s : List UInt8) (hs : s.length ≤ 300) : XF Tryd.prog eqs9 66 [.str s] .e .z (fun xx _ _ => xx = .str (chkS s)) := by
  refine XF.body S9 fk66 rfl ?_
  refine XK.seq ?_
  refine XK.op S9 rfl ?_
  refine seqQ_n ?_
  refine XK.seq ?_
  refine XK.op S9 rfl ?_
  refine seqQ_n ?_
  refine XK.seq ?_
  refine XK.seq ?_
  refine XK.op S9 rfl ?_
  refine seqQ_n ?_
  refine XK.block ?_
  refine XK.loop ?_
  refine XL.less (t1 := ofPL [(p0, .str s), (p3, .ptr .z 0), (p9, N6 s.length), (p10, N6 0)]) (Le.cons (p := p0) rfl rfl (Le.cons (p := p3) rfl rfl (Le.cons (p := p9) rfl rfl (Le.cons (p := p10) rfl rfl Le.nil)))) (show Le (H6 [0, 0, 0, 0, 0, 0]) _ from Le.refl _) ?_
  refine chk_L _ s hs s.length 0 [0, 0, 0, 0, 0, 0] _ (by omega) rfl all8z (fun t' n' hle => ?_)
  refine blockQ_h rfl ?_
  refine seqQ_n ?_
  refine XK.less hle (Le.refl _) ?_
  refine XK.seq ?_
  refine XK.op0' S9 ?_
  refine OG_p (slA6 rfl) ?_
  refine OG_r (b2s6 rfl (chk_len _ _ rfl)) ?_
  refine OG_p rfl ?_
  refine OG_nil ?_
  refine seqQ_n ?_
  refine XK.ret S9 ?_
  exact ⟨_, rfl, rfl⟩

theorem checks_c (s : List UInt8) (hs : s.length ≤ 300) : Pure1 eqs9.gs Tryd.prog 66 [.str s] (.str (chkS s)) := fun hh nn => (checks_x s hs).pure rfl rfl hh nn

theorem ChecksT_x (s : List UInt8) (hs : s.length ≤ 249) : XF Tryd.prog eqs9 15 [.str s] .e .z (fun xx _ _ => xx = X.tup [.str (chkS s), N6 0]) := by
  refine XF.body S9 fk15 rfl ?_
  refine XK.seq ?_
  refine XK.op S9 rfl ?_
  refine seqQ_n ?_
  refine XK.seq ?_
  refine XK.seq ?_
  refine XK.op0' S9 ?_
  refine OG_p rfl ?_
  refine OG_p rfl ?_
  refine OG_p (show opP _ _ = some (X.bool false) from fls (show ¬ ((249 : Nat) : Int) < (s.length : Int) by omega)) ?_
  refine OG_nil ?_
  refine seqQ_n ?_
  refine XK.condF rfl ?_
  refine XK.skip S9 ?_
  refine seqQ_n ?_
  refine XK.seq ?_
  refine XK.reg1 S9 (checks_c s (by omega)) fun call hcl => ?_
  refine OG_p rfl ?_
  refine OG_c rfl hcl ?_
  refine OG_p rfl ?_
  refine OG_p rfl ?_
  refine OG_nil ?_
  refine seqQ_n ?_
  refine XK.ret S9 ?_
  exact ⟨_, rfl, rfl⟩

theorem ChecksT_c (s : List UInt8) (hs : s.length ≤ 249) : Pure1 eqs9.gs Tryd.prog 15 [.str s] (X.tup [.str (chkS s), N6 0]) := fun hh nn => (ChecksT_x s hs).pure rfl rfl hh nn

theorem ChecksF_x (s : List UInt8) (hs : ¬ s.length ≤ 249) : XF Tryd.prog eqs9 15 [.str s] .e .z (fun xx _ _ => xx = X.tup [.str [], N6 2]) := by
  refine XF.body S9 fk15 rfl ?_
  refine XK.seq ?_
  refine XK.op S9 rfl ?_
  refine seqQ_n ?_
  refine XK.seq ?_
  refine XK.seq ?_
  refine XK.op0' S9 ?_
  refine OG_p rfl ?_
  refine OG_p rfl ?_
  refine OG_p (show opP _ _ = some (X.bool true) from tru (show ((249 : Nat) : Int) < (s.length : Int) by omega)) ?_
  refine OG_nil ?_
  refine seqQ_n ?_
  refine XK.condT rfl ?_
  refine XK.seq ?_
  refine XK.op S9 rfl ?_
  refine seqQ_n ?_
  refine XK.ret S9 ?_
  refine seqQ_r ?_
  exact ⟨_, rfl, rfl⟩

theorem ChecksF_c (s : List UInt8) (hs : ¬ s.length ≤ 249) : Pure1 eqs9.gs Tryd.prog 15 [.str s] (X.tup [.str [], N6 2]) := fun hh nn => (ChecksF_x s hs).pure rfl rfl hh nn

end Go.Ex

