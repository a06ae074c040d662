/- Part of the proof: R99. -/
import Derived.Test.YtnpcmealdfapjaaDoorFC
import Derived.Test.YtnpcmealdfapjaaDoorExE
import Derived.Test.YtnpcmealdfapjaaDoorR9f
set_option linter.unusedVariables false
set_option linter.unusedSimpArgs false
set_option maxRecDepth 20000
namespace Go.Ex
open Go.Proofs
def idv : Pt := .l (.l (.l (.r (.r (.l (.l (.l .z)))))))
theorem div_run : (callG (mkFns Tryd.prog eqs9) 60 10 67 [] .e .z).map (fun q => (q.1, q.2.1.get idv)) = some (.sl idv 0 7 7 2, some (.cells (gen7.map N6))) := by kernel_rfl
theorem divisor_c (h : H) (n : Pt) : CallOne eqs9.gs Tryd.prog 67 [] h n (.sl n 0 7 7 2) (h.put n (.cells (gen7.map N6))) n.inc := by
  obtain ⟨⟨x, h', n'⟩, h1, h2⟩ := Option.map_eq_some_iff.1 div_run
  simp only [Prod.mk.injEq] at h2
  obtain ⟨rfl, h3⟩ := h2
  refine CallOne.fresh (id0 := idv) (CallOne.le (of_run S9 h1) (fun p y hy => ?_)) rfl rfl h n
  rw [get_put] at hy
  split at hy
  · rename_i hp; subst hp; rw [h3]; exact hy
  · rw [get_e] at hy; cases hy
theorem gen78 : all8 gen7 := fun i => by
  by_cases h : i < 7
  · have : ∀ k : Fin 7, gen7.getD k.val 0 < 256 := by decide
    exact this ⟨i, h⟩
  · rw [List.getD_eq_getElem?_getD, List.getElem?_eq_none (by simpa [gen7] using h)]; simp
theorem take_one {α : Type} {l : List α} {i : Nat} {x : α} (h : l[i]? = some x) : l.take (i + 1) = l.take i ++ [x] := by
  rw [List.take_add_one, h]; rfl
abbrev NB (b : UInt8) : X := N6 b.toNat

theorem app_L (Q : E → T X → H → Pt → Prop) (s : List UInt8) (hs : s.length ≤ 249) : ∀ (k i : Nat) (h : H) (n : Pt) (v : X), i + k = s.length → Own h n 1 ((s.take i).map NB) v → (∀ t' h' n' v', Le (ofPL [(p0, .str s), (p4, v')]) t' → Own h' n' 1 (s.map NB) v' → Q (.exit 0) t' h' n') →
    XL Tryd.prog eqs9 84 k16L0 (ofPL [(p0, .str s), (p4, v), (p5, N6 (i))]) h n Q := by
  intro k
  induction k with
  | zero =>
    intro i h n v hi ho hQ
    refine XL.body ?_
    refine XK.seq ?_
    refine XK.seq ?_
    refine XK.op0' S9 ?_
    refine OG_p rfl ?_
    refine OG_p rfl ?_
    refine OG_p rfl ?_
    refine OG_p (op_nlt rfl rfl (by omega)) ?_
    refine OG_nil ?_
    refine seqQ_n ?_
    refine XK.condF rfl ?_
    refine XK.exit S9 ?_
    refine seqQ_x ?_
    refine loopQ_x ?_
    exact hQ _ _ _ _ (Le.cons (p := p0) rfl rfl (Le.cons (p := p4) rfl rfl Le.nil)) (by rw [List.take_of_length_le (by omega)] at ho; exact ho)
  | succ k ih =>
    intro i h n v hi ho hQ
    obtain ⟨b1, hb1⟩ := at_some (s := s) (i := i) (by omega)
    refine XL.body ?_
    refine XK.seq ?_
    refine XK.seq ?_
    refine XK.op0' S9 ?_
    refine OG_p rfl ?_
    refine OG_p rfl ?_
    refine OG_p rfl ?_
    refine OG_p (op_lt rfl rfl (by omega)) ?_
    refine OG_nil ?_
    refine seqQ_n ?_
    refine XK.condT rfl ?_
    refine XK.skip S9 ?_
    refine seqQ_n ?_
    refine XK.seq ?_
    refine XK.block ?_
    obtain ⟨v2, h2, hap, ho2, hfr, hbk⟩ := ho.appL (bytes := 8) [NB b1] (by simp) (by simp; omega) (by simp; omega)
    refine XK.op0' S9 ?_
    refine OG_p rfl ?_
    refine OG_p rfl ?_
    refine OG_p rfl ?_
    refine OG_p (op_sidx rfl rfl hb1) ?_
    refine OG_p (op_c64 rfl (Nat.lt_trans b1.toNat_lt (by omega))) ?_
    refine OG_a rfl ?_
    refine OG_w (hap _ _ _ _ rfl rfl) ?_
    refine OG_p rfl ?_
    refine OG_nil ?_
    refine blockQ_n ?_
    refine seqQ_n ?_
    refine XK.op0' S9 ?_
    refine OG_p rfl ?_
    refine OG_p (op_add rfl rfl (by omega)) ?_
    refine OG_p rfl ?_
    refine OG_nil ?_
    refine loopQ_n ?_
    refine XL.less (t1 := ofPL [(p0, .str s), (p4, v2), (p5, N6 (i + 1))]) (Le.cons (p := p0) rfl rfl (Le.cons (p := p4) rfl rfl (Le.cons (p := p5) rfl rfl Le.nil))) (Le.refl _) ?_
    exact ih (i + 1) _ _ _ (by omega) (by rw [take_one hb1, List.map_append]; exact ho2) hQ

theorem div_L (Q : E → T X → H → Pt → Prop) (s : List UInt8) (hs : s.length ≤ 249) (id g : Pt) (hne : id ≠ g) (i q : Nat) (hi : i < s.length) (hq : q < 256) : ∀ (k j : Nat) (r : List Nat) (h : H) (n : Pt), j + k = 7 → r.length = s.length + 6 → all8 r → h.get id = some (.cells (r.map N6)) → h.get g = some (.cells (gen7.map N6)) → id.num < n.num → (∀ t' h' n', Le (ofPL [(p0, .str s), (p4, .sl id 0 (s.length + 6) (s.length + 6) 2), (p6, .sl g 0 7 7 2), (p7, N6 i)]) t' → h'.get id = some (.cells ((divF k j i q r).map N6)) → h'.get g = some (.cells (gen7.map N6)) → id.num < n'.num → Q (.exit 4) t' h' n') →
    XL Tryd.prog eqs9 84 k16L2 (ofPL [(p0, .str s), (p4, .sl id 0 (s.length + 6) (s.length + 6) 2), (p6, .sl g 0 7 7 2), (p7, N6 i), (p8, N6 q), (p9, N6 (j))]) h n Q := by
  intro k
  induction k with
  | zero =>
    intro j r h n hj hr h8 hg hgg hid hQ
    refine XL.body ?_
    refine XK.seq ?_
    refine XK.seq ?_
    refine XK.op0' S9 ?_
    refine OG_p rfl ?_
    refine OG_p rfl ?_
    refine OG_p rfl ?_
    refine OG_p (op_nlt rfl rfl (by omega)) ?_
    refine OG_nil ?_
    refine seqQ_n ?_
    refine XK.condF rfl ?_
    refine XK.exit S9 ?_
    refine seqQ_x ?_
    refine loopQ_x ?_
    exact hQ _ _ _ (Le.cons (p := p0) rfl rfl (Le.cons (p := p4) rfl rfl (Le.cons (p := p6) rfl rfl (Le.cons (p := p7) rfl rfl Le.nil)))) hg hgg hid
  | succ k ih =>
    intro j r h n hj hr h8 hg hgg hid hQ
    refine XL.body ?_
    refine XK.seq ?_
    refine XK.seq ?_
    refine XK.op0' S9 ?_
    refine OG_p rfl ?_
    refine OG_p rfl ?_
    refine OG_p rfl ?_
    refine OG_p (op_lt rfl rfl (by omega)) ?_
    refine OG_nil ?_
    refine seqQ_n ?_
    refine XK.condT rfl ?_
    refine XK.skip S9 ?_
    refine seqQ_n ?_
    refine XK.seq ?_
    refine XK.block ?_
    refine XK.ds1 S9 (HS := [(19, h.put id (.cells ((r.set (i + j) (r.getD (i + j) 0 ^^^ pr q (gen7.getD j 0))).map N6))), (16, h), (0, h)]) (rtimes_p q (gen7.getD j 0) hq (gen78 j)) fun call hcl => ?_
    refine DS_p rfl ?_
    refine DS_p rfl ?_
    refine DS_p rfl ?_
    refine DS_p (op_add rfl rfl (by omega)) ?_
    refine DS_p rfl ?_
    refine DS_p rfl ?_
    refine DS_p rfl ?_
    refine DS_p (op_add rfl rfl (by omega)) ?_
    refine DS_p (op_ia rfl rfl (by omega)) ?_
    refine DS_r (op_ld rfl hg (map_at0 (by omega))) ⟨fun hh => absurd hh (by decide), fun _ => (op_ld rfl hg (map_at0 (by omega))), fun hh => absurd hh (by decide), trivial⟩ ?_
    refine DS_p rfl ?_
    refine DS_p rfl ?_
    refine DS_p rfl ?_
    refine DS_p (op_ia rfl rfl (by omega)) ?_
    refine DS_r (op_ld rfl hgg (map_at0 (show j < gen7.length from by show j < 7; omega))) ⟨fun hh => absurd hh (by decide), fun hh => absurd hh (by decide), fun hh => absurd hh (by decide), trivial⟩ ?_
    refine DS_c rfl hcl ?_
    refine DS_p (op_xor rfl rfl (Nat.lt_trans (h8 (i + j)) (by omega)) (Nat.lt_trans (pr_lt _ _ hq) (by omega))) ?_
    refine DS_p (op_ia rfl rfl (by omega)) ?_
    refine DS_w (op_st_map (F := N6) (fun _ => rfl) rfl rfl hg (by omega)) ?_
    refine DS_nil rfl ?_
    refine blockQ_n ?_
    refine seqQ_n ?_
    refine XK.op0' S9 ?_
    refine OG_p rfl ?_
    refine OG_p (op_add rfl rfl (by omega)) ?_
    refine OG_p rfl ?_
    refine OG_nil ?_
    refine loopQ_n ?_
    refine XL.less (t1 := ofPL [(p0, .str s), (p4, .sl id 0 (s.length + 6) (s.length + 6) 2), (p6, .sl g 0 7 7 2), (p7, N6 i), (p8, N6 q), (p9, N6 (j + 1))]) (Le.cons (p := p0) rfl rfl (Le.cons (p := p4) rfl rfl (Le.cons (p := p6) rfl rfl (Le.cons (p := p7) rfl rfl (Le.cons (p := p8) rfl rfl (Le.cons (p := p9) rfl rfl Le.nil)))))) (Le.refl _) ?_
    exact ih (j + 1) _ _ _ (by omega) (by rw [List.length_set]; exact hr) (all8_set h8 (xor_lt (h8 _) (pr_lt _ _ hq))) (by rw [get_put, if_pos rfl]) (by rw [get_put, if_neg (fun e => hne e.symm)]; exact hgg) (by rw [skip_num]; omega) hQ

theorem divF_8 : ∀ (k j i q : Nat) (r : List Nat), q < 256 → all8 r → all8 (divF k j i q r) := by
  intro k
  induction k with
  | zero => intro j i q r _ h; exact h
  | succ k ih => intro j i q r hq h; exact ih _ _ _ _ hq (all8_set h (xor_lt (h _) (pr_lt _ _ hq)))
theorem outF_8 : ∀ (k i : Nat) (r : List Nat), all8 r → all8 (outF k i r) := by
  intro k
  induction k with
  | zero => intro i r h; exact h
  | succ k ih => intro i r h; exact ih _ _ (divF_8 _ _ _ _ _ (h _) h)

theorem out_L (Q : E → T X → H → Pt → Prop) (s : List UInt8) (hs : s.length ≤ 249) (id g : Pt) (hne : id ≠ g) : ∀ (k i : Nat) (r : List Nat) (h : H) (n : Pt), i + k = s.length → r.length = s.length + 6 → all8 r → h.get id = some (.cells (r.map N6)) → h.get g = some (.cells (gen7.map N6)) → id.num < n.num → (∀ t' h' n', Le (ofPL [(p0, .str s), (p4, .sl id 0 (s.length + 6) (s.length + 6) 2)]) t' → h'.get id = some (.cells ((outF k i r).map N6)) → id.num < n'.num → Q (.exit 2) t' h' n') →
    XL Tryd.prog eqs9 84 k16L1 (ofPL [(p0, .str s), (p4, .sl id 0 (s.length + 6) (s.length + 6) 2), (p6, .sl g 0 7 7 2), (p7, N6 (i))]) h n Q := by
  intro k
  induction k with
  | zero =>
    intro i r h n hi hr h8 hg hgg hid hQ
    refine XL.body ?_
    refine XK.seq ?_
    refine XK.seq ?_
    refine XK.op0' S9 ?_
    refine OG_p rfl ?_
    refine OG_p rfl ?_
    refine OG_p rfl ?_
    refine OG_p (op_nlt rfl rfl (by omega)) ?_
    refine OG_nil ?_
    refine seqQ_n ?_
    refine XK.condF rfl ?_
    refine XK.exit S9 ?_
    refine seqQ_x ?_
    refine loopQ_x ?_
    exact hQ _ _ _ (Le.cons (p := p0) rfl rfl (Le.cons (p := p4) rfl rfl Le.nil)) hg hid
  | succ k ih =>
    intro i r h n hi hr h8 hg hgg hid hQ
    refine XL.body ?_
    refine XK.seq ?_
    refine XK.seq ?_
    refine XK.op0' S9 ?_
    refine OG_p rfl ?_
    refine OG_p rfl ?_
    refine OG_p rfl ?_
    refine OG_p (op_lt rfl rfl (by omega)) ?_
    refine OG_nil ?_
    refine seqQ_n ?_
    refine XK.condT rfl ?_
    refine XK.skip S9 ?_
    refine seqQ_n ?_
    refine XK.seq ?_
    refine XK.block ?_
    refine XK.seq ?_
    refine XK.op0' S9 ?_
    refine OG_p rfl ?_
    refine OG_p rfl ?_
    refine OG_p (op_ia rfl rfl (by omega)) ?_
    refine OG_r (op_ld rfl hg (map_at0 (by omega))) ?_
    refine OG_p rfl ?_
    refine OG_nil ?_
    refine seqQ_n ?_
    refine XK.seq ?_
    refine XK.op S9 rfl ?_
    refine seqQ_n ?_
    refine XK.block ?_
    refine XK.loop ?_
    refine XL.less (t1 := ofPL [(p0, .str s), (p4, .sl id 0 (s.length + 6) (s.length + 6) 2), (p6, .sl g 0 7 7 2), (p7, N6 i), (p8, N6 (r.getD i 0)), (p9, N6 0)]) (Le.cons (p := p0) rfl rfl (Le.cons (p := p4) rfl rfl (Le.cons (p := p6) rfl rfl (Le.cons (p := p7) rfl rfl (Le.cons (p := p8) rfl rfl (Le.cons (p := p9) rfl rfl Le.nil)))))) (Le.refl _) ?_
    refine div_L _ s hs id g hne i _ (by omega) (h8 i) 7 0 r _ _ rfl hr h8 hg hgg hid (fun t' h' n' hle hg2 hgg2 hid2 => ?_)
    refine blockQ_h rfl ?_
    refine blockQ_n ?_
    refine seqQ_n ?_
    refine XK.less hle (Le.refl _) ?_
    refine XK.op0' S9 ?_
    refine OG_p rfl ?_
    refine OG_p (op_add rfl rfl (by omega)) ?_
    refine OG_p rfl ?_
    refine OG_nil ?_
    refine loopQ_n ?_
    refine XL.less (t1 := ofPL [(p0, .str s), (p4, .sl id 0 (s.length + 6) (s.length + 6) 2), (p6, .sl g 0 7 7 2), (p7, N6 (i + 1))]) (Le.cons (p := p0) rfl rfl (Le.cons (p := p4) rfl rfl (Le.cons (p := p6) rfl rfl (Le.cons (p := p7) rfl rfl Le.nil)))) (Le.refl _) ?_
    exact ih (i + 1) _ _ _ (by omega) (by rw [divF_len]; exact hr) (divF_8 _ _ _ _ _ (h8 i) h8) hg2 hgg2 hid2 hQ

theorem byt_L (Q : E → T X → H → Pt → Prop) (s : List UInt8) (hs : s.length ≤ 249) (id : Pt) (R : List Nat) (hR : R.length = s.length + 6) (h8 : all8 R) : ∀ (k i : Nat) (h : H) (n : Pt) (v : X), i + k = s.length + 6 → s.length ≤ i → h.get id = some (.cells (R.map N6)) → id.num < n.num → Own h n 1 (((R.take i).drop s.length).map B8) v → v.blk ≠ some id → (∀ t' h' n' v', Le (ofPL [(p10, v')]) t' → Own h' n' 1 ((R.drop s.length).map B8) v' → Q (.exit 6) t' h' n') →
    XL Tryd.prog eqs9 84 k16L3 (ofPL [(p4, .sl id 0 (s.length + 6) (s.length + 6) 2), (p10, v), (p11, N6 (i))]) h n Q := by
  intro k
  induction k with
  | zero =>
    intro i h n v hi hi2 hg hid ho hv hQ
    refine XL.body ?_
    refine XK.seq ?_
    refine XK.seq ?_
    refine XK.op0' S9 ?_
    refine OG_p rfl ?_
    refine OG_p rfl ?_
    refine OG_p rfl ?_
    refine OG_p (op_nlt rfl rfl (by omega)) ?_
    refine OG_nil ?_
    refine seqQ_n ?_
    refine XK.condF rfl ?_
    refine XK.exit S9 ?_
    refine seqQ_x ?_
    refine loopQ_x ?_
    exact hQ _ _ _ _ (Le.cons (p := p10) rfl rfl Le.nil) (by rw [List.take_of_length_le (by omega)] at ho; exact ho)
  | succ k ih =>
    intro i h n v hi hi2 hg hid ho hv hQ
    refine XL.body ?_
    refine XK.seq ?_
    refine XK.seq ?_
    refine XK.op0' S9 ?_
    refine OG_p rfl ?_
    refine OG_p rfl ?_
    refine OG_p rfl ?_
    refine OG_p (op_lt rfl rfl (by omega)) ?_
    refine OG_nil ?_
    refine seqQ_n ?_
    refine XK.condT rfl ?_
    refine XK.skip S9 ?_
    refine seqQ_n ?_
    refine XK.seq ?_
    refine XK.block ?_
    obtain ⟨v2, h2, hap, ho2, hfr, hbk⟩ := ho.appL (bytes := 1) [B8 (R.getD i 0)] (by simp) (by simp; omega) (by simp; omega)
    refine XK.op0' S9 ?_
    refine OG_p rfl ?_
    refine OG_p rfl ?_
    refine OG_p rfl ?_
    refine OG_p (op_ia rfl rfl (by omega)) ?_
    refine OG_r (op_ld rfl hg (map_at0 (by omega))) ?_
    refine OG_p (op_c8 rfl (h8 i)) ?_
    refine OG_a rfl ?_
    refine OG_w (hap _ _ _ _ rfl rfl) ?_
    refine OG_p rfl ?_
    refine OG_nil ?_
    refine blockQ_n ?_
    refine seqQ_n ?_
    refine XK.op0' S9 ?_
    refine OG_p rfl ?_
    refine OG_p (op_add rfl rfl (by omega)) ?_
    refine OG_p rfl ?_
    refine OG_nil ?_
    refine loopQ_n ?_
    refine XL.less (t1 := ofPL [(p4, .sl id 0 (s.length + 6) (s.length + 6) 2), (p10, v2), (p11, N6 (i + 1))]) (Le.cons (p := p4) rfl rfl (Le.cons (p := p10) rfl rfl (Le.cons (p := p11) rfl rfl Le.nil))) (Le.refl _) ?_
    exact ih (i + 1) _ _ _ (by omega) (by omega) (by rw [hfr id hid hv]; exact hg) (by rw [num_inc, num_inc]; omega) (by
      rw [take_one (x := R.getD i 0) (by rw [List.getD_eq_getElem?_getD, List.getElem?_eq_getElem (by omega)]; rfl), List.drop_append_of_le_length (by rw [List.length_take]; omega), List.map_append]
      exact ho2) (fun e => by have := hbk _ e; omega) hQ

theorem rest8 (s : List UInt8) : all8 (rest0 s) := fun m => by
  unfold rest0
  simp only [List.getD_eq_getElem?_getD, List.getElem?_append]
  split
  · rename_i h
    simp only [List.length_map] at h
    rw [List.getElem?_map, List.getElem?_eq_getElem h]
    exact s[m].toNat_lt
  · have := all8z (m - (s.map UInt8.toNat).length)
    rw [List.getD_eq_getElem?_getD] at this; exact this

theorem RChecksT_x (s : List UInt8) (hs : s.length ≤ 249) : XF Tryd.prog eqs9 16 [.str s] .e .z (fun xx _ _ => xx = X.tup [.str (((outF s.length 0 (rest0 s)).drop s.length).map UInt8.ofNat), N6 0]) := by
  refine XF.body S9 fk16 rfl ?_
  refine XK.seq ?_
  refine XK.op S9 rfl ?_
  refine seqQ_n ?_
  refine XK.seq ?_
  refine XK.seq ?_
  refine XK.op0' S9 ?_
  refine OG_p rfl ?_
  refine OG_p rfl ?_
  refine OG_p (show opP _ _ = some (X.bool false) from fls (show ¬ ((249 : Nat) : Int) < (s.length : Int) by omega)) ?_
  refine OG_nil ?_
  refine seqQ_n ?_
  refine XK.condF rfl ?_
  refine XK.skip S9 ?_
  refine seqQ_n ?_
  refine XK.seq ?_
  refine XK.op S9 rfl ?_
  refine seqQ_n ?_
  refine XK.seq ?_
  refine XK.seq ?_
  refine XK.op S9 rfl ?_
  refine seqQ_n ?_
  refine XK.block ?_
  refine XK.loop ?_
  refine XL.less (t1 := ofPL [(p0, .str s), (p4, .nils), (p5, N6 (0))]) (Le.cons (p := p0) rfl rfl (Le.cons (p := p4) rfl rfl (Le.cons (p := p5) rfl rfl Le.nil))) (Le.refl _) ?_
  refine app_L _ s hs s.length 0 _ _ .nils (by omega) (.inl ⟨rfl, rfl⟩) (fun t' h' n' v' hle ho => ?_)
  refine blockQ_h rfl ?_
  refine seqQ_n ?_
  refine XK.less hle (Le.refl _) ?_
  refine XK.seq ?_
  obtain ⟨v2, h2, hap, ho2, hfr, hbk⟩ := ho.appL (bytes := 8) [N6 0, N6 0, N6 0, N6 0, N6 0, N6 0] (by simp) (by simp; omega) (by simp; omega)
  refine XK.op0' S9 ?_
  refine OG_p rfl ?_
  refine OG_a rfl ?_
  refine OG_w (hap _ _ _ _ rfl rfl) ?_
  refine OG_p rfl ?_
  refine OG_nil ?_
  refine seqQ_n ?_
  refine XK.seq ?_
  have hrl : s.map NB ++ [N6 0, N6 0, N6 0, N6 0, N6 0, N6 0] = (rest0 s).map N6 := by simp [rest0, NB]
  rw [hrl] at ho2
  have hlen : (rest0 s).length = s.length + 6 := by simp [rest0]
  obtain ⟨id, rfl, hg, hid⟩ := ho2.sl (k := s.length + 6) (by rw [List.length_map]; exact hlen) (by omega)
  refine XK.regF S9 (⟨67, [], h2, n'.inc.inc, .sl n'.inc.inc 0 7 7 2, h2.put n'.inc.inc (.cells (gen7.map N6)), n'.inc.inc.inc⟩) (divisor_c _ _) fun call hcl => ?_
  refine OG_c rfl hcl ?_
  refine OG_p rfl ?_
  refine OG_nil ?_
  refine seqQ_n ?_
  refine XK.seq ?_
  refine XK.seq ?_
  refine XK.op S9 rfl ?_
  refine seqQ_n ?_
  refine XK.block ?_
  refine XK.loop ?_
  refine XL.less (t1 := ofPL [(p0, .str s), (p4, .sl id 0 (s.length + 6) (s.length + 6) 2), (p6, .sl n'.inc.inc 0 7 7 2), (p7, N6 0)]) (Le.cons (p := p0) rfl rfl (Le.cons (p := p4) rfl rfl (Le.cons (p := p6) rfl rfl (Le.cons (p := p7) rfl rfl Le.nil)))) (Le.refl _) ?_
  refine out_L _ s hs id n'.inc.inc (fun e => by subst e; omega) s.length 0 (rest0 s) _ _ (by omega) hlen (rest8 s) (by rw [get_put, if_neg (fun e => by rw [e] at hid; omega)]; exact hg) (by rw [get_put, if_pos rfl]) (by rw [num_inc]; omega) (fun t' h' n' hle hg hid => ?_)
  refine blockQ_h rfl ?_
  refine seqQ_n ?_
  refine XK.less hle (Le.refl _) ?_
  refine XK.seq ?_
  refine XK.op S9 rfl ?_
  refine seqQ_n ?_
  refine XK.seq ?_
  refine XK.seq ?_
  refine XK.op S9 rfl ?_
  refine seqQ_n ?_
  refine XK.block ?_
  refine XK.loop ?_
  refine XL.less (t1 := ofPL [(p4, .sl id 0 (s.length + 6) (s.length + 6) 2), (p10, .nils), (p11, N6 s.length)]) (Le.cons (p := p4) rfl rfl (Le.cons (p := p10) rfl rfl (Le.cons (p := p11) rfl rfl Le.nil))) (Le.refl _) ?_
  refine byt_L _ s hs id (outF s.length 0 (rest0 s)) (by rw [outF_len]; exact hlen) (outF_8 _ _ _ (rest8 s)) 6 s.length _ _ .nils (by omega) (Nat.le_refl _) hg hid (.inl ⟨by rw [List.drop_eq_nil_of_le (by rw [List.length_take]; omega)]; rfl, rfl⟩) (fun e => by cases e) (fun t' h' n' v' hle ho4 => ?_)
  refine blockQ_h rfl ?_
  refine seqQ_n ?_
  refine XK.less hle (Le.refl _) ?_
  refine XK.seq ?_
  refine XK.op0' S9 ?_
  refine OG_p rfl ?_
  refine OG_r (ho4.bytes rfl) ?_
  refine OG_p rfl ?_
  refine OG_p rfl ?_
  refine OG_nil ?_
  refine seqQ_n ?_
  refine XK.ret S9 ?_
  exact ⟨_, rfl, rfl⟩

theorem RChecksT_c (s : List UInt8) (hs : s.length ≤ 249) : Pure1 eqs9.gs Tryd.prog 16 [.str s] (X.tup [.str (((outF s.length 0 (rest0 s)).drop s.length).map UInt8.ofNat), N6 0]) := fun hh nn => (RChecksT_x s hs).pure rfl rfl hh nn

theorem RChecksF_x (s : List UInt8) (hs : ¬ s.length ≤ 249) : XF Tryd.prog eqs9 16 [.str s] .e .z (fun xx _ _ => xx = X.tup [.str [], N6 2]) := by
  refine XF.body S9 fk16 rfl ?_
  refine XK.seq ?_
  refine XK.op S9 rfl ?_
  refine seqQ_n ?_
  refine XK.seq ?_
  refine XK.seq ?_
  refine XK.op0' S9 ?_
  refine OG_p rfl ?_
  refine OG_p rfl ?_
  refine OG_p (show opP _ _ = some (X.bool true) from tru (show ((249 : Nat) : Int) < (s.length : Int) by omega)) ?_
  refine OG_nil ?_
  refine seqQ_n ?_
  refine XK.condT rfl ?_
  refine XK.seq ?_
  refine XK.op S9 rfl ?_
  refine seqQ_n ?_
  refine XK.ret S9 ?_
  refine seqQ_r ?_
  exact ⟨_, rfl, rfl⟩

theorem RChecksF_c (s : List UInt8) (hs : ¬ s.length ≤ 249) : Pure1 eqs9.gs Tryd.prog 16 [.str s] (X.tup [.str [], N6 2]) := fun hh nn => (RChecksF_x s hs).pure rfl rfl hh nn

end Go.Ex

