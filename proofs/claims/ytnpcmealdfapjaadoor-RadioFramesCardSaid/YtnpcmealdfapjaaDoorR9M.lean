/- Part of the proof: R9M. -/
import Derived.Test.YtnpcmealdfapjaaDoorR9L
set_option linter.unusedVariables false
set_option linter.unusedSimpArgs false
set_option maxRecDepth 20000
namespace Go.Ex
open Go.Proofs
def vR (s : List UInt8) : List Nat := [hvF (pw 0) s 0, hvF (pw 1) s 0, hvF (pw 2) s 0, hvF (pw 3) s 0, hvF (pw 4) s 0, hvF (pw 5) s 0]
theorem vR_at (s : List UInt8) {i : Nat} (h : i < 6) : (vR s)[i]? = some (hvF (pw i) s 0) := by
  match i, h with
  | 0, _ => rfl
  | 1, _ => rfl
  | 2, _ => rfl
  | 3, _ => rfl
  | 4, _ => rfl
  | 5, _ => rfl
theorem vR_8 (s : List UInt8) : all8 (vR s) := fun i => by
  by_cases h : i < 6
  · rw [List.getD_eq_getElem?_getD, vR_at s h]; exact hvF_lt _ _ _ (by omega)
  · rw [List.getD_eq_getElem?_getD, List.getElem?_eq_none (by show 6 ≤ i; omega)]; exact (by decide : 0 < 256)
theorem ptF_at : ∀ (k a : Nat) (l : List Nat) (i : Nat), k ≤ l.length → (ptF k (pw a) l).getD i 0 = if i < k then pw (a + (k - 1 - i)) else l.getD i 0 := by
  intro k
  induction k with
  | zero => intro a l i _; rfl
  | succ k ih =>
    intro a l i h
    show (ptF k (pw (a + 1)) (l.set k (pw a))).getD i 0 = _
    rw [ih _ _ _ (by rw [List.length_set]; omega), getD_set (by omega)]
    by_cases h1 : i < k
    · rw [if_pos h1, if_pos (by omega), show a + 1 + (k - 1 - i) = a + (k + 1 - 1 - i) by omega]
    · rw [if_neg h1]
      by_cases h2 : i = k
      · subst h2; rw [if_pos rfl, if_pos (by omega), show a + (i + 1 - 1 - i) = a by omega]
      · rw [if_neg h2, if_neg (by omega)]
theorem ptsN_at {N i : Nat} (h : i < N) : (ptsN N)[i]? = some (pw (N - 1 - i)) := by
  have h1 := ptF_at N 0 (List.replicate N 0) i (by rw [List.length_replicate]; omega)
  rw [if_pos h, Nat.zero_add] at h1
  have hl : i < (ptsN N).length := by rw [ptsN_len]; exact h
  rw [List.getElem?_eq_getElem hl]
  have : (ptsN N).getD i 0 = pw (N - 1 - i) := h1
  rw [List.getD_eq_getElem?_getD, List.getElem?_eq_getElem hl] at this
  exact congrArg some this
theorem dz (a : Nat) : some (X.bool (decide (Int.ofNat a = Int.ofNat 0))) = some (X.bool (decide (a = 0))) := congrArg (fun q => some (X.bool q)) (decide_eq_decide.2 ⟨fun h => Int.ofNat_inj.1 h, fun h => congrArg Int.ofNat h⟩)
def zB (vs : List Nat) : Nat → Nat → Bool → Bool
  | 0, _, b => b
  | k + 1, j, b => zB vs k (j + 1) (b && decide (vs.getD j 0 = 0))

theorem vw_L (Q : E → T X → H → Pt → Prop) (s : List UInt8) (hs : s.length ≤ 42) : ∀ (k i : Nat) (h : H) (n : Pt) (v : X), i + k = 6 → Own h n 1 (((vR s).take i).map N6) v → (∀ t' h' n' v', Le (ofPL [(p0, .str s), (p4, N6 s.length), (p5, v')]) t' → Own h' n' 1 ((vR s).map N6) v' → Q (.exit 0) t' h' n') →
    XL Tryd.prog eqs9 133 k71L0 (ofPL [(p0, .str s), (p4, N6 s.length), (p5, v), (p6, N6 (i))]) h n Q := by
  intro k
  induction k with
  | zero =>
    intro i h n v hi ho hQ
    refine XL.body ?_
    refine XK.seq ?_
    refine XK.seq ?_
    refine XK.op0' S9 ?_
    refine OG_p rfl ?_
    refine OG_p (op_nlt rfl rfl (by omega)) ?_
    refine OG_nil ?_
    refine seqQ_n ?_
    refine XK.condF rfl ?_
    refine XK.exit S9 ?_
    refine seqQ_x ?_
    refine loopQ_x ?_
    exact hQ _ _ _ _ (Le.cons (p := p0) rfl rfl (Le.cons (p := p4) rfl rfl (Le.cons (p := p5) rfl rfl Le.nil))) (by rw [List.take_of_length_le (show 6 ≤ i by omega)] at ho; exact ho)
  | succ k ih =>
    intro i h n v hi ho hQ
    refine XL.body ?_
    refine XK.seq ?_
    refine XK.seq ?_
    refine XK.op0' S9 ?_
    refine OG_p rfl ?_
    refine OG_p (op_lt rfl rfl (by omega)) ?_
    refine OG_nil ?_
    refine seqQ_n ?_
    refine XK.condT rfl ?_
    refine XK.skip S9 ?_
    refine seqQ_n ?_
    refine XK.seq ?_
    refine XK.block ?_
    obtain ⟨v2, h2, hap, ho2, hfr, hbk⟩ := ho.appL (bytes := 8) [N6 (hvF (pw i) s 0)] (by simp) (by simp; omega) (by simp; omega)
    refine XK.reg2 S9 (power_c i (by omega)) (Value_c s (pw i) (pw_lt i) (by omega)) (.inl (by decide)) fun call hcl hcm => ?_
    refine OG_p rfl ?_
    refine OG_p rfl ?_
    refine OG_p rfl ?_
    refine OG_c rfl (hcl) ?_
    refine OG_c rfl (hcm) ?_
    refine OG_a rfl ?_
    refine OG_w (hap _ _ _ _ rfl rfl) ?_
    refine OG_p rfl ?_
    refine OG_nil ?_
    refine blockQ_n ?_
    refine seqQ_n ?_
    refine XK.op0' S9 ?_
    refine OG_p rfl ?_
    refine OG_p (op_add rfl rfl (by omega)) ?_
    refine OG_p rfl ?_
    refine OG_nil ?_
    refine loopQ_n ?_
    refine XL.less (t1 := ofPL [(p0, .str s), (p4, N6 s.length), (p5, v2), (p6, N6 (i + 1))]) (Le.cons (p := p0) rfl rfl (Le.cons (p := p4) rfl rfl (Le.cons (p := p5) rfl rfl (Le.cons (p := p6) rfl rfl Le.nil)))) (Le.refl _) ?_
    exact ih (i + 1) _ _ _ (by omega) (by rw [take_one (vR_at s (by omega)), List.map_append]; exact ho2) hQ

theorem zw_L (Q : E → T X → H → Pt → Prop) (s : List UInt8) (vid : Pt) (vs : List Nat) (hvl : vs.length = 6) (h : H) (n : Pt) (hv : h.get vid = some (.cells (vs.map N6))) : ∀ (k j : Nat) (b : Bool), j + k = 6 → (∀ t', Le (ofPL [(p0, .str s), (p4, N6 s.length), (p5, .sl vid 0 6 6 2), (p7, BX (zB vs k j b))]) t' → Q (.exit 2) t' h n) →
    XL Tryd.prog eqs9 133 k71L1 (ofPL [(p0, .str s), (p4, N6 s.length), (p5, .sl vid 0 6 6 2), (p7, BX (b)), (p8, N6 (j))]) h n Q := by
  intro k
  induction k with
  | zero =>
    intro j b hj hQ
    refine XL.body ?_
    refine XK.seq ?_
    refine XK.seq ?_
    refine XK.op0' S9 ?_
    refine OG_p rfl ?_
    refine OG_p (op_nlt rfl rfl (by omega)) ?_
    refine OG_nil ?_
    refine seqQ_n ?_
    refine XK.condF rfl ?_
    refine XK.exit S9 ?_
    refine seqQ_x ?_
    refine loopQ_x ?_
    exact hQ _ (Le.cons (p := p0) rfl rfl (Le.cons (p := p4) rfl rfl (Le.cons (p := p5) rfl rfl (Le.cons (p := p7) rfl rfl Le.nil))))
  | succ k ih =>
    intro j b hj hQ
    cases b with
    | true =>
      refine XL.body ?_
      refine XK.seq ?_
      refine XK.seq ?_
      refine XK.op0' S9 ?_
      refine OG_p rfl ?_
      refine OG_p (op_lt rfl rfl (by omega)) ?_
      refine OG_nil ?_
      refine seqQ_n ?_
      refine XK.condT rfl ?_
      refine XK.skip S9 ?_
      refine seqQ_n ?_
      refine XK.seq ?_
      refine XK.block ?_
      refine XK.op0' S9 ?_
      refine OG_p rfl ?_
      refine OG_p rfl ?_
      refine OG_y (rfl) rfl ?_
      refine OG_y (rfl) rfl ?_
      refine OG_y (rfl) (st_p (op_ia rfl rfl (by omega))) ?_
      refine OG_y (rfl) (st_r (op_ld rfl hv (map_at0 (by omega)))) ?_
      refine OG_y (rfl) (st_p (show opP _ _ = some (X.bool (decide (vs.getD j 0 = 0))) from dz _)) ?_
      refine OG_p rfl ?_
      refine OG_p rfl ?_
      refine OG_nil ?_
      refine blockQ_n ?_
      refine seqQ_n ?_
      refine XK.op0' S9 ?_
      refine OG_p rfl ?_
      refine OG_p (op_add rfl rfl (by omega)) ?_
      refine OG_p rfl ?_
      refine OG_nil ?_
      refine loopQ_n ?_
      refine XL.less (t1 := ofPL [(p0, .str s), (p4, N6 s.length), (p5, .sl vid 0 6 6 2), (p7, BX (decide (vs.getD j 0 = 0))), (p8, N6 (j + 1))]) (Le.cons (p := p0) rfl rfl (Le.cons (p := p4) rfl rfl (Le.cons (p := p5) rfl rfl (Le.cons (p := p7) rfl rfl (Le.cons (p := p8) rfl rfl Le.nil))))) (Le.refl _) ?_
      exact ih (j + 1) _ (by omega) hQ
    | false =>
      refine XL.body ?_
      refine XK.seq ?_
      refine XK.seq ?_
      refine XK.op0' S9 ?_
      refine OG_p rfl ?_
      refine OG_p (op_lt rfl rfl (by omega)) ?_
      refine OG_nil ?_
      refine seqQ_n ?_
      refine XK.condT rfl ?_
      refine XK.skip S9 ?_
      refine seqQ_n ?_
      refine XK.seq ?_
      refine XK.block ?_
      refine XK.op0' S9 ?_
      refine OG_p rfl ?_
      refine OG_p rfl ?_
      refine OG_o (rfl) rfl ?_
      refine OG_o (rfl) rfl ?_
      refine OG_o (rfl) rfl ?_
      refine OG_o (rfl) rfl ?_
      refine OG_o (rfl) rfl ?_
      refine OG_p rfl ?_
      refine OG_p rfl ?_
      refine OG_nil ?_
      refine blockQ_n ?_
      refine seqQ_n ?_
      refine XK.op0' S9 ?_
      refine OG_p rfl ?_
      refine OG_p (op_add rfl rfl (by omega)) ?_
      refine OG_p rfl ?_
      refine OG_nil ?_
      refine loopQ_n ?_
      refine XL.less (t1 := ofPL [(p0, .str s), (p4, N6 s.length), (p5, .sl vid 0 6 6 2), (p7, BX (false)), (p8, N6 (j + 1))]) (Le.cons (p := p0) rfl rfl (Le.cons (p := p4) rfl rfl (Le.cons (p := p5) rfl rfl (Le.cons (p := p7) rfl rfl (Le.cons (p := p8) rfl rfl Le.nil))))) (Le.refl _) ?_
      exact ih (j + 1) _ (by omega) hQ

theorem xw_L (Q : E → T X → H → Pt → Prop) (s : List UInt8) (hs : s.length ≤ 42) (vid : Pt) (vs : List Nat) : ∀ (k i : Nat) (h : H) (n : Pt) (v : X), i + k = s.length → Own h n 1 (((ptsN s.length).take i).map N6) v → h.get vid = some (.cells (vs.map N6)) → vid.num < n.num → v.blk ≠ some vid → (∀ t' h' n' v', Le (ofPL [(p0, .str s), (p4, N6 s.length), (p5, .sl vid 0 6 6 2), (p9, v')]) t' → Own h' n' 1 ((ptsN s.length).map N6) v' → h'.get vid = some (.cells (vs.map N6)) → vid.num < n'.num → v'.blk ≠ some vid → Q (.exit 4) t' h' n') →
    XL Tryd.prog eqs9 133 k71L2 (ofPL [(p0, .str s), (p4, N6 s.length), (p5, .sl vid 0 6 6 2), (p9, v), (p10, N6 (i))]) h n Q := by
  intro k
  induction k with
  | zero =>
    intro i h n v hi ho hv hvn hvb hQ
    refine XL.body ?_
    refine XK.seq ?_
    refine XK.seq ?_
    refine XK.op0' S9 ?_
    refine OG_p rfl ?_
    refine OG_p rfl ?_
    refine OG_p (op_nlt rfl rfl (by omega)) ?_
    refine OG_nil ?_
    refine seqQ_n ?_
    refine XK.condF rfl ?_
    refine XK.exit S9 ?_
    refine seqQ_x ?_
    refine loopQ_x ?_
    exact hQ _ _ _ _ (Le.cons (p := p0) rfl rfl (Le.cons (p := p4) rfl rfl (Le.cons (p := p5) rfl rfl (Le.cons (p := p9) rfl rfl Le.nil)))) (by rw [List.take_of_length_le (by rw [ptsN_len]; omega)] at ho; exact ho) hv hvn hvb
  | succ k ih =>
    intro i h n v hi ho hv hvn hvb hQ
    have hlp : (ptsN s.length).length = s.length := ptsN_len _
    refine XL.body ?_
    refine XK.seq ?_
    refine XK.seq ?_
    refine XK.op0' S9 ?_
    refine OG_p rfl ?_
    refine OG_p rfl ?_
    refine OG_p (op_lt rfl rfl (by omega)) ?_
    refine OG_nil ?_
    refine seqQ_n ?_
    refine XK.condT rfl ?_
    refine XK.skip S9 ?_
    refine seqQ_n ?_
    refine XK.seq ?_
    refine XK.block ?_
    obtain ⟨v2, h2, hap, ho2, hfr, hbk⟩ := ho.appL (bytes := 8) [N6 (pw (s.length - 1 - i))] (by simp) (by simp; omega) (by simp; omega)
    refine XK.reg1 S9 (power_c (s.length - 1 - i) (by omega)) fun call hcl => ?_
    refine OG_p rfl ?_
    refine OG_p rfl ?_
    refine OG_p (op_sub rfl rfl (by omega) (by omega)) ?_
    refine OG_p rfl ?_
    refine OG_p (op_sub rfl rfl (by omega) (by omega)) ?_
    refine OG_c rfl (hcl) ?_
    refine OG_a rfl ?_
    refine OG_w (hap _ _ _ _ rfl rfl) ?_
    refine OG_p rfl ?_
    refine OG_nil ?_
    refine blockQ_n ?_
    refine seqQ_n ?_
    refine XK.op0' S9 ?_
    refine OG_p rfl ?_
    refine OG_p (op_add rfl rfl (by omega)) ?_
    refine OG_p rfl ?_
    refine OG_nil ?_
    refine loopQ_n ?_
    refine XL.less (t1 := ofPL [(p0, .str s), (p4, N6 s.length), (p5, .sl vid 0 6 6 2), (p9, v2), (p10, N6 (i + 1))]) (Le.cons (p := p0) rfl rfl (Le.cons (p := p4) rfl rfl (Le.cons (p := p5) rfl rfl (Le.cons (p := p9) rfl rfl (Le.cons (p := p10) rfl rfl Le.nil))))) (Le.refl _) ?_
    exact ih (i + 1) _ _ _ (by omega) (by rw [take_one (ptsN_at (by omega)), List.map_append]; exact ho2) (by rw [hfr vid hvn hvb]; exact hv) (by rw [num_inc, num_inc]; omega) (fun e => by have := hbk _ e; omega) hQ

end Go.Ex

