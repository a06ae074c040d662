/- Part of the proof: R9E. -/
import Derived.Test.YtnpcmealdfapjaaDoorR9D
set_option linter.unusedVariables false
set_option linter.unusedSimpArgs false
set_option maxRecDepth 20000
namespace Go.Ex
open Go.Proofs
def oneF (l ps : List Nat) : Nat → Nat → Option Nat
  | 0, _ => none
  | k + 1, i => if l.getD 0 0 = 0 then none else if growF l (ps.getD i 0) (l.length - 1) 1 = true then some i else oneF l ps k (i + 1)
theorem oneF_zero {l ps : List Nat} (h : l.getD 0 0 = 0) : ∀ k i, oneF l ps k i = none := fun k i => by
  cases k with
  | zero => rfl
  | succ k => rw [oneF, if_pos h]

theorem one_L (Q : E → T X → H → Pt → Prop) (hh : H) (vid pid b4 : Pt) (L N : Nat) (l ps : List Nat) (n0 : Pt) (h8 : all8 l) (hp8 : all8 ps) (hL : l.length = L) (hL1 : 1 ≤ L) (hL6 : L ≤ 6) (hN : ps.length = N) (hN42 : N ≤ 42) (hv : hh.get vid = some (.cells (l.map B8))) (hp : hh.get pid = some (.cells (ps.map B8))) (hb : hh.get b4 = some (.cells [N6 0, B8 0])) : ∀ (k i : Nat) (n : Pt), i + k = N → n0.num ≤ n.num → (∀ t' n' m, oneF l ps k i = some m → Le (ofPL [(p4, .ptr b4 0), (p5, BX true)]) t' → n0.num ≤ n'.num → Q .ret t' (hh.put b4 (.cells [N6 m, B8 (l.getD 0 0)])) n') → (∀ t' n', oneF l ps k i = none → Le (ofPL [(p4, .ptr b4 0)]) t' → n0.num ≤ n'.num → Q (.exit 0) t' hh n') →
    XL Tryd.prog eqs9 31 k102L0 (ofPL [(p0, .sl vid 0 L L 0), (p4, .ptr b4 0), (p8, .sl pid 0 N N 0), (p9, N6 N), (p10, N6 (i))]) hh n Q := by
  intro k
  induction k with
  | zero =>
    intro i n hi hn hR hX
    refine XL.body ?_
    refine XK.seq ?_
    refine XK.op0' S9 ?_
    refine OG_p (op_nlt rfl rfl (by omega)) ?_
    refine OG_nil ?_
    refine seqQ_n ?_
    refine XK.seq ?_
    refine XK.condF rfl ?_
    refine XK.exit S9 ?_
    refine seqQ_x ?_
    refine loopQ_x ?_
    exact hX _ _ rfl (Le.cons (p := p4) rfl rfl Le.nil) hn
  | succ k ih =>
    intro i n hi hn hR hX
    by_cases hz : l.getD 0 0 = 0
    · skip
      refine XL.body ?_
      refine XK.seq ?_
      refine XK.op0' S9 ?_
      refine OG_p (op_lt rfl rfl (by omega)) ?_
      refine OG_nil ?_
      refine seqQ_n ?_
      refine XK.seq ?_
      refine XK.condT rfl ?_
      refine XK.skip S9 ?_
      refine seqQ_n ?_
      refine XK.seq ?_
      refine XK.block ?_
      refine XK.seq ?_
      refine XK.op0' S9 ?_
      refine OG_p rfl ?_
      refine OG_p (op_ia rfl rfl (by omega)) ?_
      refine OG_r (op_ld rfl hp (map_at0 (by omega))) ?_
      refine OG_p rfl ?_
      refine OG_p rfl ?_
      refine OG_nil ?_
      refine seqQ_n ?_
      refine XK.seq ?_
      refine XK.op0' S9 ?_
      refine OG_p rfl ?_
      refine OG_p (op_ia rfl rfl (by omega)) ?_
      refine OG_r (op_ld rfl hv (map_at0 (by omega))) ?_
      refine OG_p (show opP _ _ = some (X.bool false) from eq8 (hz)) ?_
      refine OG_p rfl ?_
      refine OG_o (rfl) rfl ?_
      refine OG_o (rfl) rfl ?_
      refine OG_o (rfl) rfl ?_
      refine OG_p rfl ?_
      refine OG_nil ?_
      refine seqQ_n ?_
      refine XK.condF rfl ?_
      refine XK.skip S9 ?_
      refine blockQ_n ?_
      refine seqQ_n ?_
      refine XK.op0' S9 ?_
      refine OG_p (op_add rfl rfl (by omega)) ?_
      refine OG_p rfl ?_
      refine OG_nil ?_
      refine loopQ_n ?_
      refine XL.less (t1 := ofPL [(p0, .sl vid 0 L L 0), (p4, .ptr b4 0), (p8, .sl pid 0 N N 0), (p9, N6 N), (p10, N6 (i + 1))]) (Le.cons (p := p0) rfl rfl (Le.cons (p := p4) rfl rfl (Le.cons (p := p8) rfl rfl (Le.cons (p := p9) rfl rfl (Le.cons (p := p10) rfl rfl Le.nil))))) (Le.refl _) ?_
      exact ih (i + 1) _ (by omega) (by first | omega | (show n0.num ≤ n2.num; omega)) (fun t' n' m hm => by rw [oneF_zero hz] at hm; cases hm) (fun t' n' _ hle hn2 => hX t' n' (oneF_zero hz _ _) hle hn2)
    · obtain ⟨n2, hn2, cg⟩ := growsBy_c hh n vid L l (ps.getD i 0) (hp8 i) h8 hL hL6 hL1 hv
      refine XL.body ?_
      refine XK.seq ?_
      refine XK.op0' S9 ?_
      refine OG_p (op_lt rfl rfl (by omega)) ?_
      refine OG_nil ?_
      refine seqQ_n ?_
      refine XK.seq ?_
      refine XK.condT rfl ?_
      refine XK.skip S9 ?_
      refine seqQ_n ?_
      refine XK.seq ?_
      refine XK.block ?_
      refine XK.seq ?_
      refine XK.op0' S9 ?_
      refine OG_p rfl ?_
      refine OG_p (op_ia rfl rfl (by omega)) ?_
      refine OG_r (op_ld rfl hp (map_at0 (by omega))) ?_
      refine OG_p rfl ?_
      refine OG_p rfl ?_
      refine OG_nil ?_
      refine seqQ_n ?_
      refine XK.seq ?_
      refine XK.regF S9 (⟨122, [.sl vid 0 L L 0, B8 (ps.getD i 0)], hh, n, BX (growF l (ps.getD i 0) (L - 1) 1), hh, n2⟩) (cg) fun call hcl => ?_
      refine OG_p rfl ?_
      refine OG_p (op_ia rfl rfl (by omega)) ?_
      refine OG_r (op_ld rfl hv (map_at0 (by omega))) ?_
      refine OG_p (show opP _ _ = some (X.bool true) from ne8 (hz)) ?_
      refine OG_p rfl ?_
      refine OG_y (rfl) rfl ?_
      refine OG_y (rfl) rfl ?_
      refine OG_y (rfl) (st_call rfl hcl) ?_
      refine OG_p rfl ?_
      refine OG_nil ?_
      refine seqQ_n ?_
      refine XK.cond rfl (fun h1 => ?_) (fun h1 => ?_)
      · skip
        have hgr : growF l (ps.getD i 0) (l.length - 1) 1 = true := by rw [hL]; exact h1
        refine XK.seq ?_
        refine XK.op0' S9 ?_
        refine OG_p rfl ?_
        refine OG_p rfl ?_
        refine OG_p (op_ia rfl rfl (by omega)) ?_
        refine OG_r (op_ld rfl hv (map_at0 (by omega))) ?_
        refine OG_p rfl ?_
        refine OG_w (op_stA rfl rfl rfl hb rfl) ?_
        refine OG_p rfl ?_
        refine OG_nil ?_
        refine seqQ_n ?_
        refine XK.ret S9 ?_
        refine blockQ_r ?_
        refine seqQ_r ?_
        refine loopQ_r ?_
        exact hR _ _ i (by rw [oneF, if_neg hz, if_pos hgr]) (Le.cons (p := p4) rfl rfl (Le.cons (p := p5) rfl rfl Le.nil)) (show n0.num ≤ n2.num by omega)
      · skip
        have hgr : ¬ growF l (ps.getD i 0) (l.length - 1) 1 = true := by rw [hL, h1]; decide
        refine XK.skip S9 ?_
        refine blockQ_n ?_
        refine seqQ_n ?_
        refine XK.op0' S9 ?_
        refine OG_p (op_add rfl rfl (by omega)) ?_
        refine OG_p rfl ?_
        refine OG_nil ?_
        refine loopQ_n ?_
        refine XL.less (t1 := ofPL [(p0, .sl vid 0 L L 0), (p4, .ptr b4 0), (p8, .sl pid 0 N N 0), (p9, N6 N), (p10, N6 (i + 1))]) (Le.cons (p := p0) rfl rfl (Le.cons (p := p4) rfl rfl (Le.cons (p := p8) rfl rfl (Le.cons (p := p9) rfl rfl (Le.cons (p := p10) rfl rfl Le.nil))))) (Le.refl _) ?_
        exact ih (i + 1) _ (by omega) (by first | omega | (show n0.num ≤ n2.num; omega)) (fun t' n' m hm => hR t' n' m (by rw [oneF, if_neg hz, if_neg hgr]; exact hm)) (fun t' n' hm => hX t' n' (by rw [oneF, if_neg hz, if_neg hgr]; exact hm))

def oneX (l ps : List Nat) : X := match oneF l ps ps.length 0 with
  | some m => .tup [.agg [N6 m, B8 (l.getD 0 0)], BX true]
  | none => .tup [.agg [N6 0, B8 0], BX false]
theorem oneFlaw_c (h : H) (n vid pid : Pt) (L N : Nat) (l ps : List Nat) (h8 : all8 l) (hp8 : all8 ps) (hL : l.length = L) (hL1 : 1 ≤ L) (hL6 : L ≤ 6) (hN : ps.length = N) (hN42 : N ≤ 42) (hvn : vid.num < n.num) (hpn : pid.num < n.num) (hv : h.get vid = some (.cells (l.map B8))) (hp : h.get pid = some (.cells (ps.map B8))) : Reads eqs9.gs Tryd.prog 102 [.sl vid 0 L L 0, .sl pid 0 N N 0] h n (oneX l ps) := by
  refine XF.reads ?_
  obtain rfl := hN
  have hN : ps.length = ps.length := rfl
  refine XF.body S9 fk102 rfl ?_
  refine XK.seq ?_
  refine XK.op0' S9 ?_
  refine OG_a (rfl) ?_
  refine OG_p rfl ?_
  refine OG_nil ?_
  refine seqQ_n ?_
  refine XK.seq ?_
  refine XK.seq ?_
  refine XK.op0' S9 ?_
  refine OG_p rfl ?_
  refine OG_p (op_len rfl) ?_
  refine OG_p rfl ?_
  refine OG_nil ?_
  refine seqQ_n ?_
  refine XK.block ?_
  refine XK.loop ?_
  refine XL.less (t1 := ofPL [(p0, .sl vid 0 L L 0), (p4, .ptr n 0), (p8, .sl pid 0 ps.length ps.length 0), (p9, N6 ps.length), (p10, N6 (0))]) (Le.cons (p := p0) rfl rfl (Le.cons (p := p4) rfl rfl (Le.cons (p := p8) rfl rfl (Le.cons (p := p9) rfl rfl (Le.cons (p := p10) rfl rfl Le.nil))))) (Le.refl _) ?_
  refine one_L _ (h.put n (.cells [N6 0, B8 0])) vid pid n L ps.length l ps n h8 hp8 hL hL1 hL6 hN hN42 (by rw [get_put, if_neg (fun e => by rw [e] at hvn; omega)]; exact hv) (by rw [get_put, if_neg (fun e => by rw [e] at hpn; omega)]; exact hp) (by rw [get_put, if_pos rfl]) ps.length 0 _ (by omega) (by rw [num_inc]; omega) (fun t' n' m hm hle hn2 => ?_) (fun t' n' hm hle hn2 => ?_)
  · refine blockQ_r ?_
    refine seqQ_r ?_
    have hfin : ∃ xs, resX t' ((h.put n (.cells [N6 0, B8 0])).put n (.cells [N6 m, B8 (l.getD 0 0)])) k102.results = some xs ∧ packX xs = oneX l ps ∧ n.num ≤ n'.num ∧ ∀ id, id.num < n.num → ((h.put n (.cells [N6 0, B8 0])).put n (.cells [N6 m, B8 (l.getD 0 0)])).get id = h.get id :=
      ⟨_, res_cellA (id := n) (hle.at (p := p4) rfl) (by rw [get_put, if_pos rfl]) rfl (res_tmp (hle.at (p := p5) rfl) res_nil), by unfold oneX; rw [hm]; rfl, hn2, fun i hi => by rw [get_put, if_neg (fun e => by rw [e] at hi; omega), get_put, if_neg (fun e => by rw [e] at hi; omega)]⟩
    first
      | exact hfin
      | (refine seqQ_r ?_; exact hfin)
      | (refine seqQ_r ?_; refine seqQ_r ?_; exact hfin)
  · skip
    refine blockQ_h rfl ?_
    refine seqQ_n ?_
    refine XK.less hle (Le.refl _) ?_
    refine XK.seq ?_
    refine XK.op0' S9 ?_
    refine OG_p rfl ?_
    refine OG_w (op_stA rfl rfl rfl (by rw [get_put, if_pos rfl]) rfl) ?_
    refine OG_p rfl ?_
    refine OG_nil ?_
    refine seqQ_n ?_
    refine XK.ret S9 ?_
    exact ⟨_, res_cellA (id := n) rfl (by rw [get_put, if_pos rfl]) rfl (res_tmp rfl res_nil), by unfold oneX; rw [hm]; rfl, hn2, fun i hi => by rw [get_put, if_neg (fun e => by rw [e] at hi; omega), get_put, if_neg (fun e => by rw [e] at hi; omega)]⟩

end Go.Ex

