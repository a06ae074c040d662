/- Part of the proof: R9G. -/
import Derived.Test.YtnpcmealdfapjaaDoorR9F
set_option linter.unusedVariables false
set_option linter.unusedSimpArgs false
set_option maxRecDepth 20000
namespace Go.Ex
open Go.Proofs
def ptF : Nat → Nat → List Nat → List Nat
  | 0, _, l => l
  | k + 1, pt, l => ptF k (tw pt) (l.set k pt)
def ptsN (N : Nat) : List Nat := ptF N 1 (List.replicate N 0)
theorem ptF_len : ∀ (k pt : Nat) (l : List Nat), (ptF k pt l).length = l.length := by
  intro k
  induction k with
  | zero => intro pt l; rfl
  | succ k ih => intro pt l; show (ptF k _ _).length = _; rw [ih, List.length_set]
theorem ptsN_len (N : Nat) : (ptsN N).length = N := by unfold ptsN; rw [ptF_len, List.length_replicate]
noncomputable def HP (l : List Nat) : H := T.put T.e .z (.cells (l.map B8))

theorem pt_L (Q : E → T X → H → Pt → Prop) (N : Nat) (hN : N ≤ 300) : ∀ (k pt : Nat) (l : List Nat) (z : Int) (n : Pt), z = (k : Int) - 1 → k ≤ N → l.length = N → pt < 256 → (∀ t' n', Le (ofPL [(p3, .sl .z 0 N N 0)]) t' → Q (.exit 0) t' (HP (ptF k pt l)) n') →
    XL Tryd.prog eqs9 21 k101L0 (ofPL [(p3, .sl .z 0 N N 0), (p4, B8 (pt)), (p5, I6 (z))]) (HP l) n Q := by
  intro k
  induction k with
  | zero =>
    intro pt l z n hz hk hl hpt hQ
    refine XL.body ?_
    refine XK.seq ?_
    refine XK.seq ?_
    refine XK.op0' S9 ?_
    refine OG_p rfl ?_
    refine OG_p (show opP _ _ = some (X.bool false) from fls (show ¬ (0 : Int) ≤ z by omega)) ?_
    refine OG_nil ?_
    refine seqQ_n ?_
    refine XK.condF rfl ?_
    refine XK.exit S9 ?_
    refine seqQ_x ?_
    refine loopQ_x ?_
    exact hQ _ _ (Le.cons (p := p3) rfl rfl Le.nil)
  | succ k ih =>
    intro pt l z n hz hk hl hpt hQ
    obtain rfl : z = Int.ofNat k := by show z = (k : Int); omega
    refine XL.body ?_
    refine XK.seq ?_
    refine XK.seq ?_
    refine XK.op0' S9 ?_
    refine OG_p rfl ?_
    refine OG_p (show opP _ _ = some (X.bool true) from tru (show (0 : Int) ≤ (k : Int) by omega)) ?_
    refine OG_nil ?_
    refine seqQ_n ?_
    refine XK.condT rfl ?_
    refine XK.skip S9 ?_
    refine seqQ_n ?_
    refine XK.seq ?_
    refine XK.block ?_
    refine XK.seq ?_
    refine XK.op0' S9 ?_
    refine OG_p rfl ?_
    refine OG_p rfl ?_
    refine OG_p rfl ?_
    refine OG_p (op_ia rfl rfl (by omega)) ?_
    refine OG_w (op_st_map (F := B8) (h := HP l) (fun _ => rfl) rfl rfl rfl (by omega)) ?_
    refine OG_nil ?_
    refine seqQ_n ?_
    refine XK.reg1 S9 (twice_c pt hpt) fun call hcl => ?_
    refine OG_p rfl ?_
    refine OG_c rfl hcl ?_
    refine OG_p rfl ?_
    refine OG_nil ?_
    refine blockQ_n ?_
    refine seqQ_n ?_
    refine XK.op0' S9 ?_
    refine OG_p rfl ?_
    refine OG_p (op_subI rfl rfl (show _ ≤ (k : Int) - (1 : Int) by omega) (show (k : Int) - (1 : Int) < _ by omega)) ?_
    refine OG_p rfl ?_
    refine OG_nil ?_
    refine loopQ_n ?_
    refine XL.less (t1 := ofPL [(p3, .sl .z 0 N N 0), (p4, B8 (tw pt)), (p5, I6 ((Int.ofNat k) - (Int.ofNat 1)))]) (Le.cons (p := p3) rfl rfl (Le.cons (p := p4) rfl rfl (Le.cons (p := p5) rfl rfl Le.nil))) (show Le (HP (l.set k pt)) _ from Le.refl _) ?_
    exact ih _ _ _ _ rfl (by omega) (by rw [List.length_set]; exact hl) (tw_lt pt) hQ

theorem points_x (N : Nat) (hN : N ≤ 300) : XF Tryd.prog eqs9 101 [N6 N] .e .z (fun xx hh _ => xx = .sl .z 0 N N 0 ∧ hh = HP (ptsN N)) := by
  refine XF.body S9 fk101 rfl ?_
  refine XK.seq ?_
  refine XK.op S9 rfl ?_
  refine seqQ_n ?_
  refine XK.seq ?_
  refine XK.op0' S9 ?_
  refine OG_p rfl ?_
  refine OG_a (op_mkS rfl (by omega) (by omega)) ?_
  refine OG_p rfl ?_
  refine OG_nil ?_
  refine seqQ_n ?_
  refine XK.seq ?_
  refine XK.op S9 rfl ?_
  refine seqQ_n ?_
  refine XK.seq ?_
  refine XK.seq ?_
  refine XK.op0' S9 ?_
  refine OG_p rfl ?_
  refine OG_p (op_subI rfl rfl (show _ ≤ (N : Int) - (1 : Int) by omega) (show (N : Int) - (1 : Int) < _ by omega)) ?_
  refine OG_p rfl ?_
  refine OG_nil ?_
  refine seqQ_n ?_
  refine XK.block ?_
  refine XK.loop ?_
  refine XL.less (t1 := ofPL [(p3, .sl .z 0 N N 0), (p4, B8 (1)), (p5, I6 ((Int.ofNat N) - (Int.ofNat 1)))]) (Le.cons (p := p3) rfl rfl (Le.cons (p := p4) rfl rfl (Le.cons (p := p5) rfl rfl Le.nil))) (show Le (HP (List.replicate N 0)) _ from Le.refl _) ?_
  refine pt_L _ N hN N 1 (List.replicate N 0) _ _ rfl (Nat.le_refl _) List.length_replicate (by omega) (fun t' n' hle => ?_)
  refine blockQ_h rfl ?_
  refine seqQ_n ?_
  refine XK.less hle (Le.refl _) ?_
  refine XK.seq ?_
  refine XK.op S9 rfl ?_
  refine seqQ_n ?_
  refine XK.ret S9 ?_
  exact ⟨_, rfl, rfl, rfl⟩

theorem points_c (N : Nat) (hN : N ≤ 300) (h : H) (n : Pt) : CallOne eqs9.gs Tryd.prog 101 [N6 N] h n (.sl n 0 N N 0) (h.put n (.cells ((ptsN N).map B8))) n.inc := by
  obtain ⟨x, h', n', c, rfl, rfl⟩ := points_x N hN
  exact CallOne.fresh c rfl (noF_map _) h n
/-- The values without what comes from the place with this point. -/
def leftF : Nat → Nat → List Nat → Nat → List Nat → List Nat
  | 0, _, _, _, l => l
  | k + 1, j, v, pt, l => leftF k (j + 1) v pt (l.set j (v.getD (j + 1) 0 ^^^ pr (v.getD j 0) pt))
def left (v : List Nat) (pt : Nat) : List Nat := leftF 5 0 v pt [0, 0, 0, 0, 0]
theorem leftF_len : ∀ (k j : Nat) (v : List Nat) (pt : Nat) (l : List Nat), (leftF k j v pt l).length = l.length := by
  intro k
  induction k with
  | zero => intro j v pt l; rfl
  | succ k ih => intro j v pt l; show (leftF k _ _ _ _).length = _; rw [ih, List.length_set]
theorem leftF_8 : ∀ (k j : Nat) (v : List Nat) (pt : Nat) (l : List Nat), all8 v → all8 l → all8 (leftF k j v pt l) := by
  intro k
  induction k with
  | zero => intro j v pt l _ h; exact h
  | succ k ih => intro j v pt l hv h; exact ih _ _ _ _ hv (all8_set h (xor_lt (hv _) (pr_lt _ _ (hv _))))
theorem all8_5 : all8 [0, 0, 0, 0, 0] := fun i => by
  match i with
  | 0 => decide
  | 1 => decide
  | 2 => decide
  | 3 => decide
  | 4 => decide
  | i + 5 => exact (by simp : ([] : List Nat).getD i 0 < 256)
/-- The two places and what is wrong there. -/
def twoF (v ps : List Nat) : Nat → Nat → Option (Nat × Nat × Nat × Nat)
  | 0, _ => none
  | k + 1, i => match oneF (left v (ps.getD i 0)) ps ps.length 0 with
    | some m => if m = i then twoF v ps k (i + 1) else
        let b := pr ((left v (ps.getD i 0)).getD 0 0) (inv (ps.getD m 0 ^^^ ps.getD i 0))
        some (i, v.getD 0 0 ^^^ b, m, b)
    | none => twoF v ps k (i + 1)

theorem left_L (Q : E → T X → H → Pt → Prop) (h0 : H) (n0 pid b2 b5 : Pt) (N i pt : Nat) (v : List Nat) (v8 : all8 v) (hv6 : v.length = 6) (hpt : pt < 256) (hne : b2 ≠ b5) : ∀ (k j : Nat) (l : List Nat) (h : H) (n : Pt), j + k = 5 → l.length = 5 → h.get b2 = some (.cells (v.map B8)) → h.get b5 = some (.cells (l.map B8)) → n0.num ≤ n.num → (∀ id, id ≠ b5 → h.get id = h0.get id) → (∀ t' h' n', Le (ofPL [(p1, .sl pid 0 N N 0), (p2, .ptr b2 0), (p6, N6 i), (p7, B8 pt), (p8, .ptr b5 0), (p12, .sl pid 0 N N 0), (p13, N6 N), (p14, N6 i)]) t' → h'.get b5 = some (.cells ((leftF k j v pt l).map B8)) → n0.num ≤ n'.num → (∀ id, id ≠ b5 → h'.get id = h0.get id) → Q (.exit 2) t' h' n') →
    XL Tryd.prog eqs9 70 k103L1 (ofPL [(p1, .sl pid 0 N N 0), (p2, .ptr b2 0), (p6, N6 i), (p7, B8 pt), (p8, .ptr b5 0), (p12, .sl pid 0 N N 0), (p13, N6 N), (p14, N6 i), (p19, N6 (j))]) h n Q := by
  intro k
  induction k with
  | zero =>
    intro j l h n hj h5 hv hl hn hfr hQ
    refine XL.body ?_
    refine XK.seq ?_
    refine XK.op0' S9 ?_
    refine OG_p (op_nlt rfl rfl (by omega)) ?_
    refine OG_nil ?_
    refine seqQ_n ?_
    refine XK.seq ?_
    refine XK.condF rfl ?_
    refine XK.exit S9 ?_
    refine seqQ_x ?_
    refine loopQ_x ?_
    exact hQ _ _ _ (Le.cons (p := p1) rfl rfl (Le.cons (p := p2) rfl rfl (Le.cons (p := p6) rfl rfl (Le.cons (p := p7) rfl rfl (Le.cons (p := p8) rfl rfl (Le.cons (p := p12) rfl rfl (Le.cons (p := p13) rfl rfl (Le.cons (p := p14) rfl rfl Le.nil)))))))) hl hn hfr
  | succ k ih =>
    intro j l h n hj h5 hv hl hn hfr hQ
    refine XL.body ?_
    refine XK.seq ?_
    refine XK.op0' S9 ?_
    refine OG_p (op_lt rfl rfl (by omega)) ?_
    refine OG_nil ?_
    refine seqQ_n ?_
    refine XK.seq ?_
    refine XK.condT rfl ?_
    refine XK.skip S9 ?_
    refine seqQ_n ?_
    refine XK.seq ?_
    refine XK.block ?_
    refine XK.seq ?_
    refine XK.op S9 rfl ?_
    refine seqQ_n ?_
    refine XK.ds1 S9 (HS := [(13, h.put b5 (.cells ((l.set j (v.getD (j + 1) 0 ^^^ pr (v.getD j 0) pt)).map B8))), (10, h), (0, h)]) (product_c (v.getD j 0) pt (v8 j) hpt) fun call hcl => ?_
    refine DS_p rfl ?_
    refine DS_p rfl ?_
    refine DS_p (op_add rfl rfl (by omega)) ?_
    refine DS_p (op_iaA rfl rfl (by omega)) ?_
    refine DS_r (op_ld rfl hv (map_at0 (by omega))) ⟨fun hh => absurd hh (by decide), fun _ => (op_ld rfl hv (map_at0 (by omega))), fun hh => absurd hh (by decide), trivial⟩ ?_
    refine DS_p rfl ?_
    refine DS_p (op_iaA rfl rfl (by omega)) ?_
    refine DS_r (op_ld rfl hv (map_at0 (by omega))) ⟨fun hh => absurd hh (by decide), fun hh => absurd hh (by decide), fun hh => absurd hh (by decide), trivial⟩ ?_
    refine DS_p rfl ?_
    refine DS_c rfl hcl ?_
    refine DS_p (op_x8 rfl rfl (v8 _) (pr_lt _ _ (v8 _))) ?_
    refine DS_p (op_iaA rfl rfl (by omega)) ?_
    refine DS_w (op_st_map (F := B8) (fun _ => rfl) rfl rfl hl (by omega)) ?_
    refine DS_nil rfl ?_
    refine blockQ_n ?_
    refine seqQ_n ?_
    refine XK.op0' S9 ?_
    refine OG_p (op_add rfl rfl (by omega)) ?_
    refine OG_p rfl ?_
    refine OG_nil ?_
    refine loopQ_n ?_
    refine XL.less (t1 := ofPL [(p1, .sl pid 0 N N 0), (p2, .ptr b2 0), (p6, N6 i), (p7, B8 pt), (p8, .ptr b5 0), (p12, .sl pid 0 N N 0), (p13, N6 N), (p14, N6 i), (p19, N6 (j + 1))]) (Le.cons (p := p1) rfl rfl (Le.cons (p := p2) rfl rfl (Le.cons (p := p6) rfl rfl (Le.cons (p := p7) rfl rfl (Le.cons (p := p8) rfl rfl (Le.cons (p := p12) rfl rfl (Le.cons (p := p13) rfl rfl (Le.cons (p := p14) rfl rfl (Le.cons (p := p19) rfl rfl Le.nil))))))))) (Le.refl _) ?_
    exact ih (j + 1) _ _ _ (by omega) (by rw [List.length_set]; exact h5) (by rw [get_put, if_neg (fun e => hne e)]; exact hv) (by rw [get_put, if_pos rfl]) (by rw [skip_num]; omega) (fun id hid => by rw [get_put, if_neg hid]; exact hfr id hid) hQ

end Go.Ex

