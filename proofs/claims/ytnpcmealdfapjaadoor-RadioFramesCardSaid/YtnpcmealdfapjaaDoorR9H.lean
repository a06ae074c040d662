/- Part of the proof: R9H. -/
import Derived.Test.YtnpcmealdfapjaaDoorR9G
set_option linter.unusedVariables false
set_option linter.unusedSimpArgs false
set_option maxRecDepth 20000
namespace Go.Ex
open Go.Proofs
theorem get_lt {h : H} {n i : Pt} {o : O} (hi : i.num < n.num) : (h.put n o).get i = h.get i := by rw [get_put, if_neg (fun e => by rw [e] at hi; omega)]
theorem get_at {h : H} {n : Pt} {o : O} : (h.put n o).get n = some o := by rw [get_put, if_pos rfl]
theorem oneF_lt {l ps : List Nat} : ∀ (k i m : Nat), oneF l ps k i = some m → i ≤ m ∧ m < i + k := by
  intro k
  induction k with
  | zero => intro i m h; cases h
  | succ k ih =>
    intro i m h
    rw [oneF] at h
    split at h
    · cases h
    · split at h
      · cases h; omega
      · have := ih _ _ h; omega
theorem oneX_none {l ps : List Nat} (h : oneF l ps ps.length 0 = none) : oneX l ps = .tup [.agg [N6 0, B8 0], BX false] := by unfold oneX; rw [h]
theorem oneX_some {l ps : List Nat} {m : Nat} (h : oneF l ps ps.length 0 = some m) : oneX l ps = .tup [.agg [N6 m, B8 (l.getD 0 0)], BX true] := by unfold oneX; rw [h]
theorem left_len (v : List Nat) (pt : Nat) : (left v pt).length = 5 := leftF_len _ _ _ _ _
theorem left_8 {v : List Nat} (pt : Nat) (h : all8 v) : all8 (left v pt) := leftF_8 _ _ _ _ _ h all8_5

theorem two_L (Q : E → T X → H → Pt → Prop) (h0 : H) (n0 pid b2 : Pt) (v ps : List Nat) (v8 : all8 v) (hv6 : v.length = 6) (hps8 : all8 ps) (hN42 : ps.length ≤ 42) : ∀ (k i : Nat) (h : H) (n : Pt), i + k = ps.length → h.get b2 = some (.cells (v.map B8)) → h.get pid = some (.cells (ps.map B8)) → b2.num < n.num → pid.num < n.num → n0.num ≤ n.num → (∀ id, id.num < n0.num → h.get id = h0.get id) → (∀ t' h' n' i' a m b nd, twoF v ps k i = some (i', a, m, b) → Le (ofPL [(p4, .sl nd 0 2 2 0), (p5, BX true)]) t' → h'.get nd = some (.cells [N6 i', B8 a, N6 m, B8 b]) → n0.num ≤ nd.num → nd.num < n'.num → (∀ id, id.num < n0.num → h'.get id = h0.get id) → Q .ret t' h' n') → (∀ t' h' n', twoF v ps k i = none → n0.num ≤ n'.num → (∀ id, id.num < n0.num → h'.get id = h0.get id) → Q (.exit 0) t' h' n') →
    XL Tryd.prog eqs9 70 k103L0 (ofPL [(p1, .sl pid 0 ps.length ps.length 0), (p2, .ptr b2 0), (p12, .sl pid 0 ps.length ps.length 0), (p13, N6 ps.length), (p14, N6 (i))]) h n Q := by
  intro k
  induction k with
  | zero =>
    intro i h n hi hb hp hbid hpid hn0 hfr hR hX
    refine XL.body ?_
    refine XK.seq ?_
    refine XK.op0' S9 ?_
    refine OG_p (op_nlt rfl rfl (by omega)) ?_
    refine OG_nil ?_
    refine seqQ_n ?_
    refine XK.seq ?_
    refine XK.condF rfl ?_
    refine XK.exit S9 ?_
    refine seqQ_x ?_
    refine loopQ_x ?_
    exact hX _ _ _ rfl hn0 hfr
  | succ k ih =>
    intro i h n hi hb hp hbid hpid hn0 hfr hR hX
    cases hm : oneF (left v (ps.getD i 0)) ps ps.length 0 with
    | none =>
      refine XL.body ?_
      refine XK.seq ?_
      refine XK.op0' S9 ?_
      refine OG_p (op_lt rfl rfl (by omega)) ?_
      refine OG_nil ?_
      refine seqQ_n ?_
      refine XK.seq ?_
      refine XK.condT rfl ?_
      refine XK.skip S9 ?_
      refine seqQ_n ?_
      refine XK.seq ?_
      refine XK.block ?_
      refine XK.seq ?_
      refine XK.op0' S9 ?_
      refine OG_p rfl ?_
      refine OG_p (op_ia rfl rfl (by omega)) ?_
      refine OG_r (op_ld rfl hp (map_at0 (by omega))) ?_
      refine OG_p rfl ?_
      refine OG_p rfl ?_
      refine OG_nil ?_
      refine seqQ_n ?_
      refine XK.seq ?_
      refine XK.op0' S9 ?_
      refine OG_a (rfl) ?_
      refine OG_nil ?_
      refine seqQ_n ?_
      refine XK.seq ?_
      refine XK.seq ?_
      refine XK.op S9 rfl ?_
      refine seqQ_n ?_
      refine XK.block ?_
      refine XK.loop ?_
      refine XL.less (t1 := ofPL [(p1, .sl pid 0 ps.length ps.length 0), (p2, .ptr b2 0), (p6, N6 i), (p7, B8 (ps.getD i 0)), (p8, .ptr n 0), (p12, .sl pid 0 ps.length ps.length 0), (p13, N6 ps.length), (p14, N6 i), (p19, N6 0)]) (Le.cons (p := p1) rfl rfl (Le.cons (p := p2) rfl rfl (Le.cons (p := p6) rfl rfl (Le.cons (p := p7) rfl rfl (Le.cons (p := p8) rfl rfl (Le.cons (p := p12) rfl rfl (Le.cons (p := p13) rfl rfl (Le.cons (p := p14) rfl rfl (Le.cons (p := p19) rfl rfl Le.nil))))))))) (Le.refl _) ?_
      refine left_L _ (h.put n (.cells [B8 0, B8 0, B8 0, B8 0, B8 0])) n.inc pid b2 n ps.length i (ps.getD i 0) v v8 hv6 (hps8 i) (fun e => by rw [e] at hbid; omega) 5 0 [0, 0, 0, 0, 0] _ _ rfl rfl (by rw [get_lt hbid]; exact hb) get_at (Nat.le_refl _) (fun _ _ => rfl) (fun t' h' n' hle hl5 hn5 hfr5 => ?_)
      refine blockQ_h rfl ?_
      refine seqQ_n ?_
      refine XK.less hle (Le.refl _) ?_
      refine XK.seq ?_
      have e1 := num_inc n
      have hpn : pid.num < n'.num := by omega
      have hbn : b2.num < n'.num := by omega
      have hp' : h'.get pid = some (.cells (ps.map B8)) := by rw [hfr5 pid (fun e => by rw [e] at hpid; omega), get_lt hpid]; exact hp
      have hb' : h'.get b2 = some (.cells (v.map B8)) := by rw [hfr5 b2 (fun e => by rw [e] at hbid; omega), get_lt hbid]; exact hb
      have hf' : ∀ id, id.num < n0.num → h'.get id = h0.get id := fun id hid => by rw [hfr5 id (fun e => by rw [e] at hid; omega), get_lt (by omega)]; exact hfr id hid
      obtain ⟨n3, hn3, cg⟩ := oneFlaw_c h' n' n pid 5 ps.length (left v (ps.getD i 0)) ps (left_8 _ v8) hps8 (left_len _ _) (by omega) (by omega) rfl hN42 (by omega) (by omega) hl5 hp'
      rw [oneX_none hm] at cg
      have e3 := num_inc n3
      have hp3 : ((h'.put n3 (.cells [N6 0, B8 0])).put n3 (.cells [N6 0, B8 0])).get pid = some (.cells (ps.map B8)) := by rw [get_lt (by omega), get_lt (by omega)]; exact hp'
      have hb3 : ((h'.put n3 (.cells [N6 0, B8 0])).put n3 (.cells [N6 0, B8 0])).get b2 = some (.cells (v.map B8)) := by rw [get_lt (by omega), get_lt (by omega)]; exact hb'
      have hf3 : ∀ id, id.num < n0.num → ((h'.put n3 (.cells [N6 0, B8 0])).put n3 (.cells [N6 0, B8 0])).get id = h0.get id := fun id hid => by rw [get_lt (by omega), get_lt (by omega)]; exact hf' id hid
      have hg3 : ((h'.put n3 (.cells [N6 0, B8 0])).put n3 (.cells [N6 0, B8 0])).get n3 = some (.cells [N6 0, B8 0]) := get_at
      refine XK.regC S9 (cg) fun call hcl => ?_
      refine OG_p rfl ?_
      refine OG_p rfl ?_
      refine OG_c rfl hcl ?_
      refine OG_p rfl ?_
      refine OG_p rfl ?_
      refine OG_p rfl ?_
      refine OG_a (rfl) ?_
      refine OG_w (op_stA rfl rfl rfl get_at rfl) ?_
      refine OG_p rfl ?_
      refine OG_nil ?_
      refine seqQ_n ?_
      refine XK.seq ?_
      refine XK.op0' S9 ?_
      refine OG_p rfl ?_
      refine OG_p rfl ?_
      refine OG_o (rfl) rfl ?_
      refine OG_o (rfl) rfl ?_
      refine OG_o (rfl) rfl ?_
      refine OG_o (rfl) rfl ?_
      refine OG_p rfl ?_
      refine OG_nil ?_
      refine seqQ_n ?_
      refine XK.condF rfl ?_
      refine XK.skip S9 ?_
      refine blockQ_n ?_
      refine seqQ_n ?_
      refine XK.op0' S9 ?_
      refine OG_p (op_add rfl rfl (by omega)) ?_
      refine OG_p rfl ?_
      refine OG_nil ?_
      refine loopQ_n ?_
      refine XL.less (t1 := ofPL [(p1, .sl pid 0 ps.length ps.length 0), (p2, .ptr b2 0), (p12, .sl pid 0 ps.length ps.length 0), (p13, N6 ps.length), (p14, N6 (i + 1))]) (Le.cons (p := p1) rfl rfl (Le.cons (p := p2) rfl rfl (Le.cons (p := p12) rfl rfl (Le.cons (p := p13) rfl rfl (Le.cons (p := p14) rfl rfl Le.nil))))) (Le.refl _) ?_
      exact ih (i + 1) _ _ (by omega) hb3 hp3 (by omega) (by omega) (by omega) hf3 (by rw [twoF, hm] at hR; exact hR) (by rw [twoF, hm] at hX; exact hX)
    | some m =>
      have hml := oneF_lt _ _ _ hm
      by_cases hmi : m = i
      · skip
        refine XL.body ?_
        refine XK.seq ?_
        refine XK.op0' S9 ?_
        refine OG_p (op_lt rfl rfl (by omega)) ?_
        refine OG_nil ?_
        refine seqQ_n ?_
        refine XK.seq ?_
        refine XK.condT rfl ?_
        refine XK.skip S9 ?_
        refine seqQ_n ?_
        refine XK.seq ?_
        refine XK.block ?_
        refine XK.seq ?_
        refine XK.op0' S9 ?_
        refine OG_p rfl ?_
        refine OG_p (op_ia rfl rfl (by omega)) ?_
        refine OG_r (op_ld rfl hp (map_at0 (by omega))) ?_
        refine OG_p rfl ?_
        refine OG_p rfl ?_
        refine OG_nil ?_
        refine seqQ_n ?_
        refine XK.seq ?_
        refine XK.op0' S9 ?_
        refine OG_a (rfl) ?_
        refine OG_nil ?_
        refine seqQ_n ?_
        refine XK.seq ?_
        refine XK.seq ?_
        refine XK.op S9 rfl ?_
        refine seqQ_n ?_
        refine XK.block ?_
        refine XK.loop ?_
        refine XL.less (t1 := ofPL [(p1, .sl pid 0 ps.length ps.length 0), (p2, .ptr b2 0), (p6, N6 i), (p7, B8 (ps.getD i 0)), (p8, .ptr n 0), (p12, .sl pid 0 ps.length ps.length 0), (p13, N6 ps.length), (p14, N6 i), (p19, N6 0)]) (Le.cons (p := p1) rfl rfl (Le.cons (p := p2) rfl rfl (Le.cons (p := p6) rfl rfl (Le.cons (p := p7) rfl rfl (Le.cons (p := p8) rfl rfl (Le.cons (p := p12) rfl rfl (Le.cons (p := p13) rfl rfl (Le.cons (p := p14) rfl rfl (Le.cons (p := p19) rfl rfl Le.nil))))))))) (Le.refl _) ?_
        refine left_L _ (h.put n (.cells [B8 0, B8 0, B8 0, B8 0, B8 0])) n.inc pid b2 n ps.length i (ps.getD i 0) v v8 hv6 (hps8 i) (fun e => by rw [e] at hbid; omega) 5 0 [0, 0, 0, 0, 0] _ _ rfl rfl (by rw [get_lt hbid]; exact hb) get_at (Nat.le_refl _) (fun _ _ => rfl) (fun t' h' n' hle hl5 hn5 hfr5 => ?_)
        refine blockQ_h rfl ?_
        refine seqQ_n ?_
        refine XK.less hle (Le.refl _) ?_
        refine XK.seq ?_
        have e1 := num_inc n
        have hpn : pid.num < n'.num := by omega
        have hbn : b2.num < n'.num := by omega
        have hp' : h'.get pid = some (.cells (ps.map B8)) := by rw [hfr5 pid (fun e => by rw [e] at hpid; omega), get_lt hpid]; exact hp
        have hb' : h'.get b2 = some (.cells (v.map B8)) := by rw [hfr5 b2 (fun e => by rw [e] at hbid; omega), get_lt hbid]; exact hb
        have hf' : ∀ id, id.num < n0.num → h'.get id = h0.get id := fun id hid => by rw [hfr5 id (fun e => by rw [e] at hid; omega), get_lt (by omega)]; exact hfr id hid
        obtain ⟨n3, hn3, cg⟩ := oneFlaw_c h' n' n pid 5 ps.length (left v (ps.getD i 0)) ps (left_8 _ v8) hps8 (left_len _ _) (by omega) (by omega) rfl hN42 (by omega) (by omega) hl5 hp'
        rw [oneX_some hm] at cg
        have e3 := num_inc n3
        have hp3 : ((h'.put n3 (.cells [N6 0, B8 0])).put n3 (.cells [N6 m, B8 ((left v (ps.getD i 0)).getD 0 0)])).get pid = some (.cells (ps.map B8)) := by rw [get_lt (by omega), get_lt (by omega)]; exact hp'
        have hb3 : ((h'.put n3 (.cells [N6 0, B8 0])).put n3 (.cells [N6 m, B8 ((left v (ps.getD i 0)).getD 0 0)])).get b2 = some (.cells (v.map B8)) := by rw [get_lt (by omega), get_lt (by omega)]; exact hb'
        have hf3 : ∀ id, id.num < n0.num → ((h'.put n3 (.cells [N6 0, B8 0])).put n3 (.cells [N6 m, B8 ((left v (ps.getD i 0)).getD 0 0)])).get id = h0.get id := fun id hid => by rw [get_lt (by omega), get_lt (by omega)]; exact hf' id hid
        have hg3 : ((h'.put n3 (.cells [N6 0, B8 0])).put n3 (.cells [N6 m, B8 ((left v (ps.getD i 0)).getD 0 0)])).get n3 = some (.cells [N6 m, B8 ((left v (ps.getD i 0)).getD 0 0)]) := get_at
        refine XK.regC S9 (cg) fun call hcl => ?_
        refine OG_p rfl ?_
        refine OG_p rfl ?_
        refine OG_c rfl hcl ?_
        refine OG_p rfl ?_
        refine OG_p rfl ?_
        refine OG_p rfl ?_
        refine OG_a (rfl) ?_
        refine OG_w (op_stA rfl rfl rfl get_at rfl) ?_
        refine OG_p rfl ?_
        refine OG_nil ?_
        refine seqQ_n ?_
        refine XK.seq ?_
        refine XK.op0' S9 ?_
        refine OG_p rfl ?_
        refine OG_p rfl ?_
        refine OG_y (rfl) rfl ?_
        refine OG_y (rfl) (st_r (op_ld rfl hg3 rfl)) ?_
        refine OG_y (rfl) rfl ?_
        refine OG_y (rfl) (st_p (show opP _ _ = some (X.bool false) from eq8 (hmi))) ?_
        refine OG_p rfl ?_
        refine OG_nil ?_
        refine seqQ_n ?_
        refine XK.condF rfl ?_
        refine XK.skip S9 ?_
        refine blockQ_n ?_
        refine seqQ_n ?_
        refine XK.op0' S9 ?_
        refine OG_p (op_add rfl rfl (by omega)) ?_
        refine OG_p rfl ?_
        refine OG_nil ?_
        refine loopQ_n ?_
        refine XL.less (t1 := ofPL [(p1, .sl pid 0 ps.length ps.length 0), (p2, .ptr b2 0), (p12, .sl pid 0 ps.length ps.length 0), (p13, N6 ps.length), (p14, N6 (i + 1))]) (Le.cons (p := p1) rfl rfl (Le.cons (p := p2) rfl rfl (Le.cons (p := p12) rfl rfl (Le.cons (p := p13) rfl rfl (Le.cons (p := p14) rfl rfl Le.nil))))) (Le.refl _) ?_
        exact ih (i + 1) _ _ (by omega) hb3 hp3 (by omega) (by omega) (by omega) hf3 (by rw [twoF, hm] at hR; simp only at hR; rw [if_pos hmi] at hR; exact hR) (by rw [twoF, hm] at hX; simp only at hX; rw [if_pos hmi] at hX; exact hX)
      · skip
        refine XL.body ?_
        refine XK.seq ?_
        refine XK.op0' S9 ?_
        refine OG_p (op_lt rfl rfl (by omega)) ?_
        refine OG_nil ?_
        refine seqQ_n ?_
        refine XK.seq ?_
        refine XK.condT rfl ?_
        refine XK.skip S9 ?_
        refine seqQ_n ?_
        refine XK.seq ?_
        refine XK.block ?_
        refine XK.seq ?_
        refine XK.op0' S9 ?_
        refine OG_p rfl ?_
        refine OG_p (op_ia rfl rfl (by omega)) ?_
        refine OG_r (op_ld rfl hp (map_at0 (by omega))) ?_
        refine OG_p rfl ?_
        refine OG_p rfl ?_
        refine OG_nil ?_
        refine seqQ_n ?_
        refine XK.seq ?_
        refine XK.op0' S9 ?_
        refine OG_a (rfl) ?_
        refine OG_nil ?_
        refine seqQ_n ?_
        refine XK.seq ?_
        refine XK.seq ?_
        refine XK.op S9 rfl ?_
        refine seqQ_n ?_
        refine XK.block ?_
        refine XK.loop ?_
        refine XL.less (t1 := ofPL [(p1, .sl pid 0 ps.length ps.length 0), (p2, .ptr b2 0), (p6, N6 i), (p7, B8 (ps.getD i 0)), (p8, .ptr n 0), (p12, .sl pid 0 ps.length ps.length 0), (p13, N6 ps.length), (p14, N6 i), (p19, N6 0)]) (Le.cons (p := p1) rfl rfl (Le.cons (p := p2) rfl rfl (Le.cons (p := p6) rfl rfl (Le.cons (p := p7) rfl rfl (Le.cons (p := p8) rfl rfl (Le.cons (p := p12) rfl rfl (Le.cons (p := p13) rfl rfl (Le.cons (p := p14) rfl rfl (Le.cons (p := p19) rfl rfl Le.nil))))))))) (Le.refl _) ?_
        refine left_L _ (h.put n (.cells [B8 0, B8 0, B8 0, B8 0, B8 0])) n.inc pid b2 n ps.length i (ps.getD i 0) v v8 hv6 (hps8 i) (fun e => by rw [e] at hbid; omega) 5 0 [0, 0, 0, 0, 0] _ _ rfl rfl (by rw [get_lt hbid]; exact hb) get_at (Nat.le_refl _) (fun _ _ => rfl) (fun t' h' n' hle hl5 hn5 hfr5 => ?_)
        refine blockQ_h rfl ?_
        refine seqQ_n ?_
        refine XK.less hle (Le.refl _) ?_
        refine XK.seq ?_
        have e1 := num_inc n
        have hpn : pid.num < n'.num := by omega
        have hbn : b2.num < n'.num := by omega
        have hp' : h'.get pid = some (.cells (ps.map B8)) := by rw [hfr5 pid (fun e => by rw [e] at hpid; omega), get_lt hpid]; exact hp
        have hb' : h'.get b2 = some (.cells (v.map B8)) := by rw [hfr5 b2 (fun e => by rw [e] at hbid; omega), get_lt hbid]; exact hb
        have hf' : ∀ id, id.num < n0.num → h'.get id = h0.get id := fun id hid => by rw [hfr5 id (fun e => by rw [e] at hid; omega), get_lt (by omega)]; exact hfr id hid
        obtain ⟨n3, hn3, cg⟩ := oneFlaw_c h' n' n pid 5 ps.length (left v (ps.getD i 0)) ps (left_8 _ v8) hps8 (left_len _ _) (by omega) (by omega) rfl hN42 (by omega) (by omega) hl5 hp'
        rw [oneX_some hm] at cg
        have e3 := num_inc n3
        have hp3 : ((h'.put n3 (.cells [N6 0, B8 0])).put n3 (.cells [N6 m, B8 ((left v (ps.getD i 0)).getD 0 0)])).get pid = some (.cells (ps.map B8)) := by rw [get_lt (by omega), get_lt (by omega)]; exact hp'
        have hb3 : ((h'.put n3 (.cells [N6 0, B8 0])).put n3 (.cells [N6 m, B8 ((left v (ps.getD i 0)).getD 0 0)])).get b2 = some (.cells (v.map B8)) := by rw [get_lt (by omega), get_lt (by omega)]; exact hb'
        have hf3 : ∀ id, id.num < n0.num → ((h'.put n3 (.cells [N6 0, B8 0])).put n3 (.cells [N6 m, B8 ((left v (ps.getD i 0)).getD 0 0)])).get id = h0.get id := fun id hid => by rw [get_lt (by omega), get_lt (by omega)]; exact hf' id hid
        have hg3 : ((h'.put n3 (.cells [N6 0, B8 0])).put n3 (.cells [N6 m, B8 ((left v (ps.getD i 0)).getD 0 0)])).get n3 = some (.cells [N6 m, B8 ((left v (ps.getD i 0)).getD 0 0)]) := get_at
        refine XK.regC S9 (cg) fun call hcl => ?_
        refine OG_p rfl ?_
        refine OG_p rfl ?_
        refine OG_c rfl hcl ?_
        refine OG_p rfl ?_
        refine OG_p rfl ?_
        refine OG_p rfl ?_
        refine OG_a (rfl) ?_
        refine OG_w (op_stA rfl rfl rfl get_at rfl) ?_
        refine OG_p rfl ?_
        refine OG_nil ?_
        refine seqQ_n ?_
        refine XK.seq ?_
        refine XK.op0' S9 ?_
        refine OG_p rfl ?_
        refine OG_p rfl ?_
        refine OG_y (rfl) rfl ?_
        refine OG_y (rfl) (st_r (op_ld rfl hg3 rfl)) ?_
        refine OG_y (rfl) rfl ?_
        refine OG_y (rfl) (st_p (show opP _ _ = some (X.bool true) from ne8 (hmi))) ?_
        refine OG_p rfl ?_
        refine OG_nil ?_
        refine seqQ_n ?_
        refine XK.condT rfl ?_
        refine XK.seq ?_
        refine XK.ds2 S9 (HS := [(13, (((h'.put n3 (.cells [N6 0, B8 0])).put n3 (.cells [N6 m, B8 ((left v (ps.getD i 0)).getD 0 0)])).put n3 (.cells [N6 m, B8 (pr ((left v (ps.getD i 0)).getD 0 0) (inv (ps.getD m 0 ^^^ ps.getD i 0)))]))), (11, ((h'.put n3 (.cells [N6 0, B8 0])).put n3 (.cells [N6 m, B8 ((left v (ps.getD i 0)).getD 0 0)]))), (10, ((h'.put n3 (.cells [N6 0, B8 0])).put n3 (.cells [N6 m, B8 ((left v (ps.getD i 0)).getD 0 0)]))), (0, ((h'.put n3 (.cells [N6 0, B8 0])).put n3 (.cells [N6 m, B8 ((left v (ps.getD i 0)).getD 0 0)])))]) (inverse_c (ps.getD m 0 ^^^ ps.getD i 0) (xor_lt (hps8 m) (hps8 i))) (product_c ((left v (ps.getD i 0)).getD 0 0) (inv (ps.getD m 0 ^^^ ps.getD i 0)) (left_8 _ v8 0) (inv_lt _ (xor_lt (hps8 m) (hps8 i)))) (.inl (by decide)) fun call hcl hcm => ?_
        refine DS_p rfl ?_
        refine DS_r (op_ld rfl hg3 rfl) ⟨fun hh => absurd hh (by decide), fun hh => absurd hh (by decide), fun _ => (op_ld rfl hg3 rfl), fun hh => absurd hh (by decide), trivial⟩ ?_
        refine DS_p rfl ?_
        refine DS_p rfl ?_
        refine DS_r (op_ld rfl hg3 rfl) ⟨fun hh => absurd hh (by decide), fun hh => absurd hh (by decide), fun hh => absurd hh (by decide), fun hh => absurd hh (by decide), trivial⟩ ?_
        refine DS_p (op_ia rfl rfl (by omega)) ?_
        refine DS_r (op_ld rfl hp3 (map_at0 (by omega))) ⟨fun hh => absurd hh (by decide), fun hh => absurd hh (by decide), fun hh => absurd hh (by decide), fun hh => absurd hh (by decide), trivial⟩ ?_
        refine DS_p rfl ?_
        refine DS_p (op_x8 rfl rfl (hps8 m) (hps8 i)) ?_
        refine DS_c rfl hcl ?_
        refine DS_c rfl hcm ?_
        refine DS_p rfl ?_
        refine DS_w (op_st rfl rfl rfl hg3 (show 0 + 1 < 2 by omega)) ?_
        refine DS_nil rfl ?_
        refine seqQ_n ?_
        refine XK.seq ?_
        have hb4 : (((h'.put n3 (.cells [N6 0, B8 0])).put n3 (.cells [N6 m, B8 ((left v (ps.getD i 0)).getD 0 0)])).put n3 (.cells [N6 m, B8 (pr ((left v (ps.getD i 0)).getD 0 0) (inv (ps.getD m 0 ^^^ ps.getD i 0)))])).get b2 = some (.cells (v.map B8)) := by rw [get_lt (by omega)]; exact hb3
        have hg4 : (((h'.put n3 (.cells [N6 0, B8 0])).put n3 (.cells [N6 m, B8 ((left v (ps.getD i 0)).getD 0 0)])).put n3 (.cells [N6 m, B8 (pr ((left v (ps.getD i 0)).getD 0 0) (inv (ps.getD m 0 ^^^ ps.getD i 0)))])).get n3 = some (.cells [N6 m, B8 (pr ((left v (ps.getD i 0)).getD 0 0) (inv (ps.getD m 0 ^^^ ps.getD i 0)))]) := get_at
        have hf4 : ∀ id, id.num < n0.num → (((h'.put n3 (.cells [N6 0, B8 0])).put n3 (.cells [N6 m, B8 ((left v (ps.getD i 0)).getD 0 0)])).put n3 (.cells [N6 m, B8 (pr ((left v (ps.getD i 0)).getD 0 0) (inv (ps.getD m 0 ^^^ ps.getD i 0)))])).get id = h0.get id := fun id hid => by rw [get_lt (by omega)]; exact hf3 id hid
        refine XK.op0' S9 ?_
        refine OG_p rfl ?_
        refine OG_p rfl ?_
        refine OG_r (op_ld rfl hb4 (map_at0 (j := 0) (by omega))) ?_
        refine OG_p rfl ?_
        refine OG_r (op_ld rfl hg4 rfl) ?_
        refine OG_p (op_x8 rfl rfl (v8 0) (pr_lt _ _ (left_8 _ v8 0))) ?_
        refine OG_p rfl ?_
        refine OG_r (op_ldA rfl hg4 rfl) ?_
        refine OG_a (rfl) ?_
        refine OG_p rfl ?_
        refine OG_p rfl ?_
        refine OG_nil ?_
        refine seqQ_n ?_
        refine XK.ret S9 ?_
        refine blockQ_r ?_
        refine seqQ_r ?_
        refine loopQ_r ?_
        exact hR _ _ _ i _ m _ _ (by rw [twoF, hm]; simp only; rw [if_neg hmi]) (Le.cons (p := p4) rfl rfl (Le.cons (p := p5) rfl rfl Le.nil)) get_at (by rw [skip_num]; omega) (by rw [num_inc, skip_num]; omega) (fun id hid => by rw [get_lt (by rw [skip_num]; omega)]; exact hf4 id hid)

end Go.Ex

