/- Part of the proof: R9L. -/
import Derived.Test.YtnpcmealdfapjaaDoorR9K
set_option linter.unusedVariables false
set_option linter.unusedSimpArgs false
set_option maxRecDepth 20000
namespace Go.Ex
open Go.Proofs
def mulK : Nat → Nat → Nat → Nat
  | 0, p, _ => p
  | k + 1, p, x => mulK k (pr p x) x
def sumJ (xs ws : List Nat) (j : Nat) : Nat → Nat → Nat → Nat
  | 0, _, m => m
  | k + 1, i, m => sumJ xs ws j k (i + 1) (m ^^^ mulK j (ws.getD i 0) (xs.getD i 0))
def agF (vs xs ws : List Nat) : Nat → Nat → Bool
  | 0, _ => true
  | k + 1, j => if sumJ xs ws j xs.length 0 0 = vs.getD j 0 then agF vs xs ws k (j + 1) else false
def agrees (vs xs ws : List Nat) : Bool := agF vs xs ws 6 0
theorem mulK_lt : ∀ (k p x : Nat), p < 256 → mulK k p x < 256 := by
  intro k
  induction k with
  | zero => intro p x h; exact h
  | succ k ih => intro p x h; exact ih _ _ (pr_lt _ _ h)
theorem sumJ_lt {xs ws : List Nat} (j : Nat) (w8 : all8 ws) : ∀ (k i m : Nat), m < 256 → sumJ xs ws j k i m < 256 := by
  intro k
  induction k with
  | zero => intro i m h; exact h
  | succ k ih => intro i m h; exact ih _ _ (xor_lt h (mulK_lt _ _ _ (w8 i)))

theorem ag2_L (Q : E → T X → H → Pt → Prop) (vid pid qid : Pt) (zv C : Nat) (vs xs ws : List Nat) (h : H) (n : Pt) (hC : C ≤ 2) (v8 : all8 vs) (x8 : all8 xs) (w8 : all8 ws) (hvl : vs.length = 6) (hxl : xs.length = C) (hwl : ws.length = C) (hv : h.get vid = some (.cells (vs.map N6))) (hx : h.get pid = some (.cells (xs.map N6))) (hw : h.get qid = some (.cells (ws.map N6))) (i j m : Nat) (hi : i < C) (hj : j < 6) : ∀ (k k' p : Nat), k' + k = j → p < 256 → (∀ t', Le (ofPL [(p0, .sl vid 0 6 6 zv), (p1, .sl pid 0 C C 0), (p2, .sl qid 0 C C 0), (p7, N6 j), (p8, N6 m), (p9, N6 i), (p10, N6 (mulK k p (xs.getD i 0)))]) t' → Q (.exit 4) t' h n) →
    XL Tryd.prog eqs9 46 k105L2 (ofPL [(p0, .sl vid 0 6 6 zv), (p1, .sl pid 0 C C 0), (p2, .sl qid 0 C C 0), (p7, N6 j), (p8, N6 m), (p9, N6 i), (p10, N6 (p)), (p11, N6 (k'))]) h n Q := by
  intro k
  induction k with
  | zero =>
    intro k' p hk hp hQ
    refine XL.body ?_
    refine XK.seq ?_
    refine XK.seq ?_
    refine XK.op0' S9 ?_
    refine OG_p rfl ?_
    refine OG_p rfl ?_
    refine OG_p (op_nlt rfl rfl (by omega)) ?_
    refine OG_nil ?_
    refine seqQ_n ?_
    refine XK.condF rfl ?_
    refine XK.exit S9 ?_
    refine seqQ_x ?_
    refine loopQ_x ?_
    exact hQ _ (Le.cons (p := p0) rfl rfl (Le.cons (p := p1) rfl rfl (Le.cons (p := p2) rfl rfl (Le.cons (p := p7) rfl rfl (Le.cons (p := p8) rfl rfl (Le.cons (p := p9) rfl rfl (Le.cons (p := p10) rfl rfl Le.nil)))))))
  | succ k ih =>
    intro k' p hk hp hQ
    refine XL.body ?_
    refine XK.seq ?_
    refine XK.seq ?_
    refine XK.op0' S9 ?_
    refine OG_p rfl ?_
    refine OG_p rfl ?_
    refine OG_p (op_lt rfl rfl (by omega)) ?_
    refine OG_nil ?_
    refine seqQ_n ?_
    refine XK.condT rfl ?_
    refine XK.skip S9 ?_
    refine seqQ_n ?_
    refine XK.seq ?_
    refine XK.block ?_
    refine XK.reg1 S9 (rtimes_p p (xs.getD i 0) hp (x8 i)) fun call hcl => ?_
    refine OG_p rfl ?_
    refine OG_p rfl ?_
    refine OG_p rfl ?_
    refine OG_p (op_ia rfl rfl (by omega)) ?_
    refine OG_r (op_ld rfl hx (map_at0 (by omega))) ?_
    refine OG_c rfl hcl ?_
    refine OG_p rfl ?_
    refine OG_nil ?_
    refine blockQ_n ?_
    refine seqQ_n ?_
    refine XK.op0' S9 ?_
    refine OG_p rfl ?_
    refine OG_p (op_add rfl rfl (by omega)) ?_
    refine OG_p rfl ?_
    refine OG_nil ?_
    refine loopQ_n ?_
    refine XL.less (t1 := ofPL [(p0, .sl vid 0 6 6 zv), (p1, .sl pid 0 C C 0), (p2, .sl qid 0 C C 0), (p7, N6 j), (p8, N6 m), (p9, N6 i), (p10, N6 (pr p (xs.getD i 0))), (p11, N6 (k' + 1))]) (Le.cons (p := p0) rfl rfl (Le.cons (p := p1) rfl rfl (Le.cons (p := p2) rfl rfl (Le.cons (p := p7) rfl rfl (Le.cons (p := p8) rfl rfl (Le.cons (p := p9) rfl rfl (Le.cons (p := p10) rfl rfl (Le.cons (p := p11) rfl rfl Le.nil)))))))) (Le.refl _) ?_
    exact ih (k' + 1) _ (by omega) (pr_lt _ _ hp) hQ

theorem ag1_L (Q : E → T X → H → Pt → Prop) (vid pid qid : Pt) (zv C : Nat) (vs xs ws : List Nat) (h : H) (n : Pt) (hC : C ≤ 2) (v8 : all8 vs) (x8 : all8 xs) (w8 : all8 ws) (hvl : vs.length = 6) (hxl : xs.length = C) (hwl : ws.length = C) (hv : h.get vid = some (.cells (vs.map N6))) (hx : h.get pid = some (.cells (xs.map N6))) (hw : h.get qid = some (.cells (ws.map N6))) (j : Nat) (hj : j < 6) : ∀ (k i m : Nat), i + k = C → m < 256 → (∀ t', Le (ofPL [(p0, .sl vid 0 6 6 zv), (p1, .sl pid 0 C C 0), (p2, .sl qid 0 C C 0), (p7, N6 j), (p8, N6 (sumJ xs ws j k i m))]) t' → Q (.exit 2) t' h n) →
    XL Tryd.prog eqs9 46 k105L1 (ofPL [(p0, .sl vid 0 6 6 zv), (p1, .sl pid 0 C C 0), (p2, .sl qid 0 C C 0), (p7, N6 j), (p8, N6 (m)), (p9, N6 (i))]) h n Q := by
  intro k
  induction k with
  | zero =>
    intro i m hi hm hQ
    refine XL.body ?_
    refine XK.seq ?_
    refine XK.seq ?_
    refine XK.op0' S9 ?_
    refine OG_p rfl ?_
    refine OG_p rfl ?_
    refine OG_p (op_len rfl) ?_
    refine OG_p (op_nlt rfl rfl (by omega)) ?_
    refine OG_nil ?_
    refine seqQ_n ?_
    refine XK.condF rfl ?_
    refine XK.exit S9 ?_
    refine seqQ_x ?_
    refine loopQ_x ?_
    exact hQ _ (Le.cons (p := p0) rfl rfl (Le.cons (p := p1) rfl rfl (Le.cons (p := p2) rfl rfl (Le.cons (p := p7) rfl rfl (Le.cons (p := p8) rfl rfl Le.nil)))))
  | succ k ih =>
    intro i m hi hm hQ
    refine XL.body ?_
    refine XK.seq ?_
    refine XK.seq ?_
    refine XK.op0' S9 ?_
    refine OG_p rfl ?_
    refine OG_p rfl ?_
    refine OG_p (op_len rfl) ?_
    refine OG_p (op_lt rfl rfl (by omega)) ?_
    refine OG_nil ?_
    refine seqQ_n ?_
    refine XK.condT rfl ?_
    refine XK.skip S9 ?_
    refine seqQ_n ?_
    refine XK.seq ?_
    refine XK.block ?_
    refine XK.seq ?_
    refine XK.op0' S9 ?_
    refine OG_p rfl ?_
    refine OG_p rfl ?_
    refine OG_p (op_ia rfl rfl (by omega)) ?_
    refine OG_r (op_ld rfl hw (map_at0 (by omega))) ?_
    refine OG_p rfl ?_
    refine OG_nil ?_
    refine seqQ_n ?_
    refine XK.seq ?_
    refine XK.seq ?_
    refine XK.op S9 rfl ?_
    refine seqQ_n ?_
    refine XK.block ?_
    refine XK.loop ?_
    refine XL.less (t1 := ofPL [(p0, .sl vid 0 6 6 zv), (p1, .sl pid 0 C C 0), (p2, .sl qid 0 C C 0), (p7, N6 j), (p8, N6 m), (p9, N6 i), (p10, N6 (ws.getD i 0)), (p11, N6 0)]) (Le.cons (p := p0) rfl rfl (Le.cons (p := p1) rfl rfl (Le.cons (p := p2) rfl rfl (Le.cons (p := p7) rfl rfl (Le.cons (p := p8) rfl rfl (Le.cons (p := p9) rfl rfl (Le.cons (p := p10) rfl rfl (Le.cons (p := p11) rfl rfl Le.nil)))))))) (Le.refl _) ?_
    refine ag2_L _ vid pid qid zv C vs xs ws h n hC v8 x8 w8 hvl hxl hwl hv hx hw i j m (by omega) hj j 0 _ (by omega) (w8 i) (fun t' hle => ?_)
    refine blockQ_h rfl ?_
    refine seqQ_n ?_
    refine XK.less hle (Le.refl _) ?_
    refine XK.op0' S9 ?_
    refine OG_p rfl ?_
    refine OG_p rfl ?_
    refine OG_p (op_xor rfl rfl (Nat.lt_trans hm (by omega)) (Nat.lt_trans (mulK_lt _ _ _ (w8 i)) (by omega))) ?_
    refine OG_p rfl ?_
    refine OG_nil ?_
    refine blockQ_n ?_
    refine seqQ_n ?_
    refine XK.op0' S9 ?_
    refine OG_p rfl ?_
    refine OG_p (op_add rfl rfl (by omega)) ?_
    refine OG_p rfl ?_
    refine OG_nil ?_
    refine loopQ_n ?_
    refine XL.less (t1 := ofPL [(p0, .sl vid 0 6 6 zv), (p1, .sl pid 0 C C 0), (p2, .sl qid 0 C C 0), (p7, N6 j), (p8, N6 (m ^^^ mulK j (ws.getD i 0) (xs.getD i 0))), (p9, N6 (i + 1))]) (Le.cons (p := p0) rfl rfl (Le.cons (p := p1) rfl rfl (Le.cons (p := p2) rfl rfl (Le.cons (p := p7) rfl rfl (Le.cons (p := p8) rfl rfl (Le.cons (p := p9) rfl rfl Le.nil)))))) (Le.refl _) ?_
    exact ih (i + 1) _ (by omega) (xor_lt hm (mulK_lt _ _ _ (w8 i))) hQ

theorem ag0_L (Q : E → T X → H → Pt → Prop) (vid pid qid : Pt) (zv C : Nat) (vs xs ws : List Nat) (h : H) (n : Pt) (hC : C ≤ 2) (v8 : all8 vs) (x8 : all8 xs) (w8 : all8 ws) (hvl : vs.length = 6) (hxl : xs.length = C) (hwl : ws.length = C) (hv : h.get vid = some (.cells (vs.map N6))) (hx : h.get pid = some (.cells (xs.map N6))) (hw : h.get qid = some (.cells (ws.map N6))) : ∀ (k j : Nat), j + k = 6 → (∀ t', agF vs xs ws k j = false → Le (ofPL [(p6, BX false)]) t' → Q .ret t' h n) → (∀ t', agF vs xs ws k j = true → Q (.exit 0) t' h n) →
    XL Tryd.prog eqs9 46 k105L0 (ofPL [(p0, .sl vid 0 6 6 zv), (p1, .sl pid 0 C C 0), (p2, .sl qid 0 C C 0), (p7, N6 (j))]) h n Q := by
  intro k
  induction k with
  | zero =>
    intro j hj hR hX
    refine XL.body ?_
    refine XK.seq ?_
    refine XK.seq ?_
    refine XK.op0' S9 ?_
    refine OG_p rfl ?_
    refine OG_p (op_nlt rfl rfl (by omega)) ?_
    refine OG_nil ?_
    refine seqQ_n ?_
    refine XK.condF rfl ?_
    refine XK.exit S9 ?_
    refine seqQ_x ?_
    refine loopQ_x ?_
    exact hX _ rfl
  | succ k ih =>
    intro j hj hR hX
    by_cases he : sumJ xs ws j C 0 0 = vs.getD j 0
    · skip
      refine XL.body ?_
      refine XK.seq ?_
      refine XK.seq ?_
      refine XK.op0' S9 ?_
      refine OG_p rfl ?_
      refine OG_p (op_lt rfl rfl (by omega)) ?_
      refine OG_nil ?_
      refine seqQ_n ?_
      refine XK.condT rfl ?_
      refine XK.skip S9 ?_
      refine seqQ_n ?_
      refine XK.seq ?_
      refine XK.block ?_
      refine XK.seq ?_
      refine XK.op S9 rfl ?_
      refine seqQ_n ?_
      refine XK.seq ?_
      refine XK.seq ?_
      refine XK.op S9 rfl ?_
      refine seqQ_n ?_
      refine XK.block ?_
      refine XK.loop ?_
      refine XL.less (t1 := ofPL [(p0, .sl vid 0 6 6 zv), (p1, .sl pid 0 C C 0), (p2, .sl qid 0 C C 0), (p7, N6 j), (p8, N6 0), (p9, N6 0)]) (Le.cons (p := p0) rfl rfl (Le.cons (p := p1) rfl rfl (Le.cons (p := p2) rfl rfl (Le.cons (p := p7) rfl rfl (Le.cons (p := p8) rfl rfl (Le.cons (p := p9) rfl rfl Le.nil)))))) (Le.refl _) ?_
      refine ag1_L _ vid pid qid zv C vs xs ws h n hC v8 x8 w8 hvl hxl hwl hv hx hw j (by omega) C 0 0 (by omega) (by omega) (fun t' hle => ?_)
      refine blockQ_h rfl ?_
      refine seqQ_n ?_
      refine XK.less hle (Le.refl _) ?_
      refine XK.seq ?_
      refine XK.op0' S9 ?_
      refine OG_p rfl ?_
      refine OG_p rfl ?_
      refine OG_p rfl ?_
      refine OG_p (op_ia rfl rfl (by omega)) ?_
      refine OG_r (op_ld rfl hv (map_at0 (by omega))) ?_
      refine OG_p (show opP _ _ = some (X.bool false) from eq8 (he)) ?_
      refine OG_nil ?_
      refine seqQ_n ?_
      refine XK.condF rfl ?_
      refine XK.skip S9 ?_
      refine blockQ_n ?_
      refine seqQ_n ?_
      refine XK.op0' S9 ?_
      refine OG_p rfl ?_
      refine OG_p (op_add rfl rfl (by omega)) ?_
      refine OG_p rfl ?_
      refine OG_nil ?_
      refine loopQ_n ?_
      refine XL.less (t1 := ofPL [(p0, .sl vid 0 6 6 zv), (p1, .sl pid 0 C C 0), (p2, .sl qid 0 C C 0), (p7, N6 (j + 1))]) (Le.cons (p := p0) rfl rfl (Le.cons (p := p1) rfl rfl (Le.cons (p := p2) rfl rfl (Le.cons (p := p7) rfl rfl Le.nil)))) (Le.refl _) ?_
      exact ih (j + 1) (by omega) (by rw [agF, hxl, if_pos he] at hR; exact hR) (by rw [agF, hxl, if_pos he] at hX; exact hX)
    · skip
      refine XL.body ?_
      refine XK.seq ?_
      refine XK.seq ?_
      refine XK.op0' S9 ?_
      refine OG_p rfl ?_
      refine OG_p (op_lt rfl rfl (by omega)) ?_
      refine OG_nil ?_
      refine seqQ_n ?_
      refine XK.condT rfl ?_
      refine XK.skip S9 ?_
      refine seqQ_n ?_
      refine XK.seq ?_
      refine XK.block ?_
      refine XK.seq ?_
      refine XK.op S9 rfl ?_
      refine seqQ_n ?_
      refine XK.seq ?_
      refine XK.seq ?_
      refine XK.op S9 rfl ?_
      refine seqQ_n ?_
      refine XK.block ?_
      refine XK.loop ?_
      refine XL.less (t1 := ofPL [(p0, .sl vid 0 6 6 zv), (p1, .sl pid 0 C C 0), (p2, .sl qid 0 C C 0), (p7, N6 j), (p8, N6 0), (p9, N6 0)]) (Le.cons (p := p0) rfl rfl (Le.cons (p := p1) rfl rfl (Le.cons (p := p2) rfl rfl (Le.cons (p := p7) rfl rfl (Le.cons (p := p8) rfl rfl (Le.cons (p := p9) rfl rfl Le.nil)))))) (Le.refl _) ?_
      refine ag1_L _ vid pid qid zv C vs xs ws h n hC v8 x8 w8 hvl hxl hwl hv hx hw j (by omega) C 0 0 (by omega) (by omega) (fun t' hle => ?_)
      refine blockQ_h rfl ?_
      refine seqQ_n ?_
      refine XK.less hle (Le.refl _) ?_
      refine XK.seq ?_
      refine XK.op0' S9 ?_
      refine OG_p rfl ?_
      refine OG_p rfl ?_
      refine OG_p rfl ?_
      refine OG_p (op_ia rfl rfl (by omega)) ?_
      refine OG_r (op_ld rfl hv (map_at0 (by omega))) ?_
      refine OG_p (show opP _ _ = some (X.bool true) from ne8 (he)) ?_
      refine OG_nil ?_
      refine seqQ_n ?_
      refine XK.condT rfl ?_
      refine XK.seq ?_
      refine XK.op S9 rfl ?_
      refine seqQ_n ?_
      refine XK.ret S9 ?_
      refine blockQ_r ?_
      refine seqQ_r ?_
      refine loopQ_r ?_
      exact hR _ (by rw [agF, hxl, if_neg he]) (Le.cons (p := p6) rfl rfl Le.nil)

theorem agrees_x (vid pid qid : Pt) (zv C : Nat) (vs xs ws : List Nat) (h : H) (n : Pt) (hC : C ≤ 2) (v8 : all8 vs) (x8 : all8 xs) (w8 : all8 ws) (hvl : vs.length = 6) (hxl : xs.length = C) (hwl : ws.length = C) (hv : h.get vid = some (.cells (vs.map N6))) (hx : h.get pid = some (.cells (xs.map N6))) (hw : h.get qid = some (.cells (ws.map N6))) : XF Tryd.prog eqs9 105 [.sl vid 0 6 6 zv, .sl pid 0 C C 0, .sl qid 0 C C 0] h n (fun x h' n' => x = BX (agrees vs xs ws) ∧ h' = h ∧ n' = n) := by
  refine XF.body S9 fk105 rfl ?_
  refine XK.seq ?_
  refine XK.op S9 rfl ?_
  refine seqQ_n ?_
  refine XK.seq ?_
  refine XK.seq ?_
  refine XK.op S9 rfl ?_
  refine seqQ_n ?_
  refine XK.block ?_
  refine XK.loop ?_
  refine XL.less (t1 := ofPL [(p0, .sl vid 0 6 6 zv), (p1, .sl pid 0 C C 0), (p2, .sl qid 0 C C 0), (p7, N6 (0))]) (Le.cons (p := p0) rfl rfl (Le.cons (p := p1) rfl rfl (Le.cons (p := p2) rfl rfl (Le.cons (p := p7) rfl rfl Le.nil)))) (Le.refl _) ?_
  refine ag0_L _ vid pid qid zv C vs xs ws h n hC v8 x8 w8 hvl hxl hwl hv hx hw 6 0 rfl (fun t' hag hle => ?_) (fun t' hag => ?_)
  · refine blockQ_r ?_
    refine seqQ_r ?_
    have hfin : ∃ ys, resX t' h k105.results = some ys ∧ packX ys = BX (agrees vs xs ws) ∧ h = h ∧ n = n :=
      ⟨_, res_tmp (hle.at (p := p6) rfl) res_nil, by unfold agrees; rw [hag]; rfl, rfl, rfl⟩
    first
      | exact hfin
      | (refine seqQ_r ?_; exact hfin)
  · skip
    refine blockQ_h rfl ?_
    refine seqQ_n ?_
    refine XK.less (t1 := T.e) Le.nil (Le.refl _) ?_
    refine XK.seq ?_
    refine XK.op S9 rfl ?_
    refine seqQ_n ?_
    refine XK.ret S9 ?_
    exact ⟨_, rfl, by unfold agrees; rw [hag]; rfl, rfl, rfl⟩
theorem agrees_c (vid pid qid : Pt) (zv C : Nat) (vs xs ws : List Nat) (h : H) (n : Pt) (hC : C ≤ 2) (v8 : all8 vs) (x8 : all8 xs) (w8 : all8 ws) (hvl : vs.length = 6) (hxl : xs.length = C) (hwl : ws.length = C) (hv : h.get vid = some (.cells (vs.map N6))) (hx : h.get pid = some (.cells (xs.map N6))) (hw : h.get qid = some (.cells (ws.map N6))) : CallOne eqs9.gs Tryd.prog 105 [.sl vid 0 6 6 zv, .sl pid 0 C C 0, .sl qid 0 C C 0] h n (BX (agrees vs xs ws)) h n := by
  obtain ⟨x, h', n', c, rfl, rfl, rfl⟩ := agrees_x vid pid qid zv C vs xs ws h n hC v8 x8 w8 hvl hxl hwl hv hx hw
  exact c

end Go.Ex

