/- Part of the proof: R9N. -/
import Derived.Test.YtnpcmealdfapjaaDoorR9M
set_option linter.unusedVariables false
set_option linter.unusedSimpArgs false
set_option maxRecDepth 20000
namespace Go.Ex
open Go.Proofs
def tabF : FuncId → List X → Option X
  | 63, [.int .i64 (.ofNat a), .int .i64 (.ofNat b)] => if a < 256 ∧ b < 256 then some (N6 (pr a b)) else none
  | 65, [.int .i64 (.ofNat a)] => if a < 256 ∧ 0 < a then some (N6 (inv a)) else none
  | _, _ => none
theorem tabF_ok : CallTab eqs9.gs Tryd.prog tabF := by
  intro f args x h
  unfold tabF at h
  split at h
  · split at h
    · rename_i hc; cases h; exact rtimes_p _ _ hc.1 hc.2
    · cases h
  · split at h
    · rename_i hc; cases h; exact rinv_c _ hc.1 hc.2
    · cases h
  · cases h
theorem tF63 {a b : Nat} {h : H} {n : Pt} (ha : a < 256) (hb : b < 256) : tabC tabF 63 [N6 a, N6 b] h n = some (N6 (pr a b), h, n) := by
  unfold tabC
  rw [show tabF 63 [N6 a, N6 b] = some (N6 (pr a b)) from if_pos ⟨ha, hb⟩]
theorem tF65 {a : Nat} {h : H} {n : Pt} (ha : a < 256) (h0 : 0 < a) : tabC tabF 65 [N6 a] h n = some (N6 (inv a), h, n) := by
  unfold tabC
  rw [show tabF 65 [N6 a] = some (N6 (inv a)) from if_pos ⟨ha, h0⟩]
def bOf (vs xs : List Nat) (i m : Nat) : Nat := pr (vs.getD 1 0 ^^^ pr (vs.getD 0 0) (xs.getD i 0)) (inv (xs.getD i 0 ^^^ xs.getD m 0))
def aOf (vs xs : List Nat) (i m : Nat) : Nat := vs.getD 0 0 ^^^ bOf vs xs i m
def pairF (vs xs : List Nat) (i : Nat) : Nat → Nat → Option (Nat × Nat × Nat)
  | 0, _ => none
  | k + 1, m => if agrees vs [xs.getD i 0, xs.getD m 0] [aOf vs xs i m, bOf vs xs i m] = true then some (m, aOf vs xs i m, bOf vs xs i m) else pairF vs xs i k (m + 1)
def wordF (vs xs : List Nat) : Nat → Nat → Option (List (Nat × Nat))
  | 0, _ => none
  | k + 1, i => if agrees vs [xs.getD i 0] [vs.getD 0 0] = true then some [(i, vs.getD 0 0)] else match pairF vs xs i k (i + 1) with
    | some (m, a, b) => some [(i, a), (m, b)]
    | none => wordF vs xs k (i + 1)
def putL : List UInt8 → List (Nat × Nat) → List UInt8
  | s, [] => s
  | s, (i, a) :: l => putL (withS s i a) l
theorem withS_len (s : List UInt8) (i e : Nat) : (withS s i e).length = s.length := by unfold withS bytesN; simp
theorem all8_1 {a : Nat} (ha : a < 256) : all8 [a] := fun i => by
  match i with
  | 0 => exact ha
  | i + 1 => exact (by simp : ([] : List Nat).getD i 0 < 256)
theorem all8_2 {a b : Nat} (ha : a < 256) (hb : b < 256) : all8 [a, b] := fun i => by
  match i with
  | 0 => exact ha
  | 1 => exact hb
  | i + 2 => exact (by simp : ([] : List Nat).getD i 0 < 256)
theorem bOf_lt {vs xs : List Nat} (i m : Nat) (v8 : all8 vs) : bOf vs xs i m < 256 := pr_lt _ _ (xor_lt (v8 1) (pr_lt _ _ (v8 0)))
theorem aOf_lt {vs xs : List Nat} (i m : Nat) (v8 : all8 vs) : aOf vs xs i m < 256 := xor_lt (v8 0) (bOf_lt i m v8)

theorem pairs_L (Q : E → T X → H → Pt → Prop) (s : List UInt8) (hs : s.length ≤ 42) (vid xid : Pt) (vs xs : List Nat) (hvl : vs.length = 6) (hxl : xs.length = s.length) (v8 : all8 vs) (x8 : all8 xs) (hd : ∀ i m, i < m → m < s.length → 0 < xs.getD i 0 ^^^ xs.getD m 0) (i : Nat) : ∀ (k m : Nat) (h : H) (n : Pt), m + k = s.length → i < m → h.get vid = some (.cells (vs.map N6)) → vid.num < n.num → h.get xid = some (.cells (xs.map N6)) → xid.num < n.num → (∀ t' h' n' m' a b, pairF vs xs i k m = some (m', a, b) → Le (ofPL [(p2, .str (withS (withS s i a) m' b)), (p3, BX true)]) t' → Q .ret t' h' n') → (∀ t' h' n', pairF vs xs i k m = none → Le (ofPL [(p0, .str s), (p4, N6 s.length), (p5, .sl vid 0 6 6 2), (p9, .sl xid 0 s.length s.length 2), (p11, N6 i)]) t' → h'.get vid = some (.cells (vs.map N6)) → vid.num < n'.num → h'.get xid = some (.cells (xs.map N6)) → xid.num < n'.num → Q (.exit 8) t' h' n') →
    XL Tryd.prog eqs9 133 k71L4 (ofPL [(p0, .str s), (p4, N6 s.length), (p5, .sl vid 0 6 6 2), (p9, .sl xid 0 s.length s.length 2), (p11, N6 i), (p12, N6 (m))]) h n Q := by
  intro k
  induction k with
  | zero =>
    intro m h n hm him hv hvn hx hxn hR hX
    refine XL.body ?_
    refine XK.seq ?_
    refine XK.seq ?_
    refine XK.op0' S9 ?_
    refine OG_p rfl ?_
    refine OG_p rfl ?_
    refine OG_p (op_nlt rfl rfl (by omega)) ?_
    refine OG_nil ?_
    refine seqQ_n ?_
    refine XK.condF rfl ?_
    refine XK.exit S9 ?_
    refine seqQ_x ?_
    refine loopQ_x ?_
    exact hX _ _ _ rfl (Le.cons (p := p0) rfl rfl (Le.cons (p := p4) rfl rfl (Le.cons (p := p5) rfl rfl (Le.cons (p := p9) rfl rfl (Le.cons (p := p11) rfl rfl Le.nil))))) hv hvn hx hxn
  | succ k ih =>
    intro m h n hm him hv hvn hx hxn hR hX
    cases hag : agrees vs [xs.getD i 0, xs.getD m 0] [aOf vs xs i m, bOf vs xs i m] with
    | true =>
      refine XL.body ?_
      refine XK.seq ?_
      refine XK.seq ?_
      refine XK.op0' S9 ?_
      refine OG_p rfl ?_
      refine OG_p rfl ?_
      refine OG_p (op_lt rfl rfl (by omega)) ?_
      refine OG_nil ?_
      refine seqQ_n ?_
      refine XK.condT rfl ?_
      refine XK.skip S9 ?_
      refine seqQ_n ?_
      refine XK.seq ?_
      refine XK.block ?_
      refine XK.seq ?_
      refine XK.drS S9 tabF_ok ?_
      refine SG_p rfl ?_
      refine SG_p (op_ia rfl rfl (show 1 < 6 by omega)) ?_
      refine SG_r (op_ld rfl hv (map_at0 (j := 1) (by omega))) (op_ld rfl hv (map_at0 (j := 1) (by omega))) ?_
      refine SG_p rfl ?_
      refine SG_p (op_ia rfl rfl (show 0 < 6 by omega)) ?_
      refine SG_r (op_ld rfl hv (map_at0 (j := 0) (by omega))) (op_ld rfl hv (map_at0 (j := 0) (by omega))) ?_
      refine SG_p rfl ?_
      refine SG_p rfl ?_
      refine SG_p (op_ia rfl rfl (by omega)) ?_
      refine SG_r (op_ld rfl hx (map_at0 (by omega))) (op_ld rfl hx (map_at0 (by omega))) ?_
      refine SG_c rfl (tF63 (v8 0) (x8 i)) ?_
      refine SG_p (op_xor rfl rfl (Nat.lt_trans (v8 1) (by omega)) (Nat.lt_trans (pr_lt _ _ (v8 0)) (by omega))) ?_
      refine SG_p rfl ?_
      refine SG_p rfl ?_
      refine SG_p (op_ia rfl rfl (by omega)) ?_
      refine SG_r (op_ld rfl hx (map_at0 (by omega))) (op_ld rfl hx (map_at0 (by omega))) ?_
      refine SG_p rfl ?_
      refine SG_p rfl ?_
      refine SG_p (op_ia rfl rfl (by omega)) ?_
      refine SG_r (op_ld rfl hx (map_at0 (by omega))) (op_ld rfl hx (map_at0 (by omega))) ?_
      refine SG_p (op_xor rfl rfl (Nat.lt_trans (x8 i) (by omega)) (Nat.lt_trans (x8 m) (by omega))) ?_
      refine SG_c rfl (tF65 (xor_lt (x8 i) (x8 m)) (hd i m (by omega) (by omega))) ?_
      refine SG_c rfl (tF63 (xor_lt (v8 1) (pr_lt _ _ (v8 0))) (inv_lt _ (xor_lt (x8 i) (x8 m)))) ?_
      refine SG_p rfl ?_
      refine SG_nil ?_
      refine seqQ_n ?_
      refine XK.seq ?_
      refine XK.op0' S9 ?_
      refine OG_p rfl ?_
      refine OG_p (op_ia rfl rfl (show 0 < 6 by omega)) ?_
      refine OG_r (op_ld rfl hv (map_at0 (j := 0) (by omega))) ?_
      refine OG_p rfl ?_
      refine OG_p (op_xor rfl rfl (Nat.lt_trans (v8 0) (by omega)) (Nat.lt_trans (bOf_lt (xs := xs) i m v8) (by omega))) ?_
      refine OG_p rfl ?_
      refine OG_nil ?_
      refine seqQ_n ?_
      refine XK.seq ?_
      have e1 := num_inc (skipN n 24)
      have e2 := skip_num n 24
      have e3 := skip_num (skipN n 24) 14
      have hv2 : ((h.put (skipN n 24) (.cells [N6 (xs.getD i 0), N6 (xs.getD m 0)])).put (skipN n 24).inc (.cells [N6 (aOf vs xs i m), N6 (bOf vs xs i m)])).get vid = some (.cells (vs.map N6)) := by rw [get_lt (by omega), get_lt (by omega)]; exact hv
      have hx2 : ((h.put (skipN n 24) (.cells [N6 (xs.getD i 0), N6 (xs.getD m 0)])).put (skipN n 24).inc (.cells [N6 (aOf vs xs i m), N6 (bOf vs xs i m)])).get xid = some (.cells (xs.map N6)) := by rw [get_lt (by omega), get_lt (by omega)]; exact hx
      have cag := agrees_c vid (skipN n 24) (skipN n 24).inc 2 2 vs [(xs.getD i 0), (xs.getD m 0)] [(aOf vs xs i m), (bOf vs xs i m)] ((h.put (skipN n 24) (.cells [N6 (xs.getD i 0), N6 (xs.getD m 0)])).put (skipN n 24).inc (.cells [N6 (aOf vs xs i m), N6 (bOf vs xs i m)])) (skipN (skipN n 24) 14) (by omega) v8 (all8_2 (x8 i) (x8 m)) (all8_2 (aOf_lt i m v8) (bOf_lt i m v8)) hvl rfl rfl hv2 (by rw [get_lt (by omega)]; exact get_at) get_at
      rw [hag] at cag
      refine XK.dsC S9 (HS := [(14, ((h.put (skipN n 24) (.cells [N6 (xs.getD i 0), N6 (xs.getD m 0)])).put (skipN n 24).inc (.cells [N6 (aOf vs xs i m), N6 (bOf vs xs i m)]))), (0, h)]) (cag) fun call hcl => ?_
      refine DS_p rfl ?_
      refine DS_p rfl ?_
      refine DS_p rfl ?_
      refine DS_p (op_ia rfl rfl (by omega)) ?_
      refine DS_r (op_ld rfl hx (map_at0 (by omega))) ⟨fun hh => absurd hh (by decide), fun hh => absurd hh (by decide), trivial⟩ ?_
      refine DS_p rfl ?_
      refine DS_p rfl ?_
      refine DS_p (op_ia rfl rfl (by omega)) ?_
      refine DS_r (op_ld rfl hx (map_at0 (by omega))) ⟨fun hh => absurd hh (by decide), fun hh => absurd hh (by decide), trivial⟩ ?_
      refine DS_a (rfl) ⟨fun hh => absurd hh (by decide), fun hh => absurd hh (by decide), trivial⟩ ?_
      refine DS_p rfl ?_
      refine DS_p rfl ?_
      refine DS_a (rfl) ⟨fun hh => absurd hh (by decide), fun hh => absurd hh (by decide), trivial⟩ ?_
      refine DS_c rfl hcl ?_
      refine DS_nil rfl ?_
      refine seqQ_n ?_
      refine XK.condT rfl ?_
      refine XK.seq ?_
      refine XK.reg2 S9 (withB_c s i (aOf vs xs i m) (by omega) (by omega) (aOf_lt i m v8)) (withB_c (withS s i (aOf vs xs i m)) m (bOf vs xs i m) (by rw [withS_len]; omega) (by rw [withS_len]; omega) (bOf_lt i m v8)) (.inr (.inl (fun hh => by simp at hh; omega))) fun call hcl hcm => ?_
      refine OG_p rfl ?_
      refine OG_p rfl ?_
      refine OG_p rfl ?_
      refine OG_c rfl (hcl) ?_
      refine OG_p rfl ?_
      refine OG_p rfl ?_
      refine OG_c rfl (hcm) ?_
      refine OG_p rfl ?_
      refine OG_p rfl ?_
      refine OG_nil ?_
      refine seqQ_n ?_
      refine XK.ret S9 ?_
      refine blockQ_r ?_
      refine seqQ_r ?_
      refine loopQ_r ?_
      exact hR _ _ _ m _ _ (by rw [pairF, hag]; rfl) (Le.cons (p := p2) rfl rfl (Le.cons (p := p3) rfl rfl Le.nil))
    | false =>
      refine XL.body ?_
      refine XK.seq ?_
      refine XK.seq ?_
      refine XK.op0' S9 ?_
      refine OG_p rfl ?_
      refine OG_p rfl ?_
      refine OG_p (op_lt rfl rfl (by omega)) ?_
      refine OG_nil ?_
      refine seqQ_n ?_
      refine XK.condT rfl ?_
      refine XK.skip S9 ?_
      refine seqQ_n ?_
      refine XK.seq ?_
      refine XK.block ?_
      refine XK.seq ?_
      refine XK.drS S9 tabF_ok ?_
      refine SG_p rfl ?_
      refine SG_p (op_ia rfl rfl (show 1 < 6 by omega)) ?_
      refine SG_r (op_ld rfl hv (map_at0 (j := 1) (by omega))) (op_ld rfl hv (map_at0 (j := 1) (by omega))) ?_
      refine SG_p rfl ?_
      refine SG_p (op_ia rfl rfl (show 0 < 6 by omega)) ?_
      refine SG_r (op_ld rfl hv (map_at0 (j := 0) (by omega))) (op_ld rfl hv (map_at0 (j := 0) (by omega))) ?_
      refine SG_p rfl ?_
      refine SG_p rfl ?_
      refine SG_p (op_ia rfl rfl (by omega)) ?_
      refine SG_r (op_ld rfl hx (map_at0 (by omega))) (op_ld rfl hx (map_at0 (by omega))) ?_
      refine SG_c rfl (tF63 (v8 0) (x8 i)) ?_
      refine SG_p (op_xor rfl rfl (Nat.lt_trans (v8 1) (by omega)) (Nat.lt_trans (pr_lt _ _ (v8 0)) (by omega))) ?_
      refine SG_p rfl ?_
      refine SG_p rfl ?_
      refine SG_p (op_ia rfl rfl (by omega)) ?_
      refine SG_r (op_ld rfl hx (map_at0 (by omega))) (op_ld rfl hx (map_at0 (by omega))) ?_
      refine SG_p rfl ?_
      refine SG_p rfl ?_
      refine SG_p (op_ia rfl rfl (by omega)) ?_
      refine SG_r (op_ld rfl hx (map_at0 (by omega))) (op_ld rfl hx (map_at0 (by omega))) ?_
      refine SG_p (op_xor rfl rfl (Nat.lt_trans (x8 i) (by omega)) (Nat.lt_trans (x8 m) (by omega))) ?_
      refine SG_c rfl (tF65 (xor_lt (x8 i) (x8 m)) (hd i m (by omega) (by omega))) ?_
      refine SG_c rfl (tF63 (xor_lt (v8 1) (pr_lt _ _ (v8 0))) (inv_lt _ (xor_lt (x8 i) (x8 m)))) ?_
      refine SG_p rfl ?_
      refine SG_nil ?_
      refine seqQ_n ?_
      refine XK.seq ?_
      refine XK.op0' S9 ?_
      refine OG_p rfl ?_
      refine OG_p (op_ia rfl rfl (show 0 < 6 by omega)) ?_
      refine OG_r (op_ld rfl hv (map_at0 (j := 0) (by omega))) ?_
      refine OG_p rfl ?_
      refine OG_p (op_xor rfl rfl (Nat.lt_trans (v8 0) (by omega)) (Nat.lt_trans (bOf_lt (xs := xs) i m v8) (by omega))) ?_
      refine OG_p rfl ?_
      refine OG_nil ?_
      refine seqQ_n ?_
      refine XK.seq ?_
      have e1 := num_inc (skipN n 24)
      have e2 := skip_num n 24
      have e3 := skip_num (skipN n 24) 14
      have hv2 : ((h.put (skipN n 24) (.cells [N6 (xs.getD i 0), N6 (xs.getD m 0)])).put (skipN n 24).inc (.cells [N6 (aOf vs xs i m), N6 (bOf vs xs i m)])).get vid = some (.cells (vs.map N6)) := by rw [get_lt (by omega), get_lt (by omega)]; exact hv
      have hx2 : ((h.put (skipN n 24) (.cells [N6 (xs.getD i 0), N6 (xs.getD m 0)])).put (skipN n 24).inc (.cells [N6 (aOf vs xs i m), N6 (bOf vs xs i m)])).get xid = some (.cells (xs.map N6)) := by rw [get_lt (by omega), get_lt (by omega)]; exact hx
      have cag := agrees_c vid (skipN n 24) (skipN n 24).inc 2 2 vs [(xs.getD i 0), (xs.getD m 0)] [(aOf vs xs i m), (bOf vs xs i m)] ((h.put (skipN n 24) (.cells [N6 (xs.getD i 0), N6 (xs.getD m 0)])).put (skipN n 24).inc (.cells [N6 (aOf vs xs i m), N6 (bOf vs xs i m)])) (skipN (skipN n 24) 14) (by omega) v8 (all8_2 (x8 i) (x8 m)) (all8_2 (aOf_lt i m v8) (bOf_lt i m v8)) hvl rfl rfl hv2 (by rw [get_lt (by omega)]; exact get_at) get_at
      rw [hag] at cag
      refine XK.dsC S9 (HS := [(14, ((h.put (skipN n 24) (.cells [N6 (xs.getD i 0), N6 (xs.getD m 0)])).put (skipN n 24).inc (.cells [N6 (aOf vs xs i m), N6 (bOf vs xs i m)]))), (0, h)]) (cag) fun call hcl => ?_
      refine DS_p rfl ?_
      refine DS_p rfl ?_
      refine DS_p rfl ?_
      refine DS_p (op_ia rfl rfl (by omega)) ?_
      refine DS_r (op_ld rfl hx (map_at0 (by omega))) ⟨fun hh => absurd hh (by decide), fun hh => absurd hh (by decide), trivial⟩ ?_
      refine DS_p rfl ?_
      refine DS_p rfl ?_
      refine DS_p (op_ia rfl rfl (by omega)) ?_
      refine DS_r (op_ld rfl hx (map_at0 (by omega))) ⟨fun hh => absurd hh (by decide), fun hh => absurd hh (by decide), trivial⟩ ?_
      refine DS_a (rfl) ⟨fun hh => absurd hh (by decide), fun hh => absurd hh (by decide), trivial⟩ ?_
      refine DS_p rfl ?_
      refine DS_p rfl ?_
      refine DS_a (rfl) ⟨fun hh => absurd hh (by decide), fun hh => absurd hh (by decide), trivial⟩ ?_
      refine DS_c rfl hcl ?_
      refine DS_nil rfl ?_
      refine seqQ_n ?_
      refine XK.condF rfl ?_
      refine XK.skip S9 ?_
      refine blockQ_n ?_
      refine seqQ_n ?_
      refine XK.op0' S9 ?_
      refine OG_p rfl ?_
      refine OG_p (op_add rfl rfl (by omega)) ?_
      refine OG_p rfl ?_
      refine OG_nil ?_
      refine loopQ_n ?_
      refine XL.less (t1 := ofPL [(p0, .str s), (p4, N6 s.length), (p5, .sl vid 0 6 6 2), (p9, .sl xid 0 s.length s.length 2), (p11, N6 i), (p12, N6 (m + 1))]) (Le.cons (p := p0) rfl rfl (Le.cons (p := p4) rfl rfl (Le.cons (p := p5) rfl rfl (Le.cons (p := p9) rfl rfl (Le.cons (p := p11) rfl rfl (Le.cons (p := p12) rfl rfl Le.nil)))))) (Le.refl _) ?_
      exact ih (m + 1) _ _ (by omega) (by omega) hv2 (by omega) hx2 (by omega) (fun t' h' n' m' a b hm => hR t' h' n' m' a b (by rw [pairF, hag]; exact hm)) (fun t' h' n' hm => hX t' h' n' (by rw [pairF, hag]; exact hm))

theorem word_L (Q : E → T X → H → Pt → Prop) (s : List UInt8) (hs : s.length ≤ 42) (vid xid : Pt) (vs xs : List Nat) (hvl : vs.length = 6) (hxl : xs.length = s.length) (v8 : all8 vs) (x8 : all8 xs) (hd : ∀ i m, i < m → m < s.length → 0 < xs.getD i 0 ^^^ xs.getD m 0) : ∀ (k i : Nat) (h : H) (n : Pt), i + k = s.length → h.get vid = some (.cells (vs.map N6)) → vid.num < n.num → h.get xid = some (.cells (xs.map N6)) → xid.num < n.num → (∀ t' h' n' fl, wordF vs xs k i = some fl → Le (ofPL [(p2, .str (putL s fl)), (p3, BX true)]) t' → Q .ret t' h' n') → (∀ t' h' n', wordF vs xs k i = none → Q (.exit 6) t' h' n') →
    XL Tryd.prog eqs9 133 k71L3 (ofPL [(p0, .str s), (p4, N6 s.length), (p5, .sl vid 0 6 6 2), (p9, .sl xid 0 s.length s.length 2), (p11, N6 (i))]) h n Q := by
  intro k
  induction k with
  | zero =>
    intro i h n hi hv hvn hx hxn hR hX
    refine XL.body ?_
    refine XK.seq ?_
    refine XK.seq ?_
    refine XK.op0' S9 ?_
    refine OG_p rfl ?_
    refine OG_p rfl ?_
    refine OG_p (op_nlt rfl rfl (by omega)) ?_
    refine OG_nil ?_
    refine seqQ_n ?_
    refine XK.condF rfl ?_
    refine XK.exit S9 ?_
    refine seqQ_x ?_
    refine loopQ_x ?_
    exact hX _ _ _ rfl
  | succ k ih =>
    intro i h n hi hv hvn hx hxn hR hX
    cases hag : agrees vs [xs.getD i 0] [vs.getD 0 0] with
    | true =>
      refine XL.body ?_
      refine XK.seq ?_
      refine XK.seq ?_
      refine XK.op0' S9 ?_
      refine OG_p rfl ?_
      refine OG_p rfl ?_
      refine OG_p (op_lt rfl rfl (by omega)) ?_
      refine OG_nil ?_
      refine seqQ_n ?_
      refine XK.condT rfl ?_
      refine XK.skip S9 ?_
      refine seqQ_n ?_
      refine XK.seq ?_
      refine XK.block ?_
      refine XK.seq ?_
      refine XK.seq ?_
      have e1 := num_inc n
      have e2 := skip_num n 11
      have hv2 : ((h.put n (.cells [N6 (xs.getD i 0)])).put n.inc (.cells [N6 (vs.getD 0 0)])).get vid = some (.cells (vs.map N6)) := by rw [get_lt (by omega), get_lt (by omega)]; exact hv
      have hx2 : ((h.put n (.cells [N6 (xs.getD i 0)])).put n.inc (.cells [N6 (vs.getD 0 0)])).get xid = some (.cells (xs.map N6)) := by rw [get_lt (by omega), get_lt (by omega)]; exact hx
      have cag := agrees_c vid n n.inc 2 1 vs [(xs.getD i 0)] [vs.getD 0 0] ((h.put n (.cells [N6 (xs.getD i 0)])).put n.inc (.cells [N6 (vs.getD 0 0)])) (skipN n 11) (by omega) v8 (all8_1 (x8 i)) (all8_1 (v8 0)) hvl rfl rfl hv2 (by rw [get_lt (by omega)]; exact get_at) get_at
      rw [hag] at cag
      refine XK.dsC S9 (HS := [(11, ((h.put n (.cells [N6 (xs.getD i 0)])).put n.inc (.cells [N6 (vs.getD 0 0)]))), (0, h)]) (cag) fun call hcl => ?_
      refine DS_p rfl ?_
      refine DS_p rfl ?_
      refine DS_p rfl ?_
      refine DS_p (op_ia rfl rfl (by omega)) ?_
      refine DS_r (op_ld rfl hx (map_at0 (by omega))) ⟨fun hh => absurd hh (by decide), fun hh => absurd hh (by decide), trivial⟩ ?_
      refine DS_a (rfl) ⟨fun hh => absurd hh (by decide), fun hh => absurd hh (by decide), trivial⟩ ?_
      refine DS_p rfl ?_
      refine DS_p (op_ia rfl rfl (show 0 < 6 by omega)) ?_
      refine DS_r (op_ld rfl ((get_lt hvn).trans hv) (map_at0 (j := 0) (by omega))) ⟨fun hh => absurd hh (by decide), fun hh => absurd hh (by decide), trivial⟩ ?_
      refine DS_a (rfl) ⟨fun hh => absurd hh (by decide), fun hh => absurd hh (by decide), trivial⟩ ?_
      refine DS_c rfl hcl ?_
      refine DS_nil rfl ?_
      refine seqQ_n ?_
      refine XK.condT rfl ?_
      refine XK.seq ?_
      refine XK.reg1 S9 (withB_c s i (vs.getD 0 0) (by omega) (by omega) (v8 0)) fun call hcl => ?_
      refine OG_p rfl ?_
      refine OG_p rfl ?_
      refine OG_p rfl ?_
      refine OG_p (op_ia rfl rfl (show 0 < 6 by omega)) ?_
      refine OG_r (op_ld rfl hv2 (map_at0 (j := 0) (by omega))) ?_
      refine OG_c rfl (hcl) ?_
      refine OG_p rfl ?_
      refine OG_p rfl ?_
      refine OG_nil ?_
      refine seqQ_n ?_
      refine XK.ret S9 ?_
      refine seqQ_r ?_
      refine blockQ_r ?_
      refine seqQ_r ?_
      refine loopQ_r ?_
      exact hR _ _ _ _ (by rw [wordF, hag]; rfl) (Le.cons (p := p2) rfl rfl (Le.cons (p := p3) rfl rfl Le.nil))
    | false =>
      refine XL.body ?_
      refine XK.seq ?_
      refine XK.seq ?_
      refine XK.op0' S9 ?_
      refine OG_p rfl ?_
      refine OG_p rfl ?_
      refine OG_p (op_lt rfl rfl (by omega)) ?_
      refine OG_nil ?_
      refine seqQ_n ?_
      refine XK.condT rfl ?_
      refine XK.skip S9 ?_
      refine seqQ_n ?_
      refine XK.seq ?_
      refine XK.block ?_
      refine XK.seq ?_
      refine XK.seq ?_
      have e1 := num_inc n
      have e2 := skip_num n 11
      have hv2 : ((h.put n (.cells [N6 (xs.getD i 0)])).put n.inc (.cells [N6 (vs.getD 0 0)])).get vid = some (.cells (vs.map N6)) := by rw [get_lt (by omega), get_lt (by omega)]; exact hv
      have hx2 : ((h.put n (.cells [N6 (xs.getD i 0)])).put n.inc (.cells [N6 (vs.getD 0 0)])).get xid = some (.cells (xs.map N6)) := by rw [get_lt (by omega), get_lt (by omega)]; exact hx
      have cag := agrees_c vid n n.inc 2 1 vs [(xs.getD i 0)] [vs.getD 0 0] ((h.put n (.cells [N6 (xs.getD i 0)])).put n.inc (.cells [N6 (vs.getD 0 0)])) (skipN n 11) (by omega) v8 (all8_1 (x8 i)) (all8_1 (v8 0)) hvl rfl rfl hv2 (by rw [get_lt (by omega)]; exact get_at) get_at
      rw [hag] at cag
      refine XK.dsC S9 (HS := [(11, ((h.put n (.cells [N6 (xs.getD i 0)])).put n.inc (.cells [N6 (vs.getD 0 0)]))), (0, h)]) (cag) fun call hcl => ?_
      refine DS_p rfl ?_
      refine DS_p rfl ?_
      refine DS_p rfl ?_
      refine DS_p (op_ia rfl rfl (by omega)) ?_
      refine DS_r (op_ld rfl hx (map_at0 (by omega))) ⟨fun hh => absurd hh (by decide), fun hh => absurd hh (by decide), trivial⟩ ?_
      refine DS_a (rfl) ⟨fun hh => absurd hh (by decide), fun hh => absurd hh (by decide), trivial⟩ ?_
      refine DS_p rfl ?_
      refine DS_p (op_ia rfl rfl (show 0 < 6 by omega)) ?_
      refine DS_r (op_ld rfl ((get_lt hvn).trans hv) (map_at0 (j := 0) (by omega))) ⟨fun hh => absurd hh (by decide), fun hh => absurd hh (by decide), trivial⟩ ?_
      refine DS_a (rfl) ⟨fun hh => absurd hh (by decide), fun hh => absurd hh (by decide), trivial⟩ ?_
      refine DS_c rfl hcl ?_
      refine DS_nil rfl ?_
      refine seqQ_n ?_
      refine XK.condF rfl ?_
      refine XK.skip S9 ?_
      refine seqQ_n ?_
      refine XK.seq ?_
      refine XK.op0' S9 ?_
      refine OG_p rfl ?_
      refine OG_p (op_add rfl rfl (by omega)) ?_
      refine OG_p rfl ?_
      refine OG_nil ?_
      refine seqQ_n ?_
      refine XK.block ?_
      refine XK.loop ?_
      refine XL.less (t1 := ofPL [(p0, .str s), (p4, N6 s.length), (p5, .sl vid 0 6 6 2), (p9, .sl xid 0 s.length s.length 2), (p11, N6 i), (p12, N6 (i + 1))]) (Le.cons (p := p0) rfl rfl (Le.cons (p := p4) rfl rfl (Le.cons (p := p5) rfl rfl (Le.cons (p := p9) rfl rfl (Le.cons (p := p11) rfl rfl (Le.cons (p := p12) rfl rfl Le.nil)))))) (Le.refl _) ?_
      refine pairs_L _ s hs vid xid vs xs hvl hxl v8 x8 hd i k (i + 1) _ _ (by omega) (by omega) hv2 (by omega) hx2 (by omega) (fun t' h' n' m' a b hm hle => ?_) (fun t' h' n' hm hle hv3 hvn3 hx3 hxn3 => ?_)
      · repeat (first | refine blockQ_r ?_ | refine seqQ_r ?_ | refine loopQ_r ?_)
        exact hR _ _ _ [(i, a), (m', b)] (by rw [wordF, hag, hm]; rfl) hle
      refine blockQ_h rfl ?_
      refine blockQ_n ?_
      refine seqQ_n ?_
      refine XK.less hle (Le.refl _) ?_
      refine XK.op0' S9 ?_
      refine OG_p rfl ?_
      refine OG_p (op_add rfl rfl (by omega)) ?_
      refine OG_p rfl ?_
      refine OG_nil ?_
      refine loopQ_n ?_
      refine XL.less (t1 := ofPL [(p0, .str s), (p4, N6 s.length), (p5, .sl vid 0 6 6 2), (p9, .sl xid 0 s.length s.length 2), (p11, N6 (i + 1))]) (Le.cons (p := p0) rfl rfl (Le.cons (p := p4) rfl rfl (Le.cons (p := p5) rfl rfl (Le.cons (p := p9) rfl rfl (Le.cons (p := p11) rfl rfl Le.nil))))) (Le.refl _) ?_
      exact ih (i + 1) _ _ (by omega) hv3 hvn3 hx3 hxn3 (fun t' h' n' fl hf => hR t' h' n' fl (by rw [wordF, hag, hm]; exact hf)) (fun t' h' n' hf => hX t' h' n' (by rw [wordF, hag, hm]; exact hf))

end Go.Ex

