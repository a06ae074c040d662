/- Part of the proof: R9J. -/
import Derived.Test.YtnpcmealdfapjaaDoorR9I
set_option linter.unusedVariables false
set_option linter.unusedSimpArgs false
set_option maxRecDepth 20000
namespace Go.Ex
open Go.Proofs
def applyF : List (Nat × Nat) → List Nat → List Nat
  | [], w => w
  | (i, a) :: l, w => applyF l (w.set i (w.getD i 0 ^^^ a))
def flOk (N : Nat) (fl : List (Nat × Nat)) : Prop := ∀ p ∈ fl, p.1 < N ∧ p.2 < 256
theorem applyF_len : ∀ (fl : List (Nat × Nat)) (w : List Nat), (applyF fl w).length = w.length := by
  intro fl
  induction fl with
  | nil => intro w; rfl
  | cons p l ih => intro w; show (applyF l _).length = _; rw [ih, List.length_set]
theorem applyF_8 {N : Nat} : ∀ (fl : List (Nat × Nat)) (w : List Nat), flOk N fl → all8 w → all8 (applyF fl w) := by
  intro fl
  induction fl with
  | nil => intro w _ h; exact h
  | cons p l ih => intro w hf h; exact ih _ (fun q hq => hf q (List.mem_cons_of_mem _ hq)) (all8_set h (xor_lt (h _) (hf p List.mem_cons_self).2))
theorem flC_at : ∀ (fl : List (Nat × Nat)) (k : Nat) (p : Nat × Nat), fl[k]? = some p → lgetL (flC fl) (0 + k * 2) 2 = some [N6 p.1, B8 p.2] := by
  intro fl
  induction fl with
  | nil => intro k p h; cases h
  | cons q l ih =>
    intro k p h
    cases k with
    | zero =>
      cases h
      show (bif Nat.ble 2 ((flC l).length + 1 + 1) then _ else _) = _
      rw [Nat.ble_eq_true_of_le (by omega)]; rfl
    | succ k =>
      have := ih k p h
      unfold lgetL at this ⊢
      have e : (flC (q :: l)).length = (flC l).length + 2 := rfl
      rw [e, show 0 + (k + 1) * 2 = (0 + k * 2) + 2 by omega, show Nat.ble (0 + k * 2 + 2 + 2) ((flC l).length + 2) = Nat.ble (0 + k * 2 + 2) (flC l).length from rfl]
      exact this
theorem op_slS4 {t : T X} {a b c : D} {id : Pt} {L M : Nat} (ha : ev t a = some (.sl id 0 L L 2)) (hb : ev t b = some (N6 4)) (hc : ev t c = some (N6 M)) (h4 : 4 ≤ M) (hM : M ≤ L) (hL : 4 < L) : opP (.slS 1 a (some b) (some c) none) t = some (.sl id (0 + 4 * 1) (M - 4) (L - 4) 2) := by
  show rSlS 1 a (some b) (some c) none t = _
  unfold rSlS; rw [ha]
  show (match bnd t (some b) 0, bnd t (some c) L with
    | some l, some hh => slX 1 id 0 L 2 l hh none
    | _, _ => none) = _
  rw [show bnd t (some b) 0 = some 4 from by unfold bnd; simp only; rw [hb]; rfl, show bnd t (some c) L = some M from by unfold bnd; simp only; rw [hc]; rfl]
  show (bif Nat.ble M L && Nat.ble 4 M then (bif Nat.beq 2 0 then _ else bif Nat.beq 4 0 then _ else bif Nat.blt 4 L && Nat.beq 2 (1 + 1) then some (X.sl id (0 + 4 * 1) (M - 4) (L - 4) 2) else _) else none) = _
  rw [Nat.ble_eq_true_of_le hM, Nat.ble_eq_true_of_le h4, show Nat.blt 4 L = true from Nat.ble_eq_true_of_le hL]
  rfl
theorem op_b2so {t : T X} {a : D} {h : H} {id : Pt} {off L c z : Nat} {l : List Nat} (ha : ev t a = some (.sl id off L c z)) (hg : h.get id = some (.cells (l.map B8))) (hL : off + L ≤ l.length) : opR (.b2s a) t h = some (.str (((l.drop off).take L).map UInt8.ofNat)) := by
  show rB2s a t h = _
  unfold rB2s; rw [ha]; simp only; rw [hg]; simp only
  have : lgetL (l.map B8) off L = some (((l.drop off).take L).map B8) := by
    unfold lgetL
    rw [show Nat.ble (off + L) (l.map B8).length = true from Nat.ble_eq_true_of_le (by rw [List.length_map]; omega), cond_true, List.map_take, List.map_drop]
  rw [this]; simp only; rw [bytes_str]
def FlV (fl : List (Nat × Nat)) (fv : X) (nd : Pt) : Prop := (fl = [] ∧ fv = .nils) ∨ fv = .sl nd 0 fl.length fl.length 0
theorem FlV.len {fl : List (Nat × Nat)} {fv : X} {nd : Pt} {t : T X} {a : D} (o : FlV fl fv nd) (ha : ev t a = some fv) : opP (.len a) t = some (N6 fl.length) := by
  rcases o with ⟨rfl, rfl⟩ | rfl
  · show rLen a t = _; unfold rLen; rw [ha]; rfl
  · exact op_len ha
theorem FlV.ia {fl : List (Nat × Nat)} {fv : X} {nd : Pt} {t : T X} {a b : D} {k : Nat} (o : FlV fl fv nd) (ha : ev t a = some fv) (hb : ev t b = some (N6 k)) (hk : k < fl.length) : opP (.iaddrS 2 a b) t = some (.ptr nd (0 + k * 2)) := by
  rcases o with ⟨rfl, rfl⟩ | rfl
  · simp at hk
  · exact op_ia ha hb hk

theorem drop_consF {α : Type} {l : List α} {i : Nat} {p : α} (h : l[i]? = some p) : l.drop i = p :: l.drop (i + 1) := by
  obtain ⟨hlt, hb2⟩ := List.getElem?_eq_some_iff.1 h
  rw [List.drop_eq_getElem_cons hlt, hb2]
theorem app2_L (Q : E → T X → H → Pt → Prop) (fl : List (Nat × Nat)) (fv : X) (nd wid : Pt) (L : Nat) (hL : L ≤ 42) (hfl : flOk L fl) (hfl3 : fl.length ≤ 3) (ho : FlV fl fv nd) (hzw : Pt.z ≠ wid) : ∀ (j k : Nat) (w : List Nat) (h : H) (n : Pt), k + j = fl.length → w.length = L → all8 w → h.get wid = some (.cells (w.map B8)) → (fl ≠ [] → h.get nd = some (.cells (flC fl)) ∧ nd.num < n.num) → h.get .z = some (.cells [N6 0, N6 0, N6 0, N6 0, .str []]) → wid.num < n.num → Pt.z.num < n.num → (∀ t' h' n', Le (ofPL [(p2, .ptr .z 0), (p5, fv), (p7, .sl wid 0 L L 2)]) t' → h'.get wid = some (.cells ((applyF (fl.drop k) w).map B8)) → h'.get .z = some (.cells [N6 0, N6 0, N6 0, N6 0, .str []]) → wid.num < n'.num → Pt.z.num < n'.num → Q (.exit 0) t' h' n') → (fl ≠ [] → nd ≠ wid) →
    XL Tryd.prog eqs9 74 k21L0 (ofPL [(p2, .ptr .z 0), (p5, fv), (p7, .sl wid 0 L L 2), (p27, fv), (p28, N6 fl.length), (p29, N6 (k))]) h n Q := by
  intro j
  induction j with
  | zero =>
    intro k w h n hk hwL w8 hw hnd hz5 hwn hzn hQ hndw
    rw [List.drop_eq_nil_of_le (by omega)] at hQ
    refine XL.body ?_
    refine XK.seq ?_
    refine XK.op0' S9 ?_
    refine OG_p (op_nlt rfl rfl (by omega)) ?_
    refine OG_nil ?_
    refine seqQ_n ?_
    refine XK.seq ?_
    refine XK.condF rfl ?_
    refine XK.exit S9 ?_
    refine seqQ_x ?_
    refine loopQ_x ?_
    exact hQ _ _ _ (Le.cons (p := p2) rfl rfl (Le.cons (p := p5) rfl rfl (Le.cons (p := p7) rfl rfl Le.nil))) hw hz5 hwn hzn
  | succ j ih =>
    intro k w h n hk hwL w8 hw hnd hz5 hwn hzn hQ hndw
    have hne : fl ≠ [] := fun e => by rw [e] at hk; simp at hk
    have hnd := hnd hne
    have hndw' := hndw
    have hndw := hndw hne
    obtain ⟨p, hpk⟩ : ∃ p, fl[k]? = some p := ⟨fl[k], List.getElem?_eq_getElem (by omega)⟩
    obtain ⟨hp1, hp2⟩ := hfl p (List.mem_of_getElem? hpk)
    have hw1 : ((h.put n (.cells [N6 0, B8 0])).put n (.cells [N6 p.1, B8 p.2])).get wid = some (.cells (w.map B8)) := by rw [get_lt hwn, get_lt hwn]; exact hw
    refine XL.body ?_
    refine XK.seq ?_
    refine XK.op0' S9 ?_
    refine OG_p (op_lt rfl rfl (by omega)) ?_
    refine OG_nil ?_
    refine seqQ_n ?_
    refine XK.seq ?_
    refine XK.condT rfl ?_
    refine XK.skip S9 ?_
    refine seqQ_n ?_
    refine XK.seq ?_
    refine XK.block ?_
    refine XK.seq ?_
    refine XK.op0' S9 ?_
    refine OG_p (ho.ia rfl rfl (by omega)) ?_
    refine OG_r (op_ldA rfl hnd.1 (flC_at _ _ _ hpk)) ?_
    refine OG_a (rfl) ?_
    refine OG_w (op_stA rfl rfl rfl get_at rfl) ?_
    refine OG_nil ?_
    refine seqQ_n ?_
    refine XK.ds0 S9 (HS := [(10, (((h.put n (.cells [N6 0, B8 0])).put n (.cells [N6 p.1, B8 p.2])).put wid (.cells ((w.set p.1 (w.getD p.1 0 ^^^ p.2)).map B8)))), (0, ((h.put n (.cells [N6 0, B8 0])).put n (.cells [N6 p.1, B8 p.2])))]) ?_
    refine DS_p rfl ?_
    refine DS_p rfl ?_
    refine DS_r (op_ld rfl get_at rfl) ⟨fun hh => absurd hh (by decide), fun hh => absurd hh (by decide), trivial⟩ ?_
    refine DS_p (op_ia rfl rfl (by omega)) ?_
    refine DS_r (op_ld rfl hw1 (map_at0 (by omega))) ⟨fun hh => absurd hh (by decide), fun hh => absurd hh (by decide), trivial⟩ ?_
    refine DS_p rfl ?_
    refine DS_r (op_ld rfl get_at rfl) ⟨fun hh => absurd hh (by decide), fun hh => absurd hh (by decide), trivial⟩ ?_
    refine DS_p (op_x8 rfl rfl (w8 _) hp2) ?_
    refine DS_p (op_ia rfl rfl (by omega)) ?_
    refine DS_w (op_st_map (F := B8) (fun _ => rfl) rfl rfl hw1 (by omega)) ?_
    refine DS_nil rfl ?_
    refine blockQ_n ?_
    refine seqQ_n ?_
    refine XK.op0' S9 ?_
    refine OG_p (op_add rfl rfl (by omega)) ?_
    refine OG_p rfl ?_
    refine OG_nil ?_
    refine loopQ_n ?_
    refine XL.less (t1 := ofPL [(p2, .ptr .z 0), (p5, fv), (p7, .sl wid 0 L L 2), (p27, fv), (p28, N6 fl.length), (p29, N6 (k + 1))]) (Le.cons (p := p2) rfl rfl (Le.cons (p := p5) rfl rfl (Le.cons (p := p7) rfl rfl (Le.cons (p := p27) rfl rfl (Le.cons (p := p28) rfl rfl (Le.cons (p := p29) rfl rfl Le.nil)))))) (Le.refl _) ?_
    exact ih (k + 1) (w.set p.1 (w.getD p.1 0 ^^^ p.2)) _ _ (by omega) (by rw [List.length_set]; exact hwL) (all8_set w8 (xor_lt (w8 _) hp2)) get_at (fun hne => ⟨by rw [get_put, if_neg hndw, get_lt hnd.2, get_lt hnd.2]; exact hnd.1, by rw [skip_num, num_inc]; have := hnd.2; omega⟩) (by rw [get_put, if_neg hzw, get_lt hzn, get_lt hzn]; exact hz5) (by rw [skip_num, num_inc]; omega) (by rw [skip_num, num_inc]; omega) (by rw [drop_consF hpk] at hQ; exact hQ) hndw'

end Go.Ex

