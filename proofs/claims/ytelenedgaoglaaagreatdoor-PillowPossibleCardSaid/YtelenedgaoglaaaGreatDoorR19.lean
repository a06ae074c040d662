/- R19. -/
import Derived.Test.YtelenedgaoglaaaGreatDoorR18
import Derived.Test.YtelenedgaoglaaaGreatDoorAdB
import Derived.Test.YtelenedgaoglaaaGreatDoorMA
set_option linter.unusedSimpArgs false
set_option linter.unusedVariables false
namespace Go.Proofs.YtelenedgaoglaaaGreatDoor
open Go.Ab
open Go.Pil Go.RowKit
theorem ne_dec (s : Sp) : decide s.Ne = !decide (s.hi < s.lo) := by
  by_cases h : s.Ne
  · have h2 : s.lo ≤ s.hi := h
    rw [decide_eq_true h, decide_eq_false (by omega)]; rfl
  · have h2 : ¬ s.lo ≤ s.hi := h
    rw [decide_eq_false h, decide_eq_true (by omega)]; rfl
set_option maxRecDepth 20000 in
theorem last1_s (p : Plw) (w : List Sp) (b : List Int) (t : Sp) : FSpec Tryz.prog 120 [.agg (eN t), .rd (eBc p w b)] (B (decide (t.meet (ldB p w b)).Ne)) (none) := by
  refine FSpec.of_body Tryz.func120 rfl (leB rfl) fun w0 M0 => ?_
  refine AWP.seq ?_
  refine AWP.region ?_
  refine AOps.call (o_box _ rfl rfl rfl) ?_
  refine AOps.call (o_assign _ rfl rfl) ?_
  refine AOps.nil ?_
  refine AWP.seq ?_
  refine AWP.region ?_
  refine AOps.call (o_loadRef _ rfl rfl Tryz.sizeOf54 Tryz.isAgg54 rfl rfl rfl) ?_
  refine AOps.call (o_fieldRd _ rfl fa112_2 rfl) ?_
  refine AOps.call (o_loadRd _ rfl Tryz.sizeOf54 Tryz.isAgg54 rfl rfl rfl) ?_
  refine AOps.call (o_call (meet_s t (ldB p w b)) Tryz.call96 rfl rfl) ?_
  refine AOps.call (o_call (isEmpty_s (t.meet (ldB p w b))) Tryz.call95 rfl rfl) ?_
  refine AOps.call (o_un _ rfl (fun _ => rfl) rfl) ?_
  refine AOps.call (o_assign _ rfl rfl) ?_
  refine AOps.nil ?_
  refine AWP.ret ?_
  refine postQ.ret1 Tryz.results120 rfl ?_
  rw [ne_dec]
  rfl
set_option maxRecDepth 20000 in
theorem IndexSp_s (p : Plw) (w : List Sp) (b : List Int) (l : List Sp) (hl : l.length ≤ 1000000) : FSpec Tryz.prog 133 [.sl (sps l), .clo 120 [.rd (eBc p w b)]] (I (firstA (fun t : Sp => decide (t.meet (ldB p w b)).Ne) l 0)) (none) := by
  refine FSpec.of_body Tryz.func133 rfl (leB rfl) fun w0 M0 => ?_
  refine AWP.seq ?_
  refine AWP.region ?_
  refine AOps.call (o_assign _ rfl rfl) ?_
  refine AOps.nil ?_
  refine AWP.seq ?_
  refine AWP.seq ?_
  refine AWP.region ?_
  refine AOps.call (o_move _ rfl rfl) ?_
  refine AOps.call (o_len _ Tryz.underlying38 rfl rfl) ?_
  refine AOps.call (o_move _ rfl rfl) ?_
  refine AOps.nil ?_
  refine AWP.block ?_
  refine AWP.loop (ι := Nat) (fun i => AS.mk' 19 [(0, .sl (sps l)), (1, .clo 120 [.rd (eBc p w b)]), (7, I (sps l).length), (8, I i)] [] [] []) (fun i => i ≤ l.length ∧ firstA (fun t : Sp => decide (t.meet (ldB p w b)).Ne) l 0 = firstA (fun t : Sp => decide (t.meet (ldB p w b)).Ne) (l.drop i) i) (fun i => l.length - i) (0) (Weak.mk' rfl ⟨⟨.refl rfl, rfl⟩, ⟨⟨.refl rfl, rfl⟩, ⟨⟨.refl rfl, rfl⟩, ⟨⟨.refl rfl, rfl⟩, trivial⟩⟩⟩⟩ trivial trivial) (⟨Nat.zero_le _, rfl⟩) ?_
  rintro k ⟨hk, hinv⟩
  try dsimp only at *
  refine AWP.seq ?_
  refine AWP.region ?_
  refine AOps.call (o_bin _ _ rfl rfl (fun _ => rfl) rfl) ?_
  refine AOps.nil ?_
  refine AWP.seq ?_
  refine AWP.cond _ rfl (fun h6 => ?_) (fun h6 => ?_)
  · skip
    have hlt : k < l.length := by simp [sps_len] at h6; omega
    have hel := sps_at hlt
    refine AWP.skip ?_
    refine AWP.seq ?_
    refine AWP.block ?_
    refine AWP.seq ?_
    refine AWP.region ?_
    refine AOps.call (o_move _ rfl rfl) ?_
    refine AOps.call (o_assign _ rfl rfl) ?_
    refine AOps.nil ?_
    refine AWP.seq ?_
    refine AWP.region ?_
    refine AOps.call (o_move _ rfl rfl) ?_
    refine AOps.call (o_move _ rfl rfl) ?_
    refine AOps.call (o_move _ rfl rfl) ?_
    refine AOps.call (o_index _ _ Tryz.underlying38 Tryz.sizeOf54 rfl rfl (by omega) (by assumption) rfl rfl) ?_
    refine AOps.call (o_loadRd _ rfl Tryz.sizeOf54 Tryz.isAgg54 rfl rfl rfl) ?_
    refine AOps.call (o_callV (cl := [.agg (eN l[k])]) (ccl := [.rd (eBc p w b)]) _ rfl (last1_s p w b l[k]) Tryz.call120 rfl rfl rfl) ?_
    refine AOps.nil ?_
    refine AWP.cond _ rfl (fun h12 => ?_) (fun h12 => ?_)
    · skip
      have hq : (fun t : Sp => decide (t.meet (ldB p w b)).Ne) l[k] = true := h12
      refine AWP.seq ?_
      refine AWP.region ?_
      refine AOps.call (o_move _ rfl rfl) ?_
      refine AOps.call (o_assign _ rfl rfl) ?_
      refine AOps.nil ?_
      refine AWP.ret ?_
      refine postQ.ret1 Tryz.results133 rfl ?_
      first
      | (rw [hinv, firstA_at hlt, if_pos hq]; rfl)
      | (rw [hinv]; rfl)
    · skip
      have hq : (fun t : Sp => decide (t.meet (ldB p w b)).Ne) l[k] = false := h12
      refine AWP.skip ?_
      refine AWP.region ?_
      refine AOps.call (o_add _ _ rfl rfl ⟨by (try dsimp only); omega, by (try dsimp only); omega⟩ rfl) ?_
      refine AOps.call (o_move _ rfl rfl) ?_
      refine AOps.nil ?_
      refine ⟨k + 1, ?_, (Weak.mk' rfl ⟨⟨.refl rfl, rfl⟩, ⟨⟨.refl rfl, rfl⟩, ⟨⟨.refl rfl, rfl⟩, ⟨⟨.refl rfl, rfl⟩, trivial⟩⟩⟩⟩ trivial trivial)⟩
      refine ⟨⟨by omega, ?_⟩, by omega⟩
      rw [hinv, firstA_at hlt, if_neg (by simpa using hq)]
  · skip
    have hkl : k = l.length := by simp [sps_len] at h6; omega
    subst hkl
    rw [List.drop_length] at hinv
    refine AWP.exit ?_
    refine AWP.seq ?_
    refine AWP.region ?_
    refine AOps.call (o_assign _ rfl rfl) ?_
    refine AOps.nil ?_
    refine AWP.ret ?_
    refine postQ.ret1 Tryz.results133 rfl ?_
    first
    | (rw [hinv, firstA_at hlt, if_pos hq]; rfl)
    | (rw [hinv]; rfl)
theorem firstA_any {α : Type} (q : α → Bool) : ∀ (l : List α) (i : Int), 0 ≤ i → decide (0 ≤ firstA q l i) = l.any q := by
  intro l
  induction l with
  | nil => intro i _; simp [firstA]
  | cons a l ih =>
    intro i hi
    rw [List.any_cons]
    by_cases h : q a = true
    · have e : firstA q (a :: l) i = i := by simp only [firstA]; rw [if_pos h]
      rw [e, h, decide_eq_true hi]; rfl
    · have e : firstA q (a :: l) i = firstA q l (i + 1) := by simp only [firstA]; rw [if_neg h]
      rw [e, ih (i + 1) (by omega), show q a = false by simpa using h]; rfl
set_option maxRecDepth 20000 in
theorem ContainsSp_s (p : Plw) (w : List Sp) (b : List Int) (l : List Sp) (hl : l.length ≤ 1000000) : FSpec Tryz.prog 119 [.sl (sps l), .clo 120 [.rd (eBc p w b)]] (B (l.any (fun t : Sp => decide (t.meet (ldB p w b)).Ne))) (none) := by
  refine FSpec.of_body Tryz.func119 rfl (leB rfl) fun w0 M0 => ?_
  refine AWP.seq ?_
  refine AWP.region ?_
  refine AOps.call (o_assign _ rfl rfl) ?_
  refine AOps.nil ?_
  refine AWP.seq ?_
  refine AWP.region ?_
  refine AOps.call (o_move _ rfl rfl) ?_
  refine AOps.call (o_move _ rfl rfl) ?_
  refine AOps.call (o_call (IndexSp_s p w b l hl) Tryz.call133 rfl rfl) ?_
  refine AOps.call (o_bin _ _ rfl rfl (fun _ => rfl) rfl) ?_
  refine AOps.call (o_assign _ rfl rfl) ?_
  refine AOps.nil ?_
  refine AWP.ret ?_
  refine postQ.ret1 Tryz.results119 rfl ?_
  rw [← firstA_any _ l 0 (Int.le_refl 0)]
  rfl
theorem keepL_eq {p : Plw} {w : List Sp} {b : List Int} (hb : b ≠ []) (N : Nat) : keepL (p.pb w) N b = (opn (p.pb w) (N - b.length) (pl (p.pb w) b)).any fun t => decide (t.meet (ldB p w b)).Ne := by
  unfold keepL lasts ldB
  rw [if_neg hb]
  rfl
theorem pl_ok {p : Plw} (hp : OkP p) {w : List Sp} {b : List Int} (hb : b ≠ []) (hN : b.length ≤ p.log.length) (hr : Rt (p.pb w) b) : PlOk p (p.log.length - b.length) (pl (p.pb w) b) := by
  have h0 := List.length_pos_iff.2 hb
  have h1 := flt_nonneg b; have h2 := hp.faults
  have h3 : flt b ≤ p.faults := hr.2.2.2
  refine ⟨?_, ?_, ?_, ?_⟩
  · show ((b.length : Int) - 1) = _; omega
  · show 0 ≤ ((b.length : Int) - 1); omega
  · show 0 ≤ p.faults - flt b; omega
  · show p.faults - flt b ≤ 32; omega
set_option maxRecDepth 20000 in
theorem lasts_c (p : Plw) (w : List Sp) (hp : OkP p) (hw : okW p w = true) (s bk br bo : Nat) (b : List Int) (hb : b ≠ []) (hN : b.length ≤ p.log.length) (hr : Rt (p.pb w) b) : FSpecJ Tryz.prog (JM p w s bk br bo) 118 [.agg (eBc p w b), .rd [.sc (opV bk br bo)]] (fun r J' => r = B (keepL (p.pb w) p.log.length b) ∧ J' = JM p w s bk br bo) := by
  refine FSpecJ.of_body Tryz.func118 rfl (leB rfl) fun F0 w0 M0 => ?_
  have hln := opn_len (fun i s => hp.allow_ne i s) (fun i s => allow_InB hp w i s) (p.log.length - b.length) (pl (p.pb w) b)
  refine AWPJ.seq ?_
  refine AWPJ.lift (fun u N => ?_)
  refine AWP.region ?_
  refine AOps.call (o_box _ rfl rfl rfl) ?_
  refine AOps.call (o_assign _ rfl rfl) ?_
  refine AOps.nil ?_
  refine AWPJ.seq ?_
  refine AWPJ.region ?_
  refine AOpsJ.call (fun u N => o_loadRd _ rfl Tryz.sizeOf156 Tryz.isAgg156 rfl rfl rfl) ?_
  refine AOpsJ.call (fun u N => o_fieldRef _ rfl fa112_0 rfl rfl) ?_
  refine AOpsJ.call (fun u N => o_loadRef _ rfl rfl Tryz.sizeOf110 Tryz.isAgg110 rfl rfl rfl) ?_
  refine AOpsJ.op (o_callVJ (f := 116) (caps := capV bk br bo) (cl := [.agg (eL (pl (p.pb w) b))]) _ rfl (open_s p w hp hw s bk br bo (p.log.length - b.length) _ (pl_ok hp hb hN hr)) Tryz.call116 rfl (.inl rfl) rfl) ?_
  rintro _ _ ⟨_, ⟨rfl, rfl⟩, rfl⟩
  refine AOpsJ.weak (Weak.toJ (Weak.frzv (id := (2, 0)) (t := 2) rfl rfl rfl)) ?_
  refine AOpsJ.call (fun u N => o_makeClo rfl rfl) ?_
  refine AOpsJ.call (fun u N => o_call (ContainsSp_s p w b (opn (p.pb w) (p.log.length - b.length) (pl (p.pb w) b)) (by omega)) Tryz.call119 rfl rfl) ?_
  refine AOpsJ.call (fun u N => o_assign _ rfl rfl) ?_
  refine AOpsJ.nil ?_
  refine AWPJ.ret ?_
  try dsimp only [seqQJ, blockQJ, roundQJ]
  try rw [show Nat.beq 0 0 = true from rfl, cond_true]
  refine postQJ.ret1 Tryz.results118 rfl rfl ?_
  exact ⟨by rw [keepL_eq hb]; rfl, rfl⟩
def laV (bo : Nat) : Value := .func (.func 118) #[] #[adr bo]
theorem lasts_s (p : Plw) (w : List Sp) (hp : OkP p) (hw : okW p w = true) (s bk br bo : Nat) (b : List Int) (hb : b ≠ []) (hN : b.length ≤ p.log.length) (hr : Rt (p.pb w) b) : FSpecJ Tryz.prog (JM p w s bk br bo) 118 ([.agg (eBc p w b)] ++ [adr bo].map .sc) (fun r J' => r = B (keepL (p.pb w) p.log.length b) ∧ J' = JM p w s bk br bo) :=
  FSpecJ.know (lasts_c p w hp hw s bk br bo b hb hN hr) rfl fun T F w' M hJ i x y v hx hy hv => by
    rcases i with _ | _ | i
    · simp at hx hy; subst hx; subst hy; exact hv
    · simp at hx hy; subst hx; subst hy; rw [hv.exact _ rfl]; exact Jm_fact (show (_, _) ∈ fcM p w s bk br bo by simp [fcM, adr]) hJ
    · simp at hy
theorem lasting_made (p : Plw) (w : List Sp) (s : Nat) {σ : AS} (hk : σ.va (3, 0) = some [.sc (.map (some s))]) (hr : σ.va (1, 0) = some (eR p w)) (ho : σ.va (4, 0) = some [.clo 116 [.ref (3, 0) 0, .ref (1, 0) 0, .ref (4, 0) 0]]) (ht : nf (σ.tm 2) = some (.clo 118 [.ref (4, 0) 0])) :
    ∀ F0 w0 M0 a w', RelJ F0 (Jm keyP (fun _ => True) (valP p w) s []) w0 M0 σ a w' → ∃ i : Nat × Nat × Nat, RelJ F0 (JM p w s i.1 i.2.1 i.2.2) w0 M0 (AS.mk' σ.n [(2, .sc (laV i.2.2))] [] [] []) a w' := by
  intro F0 w0 M0 a w' ⟨x, T, F, hx⟩
  obtain ⟨bk, k1, k2, k3, k4, k5⟩ := hx.rel.var hk
  obtain ⟨br, r1, r2, r3, r4, r5⟩ := hx.rel.var hr
  obtain ⟨bo, o1, o2, o3, o4, o5⟩ := hx.rel.var ho
  obtain ⟨g1, g2, g3, ⟨es, clock, g4, g5⟩, g6⟩ := hx.sec
  have hfree : ∀ {id cs b}, σ.va id = some cs → x.V id = some b → ¬ F b := fun h1 h2 hF => hx.free _ hF (.inl ⟨_, _, h1, h2⟩)
  have hv : a.tmps.getD 2 undef = laV bo := by
    have h := hx.rel.tm 2
    rw [nf_eq ht] at h
    exact h.clo_ref1 o1
  obtain ⟨vo, q1, q2, q3⟩ := o5 0 _ rfl
  have hvo : vo = opV bk br bo := q3.clo_ref3 k1 r1 o1
  refine ⟨(bk, br, bo), RelX.settle hx [bk, br, bo] ?_ (T' := T) [(2, .sc (laV bo))] ?_ (fun b hb => .inl hb) JM_ok ?_ trivial⟩
  · intro b hb
    simp only [List.mem_cons, List.not_mem_nil, or_false] at hb
    rcases hb with rfl | rfl | rfl
    · exact ⟨k2, k4, k3, hfree hk k1⟩
    · exact ⟨r2, r4, r3, hfree hr r1⟩
    · exact ⟨o2, o4, o3, hfree ho o1⟩
  · intro q hq
    simp only [List.mem_singleton] at hq
    subst hq
    refine ⟨rfl, ?_⟩
    show VR _ _ _ _ (.sc (laV bo)) (a.tmps.getD 2 undef)
    rw [hv]; exact .sc _
  · intro M' hM1 hM2 himm
    have hnT : ∀ b, b = bk ∨ b = br ∨ b = bo → ¬ T b := fun b hb hT => by
      have hs : b = s := (g1 b).1 hT
      subst hs
      rcases hb with rfl | rfl | rfl
      · exact hfree hk k1 g2
      · exact hfree hr r1 g2
      · exact hfree ho o1 g2
    have hMn : ∀ b, b = bk ∨ b = br ∨ b = bo → M' b = none := fun b hb => (hM2 b (by simpa using hb)).2 (hnT b hb)
    have hin : ∀ b off u, Imm w' x.M b off u → Imm w' (inF (fun b => F b ∨ (b < w'.heap.size ∧ M' b ≠ some 0) ∨ b ∈ [bk, br, bo]) M') b off u := fun b off u hi => by
      have h2 := himm b off u hi
      have hlt : b < w'.heap.size := by
        rcases Nat.lt_or_ge b w'.heap.size with h' | h'
        · exact h'
        · have := hi.1; simp [World.cell?, Array.getElem?_eq_none h'] at this
      exact inF_imm.2 ⟨.inr (.inl ⟨hlt, fun e => absurd (h2.2.2 0 e) (by omega)⟩), h2⟩
    have hs : s ∉ [bk, br, bo] := fun hm => by
      simp only [List.mem_cons, List.not_mem_nil, or_false] at hm
      rcases hm with rfl | rfl | rfl
      · exact hfree hk k1 g2
      · exact hfree hr r1 g2
      · exact hfree ho o1 g2
    refine ⟨g1, .inl g2, by rw [hM1 s hs]; exact g3, ⟨es, clock, g4, fun e he => ?_⟩, fun f hf => ?_⟩
    · obtain ⟨k, z1, z2, z3⟩ := g5 e he
      exact ⟨k, z1, z2, (inF_open z3).monoI rfl hin⟩
    · simp only [fcM, List.mem_cons, List.not_mem_nil, or_false] at hf
      rcases hf with rfl | rfl | rfl
      · exact rd_of k5 rfl (.inr (.inr (by simp))) (hMn _ (.inl rfl)) hin
      · exact rd_of r5 rfl (.inr (.inr (by simp))) (hMn _ (.inr (.inl rfl))) hin
      · have hco : Cells w' x.M x.V x.G bo 0 [.sc (opV bk br bo)] := fun j c hj => by
          rcases j with _ | j
          · simp at hj; subst hj; exact ⟨vo, q1, q2, by rw [hvo]; exact .sc _⟩
          · simp at hj
        exact rd_of hco rfl (.inr (.inr (by simp))) (hMn _ (.inr (.inr rfl))) hin
theorem mapNew {p : Plw} {w : List Sp} {T F : Nat → Prop} {w1 : World} {M : Nat → Option Nat} (h : J0 T F w1 M) (hlt : ∀ b, F b → b < w1.heap.size) : Jm keyP (fun _ => True) (valP p w) w1.heap.size [] (fun b => T b ∨ b = w1.heap.size) (fun b => F b ∨ b = w1.heap.size) (w1.alloc (.map #[] 0)) (upd M w1.heap.size (some 0)) :=
  ⟨fun b => ⟨fun hb => hb.resolve_left (h.1 b), .inr⟩, .inr rfl, upd_same _ _ _, ⟨#[], 0, heap_new _ _, fun e he => by simp at he⟩, fun f hf => by simp at hf⟩
set_option maxRecDepth 20000 in
theorem lasting_s (p : Plw) (w : List Sp) : FSpecJ Tryz.prog (J0) 91 [.agg (eR p w)] (fun r J' => ∃ s bk br bo, r = .sc (laV bo) ∧ J' = JM p w s bk br bo) := by
  refine FSpecJ.of_body Tryz.func91 rfl (leB rfl) fun F0 w0 M0 => ?_
  refine AWPJ.seq ?_
  refine AWPJ.lift (fun u N => ?_)
  refine AWP.region ?_
  refine AOps.call (o_box _ rfl rfl rfl) ?_
  refine AOps.call (o_assign _ rfl rfl) ?_
  refine AOps.nil ?_
  refine AWPJ.seq ?_
  refine AWPJ.region ?_
  refine AOpsJ.op (o_makeMapJ (J' := fun s => Jm keyP (fun _ => True) (valP p w) s []) rfl (fun _ => Jm_ok) (fun T F w1 M h hlt => mapNew h hlt) rfl) ?_
  rintro _ _ ⟨_, ⟨s, rfl, rfl⟩, rfl⟩
  refine AOpsJ.call (fun u N => o_alloc ze155 rfl rfl) ?_
  refine AOpsJ.cons (fun u N => o_store _ _ rfl rfl Tryz.sizeOf155 rfl rfl rfl rfl rfl) ?_
  refine AOpsJ.nil ?_
  refine AWPJ.seq ?_
  refine AWPJ.lift (fun u N => ?_)
  refine AWP.region ?_
  refine AOps.call (o_alloc ze156 rfl rfl) ?_
  refine AOps.nil ?_
  refine AWPJ.seq ?_
  refine AWPJ.lift (fun u N => ?_)
  refine AWP.region ?_
  refine AOps.call (o_makeClo rfl rfl) ?_
  refine AOps.cons (o_store _ _ rfl rfl Tryz.sizeOf156 rfl rfl rfl rfl rfl) ?_
  refine AOps.nil ?_
  refine AWPJ.seq ?_
  refine AWPJ.lift (fun u N => ?_)
  refine AWP.region ?_
  refine AOps.call (o_makeClo rfl rfl) ?_
  refine AOps.call (o_assign _ rfl rfl) ?_
  refine AOps.nil ?_
  refine AWPJ.someW (lasting_made p w s rfl rfl rfl rfl) (fun i => ?_)
  refine AWPJ.ret ?_
  try dsimp only [seqQJ, blockQJ, roundQJ]
  try rw [show Nat.beq 0 0 = true from rfl, cond_true]
  refine postQJ.ret1 Tryz.results91 rfl rfl ?_
  exact ⟨s, i.1, i.2.1, i.2.2, rfl, rfl⟩
end Go.Proofs.YtelenedgaoglaaaGreatDoor
