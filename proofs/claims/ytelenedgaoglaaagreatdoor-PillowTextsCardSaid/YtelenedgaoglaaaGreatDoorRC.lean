/- R19. -/
import Derived.Test.YtelenedgaoglaaaGreatDoorR18
import Derived.Test.YtelenedgaoglaaaGreatDoorAdB
import Derived.Test.YtelenedgaoglaaaGreatDoorMA
import Derived.Test.YtelenedgaoglaaaGreatDoorR16
set_option linter.unusedSimpArgs false
set_option linter.unusedVariables false
namespace Go.Proofs.YtelenedgaoglaaaGreatDoor
open Go.Ab
open Go.Pil Go.RowKit
theorem ne_dec (s : Sp) : decide s.Ne = !decide (s.hi < s.lo) := by
  by_cases h : s.Ne
  · have h2 : s.lo ≤ s.hi := h
    rw [decide_eq_true h, decide_eq_false (by omega)]; rfl
  · have h2 : ¬ s.lo ≤ s.hi := h
    rw [decide_eq_false h, decide_eq_true (by omega)]; rfl
set_option maxRecDepth 20000 in
theorem last1_s (p : Plw) (w : List Sp) (b : List Int) (t : Sp) : FSpec Tryz.prog 120 [.agg (eN t), .rd (eBc p w b)] (B (decide (t.meet (ldB p w b)).Ne)) (none) := by
  refine FSpec.of_body Tryz.func120 rfl (leB rfl) fun w0 M0 => ?_
  refine AWP.seq ?_
  refine AWP.region ?_
  refine AOps.call (o_box _ rfl rfl rfl) ?_
  refine AOps.call (o_assign _ rfl rfl) ?_
  refine AOps.nil ?_
  refine AWP.seq ?_
  refine AWP.region ?_
  refine AOps.call (o_loadRef _ rfl rfl Tryz.sizeOf54 Tryz.isAgg54 rfl rfl rfl) ?_
  refine AOps.call (o_fieldRd _ rfl fa112_2 rfl) ?_
  refine AOps.call (o_loadRd _ rfl Tryz.sizeOf54 Tryz.isAgg54 rfl rfl rfl) ?_
  refine AOps.call (o_call (meet_s t (ldB p w b)) Tryz.call96 rfl rfl) ?_
  refine AOps.call (o_call (isEmpty_s (t.meet (ldB p w b))) Tryz.call95 rfl rfl) ?_
  refine AOps.call (o_un _ rfl (fun _ => rfl) rfl) ?_
  refine AOps.call (o_assign _ rfl rfl) ?_
  refine AOps.nil ?_
  refine AWP.ret ?_
  refine postQ.ret1 Tryz.results120 rfl ?_
  rw [ne_dec]
  rfl
set_option maxRecDepth 20000 in
theorem IndexSp_s (p : Plw) (w : List Sp) (b : List Int) (l : List Sp) (hl : l.length ≤ 1000000) : FSpec Tryz.prog 133 [.sl (sps l), .clo 120 [.rd (eBc p w b)]] (I (firstA (fun t : Sp => decide (t.meet (ldB p w b)).Ne) l 0)) (none) := by
  refine FSpec.of_body Tryz.func133 rfl (leB rfl) fun w0 M0 => ?_
  refine AWP.seq ?_
  refine AWP.region ?_
  refine AOps.call (o_assign _ rfl rfl) ?_
  refine AOps.nil ?_
  refine AWP.seq ?_
  refine AWP.seq ?_
  refine AWP.region ?_
  refine AOps.call (o_move _ rfl rfl) ?_
  refine AOps.call (o_len _ Tryz.underlying38 rfl rfl) ?_
  refine AOps.call (o_move _ rfl rfl) ?_
  refine AOps.nil ?_
  refine AWP.block ?_
  refine AWP.loop (ι := Nat) (fun i => AS.mk' 19 [(0, .sl (sps l)), (1, .clo 120 [.rd (eBc p w b)]), (7, I (sps l).length), (8, I i)] [] [] []) (fun i => i ≤ l.length ∧ firstA (fun t : Sp => decide (t.meet (ldB p w b)).Ne) l 0 = firstA (fun t : Sp => decide (t.meet (ldB p w b)).Ne) (l.drop i) i) (fun i => l.length - i) (0) (Weak.mk' rfl ⟨⟨.refl rfl, rfl⟩, ⟨⟨.refl rfl, rfl⟩, ⟨⟨.refl rfl, rfl⟩, ⟨⟨.refl rfl, rfl⟩, trivial⟩⟩⟩⟩ trivial trivial) (⟨Nat.zero_le _, rfl⟩) ?_
  rintro k ⟨hk, hinv⟩
  try dsimp only at *
  refine AWP.seq ?_
  refine AWP.region ?_
  refine AOps.call (o_bin _ _ rfl rfl (fun _ => rfl) rfl) ?_
  refine AOps.nil ?_
  refine AWP.seq ?_
  refine AWP.cond _ rfl (fun h6 => ?_) (fun h6 => ?_)
  · skip
    have hlt : k < l.length := by simp [sps_len] at h6; omega
    have hel := sps_at hlt
    refine AWP.skip ?_
    refine AWP.seq ?_
    refine AWP.block ?_
    refine AWP.seq ?_
    refine AWP.region ?_
    refine AOps.call (o_move _ rfl rfl) ?_
    refine AOps.call (o_assign _ rfl rfl) ?_
    refine AOps.nil ?_
    refine AWP.seq ?_
    refine AWP.region ?_
    refine AOps.call (o_move _ rfl rfl) ?_
    refine AOps.call (o_move _ rfl rfl) ?_
    refine AOps.call (o_move _ rfl rfl) ?_
    refine AOps.call (o_index _ _ Tryz.underlying38 Tryz.sizeOf54 rfl rfl (by omega) (by assumption) rfl rfl) ?_
    refine AOps.call (o_loadRd _ rfl Tryz.sizeOf54 Tryz.isAgg54 rfl rfl rfl) ?_
    refine AOps.call (o_callV (cl := [.agg (eN l[k])]) (ccl := [.rd (eBc p w b)]) _ rfl (last1_s p w b l[k]) Tryz.call120 rfl rfl rfl) ?_
    refine AOps.nil ?_
    refine AWP.cond _ rfl (fun h12 => ?_) (fun h12 => ?_)
    · skip
      have hq : (fun t : Sp => decide (t.meet (ldB p w b)).Ne) l[k] = true := h12
      refine AWP.seq ?_
      refine AWP.region ?_
      refine AOps.call (o_move _ rfl rfl) ?_
      refine AOps.call (o_assign _ rfl rfl) ?_
      refine AOps.nil ?_
      refine AWP.ret ?_
      refine postQ.ret1 Tryz.results133 rfl ?_
      first
      | (rw [hinv, firstA_at hlt, if_pos hq]; rfl)
      | (rw [hinv]; rfl)
    · skip
      have hq : (fun t : Sp => decide (t.meet (ldB p w b)).Ne) l[k] = false := h12
      refine AWP.skip ?_
      refine AWP.region ?_
      refine AOps.call (o_add _ _ rfl rfl ⟨by (try dsimp only); omega, by (try dsimp only); omega⟩ rfl) ?_
      refine AOps.call (o_move _ rfl rfl) ?_
      refine AOps.nil ?_
      refine ⟨k + 1, ?_, (Weak.mk' rfl ⟨⟨.refl rfl, rfl⟩, ⟨⟨.refl rfl, rfl⟩, ⟨⟨.refl rfl, rfl⟩, ⟨⟨.refl rfl, rfl⟩, trivial⟩⟩⟩⟩ trivial trivial)⟩
      refine ⟨⟨by omega, ?_⟩, by omega⟩
      rw [hinv, firstA_at hlt, if_neg (by simpa using hq)]
  · skip
    have hkl : k = l.length := by simp [sps_len] at h6; omega
    subst hkl
    rw [List.drop_length] at hinv
    refine AWP.exit ?_
    refine AWP.seq ?_
    refine AWP.region ?_
    refine AOps.call (o_assign _ rfl rfl) ?_
    refine AOps.nil ?_
    refine AWP.ret ?_
    refine postQ.ret1 Tryz.results133 rfl ?_
    first
    | (rw [hinv, firstA_at hlt, if_pos hq]; rfl)
    | (rw [hinv]; rfl)
theorem firstA_any {α : Type} (q : α → Bool) : ∀ (l : List α) (i : Int), 0 ≤ i → decide (0 ≤ firstA q l i) = l.any q := by
  intro l
  induction l with
  | nil => intro i _; simp [firstA]
  | cons a l ih =>
    intro i hi
    rw [List.any_cons]
    by_cases h : q a = true
    · have e : firstA q (a :: l) i = i := by simp only [firstA]; rw [if_pos h]
      rw [e, h, decide_eq_true hi]; rfl
    · have e : firstA q (a :: l) i = firstA q l (i + 1) := by simp only [firstA]; rw [if_neg h]
      rw [e, ih (i + 1) (by omega), show q a = false by simpa using h]; rfl
set_option maxRecDepth 20000 in
theorem ContainsSp_s (p : Plw) (w : List Sp) (b : List Int) (l : List Sp) (hl : l.length ≤ 1000000) : FSpec Tryz.prog 119 [.sl (sps l), .clo 120 [.rd (eBc p w b)]] (B (l.any (fun t : Sp => decide (t.meet (ldB p w b)).Ne))) (none) := by
  refine FSpec.of_body Tryz.func119 rfl (leB rfl) fun w0 M0 => ?_
  refine AWP.seq ?_
  refine AWP.region ?_
  refine AOps.call (o_assign _ rfl rfl) ?_
  refine AOps.nil ?_
  refine AWP.seq ?_
  refine AWP.region ?_
  refine AOps.call (o_move _ rfl rfl) ?_
  refine AOps.call (o_move _ rfl rfl) ?_
  refine AOps.call (o_call (IndexSp_s p w b l hl) Tryz.call133 rfl rfl) ?_
  refine AOps.call (o_bin _ _ rfl rfl (fun _ => rfl) rfl) ?_
  refine AOps.call (o_assign _ rfl rfl) ?_
  refine AOps.nil ?_
  refine AWP.ret ?_
  refine postQ.ret1 Tryz.results119 rfl ?_
  rw [← firstA_any _ l 0 (Int.le_refl 0)]
  rfl
theorem keepL_eq {p : Plw} {w : List Sp} {b : List Int} (hb : b ≠ []) (N : Nat) : keepL (p.pb w) N b = (opn (p.pb w) (N - b.length) (pl (p.pb w) b)).any fun t => decide (t.meet (ldB p w b)).Ne := by
  unfold keepL lasts ldB
  rw [if_neg hb]
  rfl
theorem pl_ok {p : Plw} (hp : OkP p) {w : List Sp} {b : List Int} (hb : b ≠ []) (hN : b.length ≤ p.log.length) (hr : Rt (p.pb w) b) : PlOk p (p.log.length - b.length) (pl (p.pb w) b) := by
  have h0 := List.length_pos_iff.2 hb
  have h1 := flt_nonneg b; have h2 := hp.faults
  have h3 : flt b ≤ p.faults := hr.2.2.2
  refine ⟨?_, ?_, ?_, ?_⟩
  · show ((b.length : Int) - 1) = _; omega
  · show 0 ≤ ((b.length : Int) - 1); omega
  · show 0 ≤ p.faults - flt b; omega
  · show p.faults - flt b ≤ 32; omega
set_option maxRecDepth 20000 in
theorem lasts_c (p : Plw) (w : List Sp) (hp : OkP p) (hw : okW p w = true) (s bk br bo : Nat) (b : List Int) (hb : b ≠ []) (hN : b.length ≤ p.log.length) (hr : Rt (p.pb w) b) : FSpecJ Tryz.prog (JM p w s bk br bo) 118 [.agg (eBc p w b), .rd [.sc (opV bk br bo)]] (fun r J' => r = B (keepL (p.pb w) p.log.length b) ∧ J' = JM p w s bk br bo) := by
  refine FSpecJ.of_body Tryz.func118 rfl (leB rfl) fun F0 w0 M0 => ?_
  have hln := opn_len (fun i s => hp.allow_ne i s) (fun i s => allow_InB hp w i s) (p.log.length - b.length) (pl (p.pb w) b)
  refine AWPJ.seq ?_
  refine AWPJ.lift (fun u N => ?_)
  refine AWP.region ?_
  refine AOps.call (o_box _ rfl rfl rfl) ?_
  refine AOps.call (o_assign _ rfl rfl) ?_
  refine AOps.nil ?_
  refine AWPJ.seq ?_
  refine AWPJ.region ?_
  refine AOpsJ.call (fun u N => o_loadRd _ rfl Tryz.sizeOf156 Tryz.isAgg156 rfl rfl rfl) ?_
  refine AOpsJ.call (fun u N => o_fieldRef _ rfl fa112_0 rfl rfl) ?_
  refine AOpsJ.call (fun u N => o_loadRef _ rfl rfl Tryz.sizeOf110 Tryz.isAgg110 rfl rfl rfl) ?_
  refine AOpsJ.op (o_callVJ (f := 116) (caps := capV bk br bo) (cl := [.agg (eL (pl (p.pb w) b))]) _ rfl (open_s p w hp hw s bk br bo (p.log.length - b.length) _ (pl_ok hp hb hN hr)) Tryz.call116 rfl (.inl rfl) rfl) ?_
  rintro _ _ ⟨_, ⟨rfl, rfl⟩, rfl⟩
  refine AOpsJ.weak (Weak.toJ (Weak.frzv (id := (2, 0)) (t := 2) rfl rfl rfl)) ?_
  refine AOpsJ.call (fun u N => o_makeClo rfl rfl) ?_
  refine AOpsJ.call (fun u N => o_call (ContainsSp_s p w b (opn (p.pb w) (p.log.length - b.length) (pl (p.pb w) b)) (by omega)) Tryz.call119 rfl rfl) ?_
  refine AOpsJ.call (fun u N => o_assign _ rfl rfl) ?_
  refine AOpsJ.nil ?_
  refine AWPJ.ret ?_
  try dsimp only [seqQJ, blockQJ, roundQJ]
  try rw [show Nat.beq 0 0 = true from rfl, cond_true]
  refine postQJ.ret1 Tryz.results118 rfl rfl ?_
  exact ⟨by rw [keepL_eq hb]; rfl, rfl⟩
def laV (bo : Nat) : Value := .func (.func 118) #[] #[adr bo]
theorem lasts_s (p : Plw) (w : List Sp) (hp : OkP p) (hw : okW p w = true) (s bk br bo : Nat) (b : List Int) (hb : b ≠ []) (hN : b.length ≤ p.log.length) (hr : Rt (p.pb w) b) : FSpecJ Tryz.prog (JM p w s bk br bo) 118 ([.agg (eBc p w b)] ++ [adr bo].map .sc) (fun r J' => r = B (keepL (p.pb w) p.log.length b) ∧ J' = JM p w s bk br bo) :=
  FSpecJ.know (lasts_c p w hp hw s bk br bo b hb hN hr) rfl fun T F w' M hJ i x y v hx hy hv => by
    rcases i with _ | _ | i
    · simp at hx hy; subst hx; subst hy; exact hv
    · simp at hx hy; subst hx; subst hy; rw [hv.exact _ rfl]; exact Jm_fact (show (_, _) ∈ fcM p w s bk br bo by simp [fcM, adr]) hJ
    · simp at hy
theorem lasting_made (p : Plw) (w : List Sp) (s : Nat) {σ : AS} (hk : σ.va (3, 0) = some [.sc (.map (some s))]) (hr : σ.va (1, 0) = some (eR p w)) (ho : σ.va (4, 0) = some [.clo 116 [.ref (3, 0) 0, .ref (1, 0) 0, .ref (4, 0) 0]]) (ht : nf (σ.tm 2) = some (.clo 118 [.ref (4, 0) 0])) :
    ∀ F0 w0 M0 a w', RelJ F0 (Jm keyP (fun _ => True) (valP p w) s []) w0 M0 σ a w' → ∃ i : Nat × Nat × Nat, RelJ F0 (JM p w s i.1 i.2.1 i.2.2) w0 M0 (AS.mk' σ.n [(2, .sc (laV i.2.2))] [] [] []) a w' := by
  intro F0 w0 M0 a w' ⟨x, T, F, hx⟩
  obtain ⟨bk, k1, k2, k3, k4, k5⟩ := hx.rel.var hk
  obtain ⟨br, r1, r2, r3, r4, r5⟩ := hx.rel.var hr
  obtain ⟨bo, o1, o2, o3, o4, o5⟩ := hx.rel.var ho
  obtain ⟨g1, g2, g3, ⟨es, clock, g4, g5⟩, g6⟩ := hx.sec
  have hfree : ∀ {id cs b}, σ.va id = some cs → x.V id = some b → ¬ F b := fun h1 h2 hF => hx.free _ hF (.inl ⟨_, _, h1, h2⟩)
  have hv : a.tmps.getD 2 undef = laV bo := by
    have h := hx.rel.tm 2
    rw [nf_eq ht] at h
    exact h.clo_ref1 o1
  obtain ⟨vo, q1, q2, q3⟩ := o5 0 _ rfl
  have hvo : vo = opV bk br bo := q3.clo_ref3 k1 r1 o1
  refine ⟨(bk, br, bo), RelX.settle hx [bk, br, bo] ?_ (T' := T) [(2, .sc (laV bo))] ?_ (fun b hb => .inl hb) JM_ok ?_ trivial⟩
  · intro b hb
    simp only [List.mem_cons, List.not_mem_nil, or_false] at hb
    rcases hb with rfl | rfl | rfl
    · exact ⟨k2, k4, k3, hfree hk k1⟩
    · exact ⟨r2, r4, r3, hfree hr r1⟩
    · exact ⟨o2, o4, o3, hfree ho o1⟩
  · intro q hq
    simp only [List.mem_singleton] at hq
    subst hq
    refine ⟨rfl, ?_⟩
    show VR _ _ _ _ (.sc (laV bo)) (a.tmps.getD 2 undef)
    rw [hv]; exact .sc _
  · intro M' hM1 hM2 himm
    have hnT : ∀ b, b = bk ∨ b = br ∨ b = bo → ¬ T b := fun b hb hT => by
      have hs : b = s := (g1 b).1 hT
      subst hs
      rcases hb with rfl | rfl | rfl
      · exact hfree hk k1 g2
      · exact hfree hr r1 g2
      · exact hfree ho o1 g2
    have hMn : ∀ b, b = bk ∨ b = br ∨ b = bo → M' b = none := fun b hb => (hM2 b (by simpa using hb)).2 (hnT b hb)
    have hin : ∀ b off u, Imm w' x.M b off u → Imm w' (inF (fun b => F b ∨ (b < w'.heap.size ∧ M' b ≠ some 0) ∨ b ∈ [bk, br, bo]) M') b off u := fun b off u hi => by
      have h2 := himm b off u hi
      have hlt : b < w'.heap.size := by
        rcases Nat.lt_or_ge b w'.heap.size with h' | h'
        · exact h'
        · have := hi.1; simp [World.cell?, Array.getElem?_eq_none h'] at this
      exact inF_imm.2 ⟨.inr (.inl ⟨hlt, fun e => absurd (h2.2.2 0 e) (by omega)⟩), h2⟩
    have hs : s ∉ [bk, br, bo] := fun hm => by
      simp only [List.mem_cons, List.not_mem_nil, or_false] at hm
      rcases hm with rfl | rfl | rfl
      · exact hfree hk k1 g2
      · exact hfree hr r1 g2
      · exact hfree ho o1 g2
    refine ⟨g1, .inl g2, by rw [hM1 s hs]; exact g3, ⟨es, clock, g4, fun e he => ?_⟩, fun f hf => ?_⟩
    · obtain ⟨k, z1, z2, z3⟩ := g5 e he
      exact ⟨k, z1, z2, (inF_open z3).monoI rfl hin⟩
    · simp only [fcM, List.mem_cons, List.not_mem_nil, or_false] at hf
      rcases hf with rfl | rfl | rfl
      · exact rd_of k5 rfl (.inr (.inr (by simp))) (hMn _ (.inl rfl)) hin
      · exact rd_of r5 rfl (.inr (.inr (by simp))) (hMn _ (.inr (.inl rfl))) hin
      · have hco : Cells w' x.M x.V x.G bo 0 [.sc (opV bk br bo)] := fun j c hj => by
          rcases j with _ | j
          · simp at hj; subst hj; exact ⟨vo, q1, q2, by rw [hvo]; exact .sc _⟩
          · simp at hj
        exact rd_of hco rfl (.inr (.inr (by simp))) (hMn _ (.inr (.inr rfl))) hin
theorem mapNew {p : Plw} {w : List Sp} {T F : Nat → Prop} {w1 : World} {M : Nat → Option Nat} (h : J0 T F w1 M) (hlt : ∀ b, F b → b < w1.heap.size) : Jm keyP (fun _ => True) (valP p w) w1.heap.size [] (fun b => T b ∨ b = w1.heap.size) (fun b => F b ∨ b = w1.heap.size) (w1.alloc (.map #[] 0)) (upd M w1.heap.size (some 0)) :=
  ⟨fun b => ⟨fun hb => hb.resolve_left (h.1 b), .inr⟩, .inr rfl, upd_same _ _ _, ⟨#[], 0, heap_new _ _, fun e he => by simp at he⟩, fun f hf => by simp at hf⟩
set_option maxRecDepth 20000 in
theorem lasting_s (p : Plw) (w : List Sp) : FSpecJ Tryz.prog (J0) 91 [.agg (eR p w)] (fun r J' => ∃ s bk br bo, r = .sc (laV bo) ∧ J' = JM p w s bk br bo) := by
  refine FSpecJ.of_body Tryz.func91 rfl (leB rfl) fun F0 w0 M0 => ?_
  refine AWPJ.seq ?_
  refine AWPJ.lift (fun u N => ?_)
  refine AWP.region ?_
  refine AOps.call (o_box _ rfl rfl rfl) ?_
  refine AOps.call (o_assign _ rfl rfl) ?_
  refine AOps.nil ?_
  refine AWPJ.seq ?_
  refine AWPJ.region ?_
  refine AOpsJ.op (o_makeMapJ (J' := fun s => Jm keyP (fun _ => True) (valP p w) s []) rfl (fun _ => Jm_ok) (fun T F w1 M h hlt => mapNew h hlt) rfl) ?_
  rintro _ _ ⟨_, ⟨s, rfl, rfl⟩, rfl⟩
  refine AOpsJ.call (fun u N => o_alloc ze155 rfl rfl) ?_
  refine AOpsJ.cons (fun u N => o_store _ _ rfl rfl Tryz.sizeOf155 rfl rfl rfl rfl rfl) ?_
  refine AOpsJ.nil ?_
  refine AWPJ.seq ?_
  refine AWPJ.lift (fun u N => ?_)
  refine AWP.region ?_
  refine AOps.call (o_alloc ze156 rfl rfl) ?_
  refine AOps.nil ?_
  refine AWPJ.seq ?_
  refine AWPJ.lift (fun u N => ?_)
  refine AWP.region ?_
  refine AOps.call (o_makeClo rfl rfl) ?_
  refine AOps.cons (o_store _ _ rfl rfl Tryz.sizeOf156 rfl rfl rfl rfl rfl) ?_
  refine AOps.nil ?_
  refine AWPJ.seq ?_
  refine AWPJ.lift (fun u N => ?_)
  refine AWP.region ?_
  refine AOps.call (o_makeClo rfl rfl) ?_
  refine AOps.call (o_assign _ rfl rfl) ?_
  refine AOps.nil ?_
  refine AWPJ.someW (lasting_made p w s rfl rfl rfl rfl) (fun i => ?_)
  refine AWPJ.ret ?_
  try dsimp only [seqQJ, blockQJ, roundQJ]
  try rw [show Nat.beq 0 0 = true from rfl, cond_true]
  refine postQJ.ret1 Tryz.results91 rfl rfl ?_
  exact ⟨s, i.1, i.2.1, i.2.2, rfl, rfl⟩
end Go.Proofs.YtelenedgaoglaaaGreatDoor
set_option linter.unusedSimpArgs false
set_option linter.unusedVariables false
namespace Go.Proofs.YtelenedgaoglaaaGreatDoor
open Go.Ab
open Go.Pil Go.RowKit
theorem fol_len {β : Type} {nx : β → List β} {keep : β → Bool} {cap : Nat} : ∀ (d : Nat) (acc : List β) (b : β), acc.length ≤ cap → (fol nx keep cap d acc b).length ≤ cap + 1 := by
  intro d
  induction d with
  | zero => intro acc b h; show (acc ++ [b]).length ≤ _; simp; omega
  | succ d ih =>
    intro acc b h
    show ((nx b).foldl _ acc).length ≤ _
    have : ∀ (l : List β) (acc : List β), acc.length ≤ cap + 1 → (l.foldl (fun acc c => if acc.length ≤ cap ∧ keep c = true then fol nx keep cap d acc c else acc) acc).length ≤ cap + 1 := by
      intro l
      induction l with
      | nil => intro acc h; exact h
      | cons c l ihl =>
        intro acc h
        rw [List.foldl_cons]
        refine ihl _ ?_
        split
        · rename_i hc; exact ih _ _ hc.1
        · exact h
    exact this _ _ (by omega)
theorem postQJ.end0 {P : Program} {R : AV → Sec → Prop} {J : Sec} {σ : AS} {fn : Func} (hf : fn.results = #[]) (hR : R (.tup []) J) : postQJ P fn R .normal J σ := ⟨[], .tup [], by rw [hf]; exact trivial, rfl, hR⟩
def Jfc (fc : List (AV × Value)) : Sec := fun T F w M => (∀ b, ¬ T b) ∧ ∀ q ∈ fc, VR w (inF F M) noV noG q.1 q.2
theorem Jfc_ok {fc : List (AV × Value)} : SecOk (Jfc fc) where
  stab := fun ⟨h1, h2⟩ h => ⟨h1, fun q hq => inF_stab h (h2 q hq)⟩
  sub := fun h b hb => absurd hb (h.1 b)
  hid := fun h b hb => absurd hb (h.1 b)
abbrev stC (l : List Int) : AV := .sl (ints l)
structure Fv where
  r : Nat
  a : Nat
  l : Nat
  f : Nat
def Fv.foV (v : Fv) : Value := .func (.func 92) #[] #[adr v.r, adr v.a, adr v.l, adr v.f]
def Fv.cap (v : Fv) : List Value := [adr v.r, adr v.a, adr v.l, adr v.f]
def Fv.fc (v : Fv) (p : Plw) (w : List Sp) (bo : Nat) : List (AV × Value) := [(.rd (eR p w), adr v.r), (.rd [.sc (laV bo)], adr v.l), (.rd [.sc v.foV], adr v.f)]
abbrev JFo (p : Plw) (w : List Sp) (s bk br bo : Nat) (v : Fv) (a : Option Addr) (cap : Nat) (acc : List (List Int)) : Sec :=
  ((Jvar v.a (.slice a acc.length cap)).sep (Jrow 25 1 (.slice a acc.length cap) acc.length (acc.map stC))).sep ((JM p w s bk br bo).sep (Jfc (v.fc p w bo)))
theorem JFo_ok {p w s bk br bo v a cap acc} : SecOk (JFo p w s bk br bo v a cap acc) := Sec.sep_ok (Sec.sep_ok Jvar_ok Jrow_ok) (Sec.sep_ok JM_ok Jfc_ok)
theorem JFo_fact {p w s bk br bo v a cap acc} {y : AV} {u : Value} (hm : (y, u) ∈ v.fc p w bo) {T F w' M} (h : JFo p w s bk br bo v a cap acc T F w' M) : VR w' M noV noG y u := by
  obtain ⟨_, _, h1⟩ := Sec.sep_r h
  obtain ⟨_, _, h2⟩ := Sec.sep_r h1
  exact inF_open (h2.2 _ hm)
theorem nx_len (p : Plw) (w) (l) : (nx (p.pb w) l).length ≤ 3 := by
  rw [← accB_all]; exact Nat.le_trans (accB_len ..) (next_len _ _)
theorem rem_child {q : Pb} {n : Nat} {b c : List Int} (h : Rem q n b) (hc : c ∈ nx q b) : Rem q (n + 1) c := ((rem_nx q h).1 hc).1
theorem rem_ld {p : Plw} {w} {n : Nat} {b : List Int} (h : Rem (p.pb w) n b) : b ≠ [] → (Fp p w b (b.length - 1)).Ne := fun hb => by
  have := h.1
  have h2 := List.length_pos_iff.2 hb
  exact h.2.2 _ (by omega)
theorem foR_app {p w s bk br bo v} {a1 : Addr} {cap1 : Nat} {acc : List (List Int)} {b : List Int} : ((Jvar v.a (.slice (some a1) (acc.length + [[stC b]].length) cap1)).sep (Jrow 25 1 (.slice (some a1) (acc.length + [[stC b]].length) cap1) (acc.length + [[stC b]].length) (acc.map stC ++ [[stC b]].flatten))).sep ((JM p w s bk br bo).sep (Jfc (v.fc p w bo))) = JFo p w s bk br bo v (some a1) cap1 (acc ++ [b]) := by
  unfold JFo
  rw [List.length_append, List.map_append]
  rfl
set_option maxRecDepth 20000 in
theorem follow_l (p : Plw) (w : List Sp) (hp : OkP p) (hw : okW p w = true) (s bk br bo : Nat) (v : Fv) (b : List Int) (hb : b.length = p.log.length) (acc : List (List Int)) (a : Option Addr) (cap : Nat) (hac : acc.length ≤ 64) : FSpecJ Tryz.prog (JFo p w s bk br bo v a cap acc) 92 [.agg (eBc p w b), .rd (eR p w), .sc (adr v.a), .rd [.sc (laV bo)], .rd [.sc v.foV]] (fun r J' => r = .tup [] ∧ ∃ a' cap', J' = JFo p w s bk br bo v a' cap' (fol (nx (p.pb w)) (keepL (p.pb w) p.log.length) 64 0 acc b)) := by
  refine FSpecJ.of_body Tryz.func92 rfl (leB rfl) fun F0 w0 M0 => ?_
  have h32 := hp.len
  refine AWPJ.seq ?_
  refine AWPJ.lift (fun u N => ?_)
  refine AWP.region ?_
  refine AOps.call (o_box _ rfl rfl rfl) ?_
  refine AOps.nil ?_
  refine AWPJ.seq ?_
  refine AWPJ.seq ?_
  refine AWPJ.lift (fun u N => ?_)
  refine AWP.region ?_
  refine AOps.call (o_fieldRd _ rfl fa91_0 rfl) ?_
  refine AOps.call (o_loadRd _ rfl Tryz.sizeOf83 Tryz.isAgg83 rfl rfl rfl) ?_
  refine AOps.call (o_fieldRef _ rfl fa112_0 rfl rfl) ?_
  refine AOps.call (o_fieldRef _ rfl fa110_0 rfl rfl) ?_
  refine AOps.call (o_loadRef _ rfl rfl Tryz.sizeOf3 Tryz.isAgg3 rfl rfl rfl) ?_
  refine AOps.call (o_call (isLast_s p ((b.length : Int) - 1) h32) Tryz.call57 rfl rfl) ?_
  refine AOps.nil ?_
  refine AWPJ.cond _ rfl (fun h8 => ?_) (fun h8 => ?_)
  · skip
    skip
    refine AWPJ.seq ?_
    refine AWPJ.region ?_
    refine AOpsJ.op (OpAnyJ.op (o_look (cs := [.sc (.slice a acc.length cap)]) (r := .sc (.slice a acc.length cap)) _ rfl Tryz.sizeOf40 Tryz.isAgg40 (fun T F w M h => by obtain ⟨_, _, h1⟩ := Sec.sep_l h; obtain ⟨_, _, h2⟩ := Sec.sep_l h1; exact Jvar_cells h2 rfl) rfl rfl)) ?_
    rintro _ _ ⟨rfl, rfl⟩
    refine AOpsJ.call (fun u N => o_fieldRef _ rfl fa112_1 rfl rfl) ?_
    refine AOpsJ.call (fun u N => o_loadRef _ rfl rfl Tryz.sizeOf25 Tryz.isAgg25 rfl rfl rfl) ?_
    refine AOpsJ.call (fun u N => o_lit Tryz.underlying40 Tryz.sizeOf25 Tryz.zeroValue25 rfl rfl rfl rfl rfl rfl rfl) ?_
    refine AOpsJ.weak (Weak.toJ (Weak.mk' (n := 39) (tm := [(2, .sc (adr v.a)), (14, .sc (.slice a acc.length cap)), (17, .sl [[stC b]])]) (va := []) (gr := []) (gen := []) rfl ⟨⟨.refl rfl, rfl⟩, ⟨⟨.refl rfl, rfl⟩, ⟨⟨.sl rfl, rfl⟩, trivial⟩⟩⟩ trivial trivial)) ?_
    refine AOpsJ.op (OpJ.frame (Sec.sep_ok Jvar_ok Jrow_ok) (Sec.sep_ok JM_ok Jfc_ok) (fun E u N => OpJ.frameR Jvar_ok Jrow_ok (fun E u N => o_appendRow (n := acc.length) (cs := acc.map stC) (ns := [[stC b]]) _ _ Tryz.underlying40 info25 rfl rfl rfl rfl rfl rfl rfl (fun c hc => by simp at hc; subst hc; rfl) (by unfold Tryz.t25; simp only [List.length_cons, List.length_nil]; omega) rfl (by simp) (.inr fun _ => rfl) rfl))) ?_
    rintro _ _ ⟨_, ⟨_, ⟨_, ⟨a2, cap2, rfl, rfl⟩, rfl⟩, _, rfl⟩, rfl⟩
    refine AOpsJ.op (OpJ.frame (Sec.sep_ok Jvar_ok Jrow_ok) (Sec.sep_ok JM_ok Jfc_ok) (fun E u N => OpJ.frame Jvar_ok Jrow_ok (fun E u N => o_storeVar _ _ rfl rfl Tryz.sizeOf40 rfl rfl))) ?_
    rintro _ _ ⟨_, ⟨_, ⟨rfl, rfl⟩, rfl⟩, rfl⟩
    refine AOpsJ.nil ?_
    refine AWPJ.ret ?_
    try dsimp only [seqQJ, blockQJ, roundQJ]
    try rw [show Nat.beq 0 0 = true from rfl, cond_true]
    refine postQJ.ret0 Tryz.results92  ?_
    exact ⟨rfl, _, _, foR_app⟩
  · skip
    exfalso
    have h1 := of_decide_eq_false h8
    omega
set_option maxRecDepth 20000 in
theorem follow_c (p : Plw) (w : List Sp) (hp : OkP p) (hw : okW p w = true) (s bk br bo : Nat) (v : Fv) (d : Nat) (b : List Int) (hd : d + 1 ≤ p.log.length) (hrem : Rem (p.pb w) (p.log.length - (d + 1)) b) (hb : b ≠ []) (acc : List (List Int)) (a : Option Addr) (cap : Nat) (hac0 : acc.length ≤ 64) (ih : ∀ c ∈ (nx (p.pb w) b), ∀ acc a cap, acc.length ≤ 64 → FSpecJ Tryz.prog (JFo p w s bk br bo v a cap acc) 92 ([.agg (eBc p w c)] ++ v.cap.map .sc) (fun r J' => r = .tup [] ∧ ∃ a' cap', J' = JFo p w s bk br bo v a' cap' (fol (nx (p.pb w)) (keepL (p.pb w) p.log.length) 64 d acc c))) : FSpecJ Tryz.prog (JFo p w s bk br bo v a cap acc) 92 [.agg (eBc p w b), .rd (eR p w), .sc (adr v.a), .rd [.sc (laV bo)], .rd [.sc v.foV]] (fun r J' => r = .tup [] ∧ ∃ a' cap', J' = JFo p w s bk br bo v a' cap' (fol (nx (p.pb w)) (keepL (p.pb w) p.log.length) 64 (d + 1) acc b)) := by
  refine FSpecJ.of_body Tryz.func92 rfl (leB rfl) fun F0 w0 M0 => ?_
  have h32 := hp.len
  have hnl := nx_len p w b
  have hbl := hrem.1
  have hgl := bgs_len p w (nx (p.pb w) b)
  refine AWPJ.seq ?_
  refine AWPJ.lift (fun u N => ?_)
  refine AWP.region ?_
  refine AOps.call (o_box _ rfl rfl rfl) ?_
  refine AOps.nil ?_
  refine AWPJ.seq ?_
  refine AWPJ.seq ?_
  refine AWPJ.lift (fun u N => ?_)
  refine AWP.region ?_
  refine AOps.call (o_fieldRd _ rfl fa91_0 rfl) ?_
  refine AOps.call (o_loadRd _ rfl Tryz.sizeOf83 Tryz.isAgg83 rfl rfl rfl) ?_
  refine AOps.call (o_fieldRef _ rfl fa112_0 rfl rfl) ?_
  refine AOps.call (o_fieldRef _ rfl fa110_0 rfl rfl) ?_
  refine AOps.call (o_loadRef _ rfl rfl Tryz.sizeOf3 Tryz.isAgg3 rfl rfl rfl) ?_
  refine AOps.call (o_call (isLast_s p ((b.length : Int) - 1) h32) Tryz.call57 rfl rfl) ?_
  refine AOps.nil ?_
  refine AWPJ.cond _ rfl (fun h8 => ?_) (fun h8 => ?_)
  · skip
    exfalso
    have h1 := of_decide_eq_true h8
    omega
  · skip
    skip
    refine AWPJ.skip ?_
    refine AWPJ.seq ?_
    refine AWPJ.lift (fun u N => ?_)
    refine AWP.region ?_
    refine AOps.call (o_loadRd _ rfl Tryz.sizeOf91 Tryz.isAgg91 rfl rfl rfl) ?_
    refine AOps.call (o_loadRef _ rfl rfl Tryz.sizeOf112 Tryz.isAgg112 rfl rfl rfl) ?_
    refine AOps.call (o_call (further_c p w b hp hw (by omega) hrem.2.1 (rem_ld hrem) hb) Tryz.call80 rfl rfl) ?_
    refine AOps.call (o_len _ Tryz.underlying114 rfl rfl) ?_
    refine AOps.call (o_move _ rfl rfl) ?_
    refine AOps.nil ?_
    refine AWPJ.block ?_
    refine AWPJ.loop (ι := Nat × List (List Int) × Option Addr × Nat) (fun i => JFo p w s bk br bo v i.2.2.1 i.2.2.2 i.2.1) (fun i => AS.mk' 39 [(1, .rd (eR p w)), (2, .sc (adr v.a)), (3, .rd [.sc (laV bo)]), (4, .rd [.sc v.foV]), (21, .sl (bgs p w (nx (p.pb w) b))), (22, I (bgs p w (nx (p.pb w) b)).length), (23, I i.1)] [] [] []) (fun i => i.1 ≤ (nx (p.pb w) b).length ∧ i.2.1 = ((nx (p.pb w) b).take i.1).foldl (fun acc c => if acc.length ≤ 64 ∧ (keepL (p.pb w) p.log.length) c = true then fol (nx (p.pb w)) (keepL (p.pb w) p.log.length) 64 d acc c else acc) acc ∧ i.2.1.length ≤ 65) (fun i => (nx (p.pb w) b).length - i.1) (0, acc, a, cap) (Weak.toJ (Weak.mk' rfl ⟨⟨.refl rfl, rfl⟩, ⟨⟨.refl rfl, rfl⟩, ⟨⟨.refl rfl, rfl⟩, ⟨⟨.refl rfl, rfl⟩, ⟨⟨.refl rfl, rfl⟩, ⟨⟨.refl rfl, rfl⟩, ⟨⟨.refl rfl, rfl⟩, trivial⟩⟩⟩⟩⟩⟩⟩ trivial trivial)) (⟨Nat.zero_le _, rfl, by dsimp only; omega⟩) ?_
    rintro ⟨k, ac, a1, cap1⟩ ⟨hk, hac, hle⟩
    try dsimp only at *
    refine AWPJ.seq ?_
    refine AWPJ.lift (fun u N => ?_)
    refine AWP.region ?_
    refine AOps.call (o_bin _ _ rfl rfl (fun _ => rfl) rfl) ?_
    refine AOps.nil ?_
    refine AWPJ.seq ?_
    refine AWPJ.cond _ rfl (fun h15 => ?_) (fun h15 => ?_)
    · skip
      have hlt : k < (nx (p.pb w) b).length := by have := of_decide_eq_true h15; omega
      have hch : Rem (p.pb w) (p.log.length - (d + 1) + 1) (nx (p.pb w) b)[k] := rem_child hrem (List.getElem_mem hlt)
      have hcl := hch.1
      have hcn : (nx (p.pb w) b)[k] ≠ [] := fun e => by rw [e] at hcl; simp at hcl
      have hel := bgs_at (p := p) (w := w) hlt
      rw [eB_c hcn] at hel
      refine AWPJ.skip ?_
      refine AWPJ.seq ?_
      refine AWPJ.block ?_
      refine AWPJ.seq ?_
      refine AWPJ.lift (fun u N => ?_)
      refine AWP.region ?_
      refine AOps.call (o_index _ _ Tryz.underlying114 Tryz.sizeOf112 rfl rfl (by omega) (by assumption) rfl rfl) ?_
      refine AOps.call (o_loadRd _ rfl Tryz.sizeOf112 Tryz.isAgg112 rfl rfl rfl) ?_
      refine AOps.call (o_alloc ze112 rfl rfl) ?_
      refine AOps.cons (o_store _ _ rfl rfl Tryz.sizeOf112 rfl rfl rfl rfl rfl) ?_
      refine AOps.nil ?_
      refine AWPJ.seq ?_
      refine AWPJ.region ?_
      refine AOpsJ.op (OpAnyJ.op (o_look (cs := [.sc (.slice a1 ac.length cap1)]) (r := .sc (.slice a1 ac.length cap1)) _ rfl Tryz.sizeOf40 Tryz.isAgg40 (fun T F w M h => by obtain ⟨_, _, h1⟩ := Sec.sep_l h; obtain ⟨_, _, h2⟩ := Sec.sep_l h1; exact Jvar_cells h2 rfl) rfl rfl)) ?_
      rintro _ _ ⟨rfl, rfl⟩
      refine AOpsJ.call (fun u N => o_lenX _ Tryz.underlying40 rfl rfl) ?_
      refine AOpsJ.call (fun u N => o_bin _ _ rfl rfl (fun _ => rfl) rfl) ?_
      refine AOpsJ.call (fun u N => o_move _ rfl rfl) ?_
      refine AOpsJ.split rfl rfl rfl (fun h22 => ?_) (fun h22 => ?_)
      · skip
        have hq64 : ac.length ≤ 64 := by have := of_decide_eq_true h22; omega
        refine AOpsJ.go rfl rfl rfl h22 (fun u N => OpAny.seq (o_loadRd _ rfl Tryz.sizeOf129 Tryz.isAgg129 rfl rfl rfl)) ?_
        refine AOpsJ.go rfl rfl rfl h22 (fun u N => OpAny.seq (o_loadRef _ rfl rfl Tryz.sizeOf112 Tryz.isAgg112 rfl rfl rfl)) ?_
        refine AOpsJ.goOp rfl rfl rfl h22 (OpJ.frameR (Sec.sep_ok Jvar_ok Jrow_ok) (Sec.sep_ok JM_ok Jfc_ok) (fun E u N => OpJ.frame JM_ok Jfc_ok (fun E u N => o_callVJ (f := 118) (caps := [adr bo]) (cl := [.agg (eBc p w (nx (p.pb w) b)[k])]) _ rfl (lasts_s p w hp hw s bk br bo (nx (p.pb w) b)[k] hcn (by omega) hch.2.1) Tryz.call118 rfl (.inr fun _ => rfl) rfl))) ?_
        rintro _ _ ⟨_, ⟨_, ⟨_, ⟨rfl, rfl⟩, rfl⟩, rfl⟩, _, rfl⟩
        refine AOpsJ.call (fun u N => o_pickT _ _ _ rfl h22 rfl rfl) ?_
        refine AOpsJ.nil ?_
        refine AWPJ.cond _ rfl (fun h26 => ?_) (fun h26 => ?_)
        · skip
          have hkeep : (keepL (p.pb w) p.log.length) (nx (p.pb w) b)[k] = true := h26
          refine AWPJ.region ?_
          refine AOpsJ.call (fun u N => o_loadRd _ rfl Tryz.sizeOf131 Tryz.isAgg131 rfl rfl rfl) ?_
          refine AOpsJ.call (fun u N => o_loadRef _ rfl rfl Tryz.sizeOf112 Tryz.isAgg112 rfl rfl rfl) ?_
          refine AOpsJ.op (o_callVJ (f := 92) (caps := v.cap) (cl := [.agg (eBc p w (nx (p.pb w) b)[k])]) _ rfl (ih _ (List.getElem_mem hlt) ac a1 cap1 hq64) Tryz.call92 rfl (.inr fun _ => rfl) rfl) ?_
          rintro _ _ ⟨_, ⟨rfl, a2, cap2, rfl⟩, rfl⟩
          refine AOpsJ.nil ?_
          refine AWPJ.lift (fun u N => ?_)
          refine AWP.region ?_
          refine AOps.call (o_add _ _ rfl rfl ⟨by (try dsimp only); omega, by (try dsimp only); omega⟩ rfl) ?_
          refine AOps.call (o_move _ rfl rfl) ?_
          refine AOps.nil ?_
          first
          | refine ⟨(k + 1, fol (nx (p.pb w)) (keepL (p.pb w) p.log.length) 64 d ac (nx (p.pb w) b)[k], a2, cap2), ⟨⟨by (try dsimp only); omega, ?_, fol_len d ac _ hq64⟩, by (try dsimp only); omega⟩, Weak.toJ (Weak.mk' rfl ⟨⟨.refl rfl, rfl⟩, ⟨⟨.refl rfl, rfl⟩, ⟨⟨.refl rfl, rfl⟩, ⟨⟨.refl rfl, rfl⟩, ⟨⟨.refl rfl, rfl⟩, ⟨⟨.refl rfl, rfl⟩, ⟨⟨.refl rfl, rfl⟩, trivial⟩⟩⟩⟩⟩⟩⟩ trivial trivial)⟩
          | refine ⟨(k + 1, ac, a1, cap1), ⟨⟨by (try dsimp only); omega, ?_, hle⟩, by (try dsimp only); omega⟩, Weak.toJ (Weak.mk' rfl ⟨⟨.refl rfl, rfl⟩, ⟨⟨.refl rfl, rfl⟩, ⟨⟨.refl rfl, rfl⟩, ⟨⟨.refl rfl, rfl⟩, ⟨⟨.refl rfl, rfl⟩, ⟨⟨.refl rfl, rfl⟩, ⟨⟨.refl rfl, rfl⟩, trivial⟩⟩⟩⟩⟩⟩⟩ trivial trivial)⟩
          rw [List.take_succ_eq_append_getElem hlt, List.foldl_append, ← hac]
          simp only [List.foldl_cons, List.foldl_nil]
          first
          | (rw [if_pos ⟨hq64, hkeep⟩]; done)
          | (rw [if_neg (fun h => hno h)]; done)
        · skip
          have hno : ¬ (ac.length ≤ 64 ∧ (keepL (p.pb w) p.log.length) (nx (p.pb w) b)[k] = true) := fun h => by have := h26; simp_all
          refine AWPJ.skip ?_
          refine AWPJ.lift (fun u N => ?_)
          refine AWP.region ?_
          refine AOps.call (o_add _ _ rfl rfl ⟨by (try dsimp only); omega, by (try dsimp only); omega⟩ rfl) ?_
          refine AOps.call (o_move _ rfl rfl) ?_
          refine AOps.nil ?_
          first
          | refine ⟨(k + 1, fol (nx (p.pb w)) (keepL (p.pb w) p.log.length) 64 d ac (nx (p.pb w) b)[k], a2, cap2), ⟨⟨by (try dsimp only); omega, ?_, fol_len d ac _ hq64⟩, by (try dsimp only); omega⟩, Weak.toJ (Weak.mk' rfl ⟨⟨.refl rfl, rfl⟩, ⟨⟨.refl rfl, rfl⟩, ⟨⟨.refl rfl, rfl⟩, ⟨⟨.refl rfl, rfl⟩, ⟨⟨.refl rfl, rfl⟩, ⟨⟨.refl rfl, rfl⟩, ⟨⟨.refl rfl, rfl⟩, trivial⟩⟩⟩⟩⟩⟩⟩ trivial trivial)⟩
          | refine ⟨(k + 1, ac, a1, cap1), ⟨⟨by (try dsimp only); omega, ?_, hle⟩, by (try dsimp only); omega⟩, Weak.toJ (Weak.mk' rfl ⟨⟨.refl rfl, rfl⟩, ⟨⟨.refl rfl, rfl⟩, ⟨⟨.refl rfl, rfl⟩, ⟨⟨.refl rfl, rfl⟩, ⟨⟨.refl rfl, rfl⟩, ⟨⟨.refl rfl, rfl⟩, ⟨⟨.refl rfl, rfl⟩, trivial⟩⟩⟩⟩⟩⟩⟩ trivial trivial)⟩
          rw [List.take_succ_eq_append_getElem hlt, List.foldl_append, ← hac]
          simp only [List.foldl_cons, List.foldl_nil]
          first
          | (rw [if_pos ⟨hq64, hkeep⟩]; done)
          | (rw [if_neg (fun h => hno h)]; done)
      · skip
        have hno : ¬ (ac.length ≤ 64 ∧ (keepL (p.pb w) p.log.length) (nx (p.pb w) b)[k] = true) := fun h => by have := of_decide_eq_false h22; omega
        refine AOpsJ.pass rfl rfl rfl h22 rfl ?_
        refine AOpsJ.pass rfl rfl rfl h22 rfl ?_
        refine AOpsJ.pass rfl rfl rfl h22 rfl ?_
        refine AOpsJ.call (fun u N => o_pickF _ _ _ rfl h22 rfl rfl) ?_
        refine AOpsJ.nil ?_
        refine AWPJ.condF rfl ?_
        refine AWPJ.skip ?_
        refine AWPJ.lift (fun u N => ?_)
        refine AWP.region ?_
        refine AOps.call (o_add _ _ rfl rfl ⟨by (try dsimp only); omega, by (try dsimp only); omega⟩ rfl) ?_
        refine AOps.call (o_move _ rfl rfl) ?_
        refine AOps.nil ?_
        first
        | refine ⟨(k + 1, fol (nx (p.pb w)) (keepL (p.pb w) p.log.length) 64 d ac (nx (p.pb w) b)[k], a2, cap2), ⟨⟨by (try dsimp only); omega, ?_, fol_len d ac _ hq64⟩, by (try dsimp only); omega⟩, Weak.toJ (Weak.mk' rfl ⟨⟨.refl rfl, rfl⟩, ⟨⟨.refl rfl, rfl⟩, ⟨⟨.refl rfl, rfl⟩, ⟨⟨.refl rfl, rfl⟩, ⟨⟨.refl rfl, rfl⟩, ⟨⟨.refl rfl, rfl⟩, ⟨⟨.refl rfl, rfl⟩, trivial⟩⟩⟩⟩⟩⟩⟩ trivial trivial)⟩
        | refine ⟨(k + 1, ac, a1, cap1), ⟨⟨by (try dsimp only); omega, ?_, hle⟩, by (try dsimp only); omega⟩, Weak.toJ (Weak.mk' rfl ⟨⟨.refl rfl, rfl⟩, ⟨⟨.refl rfl, rfl⟩, ⟨⟨.refl rfl, rfl⟩, ⟨⟨.refl rfl, rfl⟩, ⟨⟨.refl rfl, rfl⟩, ⟨⟨.refl rfl, rfl⟩, ⟨⟨.refl rfl, rfl⟩, trivial⟩⟩⟩⟩⟩⟩⟩ trivial trivial)⟩
        rw [List.take_succ_eq_append_getElem hlt, List.foldl_append, ← hac]
        simp only [List.foldl_cons, List.foldl_nil]
        first
        | (rw [if_pos ⟨hq64, hkeep⟩]; done)
        | (rw [if_neg (fun h => hno h)]; done)
    · skip
      have hkl : k = (nx (p.pb w) b).length := by have := of_decide_eq_false h15; omega
      have hfin : ac = fol (nx (p.pb w)) (keepL (p.pb w) p.log.length) 64 (d + 1) acc b := by rw [hac, hkl, List.take_length]; rfl
      refine AWPJ.exit ?_
      try dsimp only [seqQJ, blockQJ, roundQJ]
      try rw [show Nat.beq 0 0 = true from rfl, cond_true]
      refine postQJ.end0 Tryz.results92  ?_
      exact ⟨rfl, a1, cap1, by rw [hfin]⟩
set_option maxRecDepth 20000 in
theorem follow_n (p : Plw) (w : List Sp) (hp : OkP p) (hw : okW p w = true) (s bk br bo : Nat) (v : Fv) (d : Nat) (b : List Int) (hd : d + 1 ≤ p.log.length) (hrem : Rem (p.pb w) (p.log.length - (d + 1)) b) (hb : b = []) (acc : List (List Int)) (a : Option Addr) (cap : Nat) (hac0 : acc.length ≤ 64) (ih : ∀ c ∈ (nx (p.pb w) b), ∀ acc a cap, acc.length ≤ 64 → FSpecJ Tryz.prog (JFo p w s bk br bo v a cap acc) 92 ([.agg (eBc p w c)] ++ v.cap.map .sc) (fun r J' => r = .tup [] ∧ ∃ a' cap', J' = JFo p w s bk br bo v a' cap' (fol (nx (p.pb w)) (keepL (p.pb w) p.log.length) 64 d acc c))) : FSpecJ Tryz.prog (JFo p w s bk br bo v a cap acc) 92 [.agg (eBn p w b), .rd (eR p w), .sc (adr v.a), .rd [.sc (laV bo)], .rd [.sc v.foV]] (fun r J' => r = .tup [] ∧ ∃ a' cap', J' = JFo p w s bk br bo v a' cap' (fol (nx (p.pb w)) (keepL (p.pb w) p.log.length) 64 (d + 1) acc b)) := by
  refine FSpecJ.of_body Tryz.func92 rfl (leB rfl) fun F0 w0 M0 => ?_
  have h32 := hp.len
  have hnl := nx_len p w b
  have hbl := hrem.1
  have hgl := bgs_len p w (nx (p.pb w) b)
  refine AWPJ.seq ?_
  refine AWPJ.lift (fun u N => ?_)
  refine AWP.region ?_
  refine AOps.call (o_box _ rfl rfl rfl) ?_
  refine AOps.nil ?_
  refine AWPJ.seq ?_
  refine AWPJ.seq ?_
  refine AWPJ.lift (fun u N => ?_)
  refine AWP.region ?_
  refine AOps.call (o_fieldRd _ rfl fa91_0 rfl) ?_
  refine AOps.call (o_loadRd _ rfl Tryz.sizeOf83 Tryz.isAgg83 rfl rfl rfl) ?_
  refine AOps.call (o_fieldRef _ rfl fa112_0 rfl rfl) ?_
  refine AOps.call (o_fieldRef _ rfl fa110_0 rfl rfl) ?_
  refine AOps.call (o_loadRef _ rfl rfl Tryz.sizeOf3 Tryz.isAgg3 rfl rfl rfl) ?_
  refine AOps.call (o_call (isLast_s p ((b.length : Int) - 1) h32) Tryz.call57 rfl rfl) ?_
  refine AOps.nil ?_
  refine AWPJ.cond _ rfl (fun h8 => ?_) (fun h8 => ?_)
  · skip
    exfalso
    have h1 := of_decide_eq_true h8
    omega
  · skip
    skip
    refine AWPJ.skip ?_
    refine AWPJ.seq ?_
    refine AWPJ.lift (fun u N => ?_)
    refine AWP.region ?_
    refine AOps.call (o_loadRd _ rfl Tryz.sizeOf91 Tryz.isAgg91 rfl rfl rfl) ?_
    refine AOps.call (o_loadRef _ rfl rfl Tryz.sizeOf112 Tryz.isAgg112 rfl rfl rfl) ?_
    refine AOps.call (o_call (further_n p w b hp hw (by omega) hrem.2.1 (rem_ld hrem) hb) Tryz.call80 rfl rfl) ?_
    refine AOps.call (o_len _ Tryz.underlying114 rfl rfl) ?_
    refine AOps.call (o_move _ rfl rfl) ?_
    refine AOps.nil ?_
    refine AWPJ.block ?_
    refine AWPJ.loop (ι := Nat × List (List Int) × Option Addr × Nat) (fun i => JFo p w s bk br bo v i.2.2.1 i.2.2.2 i.2.1) (fun i => AS.mk' 39 [(1, .rd (eR p w)), (2, .sc (adr v.a)), (3, .rd [.sc (laV bo)]), (4, .rd [.sc v.foV]), (21, .sl (bgs p w (nx (p.pb w) b))), (22, I (bgs p w (nx (p.pb w) b)).length), (23, I i.1)] [] [] []) (fun i => i.1 ≤ (nx (p.pb w) b).length ∧ i.2.1 = ((nx (p.pb w) b).take i.1).foldl (fun acc c => if acc.length ≤ 64 ∧ (keepL (p.pb w) p.log.length) c = true then fol (nx (p.pb w)) (keepL (p.pb w) p.log.length) 64 d acc c else acc) acc ∧ i.2.1.length ≤ 65) (fun i => (nx (p.pb w) b).length - i.1) (0, acc, a, cap) (Weak.toJ (Weak.mk' rfl ⟨⟨.refl rfl, rfl⟩, ⟨⟨.refl rfl, rfl⟩, ⟨⟨.refl rfl, rfl⟩, ⟨⟨.refl rfl, rfl⟩, ⟨⟨.refl rfl, rfl⟩, ⟨⟨.refl rfl, rfl⟩, ⟨⟨.refl rfl, rfl⟩, trivial⟩⟩⟩⟩⟩⟩⟩ trivial trivial)) (⟨Nat.zero_le _, rfl, by dsimp only; omega⟩) ?_
    rintro ⟨k, ac, a1, cap1⟩ ⟨hk, hac, hle⟩
    try dsimp only at *
    refine AWPJ.seq ?_
    refine AWPJ.lift (fun u N => ?_)
    refine AWP.region ?_
    refine AOps.call (o_bin _ _ rfl rfl (fun _ => rfl) rfl) ?_
    refine AOps.nil ?_
    refine AWPJ.seq ?_
    refine AWPJ.cond _ rfl (fun h15 => ?_) (fun h15 => ?_)
    · skip
      have hlt : k < (nx (p.pb w) b).length := by have := of_decide_eq_true h15; omega
      have hch : Rem (p.pb w) (p.log.length - (d + 1) + 1) (nx (p.pb w) b)[k] := rem_child hrem (List.getElem_mem hlt)
      have hcl := hch.1
      have hcn : (nx (p.pb w) b)[k] ≠ [] := fun e => by rw [e] at hcl; simp at hcl
      have hel := bgs_at (p := p) (w := w) hlt
      rw [eB_c hcn] at hel
      refine AWPJ.skip ?_
      refine AWPJ.seq ?_
      refine AWPJ.block ?_
      refine AWPJ.seq ?_
      refine AWPJ.lift (fun u N => ?_)
      refine AWP.region ?_
      refine AOps.call (o_index _ _ Tryz.underlying114 Tryz.sizeOf112 rfl rfl (by omega) (by assumption) rfl rfl) ?_
      refine AOps.call (o_loadRd _ rfl Tryz.sizeOf112 Tryz.isAgg112 rfl rfl rfl) ?_
      refine AOps.call (o_alloc ze112 rfl rfl) ?_
      refine AOps.cons (o_store _ _ rfl rfl Tryz.sizeOf112 rfl rfl rfl rfl rfl) ?_
      refine AOps.nil ?_
      refine AWPJ.seq ?_
      refine AWPJ.region ?_
      refine AOpsJ.op (OpAnyJ.op (o_look (cs := [.sc (.slice a1 ac.length cap1)]) (r := .sc (.slice a1 ac.length cap1)) _ rfl Tryz.sizeOf40 Tryz.isAgg40 (fun T F w M h => by obtain ⟨_, _, h1⟩ := Sec.sep_l h; obtain ⟨_, _, h2⟩ := Sec.sep_l h1; exact Jvar_cells h2 rfl) rfl rfl)) ?_
      rintro _ _ ⟨rfl, rfl⟩
      refine AOpsJ.call (fun u N => o_lenX _ Tryz.underlying40 rfl rfl) ?_
      refine AOpsJ.call (fun u N => o_bin _ _ rfl rfl (fun _ => rfl) rfl) ?_
      refine AOpsJ.call (fun u N => o_move _ rfl rfl) ?_
      refine AOpsJ.split rfl rfl rfl (fun h22 => ?_) (fun h22 => ?_)
      · skip
        have hq64 : ac.length ≤ 64 := by have := of_decide_eq_true h22; omega
        refine AOpsJ.go rfl rfl rfl h22 (fun u N => OpAny.seq (o_loadRd _ rfl Tryz.sizeOf129 Tryz.isAgg129 rfl rfl rfl)) ?_
        refine AOpsJ.go rfl rfl rfl h22 (fun u N => OpAny.seq (o_loadRef _ rfl rfl Tryz.sizeOf112 Tryz.isAgg112 rfl rfl rfl)) ?_
        refine AOpsJ.goOp rfl rfl rfl h22 (OpJ.frameR (Sec.sep_ok Jvar_ok Jrow_ok) (Sec.sep_ok JM_ok Jfc_ok) (fun E u N => OpJ.frame JM_ok Jfc_ok (fun E u N => o_callVJ (f := 118) (caps := [adr bo]) (cl := [.agg (eBc p w (nx (p.pb w) b)[k])]) _ rfl (lasts_s p w hp hw s bk br bo (nx (p.pb w) b)[k] hcn (by omega) hch.2.1) Tryz.call118 rfl (.inr fun _ => rfl) rfl))) ?_
        rintro _ _ ⟨_, ⟨_, ⟨_, ⟨rfl, rfl⟩, rfl⟩, rfl⟩, _, rfl⟩
        refine AOpsJ.call (fun u N => o_pickT _ _ _ rfl h22 rfl rfl) ?_
        refine AOpsJ.nil ?_
        refine AWPJ.cond _ rfl (fun h26 => ?_) (fun h26 => ?_)
        · skip
          have hkeep : (keepL (p.pb w) p.log.length) (nx (p.pb w) b)[k] = true := h26
          refine AWPJ.region ?_
          refine AOpsJ.call (fun u N => o_loadRd _ rfl Tryz.sizeOf131 Tryz.isAgg131 rfl rfl rfl) ?_
          refine AOpsJ.call (fun u N => o_loadRef _ rfl rfl Tryz.sizeOf112 Tryz.isAgg112 rfl rfl rfl) ?_
          refine AOpsJ.op (o_callVJ (f := 92) (caps := v.cap) (cl := [.agg (eBc p w (nx (p.pb w) b)[k])]) _ rfl (ih _ (List.getElem_mem hlt) ac a1 cap1 hq64) Tryz.call92 rfl (.inr fun _ => rfl) rfl) ?_
          rintro _ _ ⟨_, ⟨rfl, a2, cap2, rfl⟩, rfl⟩
          refine AOpsJ.nil ?_
          refine AWPJ.lift (fun u N => ?_)
          refine AWP.region ?_
          refine AOps.call (o_add _ _ rfl rfl ⟨by (try dsimp only); omega, by (try dsimp only); omega⟩ rfl) ?_
          refine AOps.call (o_move _ rfl rfl) ?_
          refine AOps.nil ?_
          first
          | refine ⟨(k + 1, fol (nx (p.pb w)) (keepL (p.pb w) p.log.length) 64 d ac (nx (p.pb w) b)[k], a2, cap2), ⟨⟨by (try dsimp only); omega, ?_, fol_len d ac _ hq64⟩, by (try dsimp only); omega⟩, Weak.toJ (Weak.mk' rfl ⟨⟨.refl rfl, rfl⟩, ⟨⟨.refl rfl, rfl⟩, ⟨⟨.refl rfl, rfl⟩, ⟨⟨.refl rfl, rfl⟩, ⟨⟨.refl rfl, rfl⟩, ⟨⟨.refl rfl, rfl⟩, ⟨⟨.refl rfl, rfl⟩, trivial⟩⟩⟩⟩⟩⟩⟩ trivial trivial)⟩
          | refine ⟨(k + 1, ac, a1, cap1), ⟨⟨by (try dsimp only); omega, ?_, hle⟩, by (try dsimp only); omega⟩, Weak.toJ (Weak.mk' rfl ⟨⟨.refl rfl, rfl⟩, ⟨⟨.refl rfl, rfl⟩, ⟨⟨.refl rfl, rfl⟩, ⟨⟨.refl rfl, rfl⟩, ⟨⟨.refl rfl, rfl⟩, ⟨⟨.refl rfl, rfl⟩, ⟨⟨.refl rfl, rfl⟩, trivial⟩⟩⟩⟩⟩⟩⟩ trivial trivial)⟩
          rw [List.take_succ_eq_append_getElem hlt, List.foldl_append, ← hac]
          simp only [List.foldl_cons, List.foldl_nil]
          first
          | (rw [if_pos ⟨hq64, hkeep⟩]; done)
          | (rw [if_neg (fun h => hno h)]; done)
        · skip
          have hno : ¬ (ac.length ≤ 64 ∧ (keepL (p.pb w) p.log.length) (nx (p.pb w) b)[k] = true) := fun h => by have := h26; simp_all
          refine AWPJ.skip ?_
          refine AWPJ.lift (fun u N => ?_)
          refine AWP.region ?_
          refine AOps.call (o_add _ _ rfl rfl ⟨by (try dsimp only); omega, by (try dsimp only); omega⟩ rfl) ?_
          refine AOps.call (o_move _ rfl rfl) ?_
          refine AOps.nil ?_
          first
          | refine ⟨(k + 1, fol (nx (p.pb w)) (keepL (p.pb w) p.log.length) 64 d ac (nx (p.pb w) b)[k], a2, cap2), ⟨⟨by (try dsimp only); omega, ?_, fol_len d ac _ hq64⟩, by (try dsimp only); omega⟩, Weak.toJ (Weak.mk' rfl ⟨⟨.refl rfl, rfl⟩, ⟨⟨.refl rfl, rfl⟩, ⟨⟨.refl rfl, rfl⟩, ⟨⟨.refl rfl, rfl⟩, ⟨⟨.refl rfl, rfl⟩, ⟨⟨.refl rfl, rfl⟩, ⟨⟨.refl rfl, rfl⟩, trivial⟩⟩⟩⟩⟩⟩⟩ trivial trivial)⟩
          | refine ⟨(k + 1, ac, a1, cap1), ⟨⟨by (try dsimp only); omega, ?_, hle⟩, by (try dsimp only); omega⟩, Weak.toJ (Weak.mk' rfl ⟨⟨.refl rfl, rfl⟩, ⟨⟨.refl rfl, rfl⟩, ⟨⟨.refl rfl, rfl⟩, ⟨⟨.refl rfl, rfl⟩, ⟨⟨.refl rfl, rfl⟩, ⟨⟨.refl rfl, rfl⟩, ⟨⟨.refl rfl, rfl⟩, trivial⟩⟩⟩⟩⟩⟩⟩ trivial trivial)⟩
          rw [List.take_succ_eq_append_getElem hlt, List.foldl_append, ← hac]
          simp only [List.foldl_cons, List.foldl_nil]
          first
          | (rw [if_pos ⟨hq64, hkeep⟩]; done)
          | (rw [if_neg (fun h => hno h)]; done)
      · skip
        have hno : ¬ (ac.length ≤ 64 ∧ (keepL (p.pb w) p.log.length) (nx (p.pb w) b)[k] = true) := fun h => by have := of_decide_eq_false h22; omega
        refine AOpsJ.pass rfl rfl rfl h22 rfl ?_
        refine AOpsJ.pass rfl rfl rfl h22 rfl ?_
        refine AOpsJ.pass rfl rfl rfl h22 rfl ?_
        refine AOpsJ.call (fun u N => o_pickF _ _ _ rfl h22 rfl rfl) ?_
        refine AOpsJ.nil ?_
        refine AWPJ.condF rfl ?_
        refine AWPJ.skip ?_
        refine AWPJ.lift (fun u N => ?_)
        refine AWP.region ?_
        refine AOps.call (o_add _ _ rfl rfl ⟨by (try dsimp only); omega, by (try dsimp only); omega⟩ rfl) ?_
        refine AOps.call (o_move _ rfl rfl) ?_
        refine AOps.nil ?_
        first
        | refine ⟨(k + 1, fol (nx (p.pb w)) (keepL (p.pb w) p.log.length) 64 d ac (nx (p.pb w) b)[k], a2, cap2), ⟨⟨by (try dsimp only); omega, ?_, fol_len d ac _ hq64⟩, by (try dsimp only); omega⟩, Weak.toJ (Weak.mk' rfl ⟨⟨.refl rfl, rfl⟩, ⟨⟨.refl rfl, rfl⟩, ⟨⟨.refl rfl, rfl⟩, ⟨⟨.refl rfl, rfl⟩, ⟨⟨.refl rfl, rfl⟩, ⟨⟨.refl rfl, rfl⟩, ⟨⟨.refl rfl, rfl⟩, trivial⟩⟩⟩⟩⟩⟩⟩ trivial trivial)⟩
        | refine ⟨(k + 1, ac, a1, cap1), ⟨⟨by (try dsimp only); omega, ?_, hle⟩, by (try dsimp only); omega⟩, Weak.toJ (Weak.mk' rfl ⟨⟨.refl rfl, rfl⟩, ⟨⟨.refl rfl, rfl⟩, ⟨⟨.refl rfl, rfl⟩, ⟨⟨.refl rfl, rfl⟩, ⟨⟨.refl rfl, rfl⟩, ⟨⟨.refl rfl, rfl⟩, ⟨⟨.refl rfl, rfl⟩, trivial⟩⟩⟩⟩⟩⟩⟩ trivial trivial)⟩
        rw [List.take_succ_eq_append_getElem hlt, List.foldl_append, ← hac]
        simp only [List.foldl_cons, List.foldl_nil]
        first
        | (rw [if_pos ⟨hq64, hkeep⟩]; done)
        | (rw [if_neg (fun h => hno h)]; done)
    · skip
      have hkl : k = (nx (p.pb w) b).length := by have := of_decide_eq_false h15; omega
      have hfin : ac = fol (nx (p.pb w)) (keepL (p.pb w) p.log.length) 64 (d + 1) acc b := by rw [hac, hkl, List.take_length]; rfl
      refine AWPJ.exit ?_
      try dsimp only [seqQJ, blockQJ, roundQJ]
      try rw [show Nat.beq 0 0 = true from rfl, cond_true]
      refine postQJ.end0 Tryz.results92  ?_
      exact ⟨rfl, a1, cap1, by rw [hfin]⟩
theorem eBn_c {p : Plw} {w : List Sp} {w' : World} {M : Nat → Option Nat} {u : Value} (h : VR w' M noV noG (.agg (eBn p w [])) u) : VR w' M noV noG (.agg (eBc p w [])) u := by
  cases h with
  | agg _ vs hl h1 hh =>
    refine .agg _ vs hl h1 fun i c x hc hx => ?_
    rcases i with _ | _ | _ | _ | _ | _ | i
    · exact hh 0 c x hc hx
    · exact hh 1 c x hc hx
    · exact hh 2 c x hc hx
    · have := hh 3 _ x rfl hx
      have e : c = .sl [] := (Option.some.inj hc).symm
      subst e
      cases this
      exact .sl0 _ _
    · exact hh 4 c x hc hx
    · exact hh 5 c x hc hx
    · cases hc
theorem follow_s (p : Plw) (w : List Sp) (hp : OkP p) (hw : okW p w = true) (s bk br bo : Nat) (v : Fv) : ∀ (d : Nat) (b : List Int), d ≤ p.log.length → Rem (p.pb w) (p.log.length - d) b → ∀ (acc : List (List Int)) (a : Option Addr) (cap : Nat), acc.length ≤ 64 → FSpecJ Tryz.prog (JFo p w s bk br bo v a cap acc) 92 ([.agg (eB p w b)] ++ v.cap.map .sc) (fun r J' => r = .tup [] ∧ ∃ a' cap', J' = JFo p w s bk br bo v a' cap' (fol (nx (p.pb w)) (keepL (p.pb w) p.log.length) 64 d acc b)) := by
  have know : ∀ (b : List Int) (e : List AV) acc a cap R, (∀ w' M u, VR w' M noV noG (.agg (eB p w b)) u → VR w' M noV noG (.agg e) u) → FSpecJ Tryz.prog (JFo p w s bk br bo v a cap acc) 92 [.agg e, .rd (eR p w), .sc (adr v.a), .rd [.sc (laV bo)], .rd [.sc v.foV]] R → FSpecJ Tryz.prog (JFo p w s bk br bo v a cap acc) 92 ([.agg (eB p w b)] ++ v.cap.map .sc) R := fun b e acc a cap R he h =>
    FSpecJ.know h rfl fun T F w M hJ i x y u hx hy hv => by
      have hf := fun {y u} (hm : (y, u) ∈ v.fc p _ bo) => JFo_fact hm hJ
      rcases i with _ | _ | _ | _ | _ | i
      · simp at hx hy; subst hx; subst hy; exact he _ _ _ hv
      · simp [Fv.cap] at hx hy; subst hx; subst hy; rw [hv.exact _ rfl]; exact hf (by simp [Fv.fc])
      · simp [Fv.cap] at hx hy; subst hx; subst hy; exact hv
      · simp [Fv.cap] at hx hy; subst hx; subst hy; rw [hv.exact _ rfl]; exact hf (by simp [Fv.fc])
      · simp [Fv.cap] at hx hy; subst hx; subst hy; rw [hv.exact _ rfl]; exact hf (by simp [Fv.fc])
      · simp at hy
  intro d
  induction d with
  | zero =>
    intro b _ hrem acc a cap hac
    refine know b (eBc p w b) acc a cap _ (fun w' M u hu => ?_) (follow_l p w hp hw s bk br bo v b hrem.1 acc a cap hac)
    by_cases hb : b = []
    · subst hb; exact eBn_c hu
    · rw [eB_c hb] at hu; exact hu
  | succ d ih =>
    intro b hd hrem acc a cap hac
    have ih' : ∀ c ∈ nx (p.pb w) b, ∀ acc a cap, acc.length ≤ 64 → FSpecJ Tryz.prog (JFo p w s bk br bo v a cap acc) 92 ([.agg (eBc p w c)] ++ v.cap.map .sc) (fun r J' => r = .tup [] ∧ ∃ a' cap', J' = JFo p w s bk br bo v a' cap' (fol (nx (p.pb w)) (keepL (p.pb w) p.log.length) 64 d acc c)) := fun c hc acc a cap hac => by
      have hch := rem_child hrem hc
      have hcl := hch.1
      have hcn : c ≠ [] := fun e => by rw [e] at hcl; simp at hcl
      have e : p.log.length - (d + 1) + 1 = p.log.length - d := by omega
      rw [e] at hch
      rw [← eB_c hcn]
      exact ih c (by omega) hch acc a cap hac
    by_cases hb : b = []
    · exact know b (eBn p w b) acc a cap _ (fun w' M u hu => by rw [eB_n hb] at hu; exact hu) (follow_n p w hp hw s bk br bo v d b hd hrem hb acc a cap hac ih')
    · exact know b (eBc p w b) acc a cap _ (fun w' M u hu => by rw [eB_c hb] at hu; exact hu) (follow_c p w hp hw s bk br bo v d b hd hrem hb acc a cap hac ih')
end Go.Proofs.YtelenedgaoglaaaGreatDoor
set_option linter.unusedSimpArgs false
set_option linter.unusedVariables false
namespace Go.Proofs.YtelenedgaoglaaaGreatDoor
open Go.Ab
open Go.Pil Go.RowKit
def casesA (p : Plw) (w : List Sp) : List (List Int) := lev (nx (p.pb w)) p.log.length []
def css (ls : List (List Int)) : List (List AV) := ls.map fun l => [stC l]
theorem css_flat (ls : List (List Int)) : (css ls).flatten = ls.map stC := by
  induction ls with
  | nil => rfl
  | cons l ls ih => show [stC l] ++ (css ls).flatten = _; rw [ih]; rfl
theorem css_z {ls : List (List Int)} : ∀ e ∈ css ls, e.length = 1 := by intro e he; obtain ⟨_, _, rfl⟩ := List.mem_map.1 he; rfl
theorem css_len (ls : List (List Int)) : (css ls).length = ls.length := by simp [css]
theorem css_at {ls : List (List Int)} {k : Nat} (h : k < ls.length) : (css ls)[((k : Nat) : Int).toNat]? = some [stC ls[k]] := by simp [css, h]
def casesR (p : Plw) (w : List Sp) : AV := if 64 < (casesA p w).length then .tup [.sc (.slice none 0 0), I 2] else .tup [.sl (css (casesA p w)), I 0]
abbrev folA (p : Plw) (w : List Sp) : List (List Int) := fol (nx (p.pb w)) (keepL (p.pb w) p.log.length) 64 p.log.length [] []
theorem folA_eq {p : Plw} (hp : OkP p) {w : List Sp} (hw : okW p w = true) : folA p w = (casesA p w).take 65 :=
  follow_all (p.pb w) (fun i s => hp.allow_ne i s) (fun i => (okW_WB hw i).2.2) hp.faults.1 64 p.log.length
theorem begin_eB (p : Plw) (w : List Sp) : FSpec Tryz.prog 79 [.agg (eR p w)] (.agg (eB p w [])) none := by
  have e : eB p w [] = [I (-1), I 0, I p.faults, .sc (.slice none 0 0), I 0, I 0] := by
    rw [eB_nil]
    have h1 : (pl (p.pb w) []).entry = -1 := rfl
    have h2 : (pl (p.pb w) []).faults = p.faults := by show p.faults - 0 = _; omega
    rw [h1, h2]; rfl
  rw [e]; exact begin_s p w
def Fv.tms (v : Fv) : List (Nat × AV) := [(1, .sc (adr v.r)), (4, .sc (adr v.a)), (6, .sc (adr v.f))]
theorem cases_made (p : Plw) (w : List Sp) (s bk br bo : Nat) {σ : AS} (hr : σ.va (1, 0) = some (eR p w)) (ha : σ.va (4, 0) = some [.sc (.slice none 0 0)]) (hl : σ.va (5, 0) = some [.sc (laV bo)]) (hf : σ.va (6, 0) = some [.clo 92 [.ref (1, 0) 0, .ref (4, 0) 0, .ref (5, 0) 0, .ref (6, 0) 0]])
    (t1 : σ.tm 1 = .ref (1, 0) 0) (t4 : σ.tm 4 = .ref (4, 0) 0) (t6 : σ.tm 6 = .ref (6, 0) 0) :
    ∀ F0 w0 M0 a w', RelJ F0 (JM p w s bk br bo) w0 M0 σ a w' → ∃ v : Fv, RelJ F0 (JFo p w s bk br bo v none 0 []) w0 M0 (AS.mk' σ.n [(1, .sc (adr v.r)), (4, .sc (adr v.a)), (6, .sc (adr v.f))] [] [] []) a w' := by
  intro F0 w0 M0 a w' ⟨x, T, F, hx⟩
  obtain ⟨br2, r1, r2, r3, r4, r5⟩ := hx.rel.var hr
  obtain ⟨bl, l1, l2, l3, l4, l5⟩ := hx.rel.var hl
  obtain ⟨bf, f1, f2, f3, f4, f5⟩ := hx.rel.var hf
  obtain ⟨ba, vs, ty, a1, a2, aw, a3, a4, a5, a6⟩ := hx.rel.va _ _ ha
  have a0 : vs[0]? = some (.slice none 0 0) := by
    obtain ⟨u, q1, q2, q3⟩ := a6 0 _ rfl
    cases q3; exact q1
  have hfree : ∀ {id cs b}, σ.va id = some cs → x.V id = some b → ¬ F b := fun h1 h2 hF => hx.free _ hF (.inl ⟨_, _, h1, h2⟩)
  have hne : ∀ {id id' b b'}, (∃ u, x.ow b = some (true, id) ∧ u = ()) → x.ow b' = some (true, id') → id ≠ id' → b ≠ b' := fun ⟨_, h, _⟩ h' hn e => by subst e; rw [h] at h'; cases h'; exact hn rfl
  have how : ∀ {id cs b}, σ.va id = some cs → x.V id = some b → x.ow b = some (true, id) := fun h1 h2 => by
    obtain ⟨b', _, _, k1, _, k2, _⟩ := hx.rel.va _ _ h1
    rw [h2] at k1; cases k1; exact k2
  have nr : br2 ≠ ba := fun e => by have := how hr r1; rw [e, aw] at this; cases this
  have nl : bl ≠ ba := fun e => by have := how hl l1; rw [e, aw] at this; cases this
  have nf : bf ≠ ba := fun e => by have := how hf f1; rw [e, aw] at this; cases this
  obtain ⟨vo, q1, q2, q3⟩ := f5 0 _ rfl
  have hvo : vo = (Fv.foV ⟨br2, ba, bl, bf⟩) := q3.clo_ref4 r1 a1 l1 f1
  have tmv : ∀ {t id b}, σ.tm t = .ref id 0 → x.V id = some b → a.tmps.getD t undef = adr b := fun {t id b} ht hV => by
    have h := hx.rel.tm t
    rw [ht] at h
    generalize a.tmps.getD t undef = u at h ⊢
    cases h with
    | ref _ _ b' hb' => cases hb'.symm.trans hV; rfl
  refine ⟨⟨br2, ba, bl, bf⟩, RelX.settle hx [br2, ba, bl, bf] ?_ (T' := fun b => T b ∨ b = ba) _ ?_ (fun b hb => ?_) JFo_ok ?_ trivial⟩
  · intro b hb
    simp only [List.mem_cons, List.not_mem_nil, or_false] at hb
    rcases hb with rfl | rfl | rfl | rfl
    · exact ⟨r2, r4, r3, hfree hr r1⟩
    · exact ⟨a2, lt_of_cells a4, a3, hfree ha a1⟩
    · exact ⟨l2, l4, l3, hfree hl l1⟩
    · exact ⟨f2, f4, f3, hfree hf f1⟩
  · intro q hq
    simp only [List.mem_cons, List.not_mem_nil, or_false] at hq
    rcases hq with rfl | rfl | rfl
    · refine ⟨rfl, ?_⟩; show VR _ _ _ _ (.sc (adr br2)) (a.tmps.getD 1 undef); rw [tmv t1 r1]; exact .sc _
    · refine ⟨rfl, ?_⟩; show VR _ _ _ _ (.sc (adr ba)) (a.tmps.getD 4 undef); rw [tmv t4 a1]; exact .sc _
    · refine ⟨rfl, ?_⟩; show VR _ _ _ _ (.sc (adr bf)) (a.tmps.getD 6 undef); rw [tmv t6 f1]; exact .sc _
  · rcases hb with h | h
    · exact .inl h
    · exact .inr ⟨ba, by simp, h⟩
  · intro M' hM1 hM2 himm
    have hTF : ∀ b, T b → F b := fun b hb => hx.ok.sub hx.sec b hb
    have hFn : ∀ b, F b → b ∉ [br2, ba, bl, bf] := fun b hb hm => by
      simp only [List.mem_cons, List.not_mem_nil, or_false] at hm
      rcases hm with rfl | rfl | rfl | rfl
      · exact hfree hr r1 hb
      · exact hfree ha a1 hb
      · exact hfree hl l1 hb
      · exact hfree hf f1 hb
    have hMa : M' ba = some 0 := (hM2 ba (by simp)).1 (.inr rfl)
    have hMn : ∀ b ∈ [br2, bl, bf], M' b = none := fun b hb => by
      have hb4 : b ∈ [br2, ba, bl, bf] := by simp only [List.mem_cons, List.not_mem_nil, or_false] at hb ⊢; rcases hb with h | h | h <;> simp [h]
      refine (hM2 b hb4).2 fun h => ?_
      rcases h with h | h
      · exact hFn b (hTF b h) hb4
      · simp only [List.mem_cons, List.not_mem_nil, or_false] at hb
        rcases hb with rfl | rfl | rfl
        · exact nr h
        · exact nl h
        · exact nf h
    have hJM : JM p w s bk br bo T F w' M' := hx.ok.stab hx.sec fun b hb => ⟨rfl, hM1 b (hFn b hb)⟩
    let F2 : Nat → Prop := fun b => (b < w'.heap.size ∧ M' b ≠ some 0) ∨ (b ∈ [br2, bl, bf])
    have hin : ∀ b off u, Imm w' x.M b off u → Imm w' (inF F2 M') b off u := fun b off u hi => by
      have h2 := himm b off u hi
      have hlt : b < w'.heap.size := by
        rcases Nat.lt_or_ge b w'.heap.size with h' | h'
        · exact h'
        · have := hi.1; simp [World.cell?, Array.getElem?_eq_none h'] at this
      exact inF_imm.2 ⟨.inl ⟨hlt, fun e => absurd (h2.2.2 0 e) (by omega)⟩, h2⟩
    have hT2 : ∀ b, T b → ¬ F2 b := fun b hb h => by
      have hM : M' b = some 0 := by rw [hM1 b (hFn b (hTF b hb))]; exact hx.ok.hid hx.sec b hb
      rcases h with h | h
      · exact h.2 hM
      · rw [hMn b h] at hM; cases hM
    have hfc : Jfc (Fv.fc ⟨br2, ba, bl, bf⟩ p w bo) (fun _ => False) F2 w' M' := by
      refine ⟨fun b h => h, fun q hq => ?_⟩
      simp only [Fv.fc, List.mem_cons, List.not_mem_nil, or_false] at hq
      rcases hq with rfl | rfl | rfl
      · exact rd_of r5 rfl (.inr (by simp)) (hMn _ (by simp)) hin
      · exact rd_of l5 rfl (.inr (by simp)) (hMn _ (by simp)) hin
      · have hco : Cells w' x.M x.V x.G bf 0 [.sc (Fv.foV ⟨br2, ba, bl, bf⟩)] := fun j c hj => by
          rcases j with _ | j
          · simp at hj; subst hj; exact ⟨vo, q1, q2, by rw [hvo]; exact .sc _⟩
          · simp at hj
        exact rd_of hco rfl (.inr (by simp)) (hMn _ (by simp)) hin
    have hFa : ¬ F ba := hfree ha a1
    have hF2a : ¬ F2 ba := fun h => by
      rcases h with h | h
      · exact h.2 hMa
      · rw [hMn _ h] at hMa; cases hMa
    refine ⟨fun b => b = ba, fun b => b = ba, T, fun b => F b ∨ F2 b, fun b => ⟨fun h => h.symm, fun h => h.symm⟩, fun b => ⟨fun h => ?_, fun h => ?_⟩, fun b hb h => ?_, fun b hb h => ?_, ?_, ?_⟩
    · by_cases hb : b = ba
      · exact .inl hb
      · rcases h with h | h | h
        · exact .inr (.inl h)
        · exact .inr (.inr (.inl h))
        · refine .inr (.inr (.inr ?_))
          simp only [List.mem_cons, List.not_mem_nil, or_false] at h ⊢
          rcases h with h | h | h | h
          · exact .inl h
          · exact absurd h hb
          · exact .inr (.inl h)
          · exact .inr (.inr h)
    · rcases h with h | h | h | h
      · exact .inr (.inr (by simp [h]))
      · exact .inl h
      · exact .inr (.inl h)
      · refine .inr (.inr ?_)
        simp only [List.mem_cons, List.not_mem_nil, or_false] at h ⊢
        rcases h with h | h | h <;> simp [h]
    · subst hb; rcases h with h | h
      · exact hFa h
      · exact hF2a h
    · subst h; exact hFa (hTF _ hb)
    · exact ⟨fun b => b = ba, fun b => b = ba, fun _ => False, fun _ => False, fun b => by simp, fun b => by simp, fun b _ h => h, fun b h => h.elim, ⟨fun k => Iff.rfl, rfl, hMa, vs, ty, a4, a0⟩, Jrow_nil⟩
    · exact ⟨T, F, fun _ => False, F2, fun b => by simp, fun b => Iff.rfl, hT2, fun b h => h.elim, hJM, hfc⟩
set_option maxRecDepth 20000 in
theorem cases_s (p : Plw) (w : List Sp) (hp : OkP p) (hw : okW p w = true) : FSpec Tryz.prog 66 [.agg (eR p w)] (casesR p w) none := by
  refine FSpec.of_bodyJ Tryz.func66 rfl (leB rfl) fun F0 w0 M0 => ?_
  have hfol := folA_eq hp hw
  refine AWPJ.seq ?_
  refine AWPJ.lift (fun u N => ?_)
  refine AWP.region ?_
  refine AOps.call (o_box _ rfl rfl rfl) ?_
  refine AOps.call (o_assignK rfl) ?_
  refine AOps.call (o_assign _ rfl rfl) ?_
  refine AOps.nil ?_
  refine AWPJ.seq ?_
  refine AWPJ.lift (fun u N => ?_)
  refine AWP.region ?_
  refine AOps.call (o_alloc ze40 rfl rfl) ?_
  refine AOps.nil ?_
  refine AWPJ.seq ?_
  refine AWPJ.region ?_
  refine AOpsJ.call (fun u N => o_loadRef _ rfl rfl Tryz.sizeOf91 Tryz.isAgg91 rfl rfl rfl) ?_
  refine AOpsJ.op (o_callJ (lasting_s p w) Tryz.call91 rfl (.inr fun _ => rfl) rfl) ?_
  rintro _ _ ⟨_, ⟨s, bk, br, bo, rfl, rfl⟩, rfl⟩
  refine AOpsJ.call (fun u N => o_alloc ze129 rfl rfl) ?_
  refine AOpsJ.cons (fun u N => o_store _ _ rfl rfl Tryz.sizeOf129 rfl rfl rfl rfl rfl) ?_
  refine AOpsJ.nil ?_
  refine AWPJ.seq ?_
  refine AWPJ.lift (fun u N => ?_)
  refine AWP.region ?_
  refine AOps.call (o_alloc ze131 rfl rfl) ?_
  refine AOps.nil ?_
  refine AWPJ.seq ?_
  refine AWPJ.lift (fun u N => ?_)
  refine AWP.region ?_
  refine AOps.call (o_makeClo rfl rfl) ?_
  refine AOps.cons (o_store _ _ rfl rfl Tryz.sizeOf131 rfl rfl rfl rfl rfl) ?_
  refine AOps.nil ?_
  refine AWPJ.seq ?_
  refine AWPJ.someW (cases_made p w s bk br bo rfl rfl rfl rfl rfl rfl rfl) (fun v => ?_)
  refine AWPJ.drawnK 3 mixed (by kernel_rfl) ?_
  refine AHeadK.look (o_look (cs := [.sc v.foV]) (r := .sc v.foV) _ rfl Tryz.sizeOf131 Tryz.isAgg131 (fun T F w M h => rdA_cells (JFo_fact (by simp [Fv.fc]) h)) rfl rfl) rfl ?_
  refine AHeadK.look (o_look (cs := eR p w) (r := .agg (eR p w)) _ rfl Tryz.sizeOf91 Tryz.isAgg91 (fun T F w M h => rdA_cells (JFo_fact (by simp [Fv.fc]) h)) rfl rfl) rfl ?_
  refine AHeadK.call (fun u N => o_call (begin_eB p w) Tryz.call79 rfl rfl) rfl ?_
  refine AHeadK.nil ?_
  refine AOpsJ.op (o_callVJ (f := 92) (caps := v.cap) (cl := [.agg (eB p w [])]) _ rfl (follow_s p w hp hw s bk br bo v p.log.length [] (Nat.le_refl _) (by rw [Nat.sub_self]; exact rem_nil _ hp.faults.1) [] none 0 (by simp)) Tryz.call92 rfl (.inr fun _ => rfl) rfl) ?_
  rintro _ _ ⟨_, ⟨rfl, a2, cap2, rfl⟩, rfl⟩
  refine AOpsJ.nil ?_
  refine AWPJ.seq ?_
  refine AWPJ.seq ?_
  refine AWPJ.region ?_
  refine AOpsJ.op (OpAnyJ.op (o_look (cs := [.sc (.slice a2 (folA p w).length cap2)]) (r := .sc (.slice a2 (folA p w).length cap2)) _ rfl Tryz.sizeOf40 Tryz.isAgg40 (fun T F w M h => by obtain ⟨_, _, h1⟩ := Sec.sep_l h; obtain ⟨_, _, h2⟩ := Sec.sep_l h1; exact Jvar_cells h2 rfl) rfl rfl)) ?_
  rintro _ _ ⟨rfl, rfl⟩
  refine AOpsJ.call (fun u N => o_lenX _ Tryz.underlying40 rfl rfl) ?_
  refine AOpsJ.call (fun u N => o_bin _ _ rfl rfl (fun _ => rfl) rfl) ?_
  refine AOpsJ.nil ?_
  refine AWPJ.cond _ rfl (fun h17 => ?_) (fun h17 => ?_)
  · skip
    have hlt : 64 < (casesA p w).length := by
      have h1 := of_decide_eq_true h17
      have h2 : (folA p w).length = min 65 (casesA p w).length := by rw [hfol, List.length_take]
      omega
    refine AWPJ.seq ?_
    refine AWPJ.lift (fun u N => ?_)
    refine AWP.region ?_
    refine AOps.call (o_assignK rfl) ?_
    refine AOps.call (o_assign _ rfl rfl) ?_
    refine AOps.nil ?_
    refine AWPJ.ret ?_
    try dsimp only [seqQJ, blockQJ, roundQJ]
    try rw [show Nat.beq 0 0 = true from rfl, cond_true]
    refine postQJ.ret2 Tryz.results66 rfl rfl rfl ?_
    unfold casesR
    first
    | (rw [if_pos hlt]; rfl)
    | (rw [if_neg hlt, hfol, List.take_of_length_le (by omega)]; rfl)
  · skip
    have hlt : ¬ 64 < (casesA p w).length := by
      have h1 := of_decide_eq_false h17
      have h2 : (folA p w).length = min 65 (casesA p w).length := by rw [hfol, List.length_take]
      omega
    refine AWPJ.skip ?_
    refine AWPJ.seq ?_
    refine AWPJ.region ?_
    refine AOpsJ.op (OpAnyJ.op (o_look (cs := [.sc (.slice a2 (folA p w).length cap2)]) (r := .sc (.slice a2 (folA p w).length cap2)) _ rfl Tryz.sizeOf40 Tryz.isAgg40 (fun T F w M h => by obtain ⟨_, _, h1⟩ := Sec.sep_l h; obtain ⟨_, _, h2⟩ := Sec.sep_l h1; exact Jvar_cells h2 rfl) rfl rfl)) ?_
    rintro _ _ ⟨rfl, rfl⟩
    refine AOpsJ.weak (WeakJ.trans (WeakJ.drop (Sec.sep_ok Jvar_ok Jrow_ok)) (WeakJ.trans (WeakJ.comm Jvar_ok Jrow_ok) (WeakJ.freeze (es := css (folA p w)) 17 rfl (css_flat _) css_z (css_len _) Jvar_ok))) ?_
    refine AOpsJ.call (fun u N => o_assign _ rfl rfl) ?_
    refine AOpsJ.call (fun u N => o_assign _ rfl rfl) ?_
    refine AOpsJ.nil ?_
    refine AWPJ.ret ?_
    try dsimp only [seqQJ, blockQJ, roundQJ]
    try rw [show Nat.beq 0 0 = true from rfl, cond_true]
    refine postQJ.ret2 Tryz.results66 rfl rfl rfl ?_
    unfold casesR
    first
    | (rw [if_pos hlt]; rfl)
    | (rw [if_neg hlt, hfol, List.take_of_length_le (by omega)]; rfl)
end Go.Proofs.YtelenedgaoglaaaGreatDoor
set_option linter.unusedSimpArgs false
set_option linter.unusedVariables false
namespace Go.Proofs.YtelenedgaoglaaaGreatDoor
open Go.Ab
open Go.Pil Go.RowKit
def casL (p : Plw) (w : List Sp) : List (List Int) := if 64 < (casesA p w).length then [] else casesA p w
def casE (p : Plw) (w : List Sp) : Int := if 64 < (casesA p w).length then 2 else 0
theorem FSpec.nil2 {P : Program} {f : FuncId} {args : List AV} {y : AV} (h : FSpec P f args (.tup [.sc (.slice none 0 0), y]) none) : FSpec P f args (.tup [.sl [], y]) none := by
  intro w M vals ex hl ha hM
  refine (h w M vals ex hl ha hM).mono fun e w' ⟨v, h1, h2, h3⟩ => ⟨v, h1, h2, ?_⟩
  cases h3 with
  | tup _ vs hl hh =>
    refine .tup _ vs hl fun i c u hc hu => ?_
    rcases i with _ | i
    · have := hh 0 _ u rfl hu
      cases this
      have e := (Option.some.inj hc).symm
      subst e
      exact .sl0 _ _
    · exact hh (i + 1) c u hc hu
theorem casesL_s (p : Plw) (w : List Sp) (hp : OkP p) (hw : okW p w = true) : FSpec Tryz.prog 66 [.agg (eR p w)] (.tup [.sl (css (casL p w)), I (casE p w)]) none := by
  have h := cases_s p w hp hw
  unfold casesR at h
  unfold casL casE
  by_cases hq : 64 < (casesA p w).length
  · rw [if_pos hq] at h ⊢; rw [if_pos hq]
    exact FSpec.nil2 h
  · rw [if_neg hq] at h ⊢; rw [if_neg hq]
    exact h
theorem casL_mem {p : Plw} (hp : OkP p) {w : List Sp} {l : List Int} (h : l ∈ casL p w) : Rem (p.pb w) p.log.length l := by
  unfold casL at h
  split at h
  · cases h
  · exact (mem_lev _ hp.faults.1).1 h
theorem casL_len (p : Plw) (w : List Sp) : (casL p w).length ≤ 64 := by
  unfold casL; split
  · simp
  · omega
theorem casE_ne {p : Plw} {w : List Sp} (h : casE p w ≠ 0) : casL p w = [] ∧ casE p w = 2 := by
  unfold casE casL at *
  split at h
  · rename_i hq; rw [if_pos hq, if_pos hq]; exact ⟨rfl, rfl⟩
  · exact absurd rfl h
def rdE (p : Plw) (w : List Sp) : Int := if okP p = false then 30 else if okW p w = false then 1 else 0
theorem rdE_ok {p w} (h1 : okP p = true) (h2 : okW p w = true) : rdE p w = 0 := by unfold rdE; rw [if_neg (by rw [h1]; decide), if_neg (by rw [h2]; decide)]
theorem rdE_log {p : Plw} {w : List Sp} (h1 : okP p = false) : rdE p w = 30 := by unfold rdE; rw [if_pos h1]
theorem rdE_arg {p w} (h1 : okP p = true) (h2 : okW p w = false) : rdE p w = 1 := by unfold rdE; rw [if_neg (by rw [h1]; decide), if_pos h2]
theorem rdE_0 {p w} (h : rdE p w = 0) : okP p = true ∧ okW p w = true := by
  unfold rdE at h
  split at h
  · omega
  · split at h
    · omega
    · rename_i h1 h2; exact ⟨by simpa using h1, by simpa using h2⟩
def CasL (p : Plw) (w : List Sp) : List (List Int) := if rdE p w = 0 then casL p w else []
def CasE (p : Plw) (w : List Sp) : Int := if rdE p w = 0 then casE p w else rdE p w
set_option maxRecDepth 20000 in
theorem Cases_ok (p : Plw) (w : List Sp) (hw1 : w.length ≤ 9223372036854775807) (he : okP p = true) (hq : okW p w = true) : FSpec Tryz.prog 23 [.agg (eP p), .sl (sps w)] (.tup [.sl (css (casL p w)), I (casE p w)]) (none) := by
  refine FSpec.of_body Tryz.func23 rfl (leB rfl) fun w0 M0 => ?_
  refine AWP.seq ?_
  refine AWP.region ?_
  refine AOps.call (o_box _ rfl rfl rfl) ?_
  refine AOps.call (o_nil (z := 1) (e := 25) rfl) ?_
  refine AOps.call (o_assign _ rfl rfl) ?_
  refine AOps.nil ?_
  refine AWP.seq ?_
  refine AWP.region ?_
  refine AOps.call (o_loadRef _ rfl rfl Tryz.sizeOf24 Tryz.isAgg24 rfl rfl rfl) ?_
  refine AOps.call (o_move _ rfl rfl) ?_
  refine AOps.call (o_call (read_ok p w hw1 he hq) Tryz.call65 rfl rfl) ?_
  refine AOps.call (o_move _ rfl rfl) ?_
  refine AOps.call (o_extract _ rfl rfl rfl rfl) ?_
  refine AOps.call (o_extract _ rfl rfl rfl rfl) ?_
  refine AOps.call (o_alloc ze91 rfl rfl) ?_
  refine AOps.cons (o_store _ _ rfl rfl Tryz.sizeOf91 rfl rfl rfl rfl rfl) ?_
  refine AOps.call (o_assign _ rfl rfl) ?_
  refine AOps.nil ?_
  refine AWP.seq ?_
  refine AWP.seq ?_
  refine AWP.region ?_
  refine AOps.call (o_move _ rfl rfl) ?_
  refine AOps.call (o_bin _ _ rfl rfl (fun _ => rfl) rfl) ?_
  refine AOps.nil ?_
  refine AWP.cond _ rfl (fun h11 => ?_) (fun h11 => ?_)
  · skip
    exfalso
    exact absurd h11 (by decide)
  · skip
    refine AWP.skip ?_
    refine AWP.seq ?_
    refine AWP.region ?_
    refine AOps.call (o_loadRef _ rfl rfl Tryz.sizeOf91 Tryz.isAgg91 rfl rfl rfl) ?_
    refine AOps.call (o_call (casesL_s p w (okP_iff.1 he) hq) Tryz.call66 rfl rfl) ?_
    refine AOps.call (o_extract _ rfl rfl rfl rfl) ?_
    refine AOps.call (o_extract _ rfl rfl rfl rfl) ?_
    refine AOps.call (o_assign _ rfl rfl) ?_
    refine AOps.call (o_assign _ rfl rfl) ?_
    refine AOps.nil ?_
    refine AWP.ret ?_
    exact postQ.ret2 Tryz.results23 rfl rfl rfl
set_option maxRecDepth 20000 in
theorem Cases_log (p : Plw) (w : List Sp) (hw1 : w.length ≤ 9223372036854775807) (he : okP p = false) : FSpec Tryz.prog 23 [.agg (eP p), .sl (sps w)] (.tup [.sl [], I 30]) (none) := by
  refine FSpec.of_body Tryz.func23 rfl (leB rfl) fun w0 M0 => ?_
  refine AWP.seq ?_
  refine AWP.region ?_
  refine AOps.call (o_box _ rfl rfl rfl) ?_
  refine AOps.call (o_nil (z := 1) (e := 25) rfl) ?_
  refine AOps.call (o_assign _ rfl rfl) ?_
  refine AOps.nil ?_
  refine AWP.seq ?_
  refine AWP.region ?_
  refine AOps.call (o_loadRef _ rfl rfl Tryz.sizeOf24 Tryz.isAgg24 rfl rfl rfl) ?_
  refine AOps.call (o_move _ rfl rfl) ?_
  refine AOps.call (o_call (read_log p w hw1 he) Tryz.call65 rfl rfl) ?_
  refine AOps.call (o_move _ rfl rfl) ?_
  refine AOps.call (o_extract _ rfl rfl rfl rfl) ?_
  refine AOps.call (o_extract _ rfl rfl rfl rfl) ?_
  refine AOps.call (o_alloc ze91 rfl rfl) ?_
  refine AOps.cons (o_store _ _ rfl rfl Tryz.sizeOf91 rfl rfl rfl rfl rfl) ?_
  refine AOps.call (o_assign _ rfl rfl) ?_
  refine AOps.nil ?_
  refine AWP.seq ?_
  refine AWP.seq ?_
  refine AWP.region ?_
  refine AOps.call (o_move _ rfl rfl) ?_
  refine AOps.call (o_bin _ _ rfl rfl (fun _ => rfl) rfl) ?_
  refine AOps.nil ?_
  refine AWP.cond _ rfl (fun h11 => ?_) (fun h11 => ?_)
  · skip
    refine AWP.seq ?_
    refine AWP.region ?_
    refine AOps.call (o_move _ rfl rfl) ?_
    refine AOps.call (o_nil (z := 1) (e := 25) rfl) ?_
    refine AOps.call (o_assign _ rfl rfl) ?_
    refine AOps.nil ?_
    refine AWP.ret ?_
    exact postQ.ret2 Tryz.results23 rfl rfl rfl
  · skip
    exfalso
    exact absurd h11 (by decide)
set_option maxRecDepth 20000 in
theorem Cases_arg (p : Plw) (w : List Sp) (hw1 : w.length ≤ 9223372036854775807) (he : okP p = true) (hq : okW p w = false) : FSpec Tryz.prog 23 [.agg (eP p), .sl (sps w)] (.tup [.sl [], I 1]) (none) := by
  refine FSpec.of_body Tryz.func23 rfl (leB rfl) fun w0 M0 => ?_
  refine AWP.seq ?_
  refine AWP.region ?_
  refine AOps.call (o_box _ rfl rfl rfl) ?_
  refine AOps.call (o_nil (z := 1) (e := 25) rfl) ?_
  refine AOps.call (o_assign _ rfl rfl) ?_
  refine AOps.nil ?_
  refine AWP.seq ?_
  refine AWP.region ?_
  refine AOps.call (o_loadRef _ rfl rfl Tryz.sizeOf24 Tryz.isAgg24 rfl rfl rfl) ?_
  refine AOps.call (o_move _ rfl rfl) ?_
  refine AOps.call (o_call (read_arg p w hw1 he hq) Tryz.call65 rfl rfl) ?_
  refine AOps.call (o_move _ rfl rfl) ?_
  refine AOps.call (o_extract _ rfl rfl rfl rfl) ?_
  refine AOps.call (o_extract _ rfl rfl rfl rfl) ?_
  refine AOps.call (o_alloc ze91 rfl rfl) ?_
  refine AOps.cons (o_store _ _ rfl rfl Tryz.sizeOf91 rfl rfl rfl rfl rfl) ?_
  refine AOps.call (o_assign _ rfl rfl) ?_
  refine AOps.nil ?_
  refine AWP.seq ?_
  refine AWP.seq ?_
  refine AWP.region ?_
  refine AOps.call (o_move _ rfl rfl) ?_
  refine AOps.call (o_bin _ _ rfl rfl (fun _ => rfl) rfl) ?_
  refine AOps.nil ?_
  refine AWP.cond _ rfl (fun h11 => ?_) (fun h11 => ?_)
  · skip
    refine AWP.seq ?_
    refine AWP.region ?_
    refine AOps.call (o_move _ rfl rfl) ?_
    refine AOps.call (o_nil (z := 1) (e := 25) rfl) ?_
    refine AOps.call (o_assign _ rfl rfl) ?_
    refine AOps.nil ?_
    refine AWP.ret ?_
    exact postQ.ret2 Tryz.results23 rfl rfl rfl
  · skip
    exfalso
    exact absurd h11 (by decide)
theorem Cases_s (p : Plw) (w : List Sp) (hw1 : w.length ≤ 9223372036854775807) : FSpec Tryz.prog 23 [.agg (eP p), .sl (sps w)] (.tup [.sl (css (CasL p w)), I (CasE p w)]) none := by
  unfold CasL CasE
  by_cases he : okP p = true
  · by_cases hq : okW p w = true
    · rw [rdE_ok he hq]; exact Cases_ok p w hw1 he hq
    · rw [rdE_arg he (by simpa using hq)]; exact Cases_arg p w hw1 he (by simpa using hq)
  · rw [rdE_log (by simpa using he)]; exact Cases_log p w hw1 (by simpa using he)
end Go.Proofs.YtelenedgaoglaaaGreatDoor
set_option linter.unusedSimpArgs false
set_option linter.unusedVariables false
namespace Go.Proofs.YtelenedgaoglaaaGreatDoor
open Go.Ab
open Go.Pil Go.RowKit
def hasB (p : Plw) (n : Int) : Bool := decide (0 ≤ n) && decide (n < p.log.length)
def atE (p : Plw) (w : List Sp) (n : Int) : Int := if rdE p w = 0 then (if hasB p n = true then 0 else 1) else rdE p w
theorem atE_0 {p w n} (h : atE p w n = 0) : okP p = true ∧ okW p w = true ∧ hasB p n = true := by
  unfold atE at h
  split at h
  · rename_i h1
    split at h
    · rename_i h2; exact ⟨(rdE_0 h1).1, (rdE_0 h1).2, h2⟩
    · omega
  · rename_i h1; exact absurd h h1
set_option maxRecDepth 20000 in
theorem casesAt_ok (p : Plw) (w : List Sp) (n : Int) (hw1 : w.length ≤ 9223372036854775807) (he : okP p = true) (hq : okW p w = true) (hh : hasB p n = true) : FSpec Tryz.prog 76 [.agg (eP p), .sl (sps w), I n] (.tup [.agg (eR p w), .sl (css (casL p w)), I (casE p w)]) (none) := by
  refine FSpec.of_body Tryz.func76 rfl (leB rfl) fun w0 M0 => ?_
  refine AWP.seq ?_
  refine AWP.region ?_
  refine AOps.call (o_box _ rfl rfl rfl) ?_
  refine AOps.call (o_alloc ze91 rfl rfl) ?_
  refine AOps.call (o_nil (z := 1) (e := 25) rfl) ?_
  refine AOps.call (o_assign _ rfl rfl) ?_
  refine AOps.nil ?_
  refine AWP.seq ?_
  refine AWP.region ?_
  refine AOps.call (o_loadRef _ rfl rfl Tryz.sizeOf24 Tryz.isAgg24 rfl rfl rfl) ?_
  refine AOps.call (o_move _ rfl rfl) ?_
  refine AOps.call (o_call (read_ok p w hw1 he hq) Tryz.call65 rfl rfl) ?_
  refine AOps.call (o_move _ rfl rfl) ?_
  refine AOps.call (o_extract _ rfl rfl rfl rfl) ?_
  refine AOps.call (o_extract _ rfl rfl rfl rfl) ?_
  refine AOps.call (o_alloc ze91 rfl rfl) ?_
  refine AOps.cons (o_store _ _ rfl rfl Tryz.sizeOf91 rfl rfl rfl rfl rfl) ?_
  refine AOps.call (o_assign _ rfl rfl) ?_
  refine AOps.nil ?_
  refine AWP.seq ?_
  refine AWP.seq ?_
  refine AWP.region ?_
  refine AOps.call (o_move _ rfl rfl) ?_
  refine AOps.call (o_bin _ _ rfl rfl (fun _ => rfl) rfl) ?_
  refine AOps.nil ?_
  refine AWP.cond _ rfl (fun h12 => ?_) (fun h12 => ?_)
  · skip
    exfalso
    exact absurd h12 (by decide)
  · skip
    refine AWP.skip ?_
    refine AWP.seq ?_
    refine AWP.seq ?_
    refine AWP.region ?_
    refine AOps.call (o_fieldRef _ rfl fa91_0 rfl rfl) ?_
    refine AOps.call (o_loadRef _ rfl rfl Tryz.sizeOf83 Tryz.isAgg83 rfl rfl rfl) ?_
    refine AOps.call (o_move _ rfl rfl) ?_
    refine AOps.call (o_call (has_s p n) Tryz.call56 rfl rfl) ?_
    refine AOps.call (o_un _ rfl (fun _ => rfl) rfl) ?_
    refine AOps.nil ?_
    refine AWP.cond _ rfl (fun h18 => ?_) (fun h18 => ?_)
    · skip
      exfalso
      unfold hasB at hh
      rw [hh] at h18
      exact absurd h18 (by decide)
    · skip
      skip
      refine AWP.skip ?_
      refine AWP.seq ?_
      refine AWP.region ?_
      refine AOps.call (o_loadRef _ rfl rfl Tryz.sizeOf91 Tryz.isAgg91 rfl rfl rfl) ?_
      refine AOps.call (o_call (casesL_s p w (okP_iff.1 he) hq) Tryz.call66 rfl rfl) ?_
      refine AOps.call (o_move _ rfl rfl) ?_
      refine AOps.call (o_extract _ rfl rfl rfl rfl) ?_
      refine AOps.call (o_extract _ rfl rfl rfl rfl) ?_
      refine AOps.call (o_assign _ rfl rfl) ?_
      refine AOps.call (o_assign _ rfl rfl) ?_
      refine AOps.nil ?_
      refine AWP.seq ?_
      refine AWP.region ?_
      refine AOps.call (o_loadRef _ rfl rfl Tryz.sizeOf91 Tryz.isAgg91 rfl rfl rfl) ?_
      refine AOps.call (o_move _ rfl rfl) ?_
      refine AOps.call (o_move _ rfl rfl) ?_
      refine AOps.cons (o_store _ _ rfl rfl Tryz.sizeOf91 rfl rfl rfl rfl rfl) ?_
      refine AOps.call (o_assign _ rfl rfl) ?_
      refine AOps.call (o_assign _ rfl rfl) ?_
      refine AOps.nil ?_
      refine AWP.ret ?_
      exact postQ.retC2 Tryz.results76 rfl rfl Tryz.sizeOf91 Tryz.isAgg91 rfl rfl rfl rfl
set_option maxRecDepth 20000 in
theorem casesAt_no (p : Plw) (w : List Sp) (n : Int) (hw1 : w.length ≤ 9223372036854775807) (he : okP p = true) (hq : okW p w = true) (hh : hasB p n = false) : FSpec Tryz.prog 76 [.agg (eP p), .sl (sps w), I n] (.tup [.agg zR, .sl [], I 1]) (none) := by
  refine FSpec.of_body Tryz.func76 rfl (leB rfl) fun w0 M0 => ?_
  refine AWP.seq ?_
  refine AWP.region ?_
  refine AOps.call (o_box _ rfl rfl rfl) ?_
  refine AOps.call (o_alloc ze91 rfl rfl) ?_
  refine AOps.call (o_nil (z := 1) (e := 25) rfl) ?_
  refine AOps.call (o_assign _ rfl rfl) ?_
  refine AOps.nil ?_
  refine AWP.seq ?_
  refine AWP.region ?_
  refine AOps.call (o_loadRef _ rfl rfl Tryz.sizeOf24 Tryz.isAgg24 rfl rfl rfl) ?_
  refine AOps.call (o_move _ rfl rfl) ?_
  refine AOps.call (o_call (read_ok p w hw1 he hq) Tryz.call65 rfl rfl) ?_
  refine AOps.call (o_move _ rfl rfl) ?_
  refine AOps.call (o_extract _ rfl rfl rfl rfl) ?_
  refine AOps.call (o_extract _ rfl rfl rfl rfl) ?_
  refine AOps.call (o_alloc ze91 rfl rfl) ?_
  refine AOps.cons (o_store _ _ rfl rfl Tryz.sizeOf91 rfl rfl rfl rfl rfl) ?_
  refine AOps.call (o_assign _ rfl rfl) ?_
  refine AOps.nil ?_
  refine AWP.seq ?_
  refine AWP.seq ?_
  refine AWP.region ?_
  refine AOps.call (o_move _ rfl rfl) ?_
  refine AOps.call (o_bin _ _ rfl rfl (fun _ => rfl) rfl) ?_
  refine AOps.nil ?_
  refine AWP.cond _ rfl (fun h12 => ?_) (fun h12 => ?_)
  · skip
    exfalso
    exact absurd h12 (by decide)
  · skip
    refine AWP.skip ?_
    refine AWP.seq ?_
    refine AWP.seq ?_
    refine AWP.region ?_
    refine AOps.call (o_fieldRef _ rfl fa91_0 rfl rfl) ?_
    refine AOps.call (o_loadRef _ rfl rfl Tryz.sizeOf83 Tryz.isAgg83 rfl rfl rfl) ?_
    refine AOps.call (o_move _ rfl rfl) ?_
    refine AOps.call (o_call (has_s p n) Tryz.call56 rfl rfl) ?_
    refine AOps.call (o_un _ rfl (fun _ => rfl) rfl) ?_
    refine AOps.nil ?_
    refine AWP.cond _ rfl (fun h18 => ?_) (fun h18 => ?_)
    · skip
      skip
      refine AWP.seq ?_
      refine AWP.region ?_
      refine AOps.call (o_build bu91 rfl rfl rfl) ?_
      refine AOps.cons (o_store _ _ rfl rfl Tryz.sizeOf91 rfl rfl rfl rfl rfl) ?_
      refine AOps.call (o_nil (z := 1) (e := 25) rfl) ?_
      refine AOps.call (o_assign _ rfl rfl) ?_
      refine AOps.nil ?_
      refine AWP.ret ?_
      exact postQ.retC2 Tryz.results76 rfl rfl Tryz.sizeOf91 Tryz.isAgg91 rfl rfl rfl rfl
    · skip
      exfalso
      unfold hasB at hh
      rw [hh] at h18
      exact absurd h18 (by decide)
set_option maxRecDepth 20000 in
theorem casesAt_log (p : Plw) (w : List Sp) (n : Int) (hw1 : w.length ≤ 9223372036854775807) (he : okP p = false) : FSpec Tryz.prog 76 [.agg (eP p), .sl (sps w), I n] (.tup [.agg zR, .sl [], I 30]) (none) := by
  refine FSpec.of_body Tryz.func76 rfl (leB rfl) fun w0 M0 => ?_
  refine AWP.seq ?_
  refine AWP.region ?_
  refine AOps.call (o_box _ rfl rfl rfl) ?_
  refine AOps.call (o_alloc ze91 rfl rfl) ?_
  refine AOps.call (o_nil (z := 1) (e := 25) rfl) ?_
  refine AOps.call (o_assign _ rfl rfl) ?_
  refine AOps.nil ?_
  refine AWP.seq ?_
  refine AWP.region ?_
  refine AOps.call (o_loadRef _ rfl rfl Tryz.sizeOf24 Tryz.isAgg24 rfl rfl rfl) ?_
  refine AOps.call (o_move _ rfl rfl) ?_
  refine AOps.call (o_call (read_log p w hw1 he) Tryz.call65 rfl rfl) ?_
  refine AOps.call (o_move _ rfl rfl) ?_
  refine AOps.call (o_extract _ rfl rfl rfl rfl) ?_
  refine AOps.call (o_extract _ rfl rfl rfl rfl) ?_
  refine AOps.call (o_alloc ze91 rfl rfl) ?_
  refine AOps.cons (o_store _ _ rfl rfl Tryz.sizeOf91 rfl rfl rfl rfl rfl) ?_
  refine AOps.call (o_assign _ rfl rfl) ?_
  refine AOps.nil ?_
  refine AWP.seq ?_
  refine AWP.seq ?_
  refine AWP.region ?_
  refine AOps.call (o_move _ rfl rfl) ?_
  refine AOps.call (o_bin _ _ rfl rfl (fun _ => rfl) rfl) ?_
  refine AOps.nil ?_
  refine AWP.cond _ rfl (fun h12 => ?_) (fun h12 => ?_)
  · skip
    refine AWP.seq ?_
    refine AWP.region ?_
    refine AOps.call (o_build bu91 rfl rfl rfl) ?_
    refine AOps.call (o_move _ rfl rfl) ?_
    refine AOps.cons (o_store _ _ rfl rfl Tryz.sizeOf91 rfl rfl rfl rfl rfl) ?_
    refine AOps.call (o_nil (z := 1) (e := 25) rfl) ?_
    refine AOps.call (o_assign _ rfl rfl) ?_
    refine AOps.nil ?_
    refine AWP.ret ?_
    exact postQ.retC2 Tryz.results76 rfl rfl Tryz.sizeOf91 Tryz.isAgg91 rfl rfl rfl rfl
  · skip
    exfalso
    exact absurd h12 (by decide)
set_option maxRecDepth 20000 in
theorem casesAt_arg (p : Plw) (w : List Sp) (n : Int) (hw1 : w.length ≤ 9223372036854775807) (he : okP p = true) (hq : okW p w = false) : FSpec Tryz.prog 76 [.agg (eP p), .sl (sps w), I n] (.tup [.agg zR, .sl [], I 1]) (none) := by
  refine FSpec.of_body Tryz.func76 rfl (leB rfl) fun w0 M0 => ?_
  refine AWP.seq ?_
  refine AWP.region ?_
  refine AOps.call (o_box _ rfl rfl rfl) ?_
  refine AOps.call (o_alloc ze91 rfl rfl) ?_
  refine AOps.call (o_nil (z := 1) (e := 25) rfl) ?_
  refine AOps.call (o_assign _ rfl rfl) ?_
  refine AOps.nil ?_
  refine AWP.seq ?_
  refine AWP.region ?_
  refine AOps.call (o_loadRef _ rfl rfl Tryz.sizeOf24 Tryz.isAgg24 rfl rfl rfl) ?_
  refine AOps.call (o_move _ rfl rfl) ?_
  refine AOps.call (o_call (read_arg p w hw1 he hq) Tryz.call65 rfl rfl) ?_
  refine AOps.call (o_move _ rfl rfl) ?_
  refine AOps.call (o_extract _ rfl rfl rfl rfl) ?_
  refine AOps.call (o_extract _ rfl rfl rfl rfl) ?_
  refine AOps.call (o_alloc ze91 rfl rfl) ?_
  refine AOps.cons (o_store _ _ rfl rfl Tryz.sizeOf91 rfl rfl rfl rfl rfl) ?_
  refine AOps.call (o_assign _ rfl rfl) ?_
  refine AOps.nil ?_
  refine AWP.seq ?_
  refine AWP.seq ?_
  refine AWP.region ?_
  refine AOps.call (o_move _ rfl rfl) ?_
  refine AOps.call (o_bin _ _ rfl rfl (fun _ => rfl) rfl) ?_
  refine AOps.nil ?_
  refine AWP.cond _ rfl (fun h12 => ?_) (fun h12 => ?_)
  · skip
    refine AWP.seq ?_
    refine AWP.region ?_
    refine AOps.call (o_build bu91 rfl rfl rfl) ?_
    refine AOps.call (o_move _ rfl rfl) ?_
    refine AOps.cons (o_store _ _ rfl rfl Tryz.sizeOf91 rfl rfl rfl rfl rfl) ?_
    refine AOps.call (o_nil (z := 1) (e := 25) rfl) ?_
    refine AOps.call (o_assign _ rfl rfl) ?_
    refine AOps.nil ?_
    refine AWP.ret ?_
    exact postQ.retC2 Tryz.results76 rfl rfl Tryz.sizeOf91 Tryz.isAgg91 rfl rfl rfl rfl
  · skip
    exfalso
    exact absurd h12 (by decide)
theorem casesAt_bad (p : Plw) (w : List Sp) (n : Int) (hw1 : w.length ≤ 9223372036854775807) (h : atE p w n ≠ 0) : FSpec Tryz.prog 76 [.agg (eP p), .sl (sps w), I n] (.tup [.agg zR, .sl [], I (atE p w n)]) none := by
  by_cases he : okP p = true
  · by_cases hq : okW p w = true
    · have hh : hasB p n = false := by
        unfold atE at h
        rw [if_pos (rdE_ok he hq)] at h
        by_cases h2 : hasB p n = true
        · rw [if_pos h2] at h; exact absurd rfl h
        · simpa using h2
      have e : atE p w n = 1 := by unfold atE; rw [if_pos (rdE_ok he hq), if_neg (by rw [hh]; decide)]
      rw [e]; exact casesAt_no p w n hw1 he hq hh
    · have e : atE p w n = 1 := by unfold atE; rw [rdE_arg he (by simpa using hq)]; rfl
      rw [e]; exact casesAt_arg p w n hw1 he (by simpa using hq)
  · have e : atE p w n = 30 := by unfold atE; rw [rdE_log (by simpa using he)]; rfl
    rw [e]; exact casesAt_log p w n hw1 (by simpa using he)
def posS (p : Plw) (w : List Sp) (n : Int) (l : List Int) : Sp := En ((p.pb w).a l) (p.pb w).w p.log.length n.toNat
theorem ends_at {p : Plw} {w : List Sp} {n : Int} {l : List Int} (hl : l.length = p.log.length) (hh : hasB p n = true) : (sps (endsP p w l))[n.toNat]? = some (eN (posS p w n l)) := by
  unfold hasB at hh
  simp only [Bool.and_eq_true, decide_eq_true_eq] at hh
  have h1 : n.toNat < l.length := by omega
  simp [sps, endsP, h1, endP, posS, hl]
  exact ⟨n.toNat, by rw [List.getElem?_range (by omega)], rfl⟩
theorem posS_ne {p : Plw} {w : List Sp} {n : Int} {l : List Int} (hw : okW p w = true) (hr : Rem (p.pb w) p.log.length l) (hh : hasB p n = true) : (posS p w n l).Ne := by
  unfold hasB at hh
  simp only [Bool.and_eq_true, decide_eq_true_eq] at hh
  exact En_ne (fun k _ => (okW_WB hw k).2.2) hr.2.2 (by omega)
theorem posS_bd {p : Plw} (hp : OkP p) {w : List Sp} {n : Int} {l : List Int} (hw : okW p w = true) (hr : Rem (p.pb w) p.log.length l) (hh : hasB p n = true) : BdS (posS p w n l) := by
  have h1 := posS_ne hw hr hh
  have h2 : (posS p w n l).In _ := En_in
  have h3 := allow_InB hp w n.toNat (l.getD n.toNat 0)
  have h4 : 0 ≤ ((p.pb w).a l n.toNat).lo ∧ ((p.pb w).a l n.toNat).hi ≤ 65536 := h3
  simp only [Sp.In] at h2
  simp only [Sp.Ne] at h1
  unfold BdS
  omega
def posL (p : Plw) (w : List Sp) (n : Int) : List Sp := uni ((casL p w).map (posS p w n))
abbrev accP (p : Plw) (w : List Sp) (n : Int) (i : Nat) : List Sp := ((casL p w).take i).map (posS p w n)
theorem alive_of {p : Plw} {w : List Sp} {l : List Int} (hr : Rem (p.pb w) p.log.length l) : aliveP p w l := by
  unfold aliveP; rw [hr.1]; exact hr.2.2
theorem loads_c (p : Plw) (w : List Sp) (l : List Int) (hp : OkP p) (hw : okW p w = true) (hr : Rem (p.pb w) p.log.length l) : FSpec Tryz.prog 70 [.agg (eR p w), .sl (ints l)] (.tup [.sl (sps (endsP p w l)), B true]) (none) := by
  have h := loads_s p w l hp hw hr.1
  rw [if_pos (alive_of hr), decide_eq_true (alive_of hr)] at h
  exact h
set_option maxRecDepth 20000 in
theorem Possible_ok (p : Plw) (w : List Sp) (n : Int) (hw1 : w.length ≤ 9223372036854775807) (he : okP p = true) (hq : okW p w = true) (hh : hasB p n = true) : FSpec Tryz.prog 39 [.agg (eP p), .sl (sps w), I n] (.tup [.sl (sps (posL p w n)), I (casE p w)]) none := by
  refine FSpec.of_bodyJ Tryz.func39 rfl (leB rfl) fun F0 w0 M0 => ?_
  have hp := okP_iff.1 he
  have h32 := hp.len
  have hcl := casL_len p w
  have hgl := css_len (casL p w)
  refine AWPJ.seq ?_
  refine AWPJ.lift (fun u N => ?_)
  refine AWP.region ?_
  refine AOps.call (o_box _ rfl rfl rfl) ?_
  refine AOps.call (o_nil (z := 2) (e := 54) rfl) ?_
  refine AOps.call (o_assign _ rfl rfl) ?_
  refine AOps.nil ?_
  refine AWPJ.seq ?_
  refine AWPJ.lift (fun u N => ?_)
  refine AWP.region ?_
  refine AOps.call (o_loadRef _ rfl rfl Tryz.sizeOf24 Tryz.isAgg24 rfl rfl rfl) ?_
  refine AOps.call (o_move _ rfl rfl) ?_
  refine AOps.call (o_move _ rfl rfl) ?_
  refine AOps.call (o_call (casesAt_ok p w n hw1 he hq hh) Tryz.call76 rfl rfl) ?_
  refine AOps.call (o_move _ rfl rfl) ?_
  refine AOps.call (o_extract _ rfl rfl rfl rfl) ?_
  refine AOps.call (o_extract _ rfl rfl rfl rfl) ?_
  refine AOps.call (o_extract _ rfl rfl rfl rfl) ?_
  refine AOps.call (o_alloc ze91 rfl rfl) ?_
  refine AOps.cons (o_store _ _ rfl rfl Tryz.sizeOf91 rfl rfl rfl rfl rfl) ?_
  refine AOps.call (o_assign _ rfl rfl) ?_
  refine AOps.call (o_assign _ rfl rfl) ?_
  refine AOps.nil ?_
  refine AWPJ.seq ?_
  refine AWPJ.seq ?_
  refine AWPJ.lift (fun u N => ?_)
  refine AWP.region ?_
  refine AOps.call (o_move _ rfl rfl) ?_
  refine AOps.call (o_bin _ _ rfl rfl (fun _ => rfl) rfl) ?_
  refine AOps.nil ?_
  refine AWPJ.cond _ rfl (fun h13 => ?_) (fun h13 => ?_)
  · skip
    have hne : casE p w ≠ 0 := by simpa using h13
    obtain ⟨hnil, _⟩ := casE_ne hne
    refine AWPJ.seq ?_
    refine AWPJ.lift (fun u N => ?_)
    refine AWP.region ?_
    refine AOps.call (o_move _ rfl rfl) ?_
    refine AOps.call (o_nil (z := 2) (e := 54) rfl) ?_
    refine AOps.call (o_assign _ rfl rfl) ?_
    refine AOps.nil ?_
    refine AWPJ.ret ?_
    try dsimp only [seqQJ, blockQJ, roundQJ]
    try rw [show Nat.beq 0 0 = true from rfl, cond_true]
    refine postQJ.ret2 Tryz.results39 rfl rfl rfl ?_
    first
    | (rw [show posL p w n = [] by unfold posL; rw [hnil]; simp [uni]; rfl]; rfl)
    | (rw [hz]; unfold posL; rw [hacc]; rfl)
  · skip
    have hz : casE p w = 0 := by simpa using h13
    refine AWPJ.skip ?_
    refine AWPJ.seq ?_
    refine AWPJ.lift (fun u N => ?_)
    refine AWP.region ?_
    refine AOps.call (o_assignK rfl) ?_
    refine AOps.nil ?_
    refine AWPJ.seq ?_
    refine AWPJ.seq ?_
    refine AWPJ.lift (fun u N => ?_)
    refine AWP.region ?_
    refine AOps.call (o_move _ rfl rfl) ?_
    refine AOps.call (o_len _ Tryz.underlying40 rfl rfl) ?_
    refine AOps.call (o_move _ rfl rfl) ?_
    refine AOps.nil ?_
    refine AWPJ.block ?_
    refine AWPJ.loop (ι := Nat × Option Addr × Nat) (fun i => JR i.2.1 i.2.2 (accP p w n i.1)) (fun i => AS.mk' 50 [(2, I n), (8, .ref (8, 0) 0), (11, .sc (.slice i.2.1 (accP p w n i.1).length i.2.2)), (27, .sl (css (casL p w))), (28, I (css (casL p w)).length), (29, I i.1)] [((8, 0), eR p w)] [] [(8, 1)]) (fun i => i.1 ≤ (casL p w).length) (fun i => (casL p w).length - i.1) (0, none, 0) (WeakJ.trans WeakJ.nilRow0 (Weak.toJ (Weak.mk' rfl ⟨⟨.refl rfl, rfl⟩, ⟨⟨.refl rfl, rfl⟩, ⟨⟨.refl rfl, rfl⟩, ⟨⟨.refl rfl, rfl⟩, ⟨⟨.refl rfl, rfl⟩, ⟨⟨.refl rfl, rfl⟩, trivial⟩⟩⟩⟩⟩⟩ ⟨⟨rfl, rfl, rfl⟩, trivial⟩ trivial))) (Nat.zero_le _) ?_
    rintro ⟨k, a1, cap1⟩ hk
    try dsimp only at *
    refine AWPJ.seq ?_
    refine AWPJ.lift (fun u N => ?_)
    refine AWP.region ?_
    refine AOps.call (o_bin _ _ rfl rfl (fun _ => rfl) rfl) ?_
    refine AOps.nil ?_
    refine AWPJ.seq ?_
    refine AWPJ.cond _ rfl (fun h19 => ?_) (fun h19 => ?_)
    · skip
      have hlt : k < (casL p w).length := by have := of_decide_eq_true h19; omega
      have hel := css_at hlt
      have hrm := casL_mem hp (List.getElem_mem hlt)
      have hen := ends_at (w := w) hrm.1 hh
      have hnn : 0 ≤ n := by unfold hasB at hh; simp only [Bool.and_eq_true, decide_eq_true_eq] at hh; exact hh.1
      have hal : (accP p w n k).length ≤ k := by simp [accP]; omega
      have hsuc : accP p w n (k + 1) = accP p w n k ++ [posS p w n (casL p w)[k]] := by unfold accP; rw [List.take_succ_eq_append_getElem hlt, List.map_append]; rfl
      refine AWPJ.skip ?_
      refine AWPJ.seq ?_
      refine AWPJ.block ?_
      refine AWPJ.seq ?_
      refine AWPJ.lift (fun u N => ?_)
      refine AWP.region ?_
      refine AOps.call (o_index _ _ Tryz.underlying40 Tryz.sizeOf25 rfl rfl (by omega) (by assumption) rfl rfl) ?_
      refine AOps.call (o_loadRd _ rfl Tryz.sizeOf25 Tryz.isAgg25 rfl rfl rfl) ?_
      refine AOps.call (o_assign _ rfl rfl) ?_
      refine AOps.nil ?_
      refine AWPJ.seq ?_
      refine AWPJ.lift (fun u N => ?_)
      refine AWP.region ?_
      refine AOps.call (o_loadRef _ rfl rfl Tryz.sizeOf91 Tryz.isAgg91 rfl rfl rfl) ?_
      refine AOps.call (o_move _ rfl rfl) ?_
      refine AOps.call (o_call (loads_c p w (casL p w)[k] hp hq hrm) Tryz.call70 rfl rfl) ?_
      refine AOps.call (o_move _ rfl rfl) ?_
      refine AOps.call (o_extract _ rfl rfl rfl rfl) ?_
      refine AOps.call (o_extract _ rfl rfl rfl rfl) ?_
      refine AOps.call (o_assign _ rfl rfl) ?_
      refine AOps.call (o_assign _ rfl rfl) ?_
      refine AOps.nil ?_
      refine AWPJ.seq ?_
      refine AWPJ.lift (fun u N => ?_)
      refine AWP.region ?_
      refine AOps.call (o_move _ rfl rfl) ?_
      refine AOps.nil ?_
      refine AWPJ.cond _ rfl (fun h26 => ?_) (fun h26 => ?_)
      · skip
        skip
        refine AWPJ.region ?_
        refine AOpsJ.call (fun u N => o_move _ rfl rfl) ?_
        refine AOpsJ.call (fun u N => o_move _ rfl rfl) ?_
        refine AOpsJ.call (fun u N => o_move _ rfl rfl) ?_
        refine AOpsJ.call (fun u N => o_index _ _ Tryz.underlying38 Tryz.sizeOf54 rfl rfl hnn hen rfl rfl) ?_
        refine AOpsJ.call (fun u N => o_loadRd _ rfl Tryz.sizeOf54 Tryz.isAgg54 rfl rfl rfl) ?_
        refine AOpsJ.call (fun u N => o_lit Tryz.underlying38 Tryz.sizeOf54 Tryz.zeroValue54 rfl rfl rfl rfl rfl rfl rfl) ?_
        refine AOpsJ.op (o_appendRow (n := (accP p w n k).length) (cs := (sps (accP p w n k)).flatten) (ns := [[I (posS p w n (casL p w)[k]).lo, I (posS p w n (casL p w)[k]).hi]]) _ _ Tryz.underlying38 info54 rfl rfl rfl rfl rfl rfl rfl (fun c hc => by simp at hc; subst hc; rfl) (by unfold Tryz.t54; simp only [List.length_cons, List.length_nil]; omega) rfl (by simp) (.inl fun c hc => by simp [I] at hc; rcases hc with rfl | rfl <;> exact ⟨_, rfl⟩) rfl) ?_
        rintro _ _ ⟨_, ⟨a2, cap2, rfl, rfl⟩, rfl⟩
        refine AOpsJ.call (fun u N => o_assign _ rfl rfl) ?_
        refine AOpsJ.nil ?_
        refine AWPJ.lift (fun u N => ?_)
        refine AWP.region ?_
        refine AOps.call (o_add _ _ rfl rfl ⟨by (try dsimp only); omega, by (try dsimp only); omega⟩ rfl) ?_
        refine AOps.call (o_move _ rfl rfl) ?_
        refine AOps.nil ?_
        refine ⟨(k + 1, some a2, cap2), ⟨(by (try dsimp only); omega), by (try dsimp only); omega⟩, WeakJ.cast (by rw [sps_app1, show (accP p w n k).length + [[I (posS p w n (casL p w)[k]).lo, I (posS p w n (casL p w)[k]).hi]].length = (accP p w n k ++ [posS p w n (casL p w)[k]]).length by simp, ← hsuc]) (Weak.toJ (Weak.mk' rfl ⟨⟨.refl rfl, rfl⟩, ⟨⟨.refl rfl, rfl⟩, ⟨⟨.refl (by rw [hsuc, List.length_append]; rfl), rfl⟩, ⟨⟨.refl rfl, rfl⟩, ⟨⟨.refl rfl, rfl⟩, ⟨⟨.refl rfl, rfl⟩, trivial⟩⟩⟩⟩⟩⟩ ⟨⟨rfl, rfl, rfl⟩, trivial⟩ trivial))⟩
      · skip
        exfalso
        exact absurd h26 (by decide)
    · skip
      have hkl : k = (casL p w).length := by have := of_decide_eq_false h19; omega
      have hacc : accP p w n k = (casL p w).map (posS p w n) := by unfold accP; rw [hkl, List.take_length]
      refine AWPJ.exit ?_
      refine AWPJ.seq ?_
      refine AWPJ.region ?_
      refine AOpsJ.call (fun u N => o_move _ rfl rfl) ?_
      refine AOpsJ.op (o_callJ (union_s (accP p w n k) a1 cap1 (by rw [hacc, List.length_map]; omega) (fun s hs => by rw [hacc] at hs; obtain ⟨l, hl, rfl⟩ := List.mem_map.1 hs; exact posS_bd hp hq (casL_mem hp hl) hh) (fun s hs => by rw [hacc] at hs; obtain ⟨l, hl, rfl⟩ := List.mem_map.1 hs; exact posS_ne hq (casL_mem hp hl) hh)) Tryz.call77 rfl (.inl rfl) rfl) ?_
      rintro _ _ ⟨_, ⟨rfl, rfl⟩, rfl⟩
      refine AOpsJ.call (fun u N => o_assign _ rfl rfl) ?_
      refine AOpsJ.call (fun u N => o_assign _ rfl rfl) ?_
      refine AOpsJ.nil ?_
      refine AWPJ.ret ?_
      try dsimp only [seqQJ, blockQJ, roundQJ]
      try rw [show Nat.beq 0 0 = true from rfl, cond_true]
      refine postQJ.ret2 Tryz.results39 rfl rfl rfl ?_
      first
      | (rw [show posL p w n = [] by unfold posL; rw [hnil]; simp [uni]; rfl]; rfl)
      | (rw [hz]; unfold posL; rw [hacc]; rfl)
set_option maxRecDepth 20000 in
theorem Possible_bad (p : Plw) (w : List Sp) (n : Int) (hw1 : w.length ≤ 9223372036854775807) (h : atE p w n ≠ 0) : FSpec Tryz.prog 39 [.agg (eP p), .sl (sps w), I n] (.tup [.sl [], I (atE p w n)]) (none) := by
  refine FSpec.of_body Tryz.func39 rfl (leB rfl) fun w0 M0 => ?_
  refine AWP.seq ?_
  refine AWP.region ?_
  refine AOps.call (o_box _ rfl rfl rfl) ?_
  refine AOps.call (o_nil (z := 2) (e := 54) rfl) ?_
  refine AOps.call (o_assign _ rfl rfl) ?_
  refine AOps.nil ?_
  refine AWP.seq ?_
  refine AWP.region ?_
  refine AOps.call (o_loadRef _ rfl rfl Tryz.sizeOf24 Tryz.isAgg24 rfl rfl rfl) ?_
  refine AOps.call (o_move _ rfl rfl) ?_
  refine AOps.call (o_move _ rfl rfl) ?_
  refine AOps.call (o_call (casesAt_bad p w n hw1 h) Tryz.call76 rfl rfl) ?_
  refine AOps.call (o_move _ rfl rfl) ?_
  refine AOps.call (o_extract _ rfl rfl rfl rfl) ?_
  refine AOps.call (o_extract _ rfl rfl rfl rfl) ?_
  refine AOps.call (o_extract _ rfl rfl rfl rfl) ?_
  refine AOps.call (o_alloc ze91 rfl rfl) ?_
  refine AOps.cons (o_store _ _ rfl rfl Tryz.sizeOf91 rfl rfl rfl rfl rfl) ?_
  refine AOps.call (o_assign _ rfl rfl) ?_
  refine AOps.call (o_assign _ rfl rfl) ?_
  refine AOps.nil ?_
  refine AWP.seq ?_
  refine AWP.seq ?_
  refine AWP.region ?_
  refine AOps.call (o_move _ rfl rfl) ?_
  refine AOps.call (o_bin _ _ rfl rfl (fun _ => rfl) rfl) ?_
  refine AOps.nil ?_
  refine AWP.cond _ rfl (fun h13 => ?_) (fun h13 => ?_)
  · skip
    refine AWP.seq ?_
    refine AWP.region ?_
    refine AOps.call (o_move _ rfl rfl) ?_
    refine AOps.call (o_nil (z := 2) (e := 54) rfl) ?_
    refine AOps.call (o_assign _ rfl rfl) ?_
    refine AOps.nil ?_
    refine AWP.ret ?_
    exact postQ.ret2 Tryz.results39 rfl rfl rfl
  · skip
    exfalso
    simp at h13
    exact h h13
def PosL (p : Plw) (w : List Sp) (n : Int) : List Sp := if atE p w n = 0 then posL p w n else []
def PosE (p : Plw) (w : List Sp) (n : Int) : Int := if atE p w n = 0 then casE p w else atE p w n
theorem Possible_s (p : Plw) (w : List Sp) (n : Int) (hw1 : w.length ≤ 9223372036854775807) : FSpec Tryz.prog 39 [.agg (eP p), .sl (sps w), I n] (.tup [.sl (sps (PosL p w n)), I (PosE p w n)]) none := by
  unfold PosL PosE
  by_cases h : atE p w n = 0
  · obtain ⟨h1, h2, h3⟩ := atE_0 h
    rw [if_pos h, if_pos h]; exact Possible_ok p w n hw1 h1 h2 h3
  · rw [if_neg h, if_neg h]; exact Possible_bad p w n hw1 h
end Go.Proofs.YtelenedgaoglaaaGreatDoor
set_option linter.unusedSimpArgs false
set_option linter.unusedVariables false
namespace Go.Proofs.YtelenedgaoglaaaGreatDoor
open Go.Ab
open Go.Pil Go.RowKit
theorem PosE_ne {p : Plw} {w : List Sp} {n : Int} (h : PosE p w n ≠ 0) : PosL p w n = [] := by
  unfold PosE at h
  unfold PosL
  split at h
  · rename_i h1
    rw [if_pos h1]
    obtain ⟨h2, _⟩ := casE_ne h
    unfold posL; rw [h2]; simp [uni]; rfl
  · rename_i h1; rw [if_neg h1]
def hullE (p : Plw) (w : List Sp) (n : Int) : Int := if PosE p w n ≠ 0 then PosE p w n else if PosL p w n = [] then 33 else 0
def hullS (p : Plw) (w : List Sp) (n : Int) : Sp := if PosL p w n = [] then ⟨0, 0⟩ else ⟨((PosL p w n).getD 0 ⟨0, 0⟩).lo, ((PosL p w n).getD ((PosL p w n).length - 1) ⟨0, 0⟩).hi⟩
theorem casL_bd (p : Plw) (w : List Sp) (n : Int) : (PosL p w n).length ≤ 64 := by
  unfold PosL posL
  split
  · refine Nat.le_trans ?_ (casL_len p w)
    have h := fold_len (((casL p w).map (posS p w n)).mergeSort fun a b => decide (a.lo ≤ b.lo)) []
    rw [fold_joined] at h
    simpa [uni] using h
  · simp
theorem sps_get0 {l : List Sp} {k : Int} {j : Nat} (h : k.toNat = j) (hj : j < l.length) : (sps l)[k.toNat]? = some (eN (l.getD j ⟨0, 0⟩)) := by
  subst h
  simp [sps, hj]
theorem ints_get0 {l : List Int} {k : Int} {j : Nat} (h : k.toNat = j) (hj : j < l.length) : (ints l)[k.toNat]? = some [I (l.getD j 0)] := by
  subst h
  simp [ints, hj]
set_option maxRecDepth 20000 in
theorem Hull_s (p : Plw) (w : List Sp) (n : Int) (hw1 : w.length ≤ 9223372036854775807) : FSpec Tryz.prog 41 [.agg (eP p), .sl (sps w), I n] (.tup [.agg (eN (hullS p w n)), I (hullE p w n)]) (none) := by
  refine FSpec.of_body Tryz.func41 rfl (leB rfl) fun w0 M0 => ?_
  have hbd := casL_bd p w n
  have hsl := sps_len (PosL p w n)
  refine AWP.seq ?_
  refine AWP.region ?_
  refine AOps.call (o_box _ rfl rfl rfl) ?_
  refine AOps.call (o_alloc ze54 rfl rfl) ?_
  refine AOps.call (o_assign _ rfl rfl) ?_
  refine AOps.nil ?_
  refine AWP.seq ?_
  refine AWP.region ?_
  refine AOps.call (o_loadRef _ rfl rfl Tryz.sizeOf24 Tryz.isAgg24 rfl rfl rfl) ?_
  refine AOps.call (o_move _ rfl rfl) ?_
  refine AOps.call (o_move _ rfl rfl) ?_
  refine AOps.call (o_call (Possible_s p w n hw1) Tryz.call39 rfl rfl) ?_
  refine AOps.call (o_move _ rfl rfl) ?_
  refine AOps.call (o_extract _ rfl rfl rfl rfl) ?_
  refine AOps.call (o_extract _ rfl rfl rfl rfl) ?_
  refine AOps.call (o_assign _ rfl rfl) ?_
  refine AOps.call (o_assign _ rfl rfl) ?_
  refine AOps.nil ?_
  refine AWP.seq ?_
  refine AWP.seq ?_
  refine AWP.region ?_
  refine AOps.call (o_move _ rfl rfl) ?_
  refine AOps.call (o_bin _ _ rfl rfl (fun _ => rfl) rfl) ?_
  refine AOps.nil ?_
  refine AWP.cond _ rfl (fun h11 => ?_) (fun h11 => ?_)
  · skip
    have hne : PosE p w n ≠ 0 := by simpa using h11
    have hS : hullS p w n = ⟨0, 0⟩ := if_pos (PosE_ne hne)
    have hE : hullE p w n = PosE p w n := if_pos hne
    refine AWP.seq ?_
    refine AWP.region ?_
    refine AOps.call (o_build bu54 rfl rfl rfl) ?_
    refine AOps.call (o_move _ rfl rfl) ?_
    refine AOps.cons (o_store _ _ rfl rfl Tryz.sizeOf54 rfl rfl rfl rfl rfl) ?_
    refine AOps.call (o_assign _ rfl rfl) ?_
    refine AOps.nil ?_
    refine AWP.ret ?_
    refine postQ.retC1 Tryz.results41 rfl rfl Tryz.sizeOf54 Tryz.isAgg54 rfl rfl ?_
    rw [hS, hE]
    rfl
  · skip
    have hz : ¬ PosE p w n ≠ 0 := by simpa using h11
    refine AWP.skip ?_
    refine AWP.seq ?_
    refine AWP.seq ?_
    refine AWP.region ?_
    refine AOps.call (o_move _ rfl rfl) ?_
    refine AOps.call (o_len _ Tryz.underlying38 rfl rfl) ?_
    refine AOps.call (o_bin _ _ rfl rfl (fun _ => rfl) rfl) ?_
    refine AOps.nil ?_
    refine AWP.cond _ rfl (fun h15 => ?_) (fun h15 => ?_)
    · skip
      have hnil : (PosL p w n) = [] := by
        have h1 : ((sps (PosL p w n)).length : Int) = 0 := by simpa using h15
        exact List.eq_nil_of_length_eq_zero (by omega)
      have hS : hullS p w n = ⟨0, 0⟩ := if_pos hnil
      have hE : hullE p w n = 33 := (if_neg hz).trans (if_pos hnil)
      refine AWP.seq ?_
      refine AWP.region ?_
      refine AOps.call (o_build bu54 rfl rfl rfl) ?_
      refine AOps.cons (o_store _ _ rfl rfl Tryz.sizeOf54 rfl rfl rfl rfl rfl) ?_
      refine AOps.call (o_assign _ rfl rfl) ?_
      refine AOps.nil ?_
      refine AWP.ret ?_
      refine postQ.retC1 Tryz.results41 rfl rfl Tryz.sizeOf54 Tryz.isAgg54 rfl rfl ?_
      rw [hS, hE]
      rfl
    · skip
      have hpos : 0 < (PosL p w n).length := by
        have h1 : ¬ ((sps (PosL p w n)).length : Int) = 0 := by simpa using h15
        omega
      have hnn : ¬ (PosL p w n) = [] := List.length_pos_iff.1 hpos
      have hS : hullS p w n = ⟨((PosL p w n).getD 0 ⟨0, 0⟩).lo, ((PosL p w n).getD ((PosL p w n).length - 1) ⟨0, 0⟩).hi⟩ := if_neg hnn
      have hE : hullE p w n = 0 := (if_neg hz).trans (if_neg hnn)
      have hel0 := sps_get0 (l := (PosL p w n)) (k := 0) (j := 0) rfl hpos
      have hel1 := sps_get0 (l := (PosL p w n)) (k := ((sps (PosL p w n)).length : Int) - 1) (j := (PosL p w n).length - 1) (by omega) (by omega)
      refine AWP.skip ?_
      refine AWP.seq ?_
      refine AWP.drawn 12 mixed (by kernel_rfl) ?_
      refine AHead.call (o_move _ rfl rfl) rfl ?_
      refine AHead.call (o_index _ _ Tryz.underlying38 Tryz.sizeOf54 rfl rfl (by decide) hel0 rfl rfl) rfl ?_
      refine AHead.call (o_fieldRd _ rfl fa54_0 rfl) rfl ?_
      refine AHead.call (o_loadRd _ rfl Tryz.sizeOf3 Tryz.isAgg3 rfl rfl rfl) rfl ?_
      refine AHead.call (o_move _ rfl rfl) rfl ?_
      refine AHead.call (o_move _ rfl rfl) rfl ?_
      refine AHead.call (o_len _ Tryz.underlying38 rfl rfl) rfl ?_
      refine AHead.call (o_sub _ _ rfl rfl ⟨by (try dsimp only); omega, by (try dsimp only); omega⟩ rfl) rfl ?_
      refine AHead.call (o_index _ _ Tryz.underlying38 Tryz.sizeOf54 rfl rfl (by omega) hel1 rfl rfl) rfl ?_
      refine AHead.call (o_fieldRd _ rfl fa54_1 rfl) rfl ?_
      refine AHead.call (o_loadRd _ rfl Tryz.sizeOf3 Tryz.isAgg3 rfl rfl rfl) rfl ?_
      refine AHead.call (o_build bu54 rfl rfl rfl) rfl ?_
      refine AHead.nil ?_
      refine AOps.cons (o_store _ _ rfl rfl Tryz.sizeOf54 rfl rfl rfl rfl rfl) ?_
      refine AOps.call (o_assign _ rfl rfl) ?_
      refine AOps.nil ?_
      refine AWP.ret ?_
      refine postQ.retC1 Tryz.results41 rfl rfl Tryz.sizeOf54 Tryz.isAgg54 rfl rfl ?_
      rw [hS, hE]
      rfl
def stN (p : Plw) (w : List Sp) (n : Int) : Int := ((casL p w).getD 0 []).getD n.toNat 0
def sameN (p : Plw) (w : List Sp) (n : Int) : Bool := (casL p w).all fun l => decide (l.getD n.toNat 0 = stN p w n)
def sureE (p : Plw) (w : List Sp) (n : Int) : Int := if casE p w ≠ 0 then casE p w else if casL p w = [] then 33 else 0
def sureS (p : Plw) (w : List Sp) (n : Int) : Int × Bool := if casL p w = [] then (0, false) else if sameN p w n = true then (stN p w n, true) else (0, false)
set_option maxRecDepth 20000 in
theorem Sure_ok (p : Plw) (w : List Sp) (n : Int) (hw1 : w.length ≤ 9223372036854775807) (he : okP p = true) (hq : okW p w = true) (hh : hasB p n = true) : FSpec Tryz.prog 43 [.agg (eP p), .sl (sps w), I n] (.tup [I (sureS p w n).1, B (sureS p w n).2, I (sureE p w n)]) (none) := by
  refine FSpec.of_body Tryz.func43 rfl (leB rfl) fun w0 M0 => ?_
  have hp := okP_iff.1 he
  have h32 := hp.len
  have hcl := casL_len p w
  have hgl := css_len (casL p w)
  have hnn : 0 ≤ n ∧ n < p.log.length := by unfold hasB at hh; simpa using hh
  refine AWP.seq ?_
  refine AWP.region ?_
  refine AOps.call (o_box _ rfl rfl rfl) ?_
  refine AOps.call (o_assign _ rfl rfl) ?_
  refine AOps.call (o_assign _ rfl rfl) ?_
  refine AOps.call (o_assign _ rfl rfl) ?_
  refine AOps.nil ?_
  refine AWP.seq ?_
  refine AWP.region ?_
  refine AOps.call (o_loadRef _ rfl rfl Tryz.sizeOf24 Tryz.isAgg24 rfl rfl rfl) ?_
  refine AOps.call (o_move _ rfl rfl) ?_
  refine AOps.call (o_move _ rfl rfl) ?_
  refine AOps.call (o_call (casesAt_ok p w n hw1 he hq hh) Tryz.call76 rfl rfl) ?_
  refine AOps.call (o_move _ rfl rfl) ?_
  refine AOps.call (o_extract _ rfl rfl rfl rfl) ?_
  refine AOps.call (o_extract _ rfl rfl rfl rfl) ?_
  refine AOps.call (o_extract _ rfl rfl rfl rfl) ?_
  refine AOps.call (o_alloc ze91 rfl rfl) ?_
  refine AOps.cons (o_store _ _ rfl rfl Tryz.sizeOf91 rfl rfl rfl rfl rfl) ?_
  refine AOps.call (o_assign _ rfl rfl) ?_
  refine AOps.call (o_assign _ rfl rfl) ?_
  refine AOps.nil ?_
  refine AWP.seq ?_
  refine AWP.seq ?_
  refine AWP.region ?_
  refine AOps.call (o_move _ rfl rfl) ?_
  refine AOps.call (o_bin _ _ rfl rfl (fun _ => rfl) rfl) ?_
  refine AOps.nil ?_
  refine AWP.cond _ rfl (fun h13 => ?_) (fun h13 => ?_)
  · skip
    have hne : casE p w ≠ 0 := by simpa using h13
    have hE : sureE p w n = casE p w := if_pos hne
    have hS : sureS p w n = (0, false) := if_pos (casE_ne hne).1
    refine AWP.seq ?_
    refine AWP.region ?_
    refine AOps.call (o_move _ rfl rfl) ?_
    refine AOps.call (o_assign _ rfl rfl) ?_
    refine AOps.call (o_assign _ rfl rfl) ?_
    refine AOps.call (o_assign _ rfl rfl) ?_
    refine AOps.nil ?_
    refine AWP.ret ?_
    refine postQ.ret3 Tryz.results43 rfl rfl rfl ?_
    rw [hS, hE]
    rfl
  · skip
    have hz : ¬ casE p w ≠ 0 := by simpa using h13
    refine AWP.skip ?_
    refine AWP.seq ?_
    refine AWP.seq ?_
    refine AWP.region ?_
    refine AOps.call (o_move _ rfl rfl) ?_
    refine AOps.call (o_len _ Tryz.underlying40 rfl rfl) ?_
    refine AOps.call (o_bin _ _ rfl rfl (fun _ => rfl) rfl) ?_
    refine AOps.nil ?_
    refine AWP.cond _ rfl (fun h17 => ?_) (fun h17 => ?_)
    · skip
      have hnil : (casL p w) = [] := by
        have h1 : ((css (casL p w)).length : Int) = 0 := by simpa using h17
        exact List.eq_nil_of_length_eq_zero (by omega)
      have hS : sureS p w n = (0, false) := if_pos hnil
      have hE : sureE p w n = 33 := (if_neg hz).trans (if_pos hnil)
      refine AWP.seq ?_
      refine AWP.region ?_
      refine AOps.call (o_assign _ rfl rfl) ?_
      refine AOps.call (o_assign _ rfl rfl) ?_
      refine AOps.call (o_assign _ rfl rfl) ?_
      refine AOps.nil ?_
      refine AWP.ret ?_
      refine postQ.ret3 Tryz.results43 rfl rfl rfl ?_
      rw [hS, hE]
      rfl
    · skip
      have hpos : 0 < (casL p w).length := by
        have h1 : ¬ ((css (casL p w)).length : Int) = 0 := by simpa using h17
        omega
      have hnn2 : ¬ (casL p w) = [] := List.length_pos_iff.1 hpos
      have hE : sureE p w n = 0 := (if_neg hz).trans (if_neg hnn2)
      have hel0 : (css (casL p w))[(0 : Int).toNat]? = some [stC ((casL p w).getD 0 [])] := by
        have h := css_at hpos
        have e : (casL p w).getD 0 [] = (casL p w)[0] := by rw [List.getD_eq_getElem?_getD, List.getElem?_eq_getElem hpos]; rfl
        rw [e]; exact h
      have hm0 : (casL p w).getD 0 [] ∈ (casL p w) := by rw [List.getD_eq_getElem?_getD, List.getElem?_eq_getElem hpos]; exact List.getElem_mem hpos
      have hst : (ints ((casL p w).getD 0 []))[n.toNat]? = some [I (stN p w n)] := ints_get0 rfl (by rw [(casL_mem hp hm0).1]; omega)
      refine AWP.skip ?_
      refine AWP.seq ?_
      refine AWP.region ?_
      refine AOps.call (o_move _ rfl rfl) ?_
      refine AOps.call (o_index _ _ Tryz.underlying40 Tryz.sizeOf25 rfl rfl (by decide) hel0 rfl rfl) ?_
      refine AOps.call (o_loadRd _ rfl Tryz.sizeOf25 Tryz.isAgg25 rfl rfl rfl) ?_
      refine AOps.call (o_move _ rfl rfl) ?_
      refine AOps.call (o_index _ _ Tryz.underlying25 Tryz.sizeOf3 rfl rfl hnn.1 hst rfl rfl) ?_
      refine AOps.call (o_loadRd _ rfl Tryz.sizeOf3 Tryz.isAgg3 rfl rfl rfl) ?_
      refine AOps.call (o_assign _ rfl rfl) ?_
      refine AOps.nil ?_
      refine AWP.seq ?_
      refine AWP.seq ?_
      refine AWP.region ?_
      refine AOps.call (o_move _ rfl rfl) ?_
      refine AOps.call (o_len _ Tryz.underlying40 rfl rfl) ?_
      refine AOps.call (o_move _ rfl rfl) ?_
      refine AOps.nil ?_
      refine AWP.block ?_
      refine AWP.loop (ι := Nat) (fun i => AS.mk' 49 [(2, I n), (12, I (stN p w n)), (35, .sl (css (casL p w))), (36, I (css (casL p w)).length), (37, I i)] [] [] []) (fun i => i ≤ (casL p w).length ∧ ((casL p w).take i).all (fun l => decide (l.getD n.toNat 0 = stN p w n)) = true) (fun i => (casL p w).length - i) (0) (Weak.mk' rfl ⟨⟨.refl rfl, rfl⟩, ⟨⟨.refl rfl, rfl⟩, ⟨⟨.refl rfl, rfl⟩, ⟨⟨.refl rfl, rfl⟩, ⟨⟨.refl rfl, rfl⟩, trivial⟩⟩⟩⟩⟩ trivial trivial) (⟨Nat.zero_le _, rfl⟩) ?_
      rintro k ⟨hk, hall⟩
      try dsimp only at *
      refine AWP.seq ?_
      refine AWP.region ?_
      refine AOps.call (o_bin _ _ rfl rfl (fun _ => rfl) rfl) ?_
      refine AOps.nil ?_
      refine AWP.seq ?_
      refine AWP.cond _ rfl (fun h28 => ?_) (fun h28 => ?_)
      · skip
        have hlt : k < (casL p w).length := by have := of_decide_eq_true h28; omega
        have hel := css_at hlt
        have hrm := casL_mem hp (List.getElem_mem hlt)
        have hen := ints_get0 (l := (casL p w)[k]) (k := n) (j := n.toNat) rfl (by rw [hrm.1]; omega)
        refine AWP.skip ?_
        refine AWP.seq ?_
        refine AWP.block ?_
        refine AWP.seq ?_
        refine AWP.region ?_
        refine AOps.call (o_index _ _ Tryz.underlying40 Tryz.sizeOf25 rfl rfl (by omega) (by assumption) rfl rfl) ?_
        refine AOps.call (o_loadRd _ rfl Tryz.sizeOf25 Tryz.isAgg25 rfl rfl rfl) ?_
        refine AOps.call (o_assign _ rfl rfl) ?_
        refine AOps.nil ?_
        refine AWP.seq ?_
        refine AWP.region ?_
        refine AOps.call (o_move _ rfl rfl) ?_
        refine AOps.call (o_move _ rfl rfl) ?_
        refine AOps.call (o_index _ _ Tryz.underlying25 Tryz.sizeOf3 rfl rfl hnn.1 hen rfl rfl) ?_
        refine AOps.call (o_loadRd _ rfl Tryz.sizeOf3 Tryz.isAgg3 rfl rfl rfl) ?_
        refine AOps.call (o_move _ rfl rfl) ?_
        refine AOps.call (o_bin _ _ rfl rfl (fun _ => rfl) rfl) ?_
        refine AOps.nil ?_
        refine AWP.cond _ rfl (fun h35 => ?_) (fun h35 => ?_)
        · skip
          have hno : ¬ (casL p w)[k].getD n.toNat 0 = stN p w n := by simpa using h35
          have hsm : ¬ sameN p w n = true := fun h => hno (of_decide_eq_true (List.all_eq_true.1 h _ (List.getElem_mem hlt)))
          have hS : sureS p w n = (0, false) := (if_neg hnn2).trans (if_neg hsm)
          refine AWP.seq ?_
          refine AWP.region ?_
          refine AOps.call (o_assign _ rfl rfl) ?_
          refine AOps.call (o_assign _ rfl rfl) ?_
          refine AOps.call (o_assign _ rfl rfl) ?_
          refine AOps.nil ?_
          refine AWP.ret ?_
          refine postQ.ret3 Tryz.results43 rfl rfl rfl ?_
          rw [hS, hE]
          rfl
        · skip
          have hsame : (casL p w)[k].getD n.toNat 0 = stN p w n := by simpa using h35
          refine AWP.skip ?_
          refine AWP.region ?_
          refine AOps.call (o_add _ _ rfl rfl ⟨by (try dsimp only); omega, by (try dsimp only); omega⟩ rfl) ?_
          refine AOps.call (o_move _ rfl rfl) ?_
          refine AOps.nil ?_
          refine ⟨k + 1, ?_, (Weak.mk' rfl ⟨⟨.refl rfl, rfl⟩, ⟨⟨.refl rfl, rfl⟩, ⟨⟨.refl rfl, rfl⟩, ⟨⟨.refl rfl, rfl⟩, ⟨⟨.refl rfl, rfl⟩, trivial⟩⟩⟩⟩⟩ trivial trivial)⟩
          refine ⟨⟨by omega, ?_⟩, by omega⟩
          rw [List.take_succ_eq_append_getElem hlt, List.all_append, hall]
          show (true && (decide _ && true)) = true
          rw [decide_eq_true hsame]; rfl
      · skip
        have hkl : k = (casL p w).length := by have := of_decide_eq_false h28; omega
        have hsm : sameN p w n = true := by rw [hkl, List.take_length] at hall; exact hall
        have hS : sureS p w n = (stN p w n, true) := (if_neg hnn2).trans (if_pos hsm)
        refine AWP.exit ?_
        refine AWP.seq ?_
        refine AWP.region ?_
        refine AOps.call (o_move _ rfl rfl) ?_
        refine AOps.call (o_assign _ rfl rfl) ?_
        refine AOps.call (o_assign _ rfl rfl) ?_
        refine AOps.call (o_assign _ rfl rfl) ?_
        refine AOps.nil ?_
        refine AWP.ret ?_
        refine postQ.ret3 Tryz.results43 rfl rfl rfl ?_
        rw [hS, hE]
        rfl
end Go.Proofs.YtelenedgaoglaaaGreatDoor
