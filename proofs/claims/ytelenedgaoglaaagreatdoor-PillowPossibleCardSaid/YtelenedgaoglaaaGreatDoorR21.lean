/- R21. -/
import Derived.Test.YtelenedgaoglaaaGreatDoorR20
set_option linter.unusedSimpArgs false
set_option linter.unusedVariables false
namespace Go.Proofs.YtelenedgaoglaaaGreatDoor
open Go.Ab
open Go.Pil Go.RowKit
def casesA (p : Plw) (w : List Sp) : List (List Int) := lev (nx (p.pb w)) p.log.length []
def css (ls : List (List Int)) : List (List AV) := ls.map fun l => [stC l]
theorem css_flat (ls : List (List Int)) : (css ls).flatten = ls.map stC := by
  induction ls with
  | nil => rfl
  | cons l ls ih => show [stC l] ++ (css ls).flatten = _; rw [ih]; rfl
theorem css_z {ls : List (List Int)} : ∀ e ∈ css ls, e.length = 1 := by intro e he; obtain ⟨_, _, rfl⟩ := List.mem_map.1 he; rfl
theorem css_len (ls : List (List Int)) : (css ls).length = ls.length := by simp [css]
theorem css_at {ls : List (List Int)} {k : Nat} (h : k < ls.length) : (css ls)[((k : Nat) : Int).toNat]? = some [stC ls[k]] := by simp [css, h]
def casesR (p : Plw) (w : List Sp) : AV := if 64 < (casesA p w).length then .tup [.sc (.slice none 0 0), I 2] else .tup [.sl (css (casesA p w)), I 0]
abbrev folA (p : Plw) (w : List Sp) : List (List Int) := fol (nx (p.pb w)) (keepL (p.pb w) p.log.length) 64 p.log.length [] []
theorem folA_eq {p : Plw} (hp : OkP p) {w : List Sp} (hw : okW p w = true) : folA p w = (casesA p w).take 65 :=
  follow_all (p.pb w) (fun i s => hp.allow_ne i s) (fun i => (okW_WB hw i).2.2) hp.faults.1 64 p.log.length
theorem begin_eB (p : Plw) (w : List Sp) : FSpec Tryz.prog 79 [.agg (eR p w)] (.agg (eB p w [])) none := by
  have e : eB p w [] = [I (-1), I 0, I p.faults, .sc (.slice none 0 0), I 0, I 0] := by
    rw [eB_nil]
    have h1 : (pl (p.pb w) []).entry = -1 := rfl
    have h2 : (pl (p.pb w) []).faults = p.faults := by show p.faults - 0 = _; omega
    rw [h1, h2]; rfl
  rw [e]; exact begin_s p w
def Fv.tms (v : Fv) : List (Nat × AV) := [(1, .sc (adr v.r)), (4, .sc (adr v.a)), (6, .sc (adr v.f))]
theorem cases_made (p : Plw) (w : List Sp) (s bk br bo : Nat) {σ : AS} (hr : σ.va (1, 0) = some (eR p w)) (ha : σ.va (4, 0) = some [.sc (.slice none 0 0)]) (hl : σ.va (5, 0) = some [.sc (laV bo)]) (hf : σ.va (6, 0) = some [.clo 92 [.ref (1, 0) 0, .ref (4, 0) 0, .ref (5, 0) 0, .ref (6, 0) 0]])
    (t1 : σ.tm 1 = .ref (1, 0) 0) (t4 : σ.tm 4 = .ref (4, 0) 0) (t6 : σ.tm 6 = .ref (6, 0) 0) :
    ∀ F0 w0 M0 a w', RelJ F0 (JM p w s bk br bo) w0 M0 σ a w' → ∃ v : Fv, RelJ F0 (JFo p w s bk br bo v none 0 []) w0 M0 (AS.mk' σ.n [(1, .sc (adr v.r)), (4, .sc (adr v.a)), (6, .sc (adr v.f))] [] [] []) a w' := by
  intro F0 w0 M0 a w' ⟨x, T, F, hx⟩
  obtain ⟨br2, r1, r2, r3, r4, r5⟩ := hx.rel.var hr
  obtain ⟨bl, l1, l2, l3, l4, l5⟩ := hx.rel.var hl
  obtain ⟨bf, f1, f2, f3, f4, f5⟩ := hx.rel.var hf
  obtain ⟨ba, vs, ty, a1, a2, aw, a3, a4, a5, a6⟩ := hx.rel.va _ _ ha
  have a0 : vs[0]? = some (.slice none 0 0) := by
    obtain ⟨u, q1, q2, q3⟩ := a6 0 _ rfl
    cases q3; exact q1
  have hfree : ∀ {id cs b}, σ.va id = some cs → x.V id = some b → ¬ F b := fun h1 h2 hF => hx.free _ hF (.inl ⟨_, _, h1, h2⟩)
  have hne : ∀ {id id' b b'}, (∃ u, x.ow b = some (true, id) ∧ u = ()) → x.ow b' = some (true, id') → id ≠ id' → b ≠ b' := fun ⟨_, h, _⟩ h' hn e => by subst e; rw [h] at h'; cases h'; exact hn rfl
  have how : ∀ {id cs b}, σ.va id = some cs → x.V id = some b → x.ow b = some (true, id) := fun h1 h2 => by
    obtain ⟨b', _, _, k1, _, k2, _⟩ := hx.rel.va _ _ h1
    rw [h2] at k1; cases k1; exact k2
  have nr : br2 ≠ ba := fun e => by have := how hr r1; rw [e, aw] at this; cases this
  have nl : bl ≠ ba := fun e => by have := how hl l1; rw [e, aw] at this; cases this
  have nf : bf ≠ ba := fun e => by have := how hf f1; rw [e, aw] at this; cases this
  obtain ⟨vo, q1, q2, q3⟩ := f5 0 _ rfl
  have hvo : vo = (Fv.foV ⟨br2, ba, bl, bf⟩) := q3.clo_ref4 r1 a1 l1 f1
  have tmv : ∀ {t id b}, σ.tm t = .ref id 0 → x.V id = some b → a.tmps.getD t undef = adr b := fun {t id b} ht hV => by
    have h := hx.rel.tm t
    rw [ht] at h
    generalize a.tmps.getD t undef = u at h ⊢
    cases h with
    | ref _ _ b' hb' => cases hb'.symm.trans hV; rfl
  refine ⟨⟨br2, ba, bl, bf⟩, RelX.settle hx [br2, ba, bl, bf] ?_ (T' := fun b => T b ∨ b = ba) _ ?_ (fun b hb => ?_) JFo_ok ?_ trivial⟩
  · intro b hb
    simp only [List.mem_cons, List.not_mem_nil, or_false] at hb
    rcases hb with rfl | rfl | rfl | rfl
    · exact ⟨r2, r4, r3, hfree hr r1⟩
    · exact ⟨a2, lt_of_cells a4, a3, hfree ha a1⟩
    · exact ⟨l2, l4, l3, hfree hl l1⟩
    · exact ⟨f2, f4, f3, hfree hf f1⟩
  · intro q hq
    simp only [List.mem_cons, List.not_mem_nil, or_false] at hq
    rcases hq with rfl | rfl | rfl
    · refine ⟨rfl, ?_⟩; show VR _ _ _ _ (.sc (adr br2)) (a.tmps.getD 1 undef); rw [tmv t1 r1]; exact .sc _
    · refine ⟨rfl, ?_⟩; show VR _ _ _ _ (.sc (adr ba)) (a.tmps.getD 4 undef); rw [tmv t4 a1]; exact .sc _
    · refine ⟨rfl, ?_⟩; show VR _ _ _ _ (.sc (adr bf)) (a.tmps.getD 6 undef); rw [tmv t6 f1]; exact .sc _
  · rcases hb with h | h
    · exact .inl h
    · exact .inr ⟨ba, by simp, h⟩
  · intro M' hM1 hM2 himm
    have hTF : ∀ b, T b → F b := fun b hb => hx.ok.sub hx.sec b hb
    have hFn : ∀ b, F b → b ∉ [br2, ba, bl, bf] := fun b hb hm => by
      simp only [List.mem_cons, List.not_mem_nil, or_false] at hm
      rcases hm with rfl | rfl | rfl | rfl
      · exact hfree hr r1 hb
      · exact hfree ha a1 hb
      · exact hfree hl l1 hb
      · exact hfree hf f1 hb
    have hMa : M' ba = some 0 := (hM2 ba (by simp)).1 (.inr rfl)
    have hMn : ∀ b ∈ [br2, bl, bf], M' b = none := fun b hb => by
      have hb4 : b ∈ [br2, ba, bl, bf] := by simp only [List.mem_cons, List.not_mem_nil, or_false] at hb ⊢; rcases hb with h | h | h <;> simp [h]
      refine (hM2 b hb4).2 fun h => ?_
      rcases h with h | h
      · exact hFn b (hTF b h) hb4
      · simp only [List.mem_cons, List.not_mem_nil, or_false] at hb
        rcases hb with rfl | rfl | rfl
        · exact nr h
        · exact nl h
        · exact nf h
    have hJM : JM p w s bk br bo T F w' M' := hx.ok.stab hx.sec fun b hb => ⟨rfl, hM1 b (hFn b hb)⟩
    let F2 : Nat → Prop := fun b => (b < w'.heap.size ∧ M' b ≠ some 0) ∨ (b ∈ [br2, bl, bf])
    have hin : ∀ b off u, Imm w' x.M b off u → Imm w' (inF F2 M') b off u := fun b off u hi => by
      have h2 := himm b off u hi
      have hlt : b < w'.heap.size := by
        rcases Nat.lt_or_ge b w'.heap.size with h' | h'
        · exact h'
        · have := hi.1; simp [World.cell?, Array.getElem?_eq_none h'] at this
      exact inF_imm.2 ⟨.inl ⟨hlt, fun e => absurd (h2.2.2 0 e) (by omega)⟩, h2⟩
    have hT2 : ∀ b, T b → ¬ F2 b := fun b hb h => by
      have hM : M' b = some 0 := by rw [hM1 b (hFn b (hTF b hb))]; exact hx.ok.hid hx.sec b hb
      rcases h with h | h
      · exact h.2 hM
      · rw [hMn b h] at hM; cases hM
    have hfc : Jfc (Fv.fc ⟨br2, ba, bl, bf⟩ p w bo) (fun _ => False) F2 w' M' := by
      refine ⟨fun b h => h, fun q hq => ?_⟩
      simp only [Fv.fc, List.mem_cons, List.not_mem_nil, or_false] at hq
      rcases hq with rfl | rfl | rfl
      · exact rd_of r5 rfl (.inr (by simp)) (hMn _ (by simp)) hin
      · exact rd_of l5 rfl (.inr (by simp)) (hMn _ (by simp)) hin
      · have hco : Cells w' x.M x.V x.G bf 0 [.sc (Fv.foV ⟨br2, ba, bl, bf⟩)] := fun j c hj => by
          rcases j with _ | j
          · simp at hj; subst hj; exact ⟨vo, q1, q2, by rw [hvo]; exact .sc _⟩
          · simp at hj
        exact rd_of hco rfl (.inr (by simp)) (hMn _ (by simp)) hin
    have hFa : ¬ F ba := hfree ha a1
    have hF2a : ¬ F2 ba := fun h => by
      rcases h with h | h
      · exact h.2 hMa
      · rw [hMn _ h] at hMa; cases hMa
    refine ⟨fun b => b = ba, fun b => b = ba, T, fun b => F b ∨ F2 b, fun b => ⟨fun h => h.symm, fun h => h.symm⟩, fun b => ⟨fun h => ?_, fun h => ?_⟩, fun b hb h => ?_, fun b hb h => ?_, ?_, ?_⟩
    · by_cases hb : b = ba
      · exact .inl hb
      · rcases h with h | h | h
        · exact .inr (.inl h)
        · exact .inr (.inr (.inl h))
        · refine .inr (.inr (.inr ?_))
          simp only [List.mem_cons, List.not_mem_nil, or_false] at h ⊢
          rcases h with h | h | h | h
          · exact .inl h
          · exact absurd h hb
          · exact .inr (.inl h)
          · exact .inr (.inr h)
    · rcases h with h | h | h | h
      · exact .inr (.inr (by simp [h]))
      · exact .inl h
      · exact .inr (.inl h)
      · refine .inr (.inr ?_)
        simp only [List.mem_cons, List.not_mem_nil, or_false] at h ⊢
        rcases h with h | h | h <;> simp [h]
    · subst hb; rcases h with h | h
      · exact hFa h
      · exact hF2a h
    · subst h; exact hFa (hTF _ hb)
    · exact ⟨fun b => b = ba, fun b => b = ba, fun _ => False, fun _ => False, fun b => by simp, fun b => by simp, fun b _ h => h, fun b h => h.elim, ⟨fun k => Iff.rfl, rfl, hMa, vs, ty, a4, a0⟩, Jrow_nil⟩
    · exact ⟨T, F, fun _ => False, F2, fun b => by simp, fun b => Iff.rfl, hT2, fun b h => h.elim, hJM, hfc⟩
set_option maxRecDepth 20000 in
theorem cases_s (p : Plw) (w : List Sp) (hp : OkP p) (hw : okW p w = true) : FSpec Tryz.prog 66 [.agg (eR p w)] (casesR p w) none := by
  refine FSpec.of_bodyJ Tryz.func66 rfl (leB rfl) fun F0 w0 M0 => ?_
  have hfol := folA_eq hp hw
  refine AWPJ.seq ?_
  refine AWPJ.lift (fun u N => ?_)
  refine AWP.region ?_
  refine AOps.call (o_box _ rfl rfl rfl) ?_
  refine AOps.call (o_assignK rfl) ?_
  refine AOps.call (o_assign _ rfl rfl) ?_
  refine AOps.nil ?_
  refine AWPJ.seq ?_
  refine AWPJ.lift (fun u N => ?_)
  refine AWP.region ?_
  refine AOps.call (o_alloc ze40 rfl rfl) ?_
  refine AOps.nil ?_
  refine AWPJ.seq ?_
  refine AWPJ.region ?_
  refine AOpsJ.call (fun u N => o_loadRef _ rfl rfl Tryz.sizeOf91 Tryz.isAgg91 rfl rfl rfl) ?_
  refine AOpsJ.op (o_callJ (lasting_s p w) Tryz.call91 rfl (.inr fun _ => rfl) rfl) ?_
  rintro _ _ ⟨_, ⟨s, bk, br, bo, rfl, rfl⟩, rfl⟩
  refine AOpsJ.call (fun u N => o_alloc ze129 rfl rfl) ?_
  refine AOpsJ.cons (fun u N => o_store _ _ rfl rfl Tryz.sizeOf129 rfl rfl rfl rfl rfl) ?_
  refine AOpsJ.nil ?_
  refine AWPJ.seq ?_
  refine AWPJ.lift (fun u N => ?_)
  refine AWP.region ?_
  refine AOps.call (o_alloc ze131 rfl rfl) ?_
  refine AOps.nil ?_
  refine AWPJ.seq ?_
  refine AWPJ.lift (fun u N => ?_)
  refine AWP.region ?_
  refine AOps.call (o_makeClo rfl rfl) ?_
  refine AOps.cons (o_store _ _ rfl rfl Tryz.sizeOf131 rfl rfl rfl rfl rfl) ?_
  refine AOps.nil ?_
  refine AWPJ.seq ?_
  refine AWPJ.someW (cases_made p w s bk br bo rfl rfl rfl rfl rfl rfl rfl) (fun v => ?_)
  refine AWPJ.drawnK 3 mixed (by kernel_rfl) ?_
  refine AHeadK.look (o_look (cs := [.sc v.foV]) (r := .sc v.foV) _ rfl Tryz.sizeOf131 Tryz.isAgg131 (fun T F w M h => rdA_cells (JFo_fact (by simp [Fv.fc]) h)) rfl rfl) rfl ?_
  refine AHeadK.look (o_look (cs := eR p w) (r := .agg (eR p w)) _ rfl Tryz.sizeOf91 Tryz.isAgg91 (fun T F w M h => rdA_cells (JFo_fact (by simp [Fv.fc]) h)) rfl rfl) rfl ?_
  refine AHeadK.call (fun u N => o_call (begin_eB p w) Tryz.call79 rfl rfl) rfl ?_
  refine AHeadK.nil ?_
  refine AOpsJ.op (o_callVJ (f := 92) (caps := v.cap) (cl := [.agg (eB p w [])]) _ rfl (follow_s p w hp hw s bk br bo v p.log.length [] (Nat.le_refl _) (by rw [Nat.sub_self]; exact rem_nil _ hp.faults.1) [] none 0 (by simp)) Tryz.call92 rfl (.inr fun _ => rfl) rfl) ?_
  rintro _ _ ⟨_, ⟨rfl, a2, cap2, rfl⟩, rfl⟩
  refine AOpsJ.nil ?_
  refine AWPJ.seq ?_
  refine AWPJ.seq ?_
  refine AWPJ.region ?_
  refine AOpsJ.op (OpAnyJ.op (o_look (cs := [.sc (.slice a2 (folA p w).length cap2)]) (r := .sc (.slice a2 (folA p w).length cap2)) _ rfl Tryz.sizeOf40 Tryz.isAgg40 (fun T F w M h => by obtain ⟨_, _, h1⟩ := Sec.sep_l h; obtain ⟨_, _, h2⟩ := Sec.sep_l h1; exact Jvar_cells h2 rfl) rfl rfl)) ?_
  rintro _ _ ⟨rfl, rfl⟩
  refine AOpsJ.call (fun u N => o_lenX _ Tryz.underlying40 rfl rfl) ?_
  refine AOpsJ.call (fun u N => o_bin _ _ rfl rfl (fun _ => rfl) rfl) ?_
  refine AOpsJ.nil ?_
  refine AWPJ.cond _ rfl (fun h17 => ?_) (fun h17 => ?_)
  · skip
    have hlt : 64 < (casesA p w).length := by
      have h1 := of_decide_eq_true h17
      have h2 : (folA p w).length = min 65 (casesA p w).length := by rw [hfol, List.length_take]
      omega
    refine AWPJ.seq ?_
    refine AWPJ.lift (fun u N => ?_)
    refine AWP.region ?_
    refine AOps.call (o_assignK rfl) ?_
    refine AOps.call (o_assign _ rfl rfl) ?_
    refine AOps.nil ?_
    refine AWPJ.ret ?_
    try dsimp only [seqQJ, blockQJ, roundQJ]
    try rw [show Nat.beq 0 0 = true from rfl, cond_true]
    refine postQJ.ret2 Tryz.results66 rfl rfl rfl ?_
    unfold casesR
    first
    | (rw [if_pos hlt]; rfl)
    | (rw [if_neg hlt, hfol, List.take_of_length_le (by omega)]; rfl)
  · skip
    have hlt : ¬ 64 < (casesA p w).length := by
      have h1 := of_decide_eq_false h17
      have h2 : (folA p w).length = min 65 (casesA p w).length := by rw [hfol, List.length_take]
      omega
    refine AWPJ.skip ?_
    refine AWPJ.seq ?_
    refine AWPJ.region ?_
    refine AOpsJ.op (OpAnyJ.op (o_look (cs := [.sc (.slice a2 (folA p w).length cap2)]) (r := .sc (.slice a2 (folA p w).length cap2)) _ rfl Tryz.sizeOf40 Tryz.isAgg40 (fun T F w M h => by obtain ⟨_, _, h1⟩ := Sec.sep_l h; obtain ⟨_, _, h2⟩ := Sec.sep_l h1; exact Jvar_cells h2 rfl) rfl rfl)) ?_
    rintro _ _ ⟨rfl, rfl⟩
    refine AOpsJ.weak (WeakJ.trans (WeakJ.drop (Sec.sep_ok Jvar_ok Jrow_ok)) (WeakJ.trans (WeakJ.comm Jvar_ok Jrow_ok) (WeakJ.freeze (es := css (folA p w)) 17 rfl (css_flat _) css_z (css_len _) Jvar_ok))) ?_
    refine AOpsJ.call (fun u N => o_assign _ rfl rfl) ?_
    refine AOpsJ.call (fun u N => o_assign _ rfl rfl) ?_
    refine AOpsJ.nil ?_
    refine AWPJ.ret ?_
    try dsimp only [seqQJ, blockQJ, roundQJ]
    try rw [show Nat.beq 0 0 = true from rfl, cond_true]
    refine postQJ.ret2 Tryz.results66 rfl rfl rfl ?_
    unfold casesR
    first
    | (rw [if_pos hlt]; rfl)
    | (rw [if_neg hlt, hfol, List.take_of_length_le (by omega)]; rfl)
end Go.Proofs.YtelenedgaoglaaaGreatDoor
