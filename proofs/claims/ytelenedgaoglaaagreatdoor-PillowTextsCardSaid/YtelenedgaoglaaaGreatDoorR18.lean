/- R18. -/
import Derived.Test.YtelenedgaoglaaaGreatDoorK1
set_option linter.unusedSimpArgs false
set_option linter.unusedVariables false
namespace Go.Proofs.YtelenedgaoglaaaGreatDoor
open Go.Ab
open Go.Pil
def opV (bk br bo : Nat) : Value := .func (.func 116) #[] #[.pointer (some ⟨bk, 0, none⟩), .pointer (some ⟨br, 0, none⟩), .pointer (some ⟨bo, 0, none⟩)]
def capV (bk br bo : Nat) : List Value := [.pointer (some ⟨bk, 0, none⟩), .pointer (some ⟨br, 0, none⟩), .pointer (some ⟨bo, 0, none⟩)]
abbrev valP (p : Plw) (w : List Sp) (r : Pl) : AV := .sl (sps (opn (p.pb w) (p.log.length - 1 - r.entry.toNat) r))
def fcM (p : Plw) (w : List Sp) (s bk br bo : Nat) : List (AV × Value) := [(.rd [.sc (.map (some s))], .pointer (some ⟨bk, 0, none⟩)), (.rd (eR p w), .pointer (some ⟨br, 0, none⟩)), (.rd [.sc (opV bk br bo)], .pointer (some ⟨bo, 0, none⟩))]
def JM (p : Plw) (w : List Sp) (s bk br bo : Nat) : Sec := Jm keyP (fun _ => True) (valP p w) s (fcM p w s bk br bo)
theorem JM_ok {p w s bk br bo} : SecOk (JM p w s bk br bo) := Jm_ok
theorem opn_S (q : Pb) (d : Nat) (r : Pl) : AV.sl (sps (lead (q.al r.entry.toNat r.state) (q.w r.entry.toNat) (r.next q) (opn q d))) = AV.sl (sps (opn q (d + 1) r)) := rfl
theorem allow_InB {p : Plw} (hp : OkP p) (w) (i : Nat) (s : Int) : InB ((p.pb w).al i s) := hp.allow_in i s
def PlOk (p : Plw) (d : Nat) (r : Pl) : Prop := r.entry = (p.log.length : Int) - 1 - d ∧ 0 ≤ r.entry ∧ 0 ≤ r.faults ∧ r.faults ≤ 32
theorem PlOk.next {p : Plw} {w : List Sp} {d : Nat} {r r' : Pl} (h : PlOk p (d + 1) r) (hr : r' ∈ r.next (p.pb w)) : PlOk p d r' := by
  unfold Pl.next at hr
  obtain ⟨h1, h2⟩ := List.mem_filter.1 hr
  obtain ⟨st, _, rfl⟩ := List.mem_map.1 h1
  have h3 : 0 ≤ (r.to st).faults := by simpa using h2
  obtain ⟨g1, g2, g3, g4⟩ := h
  refine ⟨?_, ?_, h3, ?_⟩
  · show r.entry + 1 = _; omega
  · show 0 ≤ r.entry + 1; omega
  · show (if st = 2 then r.faults - 1 else r.faults) ≤ 32
    split <;> omega
set_option maxRecDepth 20000 in
theorem open_0 (p : Plw) (w : List Sp) (hp : OkP p) (hw : okW p w = true) (s bk br bo : Nat) (r : Pl) (hr : PlOk p 0 r) : FSpecJ Tryz.prog (JM p w s bk br bo) 116 [.agg (eL r), .rd [.sc (.map (some s))], .rd (eR p w), .rd [.sc (opV bk br bo)]] (fun r' J' => r' = .sl (sps (opn (p.pb w) 0 r)) ∧ J' = JM p w s bk br bo) := by
  refine FSpecJ.of_body Tryz.func116 rfl (leB rfl) fun F0 w0 M0 => ?_
  have hl := shws_len p.log
  have h32 := hp.len
  have hsl := sps_len w
  have hb := okW_WB hw
  have hwl : w.length = p.log.length - 1 := by simp only [okW, Bool.and_eq_true, decide_eq_true_eq] at hw; exact hw.1
  obtain ⟨he1, he2, hf1, hf2⟩ := hr
  have hval : valP p w r = .sl (sps (opn (p.pb w) 0 r)) := by unfold valP; congr 3; omega
  refine AWPJ.seq ?_
  refine AWPJ.lift (fun u N => ?_)
  refine AWP.region ?_
  refine AOps.call (o_box _ rfl rfl rfl) ?_
  refine AOps.call (o_assignK rfl) ?_
  refine AOps.nil ?_
  refine AWPJ.seq ?_
  refine AWPJ.seq ?_
  refine AWPJ.region ?_
  refine AOpsJ.call (fun u N => o_loadRd _ rfl Tryz.sizeOf155 Tryz.isAgg155 rfl rfl rfl) ?_
  refine AOpsJ.call (fun u N => o_loadRef _ rfl rfl Tryz.sizeOf110 Tryz.isAgg110 rfl rfl rfl) ?_
  refine AOpsJ.op (o_lookupJ KA keyP_inj _ _ r Tryz.underlying155 Tryz.zeroValue38 rfl rfl rfl) ?_
  rintro _ _ ⟨_, ⟨hor, rfl⟩, rfl⟩
  rcases hor with ⟨rfl, _⟩ | rfl
  · skip
    refine AOpsJ.call (fun u N => o_move _ rfl rfl) ?_
    refine AOpsJ.call (fun u N => o_extract _ rfl rfl rfl rfl) ?_
    refine AOpsJ.call (fun u N => o_extract _ rfl rfl rfl rfl) ?_
    refine AOpsJ.call (fun u N => o_assign _ rfl rfl) ?_
    refine AOpsJ.call (fun u N => o_assign _ rfl rfl) ?_
    refine AOpsJ.nil ?_
    refine AWPJ.seq ?_
    refine AWPJ.lift (fun u N => ?_)
    refine AWP.region ?_
    refine AOps.call (o_move _ rfl rfl) ?_
    refine AOps.nil ?_
    refine AWPJ.cond _ rfl (fun h8 => ?_) (fun h8 => ?_)
    · skip
      refine AWPJ.seq ?_
      refine AWPJ.lift (fun u N => ?_)
      refine AWP.region ?_
      refine AOps.call (o_move _ rfl rfl) ?_
      refine AOps.call (o_assign _ rfl rfl) ?_
      refine AOps.nil ?_
      refine AWPJ.ret ?_
      try dsimp only [seqQJ, blockQJ, roundQJ]
      try rw [show Nat.beq 0 0 = true from rfl, cond_true]
      refine postQJ.ret1 Tryz.results116 rfl rfl ?_
      exact ⟨by first | exact hval | rfl, rfl⟩
    · skip
      exfalso
      exact absurd h8 (by decide)
  · skip
    refine AOpsJ.call (fun u N => o_move _ rfl rfl) ?_
    refine AOpsJ.call (fun u N => o_extract _ rfl rfl rfl rfl) ?_
    refine AOpsJ.call (fun u N => o_extract _ rfl rfl rfl rfl) ?_
    refine AOpsJ.call (fun u N => o_assign _ rfl rfl) ?_
    refine AOpsJ.call (fun u N => o_assign _ rfl rfl) ?_
    refine AOpsJ.nil ?_
    refine AWPJ.seq ?_
    refine AWPJ.lift (fun u N => ?_)
    refine AWP.region ?_
    refine AOps.call (o_move _ rfl rfl) ?_
    refine AOps.nil ?_
    refine AWPJ.cond _ rfl (fun h11 => ?_) (fun h11 => ?_)
    · skip
      exfalso
      exact absurd h11 (by decide)
    · skip
      refine AWPJ.skip ?_
      refine AWPJ.seq ?_
      refine AWPJ.lift (fun u N => ?_)
      refine AWP.region ?_
      refine AOps.call (o_fieldRd _ rfl fa91_0 rfl) ?_
      refine AOps.call (o_loadRd _ rfl Tryz.sizeOf83 Tryz.isAgg83 rfl rfl rfl) ?_
      refine AOps.call (o_fieldRef _ rfl fa110_0 rfl rfl) ?_
      refine AOps.call (o_loadRef _ rfl rfl Tryz.sizeOf3 Tryz.isAgg3 rfl rfl rfl) ?_
      refine AOps.call (o_fieldRef _ rfl fa110_1 rfl rfl) ?_
      refine AOps.call (o_loadRef _ rfl rfl Tryz.sizeOf3 Tryz.isAgg3 rfl rfl rfl) ?_
      refine AOps.call (o_call (allowedI_s p hp r.entry r.state he2 (by omega)) Tryz.call103 rfl rfl) ?_
      refine AOps.call (o_alloc ze54 rfl rfl) ?_
      refine AOps.cons (o_store _ _ rfl rfl Tryz.sizeOf54 rfl rfl rfl rfl rfl) ?_
      refine AOps.nil ?_
      refine AWPJ.seq ?_
      refine AWPJ.lift (fun u N => ?_)
      refine AWP.region ?_
      refine AOps.call (o_assignK rfl) ?_
      refine AOps.nil ?_
      refine AWPJ.seq ?_
      refine AWPJ.seq ?_
      refine AWPJ.lift (fun u N => ?_)
      refine AWP.region ?_
      refine AOps.call (o_fieldRd _ rfl fa91_0 rfl) ?_
      refine AOps.call (o_loadRd _ rfl Tryz.sizeOf83 Tryz.isAgg83 rfl rfl rfl) ?_
      refine AOps.call (o_fieldRef _ rfl fa110_0 rfl rfl) ?_
      refine AOps.call (o_loadRef _ rfl rfl Tryz.sizeOf3 Tryz.isAgg3 rfl rfl rfl) ?_
      refine AOps.call (o_call (isLast_s p r.entry h32) Tryz.call57 rfl rfl) ?_
      refine AOps.nil ?_
      refine AWPJ.cond _ rfl (fun h26 => ?_) (fun h26 => ?_)
      · skip
        skip
        refine AWPJ.lift (fun u N => ?_)
        refine AWP.region ?_
        refine AOps.call (o_loadRef _ rfl rfl Tryz.sizeOf54 Tryz.isAgg54 rfl rfl rfl) ?_
        refine AOps.call (o_lit Tryz.underlying38 Tryz.sizeOf54 Tryz.zeroValue54 rfl rfl rfl rfl rfl rfl rfl) ?_
        refine AOps.call (o_assign _ rfl rfl) ?_
        refine AOps.nil ?_
        refine AWPJ.seq ?_
        refine AWPJ.region ?_
        refine AOpsJ.weak (Weak.toJ (Weak.mk' (n := 51) (tm := [(1, .rd [.sc (.map (some s))]), (4, .ref (4, 0) 0), (9, .sl (sps (opn (p.pb w) 0 r)))]) (va := [((4, 0), eL r)]) (gr := []) (gen := [(4, 1)]) rfl ⟨⟨.refl rfl, rfl⟩, ⟨⟨.refl rfl, rfl⟩, ⟨⟨.sl rfl, rfl⟩, trivial⟩⟩⟩ ⟨⟨rfl, rfl, rfl⟩, trivial⟩ trivial)) ?_
        refine AOpsJ.call (fun u N => o_loadRd _ rfl Tryz.sizeOf155 Tryz.isAgg155 rfl rfl rfl) ?_
        refine AOpsJ.call (fun u N => o_loadRef _ rfl rfl Tryz.sizeOf110 Tryz.isAgg110 rfl rfl rfl) ?_
        refine AOpsJ.call (fun u N => o_move _ rfl rfl) ?_
        refine AOpsJ.op (o_updateJ KA _ _ _ r trivial Tryz.underlying155 rfl rfl (by rw [hval]; rfl) (fun _ => rfl) rfl) ?_
        rintro _ _ ⟨rfl, rfl⟩
        refine AOpsJ.nil ?_
        refine AWPJ.seq ?_
        refine AWPJ.lift (fun u N => ?_)
        refine AWP.region ?_
        refine AOps.call (o_move _ rfl rfl) ?_
        refine AOps.call (o_assign _ rfl rfl) ?_
        refine AOps.nil ?_
        refine AWPJ.ret ?_
        try dsimp only [seqQJ, blockQJ, roundQJ]
        try rw [show Nat.beq 0 0 = true from rfl, cond_true]
        refine postQJ.ret1 Tryz.results116 rfl rfl ?_
        exact ⟨by first | exact hval | rfl, rfl⟩
      · skip
        exfalso
        have h1 := of_decide_eq_false h26
        omega
set_option maxRecDepth 20000 in
theorem open_c (p : Plw) (w : List Sp) (hp : OkP p) (hw : okW p w = true) (s bk br bo : Nat) (d : Nat) (r : Pl) (hr : PlOk p (d + 1) r) (hop : ∀ r' ∈ r.next (p.pb w), FSpecJ Tryz.prog (JM p w s bk br bo) 116 ([.agg (eL r')] ++ (capV bk br bo).map .sc) (fun x J' => x = .sl (sps (opn (p.pb w) d r')) ∧ J' = JM p w s bk br bo)) : FSpecJ Tryz.prog (JM p w s bk br bo) 116 [.agg (eL r), .rd [.sc (.map (some s))], .rd (eR p w), .rd [.sc (opV bk br bo)]] (fun r' J' => r' = .sl (sps (opn (p.pb w) (d + 1) r)) ∧ J' = JM p w s bk br bo) := by
  refine FSpecJ.of_body Tryz.func116 rfl (leB rfl) fun F0 w0 M0 => ?_
  have hl := shws_len p.log
  have h32 := hp.len
  have hsl := sps_len w
  have hb := okW_WB hw
  have hwl : w.length = p.log.length - 1 := by simp only [okW, Bool.and_eq_true, decide_eq_true_eq] at hw; exact hw.1
  obtain ⟨he1, he2, hf1, hf2⟩ := hr
  have hval : valP p w r = .sl (sps (opn (p.pb w) (d + 1) r)) := by unfold valP; congr 3; omega
  refine AWPJ.seq ?_
  refine AWPJ.lift (fun u N => ?_)
  refine AWP.region ?_
  refine AOps.call (o_box _ rfl rfl rfl) ?_
  refine AOps.call (o_assignK rfl) ?_
  refine AOps.nil ?_
  refine AWPJ.seq ?_
  refine AWPJ.seq ?_
  refine AWPJ.region ?_
  refine AOpsJ.call (fun u N => o_loadRd _ rfl Tryz.sizeOf155 Tryz.isAgg155 rfl rfl rfl) ?_
  refine AOpsJ.call (fun u N => o_loadRef _ rfl rfl Tryz.sizeOf110 Tryz.isAgg110 rfl rfl rfl) ?_
  refine AOpsJ.op (o_lookupJ KA keyP_inj _ _ r Tryz.underlying155 Tryz.zeroValue38 rfl rfl rfl) ?_
  rintro _ _ ⟨_, ⟨hor, rfl⟩, rfl⟩
  rcases hor with ⟨rfl, _⟩ | rfl
  · skip
    refine AOpsJ.call (fun u N => o_move _ rfl rfl) ?_
    refine AOpsJ.call (fun u N => o_extract _ rfl rfl rfl rfl) ?_
    refine AOpsJ.call (fun u N => o_extract _ rfl rfl rfl rfl) ?_
    refine AOpsJ.call (fun u N => o_assign _ rfl rfl) ?_
    refine AOpsJ.call (fun u N => o_assign _ rfl rfl) ?_
    refine AOpsJ.nil ?_
    refine AWPJ.seq ?_
    refine AWPJ.lift (fun u N => ?_)
    refine AWP.region ?_
    refine AOps.call (o_move _ rfl rfl) ?_
    refine AOps.nil ?_
    refine AWPJ.cond _ rfl (fun h8 => ?_) (fun h8 => ?_)
    · skip
      refine AWPJ.seq ?_
      refine AWPJ.lift (fun u N => ?_)
      refine AWP.region ?_
      refine AOps.call (o_move _ rfl rfl) ?_
      refine AOps.call (o_assign _ rfl rfl) ?_
      refine AOps.nil ?_
      refine AWPJ.ret ?_
      try dsimp only [seqQJ, blockQJ, roundQJ]
      try rw [show Nat.beq 0 0 = true from rfl, cond_true]
      refine postQJ.ret1 Tryz.results116 rfl rfl ?_
      exact ⟨by first | exact hval | rfl, rfl⟩
    · skip
      exfalso
      exact absurd h8 (by decide)
  · skip
    refine AOpsJ.call (fun u N => o_move _ rfl rfl) ?_
    refine AOpsJ.call (fun u N => o_extract _ rfl rfl rfl rfl) ?_
    refine AOpsJ.call (fun u N => o_extract _ rfl rfl rfl rfl) ?_
    refine AOpsJ.call (fun u N => o_assign _ rfl rfl) ?_
    refine AOpsJ.call (fun u N => o_assign _ rfl rfl) ?_
    refine AOpsJ.nil ?_
    refine AWPJ.seq ?_
    refine AWPJ.lift (fun u N => ?_)
    refine AWP.region ?_
    refine AOps.call (o_move _ rfl rfl) ?_
    refine AOps.nil ?_
    refine AWPJ.cond _ rfl (fun h11 => ?_) (fun h11 => ?_)
    · skip
      exfalso
      exact absurd h11 (by decide)
    · skip
      refine AWPJ.skip ?_
      refine AWPJ.seq ?_
      refine AWPJ.lift (fun u N => ?_)
      refine AWP.region ?_
      refine AOps.call (o_fieldRd _ rfl fa91_0 rfl) ?_
      refine AOps.call (o_loadRd _ rfl Tryz.sizeOf83 Tryz.isAgg83 rfl rfl rfl) ?_
      refine AOps.call (o_fieldRef _ rfl fa110_0 rfl rfl) ?_
      refine AOps.call (o_loadRef _ rfl rfl Tryz.sizeOf3 Tryz.isAgg3 rfl rfl rfl) ?_
      refine AOps.call (o_fieldRef _ rfl fa110_1 rfl rfl) ?_
      refine AOps.call (o_loadRef _ rfl rfl Tryz.sizeOf3 Tryz.isAgg3 rfl rfl rfl) ?_
      refine AOps.call (o_call (allowedI_s p hp r.entry r.state he2 (by omega)) Tryz.call103 rfl rfl) ?_
      refine AOps.call (o_alloc ze54 rfl rfl) ?_
      refine AOps.cons (o_store _ _ rfl rfl Tryz.sizeOf54 rfl rfl rfl rfl rfl) ?_
      refine AOps.nil ?_
      refine AWPJ.seq ?_
      refine AWPJ.lift (fun u N => ?_)
      refine AWP.region ?_
      refine AOps.call (o_assignK rfl) ?_
      refine AOps.nil ?_
      refine AWPJ.seq ?_
      refine AWPJ.seq ?_
      refine AWPJ.lift (fun u N => ?_)
      refine AWP.region ?_
      refine AOps.call (o_fieldRd _ rfl fa91_0 rfl) ?_
      refine AOps.call (o_loadRd _ rfl Tryz.sizeOf83 Tryz.isAgg83 rfl rfl rfl) ?_
      refine AOps.call (o_fieldRef _ rfl fa110_0 rfl rfl) ?_
      refine AOps.call (o_loadRef _ rfl rfl Tryz.sizeOf3 Tryz.isAgg3 rfl rfl rfl) ?_
      refine AOps.call (o_call (isLast_s p r.entry h32) Tryz.call57 rfl rfl) ?_
      refine AOps.nil ?_
      refine AWPJ.cond _ rfl (fun h26 => ?_) (fun h26 => ?_)
      · skip
        exfalso
        have h1 := of_decide_eq_true h26
        omega
      · skip
        skip
        refine AWPJ.drawnK 14 mixed (by kernel_rfl) ?_
        refine AHeadK.call (fun u N => o_loadRef _ rfl rfl Tryz.sizeOf54 Tryz.isAgg54 rfl rfl rfl) rfl ?_
        refine AHeadK.call (fun u N => o_fieldRd _ rfl fa91_1 rfl) rfl ?_
        refine AHeadK.call (fun u N => o_loadRd _ rfl Tryz.sizeOf89 Tryz.isAgg89 rfl rfl rfl) rfl ?_
        refine AHeadK.call (fun u N => o_fieldRef _ rfl fa110_0 rfl rfl) rfl ?_
        refine AHeadK.call (fun u N => o_loadRef _ rfl rfl Tryz.sizeOf3 Tryz.isAgg3 rfl rfl rfl) rfl ?_
        refine AHeadK.call (fun u N => o_fieldRef _ rfl fa110_0 rfl rfl) rfl ?_
        refine AHeadK.call (fun u N => o_loadRef _ rfl rfl Tryz.sizeOf3 Tryz.isAgg3 rfl rfl rfl) rfl ?_
        refine AHeadK.call (fun u N => o_add _ _ rfl rfl ⟨by (try dsimp only); omega, by (try dsimp only); omega⟩ rfl) rfl ?_
        refine AHeadK.call (fun u N => o_call (between1_s w r.entry.toNat _ _ (by omega) (by omega) (by omega) hb (by omega)) Tryz.call98 rfl rfl) rfl ?_
        refine AHeadK.call (fun u N => o_fieldRd _ rfl fa91_0 rfl) rfl ?_
        refine AHeadK.call (fun u N => o_loadRd _ rfl Tryz.sizeOf83 Tryz.isAgg83 rfl rfl rfl) rfl ?_
        refine AHeadK.call (fun u N => o_loadRef _ rfl rfl Tryz.sizeOf110 Tryz.isAgg110 rfl rfl rfl) rfl ?_
        refine AHeadK.call (fun u N => o_call (next_s p hp r (by omega) (by omega) ⟨hf1, hf2⟩) Tryz.call88 rfl rfl) rfl ?_
        refine AHeadK.call (fun u N => o_loadRd _ rfl Tryz.sizeOf156 Tryz.isAgg156 rfl rfl rfl) rfl ?_
        refine AHeadK.nil ?_
        refine AOpsJ.op (o_callJ (leading_s (p.allow r.entry.toNat r.state) (wf w r.entry.toNat) (r.next (p.pb [])) (opn (p.pb w) d) (capV bk br bo) (JM p w s bk br bo) JM_ok (fun r' hr' => hop r' hr') (allow_InB hp w _ _) ⟨(hb _).1, (hb _).2.2, (hb _).2.1⟩ (next_len _ _) (fun r' _ x hx => ⟨opn_in (fun i s => allow_InB hp w i s) d r' x hx, (opn_apart (fun i s => hp.allow_ne i s) d r').1 x hx⟩) (fun r' _ => opn_len (fun i s => hp.allow_ne i s) (fun i s => allow_InB hp w i s) d r')) Tryz.call117 rfl (.inr fun _ => rfl) rfl) ?_
        rintro _ _ ⟨_, ⟨rfl, rfl⟩, rfl⟩
        refine AOpsJ.call (fun u N => o_assign _ rfl rfl) ?_
        refine AOpsJ.nil ?_
        refine AWPJ.seq ?_
        refine AWPJ.region ?_
        refine AOpsJ.weak (Weak.toJ (Weak.mk' (n := 51) (tm := [(1, .rd [.sc (.map (some s))]), (4, .ref (4, 0) 0), (9, .sl (sps (opn (p.pb w) (d + 1) r)))]) (va := [((4, 0), eL r)]) (gr := []) (gen := [(4, 1)]) rfl ⟨⟨.refl rfl, rfl⟩, ⟨⟨.refl rfl, rfl⟩, ⟨⟨.refl (opn_S (p.pb w) d r), rfl⟩, trivial⟩⟩⟩ ⟨⟨rfl, rfl, rfl⟩, trivial⟩ trivial)) ?_
        refine AOpsJ.call (fun u N => o_loadRd _ rfl Tryz.sizeOf155 Tryz.isAgg155 rfl rfl rfl) ?_
        refine AOpsJ.call (fun u N => o_loadRef _ rfl rfl Tryz.sizeOf110 Tryz.isAgg110 rfl rfl rfl) ?_
        refine AOpsJ.call (fun u N => o_move _ rfl rfl) ?_
        refine AOpsJ.op (o_updateJ KA _ _ _ r trivial Tryz.underlying155 rfl rfl (by rw [hval]; rfl) (fun _ => rfl) rfl) ?_
        rintro _ _ ⟨rfl, rfl⟩
        refine AOpsJ.nil ?_
        refine AWPJ.seq ?_
        refine AWPJ.lift (fun u N => ?_)
        refine AWP.region ?_
        refine AOps.call (o_move _ rfl rfl) ?_
        refine AOps.call (o_assign _ rfl rfl) ?_
        refine AOps.nil ?_
        refine AWPJ.ret ?_
        try dsimp only [seqQJ, blockQJ, roundQJ]
        try rw [show Nat.beq 0 0 = true from rfl, cond_true]
        refine postQJ.ret1 Tryz.results116 rfl rfl ?_
        exact ⟨by first | exact hval | rfl, rfl⟩
theorem open_s (p : Plw) (w : List Sp) (hp : OkP p) (hw : okW p w = true) (s bk br bo : Nat) : ∀ (d : Nat) (r : Pl), PlOk p d r → FSpecJ Tryz.prog (JM p w s bk br bo) 116 ([.agg (eL r)] ++ (capV bk br bo).map .sc) (fun r' J' => r' = .sl (sps (opn (p.pb w) d r)) ∧ J' = JM p w s bk br bo) := by
  have know : ∀ (r : Pl) R, FSpecJ Tryz.prog (JM p w s bk br bo) 116 [.agg (eL r), .rd [.sc (.map (some s))], .rd (eR p w), .rd [.sc (opV bk br bo)]] R → FSpecJ Tryz.prog (JM p w s bk br bo) 116 ([.agg (eL r)] ++ (capV bk br bo).map .sc) R := fun r R h =>
    FSpecJ.know h rfl fun T F w M hJ i x y v hx hy hv => by
      have hf := fun {y v} (hm : (y, v) ∈ fcM p _ s bk br bo) => Jm_fact hm hJ
      rcases i with _ | _ | _ | _ | i
      · simp at hx hy; subst hx; subst hy; exact hv
      · simp [capV] at hx hy; subst hx; subst hy; rw [hv.exact _ rfl]; exact hf (by simp [fcM])
      · simp [capV] at hx hy; subst hx; subst hy; rw [hv.exact _ rfl]; exact hf (by simp [fcM])
      · simp [capV] at hx hy; subst hx; subst hy; rw [hv.exact _ rfl]; exact hf (by simp [fcM])
      · simp at hy
  intro d
  induction d with
  | zero => intro r hr; exact know r _ (open_0 p w hp hw s bk br bo r hr)
  | succ d ih => intro r hr; exact know r _ (open_c p w hp hw s bk br bo d r hr fun r' hr' => ih r' (hr.next hr'))
end Go.Proofs.YtelenedgaoglaaaGreatDoor
