/- R17. -/
import Derived.Test.YtelenedgaoglaaaGreatDoorR16
import Derived.Test.YtelenedgaoglaaaGreatDoorU2
import Derived.Test.YtelenedgaoglaaaGreatDoorAdB
set_option linter.unusedSimpArgs false
set_option linter.unusedVariables false
namespace Go.Proofs.YtelenedgaoglaaaGreatDoor
open Go.Ab
open Go.Pil
set_option maxRecDepth 20000 in
theorem leading_s (here ch : Sp) (ps : List Pl) (op : Pl → List Sp) (caps : List Value) (J : Sec) (oJ : SecOk J) (hop : ∀ r ∈ ps, FSpecJ Tryz.prog J 116 ([.agg (eL r)] ++ caps.map .sc) (fun r' J' => r' = .sl (sps (op r)) ∧ J' = J)) (hh : InB here) (hc : -65536 ≤ ch.lo ∧ ch.lo ≤ ch.hi ∧ ch.hi ≤ 65536) (hps : ps.length ≤ 3) (hopb : ∀ r ∈ ps, ∀ s ∈ op r, InB s ∧ s.Ne) (hopl : ∀ r ∈ ps, (op r).length ≤ 65537) : FSpecJ Tryz.prog (J) 117 [.agg (eN here), .agg (eN ch), .sl (pls ps), .sc (.func (.func 116) #[] caps.toArray)] (fun r' J' => r' = .sl (sps (lead here ch ps op)) ∧ J' = J) := by
  refine FSpecJ.of_body Tryz.func117 rfl (leB rfl) fun F0 w0 M0 => ?_
  have hpl := pls_len ps
  refine AWPJ.seq ?_
  refine AWPJ.lift (fun u N => ?_)
  refine AWP.region ?_
  refine AOps.call (o_box _ rfl rfl rfl) ?_
  refine AOps.call (o_box _ rfl rfl rfl) ?_
  refine AOps.call (o_nil (z := 2) (e := 54) rfl) ?_
  refine AOps.nil ?_
  refine AWPJ.seq ?_
  refine AWPJ.lift (fun u N => ?_)
  refine AWP.region ?_
  refine AOps.call (o_assignK rfl) ?_
  refine AOps.nil ?_
  refine AWPJ.seq ?_
  refine AWPJ.seq ?_
  refine AWPJ.lift (fun u N => ?_)
  refine AWP.region ?_
  refine AOps.call (o_move _ rfl rfl) ?_
  refine AOps.call (o_len _ Tryz.underlying125 rfl rfl) ?_
  refine AOps.call (o_move _ rfl rfl) ?_
  refine AOps.nil ?_
  refine AWPJ.block ?_
  refine AWPJ.loop (ι := Nat × Option Addr × Nat × List Sp) (fun i => (JR i.2.1 i.2.2.1 i.2.2.2).sep J) (fun i => AS.mk' 45 [(3, .sc (.func (.func 116) #[] caps.toArray)), (4, .ref (4, 0) 0), (5, .ref (5, 0) 0), (9, .sc (.slice i.2.1 i.2.2.2.length i.2.2.1)), (15, .sl (pls ps)), (16, I (pls ps).length), (17, I i.1)] [((4, 0), eN here), ((5, 0), eN ch)] [] [(4, 1), (5, 1)]) (fun i => i.1 ≤ ps.length ∧ i.2.2.2 = ledO here ch ps op i.1) (fun i => ps.length - i.1) (0, none, 0, []) (WeakJ.trans WeakJ.nilRow (WeakJ.trans (WeakJ.comm oJ Jrow_ok) (Weak.toJ (Weak.mk' rfl ⟨⟨.refl rfl, rfl⟩, ⟨⟨.refl rfl, rfl⟩, ⟨⟨.refl rfl, rfl⟩, ⟨⟨.refl rfl, rfl⟩, ⟨⟨.refl rfl, rfl⟩, ⟨⟨.refl rfl, rfl⟩, ⟨⟨.refl rfl, rfl⟩, trivial⟩⟩⟩⟩⟩⟩⟩ ⟨⟨rfl, rfl, rfl⟩, ⟨⟨rfl, rfl, rfl⟩, trivial⟩⟩ trivial)))) (⟨Nat.zero_le _, rfl⟩) ?_
  rintro ⟨k, a0, cap0, acc0⟩ ⟨hk, hacc0⟩
  try dsimp only at *
  refine AWPJ.seq ?_
  refine AWPJ.lift (fun u N => ?_)
  refine AWP.region ?_
  refine AOps.call (o_bin _ _ rfl rfl (fun _ => rfl) rfl) ?_
  refine AOps.nil ?_
  refine AWPJ.seq ?_
  refine AWPJ.cond _ rfl (fun h9 => ?_) (fun h9 => ?_)
  · skip
    have hlt : k < ps.length := by have := of_decide_eq_true h9; omega
    have hel := pls_at hlt
    have hopk := hopb _ (List.getElem_mem hlt)
    have hopn := hopl _ (List.getElem_mem hlt)
    have hsl := sps_len (op ps[k])
    refine AWPJ.skip ?_
    refine AWPJ.seq ?_
    refine AWPJ.block ?_
    refine AWPJ.seq ?_
    refine AWPJ.lift (fun u N => ?_)
    refine AWP.region ?_
    refine AOps.call (o_index _ _ Tryz.underlying125 Tryz.sizeOf110 rfl rfl (by omega) (by assumption) rfl rfl) ?_
    refine AOps.call (o_loadRd _ rfl Tryz.sizeOf110 Tryz.isAgg110 rfl rfl rfl) ?_
    refine AOps.call (o_alloc ze110 rfl rfl) ?_
    refine AOps.cons (o_store _ _ rfl rfl Tryz.sizeOf110 rfl rfl rfl rfl rfl) ?_
    refine AOps.nil ?_
    refine AWPJ.seq ?_
    refine AWPJ.region ?_
    refine AOpsJ.call (fun u N => o_move _ rfl rfl) ?_
    refine AOpsJ.call (fun u N => o_loadRef _ rfl rfl Tryz.sizeOf110 Tryz.isAgg110 rfl rfl rfl) ?_
    refine AOpsJ.op (OpJ.frameR Jrow_ok oJ (fun E u N => o_callVJ (f := 116) (caps := caps) (cl := [.agg (eL ps[k])]) _ rfl (hop _ (List.getElem_mem hlt)) Tryz.call116 rfl (.inl rfl) rfl)) ?_
    rintro _ _ ⟨J2, ⟨_, ⟨rfl, hJ2⟩, rfl⟩, _, rfl⟩
    rw [hJ2]
    refine AOpsJ.call (fun u N => o_len _ Tryz.underlying38 rfl rfl) ?_
    refine AOpsJ.call (fun u N => o_move _ rfl rfl) ?_
    refine AOpsJ.nil ?_
    refine AWPJ.block ?_
    refine AWPJ.loop (ι := Nat × Option Addr × Nat × List Sp) (fun i => (JR i.2.1 i.2.2.1 i.2.2.2).sep J) (fun i => AS.mk' 45 [(3, .sc (.func (.func 116) #[] caps.toArray)), (4, .ref (4, 0) 0), (5, .ref (5, 0) 0), (9, .sc (.slice i.2.1 i.2.2.2.length i.2.2.1)), (15, .sl (pls ps)), (16, I (pls ps).length), (17, I k), (23, .sl (sps (op ps[k]))), (24, I (sps (op ps[k])).length), (25, I i.1)] [((4, 0), eN here), ((5, 0), eN ch)] [] [(4, 1), (5, 1)]) (fun i => i.1 ≤ (op ps[k]).length ∧ i.2.2.2 = ledO here ch ps op k ++ lead1 here ch ((op ps[k]).take i.1)) (fun i => (op ps[k]).length - i.1) (0, a0, cap0, acc0) (Weak.toJ (Weak.mk' rfl ⟨⟨.refl rfl, rfl⟩, ⟨⟨.refl rfl, rfl⟩, ⟨⟨.refl rfl, rfl⟩, ⟨⟨.refl rfl, rfl⟩, ⟨⟨.refl rfl, rfl⟩, ⟨⟨.refl rfl, rfl⟩, ⟨⟨.refl rfl, rfl⟩, ⟨⟨.refl rfl, rfl⟩, ⟨⟨.refl rfl, rfl⟩, ⟨⟨.refl rfl, rfl⟩, trivial⟩⟩⟩⟩⟩⟩⟩⟩⟩⟩ ⟨⟨rfl, rfl, rfl⟩, ⟨⟨rfl, rfl, rfl⟩, trivial⟩⟩ trivial)) (⟨Nat.zero_le _, by rw [hacc0]; simp [lead1]⟩) ?_
    rintro ⟨m, a, cap, acc⟩ ⟨hm, hacc⟩
    try dsimp only at *
    refine AWPJ.seq ?_
    refine AWPJ.lift (fun u N => ?_)
    refine AWP.region ?_
    refine AOps.call (o_bin _ _ rfl rfl (fun _ => rfl) rfl) ?_
    refine AOps.nil ?_
    refine AWPJ.seq ?_
    refine AWPJ.cond _ rfl (fun h19 => ?_) (fun h19 => ?_)
    · skip
      have hmt : m < (op ps[k]).length := by have := of_decide_eq_true h19; omega
      have hel2 := sps_at hmt
      have hmi : inI64 ((op ps[k])[m].lo - ch.hi) ∧ inI64 ((op ps[k])[m].hi - ch.lo) := by
        have h1 := hopk _ (List.getElem_mem hmt)
        simp only [InB, Sp.Ne] at h1
        simp only [okRange]
        omega
      have hal : acc.length ≤ 400000 := by
        have h1 := ledO_len (here := here) (ch := ch) hopl k
        have h2 := lead1_len here ch ((op ps[k]).take m)
        rw [List.length_take] at h2
        rw [hacc, List.length_append]
        omega
      refine AWPJ.skip ?_
      refine AWPJ.seq ?_
      refine AWPJ.block ?_
      refine AWPJ.seq ?_
      refine AWPJ.lift (fun u N => ?_)
      refine AWP.region ?_
      refine AOps.call (o_index _ _ Tryz.underlying38 Tryz.sizeOf54 rfl rfl (by omega) (by assumption) rfl rfl) ?_
      refine AOps.call (o_loadRd _ rfl Tryz.sizeOf54 Tryz.isAgg54 rfl rfl rfl) ?_
      refine AOps.call (o_alloc ze54 rfl rfl) ?_
      refine AOps.cons (o_store _ _ rfl rfl Tryz.sizeOf54 rfl rfl rfl rfl rfl) ?_
      refine AOps.nil ?_
      refine AWPJ.seq ?_
      refine AWPJ.lift (fun u N => ?_)
      refine AWP.drawn 6 mixed (by kernel_rfl) ?_
      refine AHead.call (o_loadRef _ rfl rfl Tryz.sizeOf54 Tryz.isAgg54 rfl rfl rfl) rfl ?_
      refine AHead.call (o_loadRef _ rfl rfl Tryz.sizeOf54 Tryz.isAgg54 rfl rfl rfl) rfl ?_
      refine AHead.call (o_loadRef _ rfl rfl Tryz.sizeOf54 Tryz.isAgg54 rfl rfl rfl) rfl ?_
      refine AHead.call (o_call (minus_s (op ps[k])[m] ch hmi) Tryz.call97 rfl rfl) rfl ?_
      refine AHead.call (o_call (meet_s here ((op ps[k])[m].minus ch)) Tryz.call96 rfl rfl) rfl ?_
      refine AHead.call (o_alloc ze54 rfl rfl) rfl ?_
      refine AHead.nil ?_
      refine AOps.cons (o_store _ _ rfl rfl Tryz.sizeOf54 rfl rfl rfl rfl rfl) ?_
      refine AOps.nil ?_
      refine AWPJ.seq ?_
      refine AWPJ.lift (fun u N => ?_)
      refine AWP.region ?_
      refine AOps.call (o_loadRef _ rfl rfl Tryz.sizeOf54 Tryz.isAgg54 rfl rfl rfl) ?_
      refine AOps.call (o_call (isEmpty_s (here.meet ((op ps[k])[m].minus ch))) Tryz.call95 rfl rfl) ?_
      refine AOps.call (o_un _ rfl (fun _ => rfl) rfl) ?_
      refine AOps.nil ?_
      refine AWPJ.cond _ rfl (fun h32 => ?_) (fun h32 => ?_)
      · skip
        have hne2 : (here.meet ((op ps[k])[m].minus ch)).Ne := by
          simp only [Sp.Ne]
          simpa using h32
        refine AWPJ.region ?_
        refine AOpsJ.call (fun u N => o_move _ rfl rfl) ?_
        refine AOpsJ.call (fun u N => o_loadRef _ rfl rfl Tryz.sizeOf54 Tryz.isAgg54 rfl rfl rfl) ?_
        refine AOpsJ.call (fun u N => o_lit Tryz.underlying38 Tryz.sizeOf54 Tryz.zeroValue54 rfl rfl rfl rfl rfl rfl rfl) ?_
        refine AOpsJ.op (OpJ.frame Jrow_ok oJ (fun E u N => o_appendRow (n := acc.length) (cs := (sps acc).flatten) (ns := [[I (here.meet ((op ps[k])[m].minus ch)).lo, I (here.meet ((op ps[k])[m].minus ch)).hi]]) _ _ Tryz.underlying38 info54 rfl rfl rfl rfl rfl rfl rfl (fun c hc => by simp at hc; subst hc; rfl) (by unfold Tryz.t54; simp only [List.length_cons, List.length_nil]; omega) rfl (by simp) (.inl fun c hc => by simp [I] at hc; rcases hc with rfl | rfl <;> exact ⟨_, rfl⟩) rfl)) ?_
        rintro _ _ ⟨_, ⟨_, ⟨a2, cap2, rfl, rfl⟩, rfl⟩, rfl⟩
        refine AOpsJ.call (fun u N => o_assign _ rfl rfl) ?_
        refine AOpsJ.nil ?_
        refine AWPJ.lift (fun u N => ?_)
        refine AWP.region ?_
        refine AOps.call (o_add _ _ rfl rfl ⟨by (try dsimp only); omega, by (try dsimp only); omega⟩ rfl) ?_
        refine AOps.call (o_move _ rfl rfl) ?_
        refine AOps.nil ?_
        first
        | refine ⟨(m + 1, some a2, cap2, acc ++ [here.meet ((op ps[k])[m].minus ch)]), ⟨⟨by (try dsimp only); omega, ?_⟩, by (try dsimp only); omega⟩, WeakJ.cast (by rw [sps_app1, show acc.length + [[I (here.meet ((op ps[k])[m].minus ch)).lo, I (here.meet ((op ps[k])[m].minus ch)).hi]].length = (acc ++ [here.meet ((op ps[k])[m].minus ch)]).length by simp]; rfl) (Weak.toJ (Weak.mk' rfl ⟨⟨.refl rfl, rfl⟩, ⟨⟨.refl rfl, rfl⟩, ⟨⟨.refl rfl, rfl⟩, ⟨⟨.refl (by simp; rfl), rfl⟩, ⟨⟨.refl rfl, rfl⟩, ⟨⟨.refl rfl, rfl⟩, ⟨⟨.refl rfl, rfl⟩, ⟨⟨.refl rfl, rfl⟩, ⟨⟨.refl rfl, rfl⟩, ⟨⟨.refl rfl, rfl⟩, trivial⟩⟩⟩⟩⟩⟩⟩⟩⟩⟩ ⟨⟨rfl, rfl, rfl⟩, ⟨⟨rfl, rfl, rfl⟩, trivial⟩⟩ trivial))⟩
        | refine ⟨(m + 1, a, cap, acc), ⟨⟨by (try dsimp only); omega, ?_⟩, by (try dsimp only); omega⟩, Weak.toJ (Weak.mk' rfl ⟨⟨.refl rfl, rfl⟩, ⟨⟨.refl rfl, rfl⟩, ⟨⟨.refl rfl, rfl⟩, ⟨⟨.refl (by simp; rfl), rfl⟩, ⟨⟨.refl rfl, rfl⟩, ⟨⟨.refl rfl, rfl⟩, ⟨⟨.refl rfl, rfl⟩, ⟨⟨.refl rfl, rfl⟩, ⟨⟨.refl rfl, rfl⟩, ⟨⟨.refl rfl, rfl⟩, trivial⟩⟩⟩⟩⟩⟩⟩⟩⟩⟩ ⟨⟨rfl, rfl, rfl⟩, ⟨⟨rfl, rfl, rfl⟩, trivial⟩⟩ trivial)⟩
        rw [lead1_succ hmt, ← List.append_assoc, ← hacc]
        first
        | (rw [if_pos hne2]; done)
        | (rw [if_neg hne2, List.append_nil]; done)
      · skip
        have hne2 : ¬ (here.meet ((op ps[k])[m].minus ch)).Ne := by
          simp only [Sp.Ne]
          simpa using h32
        refine AWPJ.skip ?_
        refine AWPJ.lift (fun u N => ?_)
        refine AWP.region ?_
        refine AOps.call (o_add _ _ rfl rfl ⟨by (try dsimp only); omega, by (try dsimp only); omega⟩ rfl) ?_
        refine AOps.call (o_move _ rfl rfl) ?_
        refine AOps.nil ?_
        first
        | refine ⟨(m + 1, some a2, cap2, acc ++ [here.meet ((op ps[k])[m].minus ch)]), ⟨⟨by (try dsimp only); omega, ?_⟩, by (try dsimp only); omega⟩, WeakJ.cast (by rw [sps_app1, show acc.length + [[I (here.meet ((op ps[k])[m].minus ch)).lo, I (here.meet ((op ps[k])[m].minus ch)).hi]].length = (acc ++ [here.meet ((op ps[k])[m].minus ch)]).length by simp]; rfl) (Weak.toJ (Weak.mk' rfl ⟨⟨.refl rfl, rfl⟩, ⟨⟨.refl rfl, rfl⟩, ⟨⟨.refl rfl, rfl⟩, ⟨⟨.refl (by simp; rfl), rfl⟩, ⟨⟨.refl rfl, rfl⟩, ⟨⟨.refl rfl, rfl⟩, ⟨⟨.refl rfl, rfl⟩, ⟨⟨.refl rfl, rfl⟩, ⟨⟨.refl rfl, rfl⟩, ⟨⟨.refl rfl, rfl⟩, trivial⟩⟩⟩⟩⟩⟩⟩⟩⟩⟩ ⟨⟨rfl, rfl, rfl⟩, ⟨⟨rfl, rfl, rfl⟩, trivial⟩⟩ trivial))⟩
        | refine ⟨(m + 1, a, cap, acc), ⟨⟨by (try dsimp only); omega, ?_⟩, by (try dsimp only); omega⟩, Weak.toJ (Weak.mk' rfl ⟨⟨.refl rfl, rfl⟩, ⟨⟨.refl rfl, rfl⟩, ⟨⟨.refl rfl, rfl⟩, ⟨⟨.refl (by simp; rfl), rfl⟩, ⟨⟨.refl rfl, rfl⟩, ⟨⟨.refl rfl, rfl⟩, ⟨⟨.refl rfl, rfl⟩, ⟨⟨.refl rfl, rfl⟩, ⟨⟨.refl rfl, rfl⟩, ⟨⟨.refl rfl, rfl⟩, trivial⟩⟩⟩⟩⟩⟩⟩⟩⟩⟩ ⟨⟨rfl, rfl, rfl⟩, ⟨⟨rfl, rfl, rfl⟩, trivial⟩⟩ trivial)⟩
        rw [lead1_succ hmt, ← List.append_assoc, ← hacc]
        first
        | (rw [if_pos hne2]; done)
        | (rw [if_neg hne2, List.append_nil]; done)
    · skip
      have hjl : m = (op ps[k]).length := by have := of_decide_eq_false h19; omega
      refine AWPJ.exit ?_
      refine AWPJ.lift (fun u N => ?_)
      refine AWP.region ?_
      refine AOps.call (o_add _ _ rfl rfl ⟨by (try dsimp only); omega, by (try dsimp only); omega⟩ rfl) ?_
      refine AOps.call (o_move _ rfl rfl) ?_
      refine AOps.nil ?_
      refine ⟨(k + 1, a, cap, acc), ?_, Weak.toJ (Weak.mk' rfl ⟨⟨.refl rfl, rfl⟩, ⟨⟨.refl rfl, rfl⟩, ⟨⟨.refl rfl, rfl⟩, ⟨⟨.refl rfl, rfl⟩, ⟨⟨.refl rfl, rfl⟩, ⟨⟨.refl rfl, rfl⟩, ⟨⟨.refl rfl, rfl⟩, trivial⟩⟩⟩⟩⟩⟩⟩ ⟨⟨rfl, rfl, rfl⟩, ⟨⟨rfl, rfl, rfl⟩, trivial⟩⟩ trivial)⟩
      refine ⟨⟨by (try dsimp only); omega, ?_⟩, by (try dsimp only); omega⟩
      show acc = _
      rw [hacc, hjl, List.take_length, ledO_succ hlt]
  · skip
    have hkl : k = ps.length := by have := of_decide_eq_false h9; omega
    have hal : acc0.length ≤ 1000000 := by have := ledO_len (here := here) (ch := ch) hopl k; rw [← hacc0] at this; omega
    have hme : ∀ s ∈ acc0, s.Ne ∧ InB s := fun s hs => by
      rw [hacc0] at hs
      obtain ⟨p, _, h⟩ := List.mem_flatMap.1 hs
      exact ⟨lead1_ne s h, lead1_in hh s h⟩
    have hned : ∀ s ∈ acc0, s.Ne := fun s hs => (hme s hs).1
    have hbd : ∀ s ∈ acc0, BdS s := fun s hs => by
      have h1 := hme s hs
      simp only [Sp.Ne, InB] at h1
      unfold BdS; omega
    refine AWPJ.exit ?_
    refine AWPJ.seq ?_
    refine AWPJ.region ?_
    refine AOpsJ.call (fun u N => o_move _ rfl rfl) ?_
    refine AOpsJ.op (o_callJ (FSpecJ.frame Jrow_ok oJ (union_s acc0 a0 cap0 hal hbd hned)) Tryz.call77 rfl (.inl rfl) rfl) ?_
    rintro _ _ ⟨_, ⟨_, ⟨rfl, rfl⟩, rfl⟩, rfl⟩
    refine AOpsJ.weak (WeakJ.dropL Jrow_ok oJ) ?_
    refine AOpsJ.call (fun u N => o_assign _ rfl rfl) ?_
    refine AOpsJ.nil ?_
    refine AWPJ.ret ?_
    try dsimp only [seqQJ, blockQJ, roundQJ]
    try rw [show Nat.beq 0 0 = true from rfl, cond_true]
    refine postQJ.ret1 Tryz.results117 rfl rfl ?_
    exact ⟨by rw [hacc0, hkl, ledO_all], rfl⟩
end Go.Proofs.YtelenedgaoglaaaGreatDoor
