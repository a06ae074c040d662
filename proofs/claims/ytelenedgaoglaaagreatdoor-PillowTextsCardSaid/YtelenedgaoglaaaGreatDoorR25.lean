/- R25. -/
import Derived.Test.YtelenedgaoglaaaGreatDoorP2
set_option linter.unusedSimpArgs false
set_option linter.unusedVariables false
namespace Go.Proofs.YtelenedgaoglaaaGreatDoor
open Go.Ab
open Go.Pil Go.RowKit
def prnM (p : Plw) : ByteArray × Int := if okP p = true then (prnS p, 0) else (⟨#[]⟩, 30)
set_option maxRecDepth 20000 in
theorem Print_s (p : Plw) : FSpecG Tryz.prog TAB 50 [.agg (eP p)] (.tup [.sc (.string (prnM p).1), I (prnM p).2]) (none) := by
  refine FSpecG.of_body tab_stable Tryz.func50 rfl (leB rfl) fun w0 M0 hG => ?_
  have hll := shws_len p.log
  refine AWP.seq ?_
  refine AWP.region ?_
  refine AOps.call (o_box _ rfl rfl rfl) ?_
  refine AOps.call (o_assign _ rfl rfl) ?_
  refine AOps.call (o_assign _ rfl rfl) ?_
  refine AOps.nil ?_
  refine AWP.seq ?_
  refine AWP.seq ?_
  refine AWP.region ?_
  refine AOps.call (o_loadRef _ rfl rfl Tryz.sizeOf24 Tryz.isAgg24 rfl rfl rfl) ?_
  refine AOps.call (o_call (Check_s p) Tryz.call17 rfl rfl) ?_
  refine AOps.call (o_assign _ rfl rfl) ?_
  refine AOps.nil ?_
  refine AWP.seq ?_
  refine AWP.region ?_
  refine AOps.call (o_move _ rfl rfl) ?_
  refine AOps.call (o_bin _ _ rfl rfl (fun _ => rfl) rfl) ?_
  refine AOps.nil ?_
  refine AWP.cond _ rfl (fun h7 => ?_) (fun h7 => ?_)
  · skip
    have hn : ¬ okP p = true := fun h => by unfold logE at h7; rw [if_pos h] at h7; exact absurd h7 (by decide)
    have hE : prnM p = (⟨#[]⟩, 30) := if_neg hn
    have hl : logE p = 30 := if_neg hn
    refine AWP.seq ?_
    refine AWP.region ?_
    refine AOps.call (o_move _ rfl rfl) ?_
    refine AOps.call (o_assign _ rfl rfl) ?_
    refine AOps.call (o_assign _ rfl rfl) ?_
    refine AOps.nil ?_
    refine AWP.ret ?_
    refine postQ.ret2 Tryz.results50 rfl rfl ?_
    first
    | (rw [hE, hl]; rfl)
    | (rw [hE]; rfl)
  · skip
    have hok : okP p = true := by
      by_cases h : okP p = true
      · exact h
      · exfalso; unfold logE at h7; rw [if_neg h] at h7; exact absurd h7 (by decide)
    have hp := okP_iff.1 hok
    have h32 := hp.len
    have hE : prnM p = (prnS p, 0) := if_pos hok
    refine AWP.skip ?_
    refine AWP.seq ?_
    refine AWP.region ?_
    refine AOps.call (o_lit Tryz.underlying116 Tryz.sizeOf9 Tryz.zeroValue9 rfl rfl rfl rfl rfl rfl rfl) ?_
    refine AOps.call (o_assign _ rfl rfl) ?_
    refine AOps.nil ?_
    refine AWP.seq ?_
    refine AWP.seq ?_
    refine AWP.region ?_
    refine AOps.call (o_fieldRef _ rfl fa24_0 rfl rfl) ?_
    refine AOps.call (o_loadRef _ rfl rfl Tryz.sizeOf3 Tryz.isAgg3 rfl rfl rfl) ?_
    refine AOps.call (o_fieldRef _ rfl fa24_1 rfl rfl) ?_
    refine AOps.call (o_loadRef _ rfl rfl Tryz.sizeOf3 Tryz.isAgg3 rfl rfl rfl) ?_
    refine AOps.call (o_fieldRef _ rfl fa24_2 rfl rfl) ?_
    refine AOps.call (o_loadRef _ rfl rfl Tryz.sizeOf3 Tryz.isAgg3 rfl rfl rfl) ?_
    refine AOps.call (o_fieldRef _ rfl fa24_3 rfl rfl) ?_
    refine AOps.call (o_loadRef _ rfl rfl Tryz.sizeOf3 Tryz.isAgg3 rfl rfl rfl) ?_
    refine AOps.call (o_fieldRef _ rfl fa24_4 rfl rfl) ?_
    refine AOps.call (o_loadRef _ rfl rfl Tryz.sizeOf3 Tryz.isAgg3 rfl rfl rfl) ?_
    refine AOps.call (o_fieldRef _ rfl fa24_5 rfl rfl) ?_
    refine AOps.call (o_loadRef _ rfl rfl Tryz.sizeOf3 Tryz.isAgg3 rfl rfl rfl) ?_
    refine AOps.call (o_build bu117 rfl rfl rfl) ?_
    refine AOps.call (o_move _ rfl rfl) ?_
    refine AOps.nil ?_
    refine AWP.block ?_
    refine AWP.loop (ι := Nat) (fun i => AS.mk' 59 [(1, .ref (1, 0) 0), (5, .own (15, 0) (strs (headW p i))), (28, .agg [I p.no, I p.cell, I p.noise, I p.slab, I p.jump, I p.faults]), (29, I i)] [((1, 0), eP p)] [((15, 0), ((strs (headW p i)).length, 1, 9))] [(1, 1), (15, 1)]) (fun i => i ≤ 6) (fun i => 6 - i) (0) (Weak.mk' rfl ⟨⟨.refl rfl, rfl⟩, ⟨⟨.refl rfl, rfl⟩, ⟨⟨.refl rfl, rfl⟩, ⟨⟨.refl rfl, rfl⟩, trivial⟩⟩⟩⟩ ⟨⟨rfl, rfl, rfl⟩, trivial⟩ ⟨⟨rfl, rfl⟩, trivial⟩) (Nat.zero_le _) ?_
    rintro k hk
    try dsimp only at *
    refine AWP.seq ?_
    refine AWP.region ?_
    refine AOps.call (o_bin _ _ rfl rfl (fun _ => rfl) rfl) ?_
    refine AOps.nil ?_
    refine AWP.seq ?_
    refine AWP.cond _ rfl (fun h25 => ?_) (fun h25 => ?_)
    · skip
      have hk6 : k < 6 := by have := of_decide_eq_true h25; omega
      have hb6 := six_getD hp hk6
      refine AWP.skip ?_
      refine AWP.seq ?_
      refine AWP.block ?_
      refine AWP.seq ?_
      refine AWP.region ?_
      refine AOps.call (ok_index _ _ rfl rfl (six_index p k hk6) (okD rfl)) ?_
      refine AOps.call (o_assign _ rfl rfl) ?_
      refine AOps.nil ?_
      refine AWP.region ?_
      refine AOps.call (o_move _ rfl rfl) ?_
      refine AOps.call (o_move _ rfl rfl) ?_
      refine AOps.call (o_callG (Itoa_s ((sixL p).getD k 0) (by omega) (by omega)) hG Tryz.call81 rfl rfl) ?_
      refine AOps.call (o_lit Tryz.underlying116 Tryz.sizeOf9 Tryz.zeroValue9 rfl rfl rfl rfl rfl rfl rfl) ?_
      refine AOps.cons (o_append _ _ Tryz.underlying116 info9 rfl rfl rfl rfl rfl rfl rfl rfl (fun c hc => by simp at hc; subst hc; rfl) strs_z (by
          rw [strs_len, headW_len p (by omega)]; simp only [List.length_cons, List.length_nil, Nat.zero_add]; unfold Tryz.t9; simp only []; omega) rfl (headW_snoc p hk6) rfl) ?_
      refine AOps.call (o_assign _ rfl rfl) ?_
      refine AOps.nil ?_
      refine AWP.region ?_
      refine AOps.call (o_add _ _ rfl rfl ⟨by (try dsimp only); omega, by (try dsimp only); omega⟩ rfl) ?_
      refine AOps.call (o_move _ rfl rfl) ?_
      refine AOps.nil ?_
      refine ⟨k + 1, ?_, (Weak.mk' rfl ⟨⟨.refl rfl, rfl⟩, ⟨⟨.refl rfl, rfl⟩, ⟨⟨.refl rfl, rfl⟩, ⟨⟨.refl rfl, rfl⟩, trivial⟩⟩⟩⟩ ⟨⟨rfl, rfl, rfl⟩, trivial⟩ ⟨⟨rfl, rfl⟩, trivial⟩)⟩
      exact ⟨by omega, by omega⟩
    · skip
      have hk6 : k = 6 := by have := of_decide_eq_false h25; omega
      subst hk6
      have hW0 : headW p 6 = wordsW p 0 := by unfold wordsW; simp
      rw [hW0]
      refine AWP.exit ?_
      refine AWP.seq ?_
      refine AWP.seq ?_
      refine AWP.region ?_
      refine AOps.call (o_fieldRef _ rfl fa24_6 rfl rfl) ?_
      refine AOps.call (o_loadRef _ rfl rfl Tryz.sizeOf22 Tryz.isAgg22 rfl rfl rfl) ?_
      refine AOps.call (o_len _ Tryz.underlying22 rfl rfl) ?_
      refine AOps.call (o_move _ rfl rfl) ?_
      refine AOps.nil ?_
      refine AWP.block ?_
      refine AWP.loop (ι := Nat) (fun i => AS.mk' 59 [(1, .ref (1, 0) 0), (5, .own (15, 0) (strs (wordsW p i))), (39, .sl (shws p.log)), (40, I (shws p.log).length), (41, I i)] [((1, 0), eP p)] [((15, 0), ((strs (wordsW p i)).length, 1, 9))] [(1, 1), (15, 1)]) (fun i => i ≤ p.log.length) (fun i => p.log.length - i) (0) (Weak.mk' rfl ⟨⟨.refl rfl, rfl⟩, ⟨⟨.refl rfl, rfl⟩, ⟨⟨.refl rfl, rfl⟩, ⟨⟨.refl rfl, rfl⟩, ⟨⟨.refl rfl, rfl⟩, trivial⟩⟩⟩⟩⟩ ⟨⟨rfl, rfl, rfl⟩, trivial⟩ ⟨⟨rfl, rfl⟩, trivial⟩) (Nat.zero_le _) ?_
      rintro m hm
      try dsimp only at *
      refine AWP.seq ?_
      refine AWP.region ?_
      refine AOps.call (o_bin _ _ rfl rfl (fun _ => rfl) rfl) ?_
      refine AOps.nil ?_
      refine AWP.seq ?_
      refine AWP.cond _ rfl (fun h36 => ?_) (fun h36 => ?_)
      · skip
        have hlt : m < p.log.length := by have := of_decide_eq_true h36; omega
        have hel := shws_at hlt
        have hb := log_bd hp _ (List.getElem_mem hlt)
        have z1 := itoa_size (n := p.log[m].day) (by omega) (by omega)
        have z2 := itoa_size (n := p.log[m].weight) (by omega) (by omega)
        have z4 : EQ.size = 1 := rfl
        have z5 : (ByteArray.mk #[61]).size = 1 := rfl
        refine AWP.skip ?_
        refine AWP.seq ?_
        refine AWP.block ?_
        refine AWP.seq ?_
        refine AWP.region ?_
        refine AOps.call (o_index _ _ Tryz.underlying22 Tryz.sizeOf27 rfl rfl (by omega) (by assumption) rfl rfl) ?_
        refine AOps.call (o_loadRd _ rfl Tryz.sizeOf27 Tryz.isAgg27 rfl rfl rfl) ?_
        refine AOps.call (o_alloc ze27 rfl rfl) ?_
        refine AOps.cons (o_store _ _ rfl rfl Tryz.sizeOf27 rfl rfl rfl rfl rfl) ?_
        refine AOps.nil ?_
        refine AWP.drawn 10 mixed (by kernel_rfl) ?_
        refine AHead.call (o_move _ rfl rfl) rfl ?_
        refine AHead.call (o_fieldRef _ rfl fa27_0 rfl rfl) rfl ?_
        refine AHead.call (o_loadRef _ rfl rfl Tryz.sizeOf3 Tryz.isAgg3 rfl rfl rfl) rfl ?_
        refine AHead.call (o_callG (Itoa_s (p.log[m].day) (by omega) (by omega)) hG Tryz.call81 rfl rfl) rfl ?_
        refine AHead.call (o_cat _ _ rfl rfl (by (try simp only [cat_size]); omega) rfl) rfl ?_
        refine AHead.call (o_fieldRef _ rfl fa27_1 rfl rfl) rfl ?_
        refine AHead.call (o_loadRef _ rfl rfl Tryz.sizeOf3 Tryz.isAgg3 rfl rfl rfl) rfl ?_
        refine AHead.call (o_callG (Itoa_s (p.log[m].weight) (by omega) (by omega)) hG Tryz.call81 rfl rfl) rfl ?_
        refine AHead.call (o_cat _ _ rfl rfl (by (try simp only [cat_size]); omega) rfl) rfl ?_
        refine AHead.call (o_lit Tryz.underlying116 Tryz.sizeOf9 Tryz.zeroValue9 rfl rfl rfl rfl rfl rfl rfl) rfl ?_
        refine AHead.nil ?_
        refine AOps.cons (o_append _ _ Tryz.underlying116 info9 rfl rfl rfl rfl rfl rfl rfl rfl (fun c hc => by simp at hc; subst hc; rfl) strs_z (by
            rw [strs_len, wordsW_len, List.length_take]; simp only [List.length_cons, List.length_nil, Nat.zero_add]; unfold Tryz.t9; simp only []; omega) rfl (wordsW_snoc p hlt) rfl) ?_
        refine AOps.call (o_assign _ rfl rfl) ?_
        refine AOps.nil ?_
        refine AWP.region ?_
        refine AOps.call (o_add _ _ rfl rfl ⟨by (try dsimp only); omega, by (try dsimp only); omega⟩ rfl) ?_
        refine AOps.call (o_move _ rfl rfl) ?_
        refine AOps.nil ?_
        refine ⟨m + 1, ?_, (Weak.mk' rfl ⟨⟨.refl rfl, rfl⟩, ⟨⟨.refl rfl, rfl⟩, ⟨⟨.refl rfl, rfl⟩, ⟨⟨.refl rfl, rfl⟩, ⟨⟨.refl rfl, rfl⟩, trivial⟩⟩⟩⟩⟩ ⟨⟨rfl, rfl, rfl⟩, trivial⟩ ⟨⟨rfl, rfl⟩, trivial⟩)⟩
        exact ⟨by omega, by omega⟩
      · skip
        have hml : m = p.log.length := by have := of_decide_eq_false h36; omega
        subst hml
        refine AWP.exit ?_
        refine AWP.seq ?_
        refine AWP.region ?_
        refine AOps.call (o_move _ rfl rfl) ?_
        refine AOps.call (o_call (Join_s (wordsW p p.log.length) SP (by rw [wordsW_len, List.take_length]; omega) (wordsW_bound hp)) Tryz.call82 rfl rfl) ?_
        refine AOps.call (o_assign _ rfl rfl) ?_
        refine AOps.call (o_assign _ rfl rfl) ?_
        refine AOps.nil ?_
        refine AWP.ret ?_
        refine postQ.ret2 Tryz.results50 rfl rfl ?_
        first
        | (rw [hE, hl]; rfl)
        | (rw [hE]; rfl)
end Go.Proofs.YtelenedgaoglaaaGreatDoor
