import Derived.Test.YtgagfmjpmdgfdaaDoorQ13
import Derived.Test.YtgagfmjpmdgfdaaDoorP8
set_option linter.unusedSimpArgs false
set_option linter.unusedVariables false
namespace Go.Proofs.YtgagfmjpmdgfdaaDoor
open Go.Ab

def prnM (p : List Lay) : ByteArray × Int := if packE p = 0 then (prnS p, 0) else (⟨#[]⟩, 20)

set_option maxRecDepth 20000 in
theorem Print_s (p : List Lay) : FSpecG Tryd.prog TAB 58 [.agg (eK p)] (.tup [.sc (.string (prnM p).1), I (prnM p).2]) (none) := by
  refine FSpecG.of_body tab_stable Tryd.func58 rfl (leB rfl) fun w0 M0 hG => ?_
  have hpl := lays_len p
  refine AWP.seq ?_
  refine AWP.region ?_
  refine AOps.call (o_box _ rfl rfl rfl) ?_
  refine AOps.call (o_assign _ rfl rfl) ?_
  refine AOps.call (o_assign _ rfl rfl) ?_
  refine AOps.nil ?_
  refine AWP.seq ?_
  refine AWP.seq ?_
  refine AWP.region ?_
  refine AOps.call (o_loadRef _ rfl rfl Tryd.sizeOf24 Tryd.isAgg24 rfl rfl rfl) ?_
  refine AOps.call (o_call (Check_s _) Tryd.call26 rfl rfl) ?_
  refine AOps.call (o_assign _ rfl rfl) ?_
  refine AOps.nil ?_
  refine AWP.seq ?_
  refine AWP.region ?_
  refine AOps.call (o_move _ rfl rfl) ?_
  refine AOps.call (o_bin _ _ rfl rfl (fun _ => rfl) rfl) ?_
  refine AOps.nil ?_
  refine AWP.cond _ rfl (fun h7 => ?_) (fun h7 => ?_)
  · skip
    have hp : ¬ packE p = 0 := by simpa using h7
    have hp20 := packE_20 hp
    have hE : (prnM p) = (⟨#[]⟩, packE p) := by unfold prnM; rw [if_neg hp, hp20]
    refine AWP.seq ?_
    refine AWP.region ?_
    refine AOps.call (o_move _ rfl rfl) ?_
    refine AOps.call (o_assign _ rfl rfl) ?_
    refine AOps.call (o_assign _ rfl rfl) ?_
    refine AOps.nil ?_
    refine AWP.ret ?_
    refine postQ.ret2 Tryd.results58 rfl rfl ?_
    rw [hE]
    rfl
  · skip
    have hp : packE p = 0 := by simpa using h7
    have hpv := packE_0.1 hp
    have hE : (prnM p) = (prnS p, 0) := by unfold prnM; rw [if_pos hp]
    refine AWP.skip ?_
    refine AWP.seq ?_
    refine AWP.region ?_
    refine AOps.call (o_lit Tryd.underlying97 Tryd.sizeOf9 Tryd.zeroValue9 rfl rfl rfl rfl rfl rfl rfl) ?_
    refine AOps.call (o_assign _ rfl rfl) ?_
    refine AOps.nil ?_
    refine AWP.seq ?_
    refine AWP.seq ?_
    refine AWP.region ?_
    refine AOps.call (o_fieldRef _ rfl fa24_0 rfl rfl) ?_
    refine AOps.call (o_loadRef _ rfl rfl Tryd.sizeOf22 Tryd.isAgg22 rfl rfl rfl) ?_
    refine AOps.call (o_len _ Tryd.underlying22 rfl rfl) ?_
    refine AOps.call (o_move _ rfl rfl) ?_
    refine AOps.nil ?_
    refine AWP.block ?_
    refine AWP.loop (ι := Nat) (fun i => AS.mk' 40 [(1, .ref (1, 0) 0), (5, .own (13, 0) (strs (wordsP (p.take i)))), (15, .sl (lays p)), (16, I (lays p).length), (17, I i)] [((1, 0), eK p)] [((13, 0), ((strs (wordsP (p.take i))).length, 1, 9))] [(1, 1), (13, 1)]) (fun i => i ≤ p.length) (fun i => p.length - i) (0) (Weak.mk' rfl ⟨⟨.refl rfl, rfl⟩, ⟨⟨.refl rfl, rfl⟩, ⟨⟨.refl rfl, rfl⟩, ⟨⟨.refl rfl, rfl⟩, ⟨⟨.refl rfl, rfl⟩, trivial⟩⟩⟩⟩⟩ ⟨⟨rfl, rfl, rfl⟩, trivial⟩ ⟨⟨rfl, rfl⟩, trivial⟩) (Nat.zero_le _) ?_
    rintro k hk
    try dsimp only at *
    refine AWP.seq ?_
    refine AWP.region ?_
    refine AOps.call (o_bin _ _ rfl rfl (fun _ => rfl) rfl) ?_
    refine AOps.nil ?_
    refine AWP.seq ?_
    refine AWP.cond _ rfl (fun h15 => ?_) (fun h15 => ?_)
    · skip
      have hlt : k < p.length := by have hq := of_decide_eq_true h15; omega
      have hel := lays_at hlt
      have hb := (layB_iff.1 (hpv.2.1 _ (List.getElem_mem hlt))).1
      have z1 := itoa_size (n := p[k].ice) (by omega) (by omega)
      have z2 := itoa_size (n := p[k].wet) (by omega) (by omega)
      have z3 := itoa_size (n := p[k].cold) (by omega) (by omega)
      have z4 : SL.size = 1 := rfl
      have z5 : (ByteArray.mk #[47]).size = 1 := rfl
      refine AWP.skip ?_
      refine AWP.seq ?_
      refine AWP.block ?_
      refine AWP.seq ?_
      refine AWP.region ?_
      refine AOps.call (o_index _ _ Tryd.underlying22 Tryd.sizeOf28 rfl rfl (by omega) (by assumption) rfl rfl) ?_
      refine AOps.call (o_loadRd _ rfl Tryd.sizeOf28 Tryd.isAgg28 rfl rfl rfl) ?_
      refine AOps.call (o_alloc ze28 rfl rfl) ?_
      refine AOps.cons (o_store _ _ rfl rfl Tryd.sizeOf28 rfl rfl rfl rfl rfl) ?_
      refine AOps.nil ?_
      refine AWP.drawn 15 mixed (by kernel_rfl) ?_
      refine AHead.call (o_move _ rfl rfl) rfl ?_
      refine AHead.call (o_fieldRef _ rfl fa28_0 rfl rfl) rfl ?_
      refine AHead.call (o_loadRef _ rfl rfl Tryd.sizeOf3 Tryd.isAgg3 rfl rfl rfl) rfl ?_
      refine AHead.call (o_callG (Itoa_s p[k].ice (by omega) (by omega)) hG Tryd.call87 rfl rfl) rfl ?_
      refine AHead.call (o_cat _ _ rfl rfl (by (try simp only [cat_size]); omega) rfl) rfl ?_
      refine AHead.call (o_fieldRef _ rfl fa28_1 rfl rfl) rfl ?_
      refine AHead.call (o_loadRef _ rfl rfl Tryd.sizeOf3 Tryd.isAgg3 rfl rfl rfl) rfl ?_
      refine AHead.call (o_callG (Itoa_s p[k].wet (by omega) (by omega)) hG Tryd.call87 rfl rfl) rfl ?_
      refine AHead.call (o_cat _ _ rfl rfl (by (try simp only [cat_size]); omega) rfl) rfl ?_
      refine AHead.call (o_cat _ _ rfl rfl (by (try simp only [cat_size]); omega) rfl) rfl ?_
      refine AHead.call (o_fieldRef _ rfl fa28_2 rfl rfl) rfl ?_
      refine AHead.call (o_loadRef _ rfl rfl Tryd.sizeOf3 Tryd.isAgg3 rfl rfl rfl) rfl ?_
      refine AHead.call (o_callG (Itoa_s p[k].cold (by omega) (by omega)) hG Tryd.call87 rfl rfl) rfl ?_
      refine AHead.call (o_cat _ _ rfl rfl (by (try simp only [cat_size]); omega) rfl) rfl ?_
      refine AHead.call (o_lit Tryd.underlying97 Tryd.sizeOf9 Tryd.zeroValue9 rfl rfl rfl rfl rfl rfl rfl) rfl ?_
      refine AHead.nil ?_
      refine AOps.cons (o_append _ _ Tryd.underlying97 info9 rfl rfl rfl rfl rfl rfl rfl rfl (fun c hc => by simp at hc; subst hc; rfl) strs_z (by
          rw [strs_len, wordsP_len, List.length_take]; simp only [List.length_cons, List.length_nil, Nat.zero_add]; unfold Tryd.t9; simp only []; omega) rfl (wordsP_snoc hlt) rfl) ?_
      refine AOps.call (o_assign _ rfl rfl) ?_
      refine AOps.nil ?_
      refine AWP.region ?_
      refine AOps.call (o_add _ _ rfl rfl ⟨by (try dsimp only); omega, by (try dsimp only); omega⟩ rfl) ?_
      refine AOps.call (o_move _ rfl rfl) ?_
      refine AOps.nil ?_
      refine ⟨k + 1, ?_, (Weak.mk' rfl ⟨⟨.refl rfl, rfl⟩, ⟨⟨.refl rfl, rfl⟩, ⟨⟨.refl rfl, rfl⟩, ⟨⟨.refl rfl, rfl⟩, ⟨⟨.refl rfl, rfl⟩, trivial⟩⟩⟩⟩⟩ ⟨⟨rfl, rfl, rfl⟩, trivial⟩ ⟨⟨rfl, rfl⟩, trivial⟩)⟩
      exact ⟨by omega, by omega⟩
    · skip
      have hkl : k = p.length := by have hq := of_decide_eq_false h15; omega
      subst hkl
      rw [List.take_length]
      refine AWP.exit ?_
      refine AWP.seq ?_
      refine AWP.region ?_
      refine AOps.call (o_move _ rfl rfl) ?_
      refine AOps.call (o_call (Join_s (wordsP p) SP (by rw [wordsP_len]; omega) (wordsP_bound hpv.2.1 hpv.1)) Tryd.call88 rfl rfl) ?_
      refine AOps.call (o_assign _ rfl rfl) ?_
      refine AOps.call (o_assign _ rfl rfl) ?_
      refine AOps.nil ?_
      refine AWP.ret ?_
      refine postQ.ret2 Tryd.results58 rfl rfl ?_
      rw [hE]
      rfl

end Go.Proofs.YtgagfmjpmdgfdaaDoor
