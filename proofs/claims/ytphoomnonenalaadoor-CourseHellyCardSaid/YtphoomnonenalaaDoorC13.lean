import Derived.Test.YtphoomnonenalaaDoorC12
set_option linter.unusedSimpArgs false
set_option linter.unusedVariables false
namespace Go.Proofs.YtphoomnonenalaaDoor
open Go.Ab
def SP : ByteArray := ⟨#[32]⟩
def SL : ByteArray := ⟨#[47]⟩
def SHEETW : ByteArray := ⟨#[115, 104, 101, 101, 116]⟩
def headN (h : Sht) : List Int := [h.no, h.cell, h.day, h.known, h.scale, h.mouth, h.empty, h.emptyDay]
def kN (k : Stk) : List Int := [k.depth, k.core, k.full, k.lost, k.soil]
def wordsS (h : Sht) (l : List Stk) : List ByteArray := [SHEETW, joinedS SP (headN h)] ++ l.map fun k => joinedS SL (kN k)
def sheetT (h : Sht) : ByteArray := joinS (wordsS h h.stakes) SP
theorem words_len (h : Sht) (l : List Stk) : (wordsS h l).length = 2 + l.length := by unfold wordsS; rw [List.length_append, List.length_map]; rfl
theorem words_snoc (h : Sht) {k : Nat} (hk : k < h.stakes.length) : strs (wordsS h (h.stakes.take k)) ++ [[.sc (.string (joinedS SL (kN h.stakes[k])))]] = strs (wordsS h (h.stakes.take (k + 1))) := by
  unfold wordsS strs
  rw [List.take_succ_eq_append_getElem hk, List.map_append (l₁ := h.stakes.take k), ← List.append_assoc, List.map_append (l₂ := [h.stakes[k]].map _)]
  rfl
theorem headN_bd {h : Sht} (hb : sheetB h = true) : ∀ x ∈ headN h, -9223372036854775808 ≤ x ∧ x ≤ 9223372036854775807 := by
  simp only [sheetB, headB, mouthB, noB, dayB, weightB, Bool.and_eq_true, Bool.not_eq_true', decide_eq_true_eq, decide_eq_false_iff_not] at hb
  intro x hx
  simp only [headN, List.mem_cons, List.mem_nil_iff, or_false] at hx
  omega
theorem kN_bd {k : Stk} (hb : stakeB k = true) : ∀ x ∈ kN k, -9223372036854775808 ≤ x ∧ x ≤ 9223372036854775807 := by
  have := stakeB_bd hb
  intro x hx
  simp only [kN, List.mem_cons, List.mem_nil_iff, or_false] at hx
  omega
theorem joinedS_data (sep : ByteArray) (l : List Int) : (joinedS sep l).data.toList = Lib.join ((l.map itoaS).map (·.data.toList)) sep.data.toList := by
  simp [joinedS, joinS]
theorem words_bound {h : Sht} (hb : sheetB h = true) : (Lib.join ((wordsS h h.stakes).map (·.data.toList)) SP.data.toList).length ≤ 140737488355328 := by
  have hbd := sheetB_bd hb
  have h1 := join_len (m := 300) (sep := SP.data.toList) ((wordsS h h.stakes).map (·.data.toList)) (by
    intro x hx
    obtain ⟨y, hy, rfl⟩ := List.mem_map.1 hx
    rcases List.mem_append.1 hy with hy | hy
    · simp only [List.mem_cons, List.mem_nil_iff, or_false] at hy
      rcases hy with rfl | rfl
      · exact leB rfl
      · rw [joinedS_data]
        have := joined_lenN SP (headN h) (leB rfl) (headN_bd hb)
        exact Nat.le_trans this (leB rfl)
    · obtain ⟨k, hk, rfl⟩ := List.mem_map.1 hy
      rw [joinedS_data]
      have := joined_lenN SL (kN k) (leB rfl) (kN_bd (sheetB_stakes hb k hk))
      exact Nat.le_trans this (leB rfl))
  rw [List.length_map, words_len] at h1
  refine Nat.le_trans h1 (Nat.le_trans (Nat.mul_le_mul (show 2 + h.stakes.length ≤ 34 by omega) (Nat.le_refl _)) (leB rfl))

set_option maxRecDepth 20000 in
theorem PrintSheet_s (h : Sht) : FSpecG Tryd.prog TAB 65 [.agg (eH h)] (if sheetB h then .tup [.sc (.string (sheetT h)), I 0] else .tup [.sc (.string ⟨#[]⟩), I 12]) (none) := by
  refine FSpecG.of_body tab_stable Tryd.func65 rfl (leB rfl) fun w0 M0 hG => ?_
  refine AWP.seq ?_
  refine AWP.region ?_
  refine AOps.call (o_box _ rfl rfl rfl) ?_
  refine AOps.call (o_assign _ rfl rfl) ?_
  refine AOps.call (o_assign _ rfl rfl) ?_
  refine AOps.nil ?_
  refine AWP.seq ?_
  refine AWP.seq ?_
  refine AWP.region ?_
  refine AOps.call (o_loadRef _ rfl rfl Tryd.sizeOf54 Tryd.isAgg54 rfl rfl rfl) ?_
  refine AOps.call (o_call (CheckSheet_s h) Tryd.call35 rfl rfl) ?_
  refine AOps.call (o_assign _ rfl rfl) ?_
  refine AOps.nil ?_
  refine AWP.seq ?_
  refine AWP.region ?_
  refine AOps.call (o_move _ rfl rfl) ?_
  refine AOps.call (o_bin _ _ rfl rfl (fun _ => rfl) rfl) ?_
  refine AOps.nil ?_
  refine AWP.cond _ rfl (fun h7 => ?_) (fun h7 => ?_)
  · skip
    have hb : sheetB h = false := by
      cases hh : sheetB h with
      | false => rfl
      | true => rw [hh] at h7; simp at h7
    refine AWP.seq ?_
    refine AWP.region ?_
    refine AOps.call (o_move _ rfl rfl) ?_
    refine AOps.call (o_assign _ rfl rfl) ?_
    refine AOps.call (o_assign _ rfl rfl) ?_
    refine AOps.nil ?_
    refine AWP.ret ?_
    refine postQ.ret2 Tryd.results65 rfl rfl ?_
    rw [hb]; rfl
  · skip
    have hb : sheetB h = true := by
      cases hh : sheetB h with
      | true => rfl
      | false => rw [hh] at h7; simp at h7
    have hbd := sheetB_bd hb
    refine AWP.skip ?_
    refine AWP.seq ?_
    refine AWP.region ?_
    refine AOps.call (o_fieldRef _ rfl fa54_0 rfl rfl) ?_
    refine AOps.call (o_loadRef _ rfl rfl Tryd.sizeOf3 Tryd.isAgg3 rfl rfl rfl) ?_
    refine AOps.call (o_fieldRef _ rfl fa54_1 rfl rfl) ?_
    refine AOps.call (o_loadRef _ rfl rfl Tryd.sizeOf3 Tryd.isAgg3 rfl rfl rfl) ?_
    refine AOps.call (o_fieldRef _ rfl fa54_2 rfl rfl) ?_
    refine AOps.call (o_loadRef _ rfl rfl Tryd.sizeOf3 Tryd.isAgg3 rfl rfl rfl) ?_
    refine AOps.call (o_fieldRef _ rfl fa54_3 rfl rfl) ?_
    refine AOps.call (o_loadRef _ rfl rfl Tryd.sizeOf3 Tryd.isAgg3 rfl rfl rfl) ?_
    refine AOps.call (o_fieldRef _ rfl fa54_4 rfl rfl) ?_
    refine AOps.call (o_loadRef _ rfl rfl Tryd.sizeOf3 Tryd.isAgg3 rfl rfl rfl) ?_
    refine AOps.call (o_fieldRef _ rfl fa54_5 rfl rfl) ?_
    refine AOps.call (o_loadRef _ rfl rfl Tryd.sizeOf3 Tryd.isAgg3 rfl rfl rfl) ?_
    refine AOps.call (o_fieldRef _ rfl fa54_6 rfl rfl) ?_
    refine AOps.call (o_loadRef _ rfl rfl Tryd.sizeOf3 Tryd.isAgg3 rfl rfl rfl) ?_
    refine AOps.call (o_fieldRef _ rfl fa54_7 rfl rfl) ?_
    refine AOps.call (o_loadRef _ rfl rfl Tryd.sizeOf3 Tryd.isAgg3 rfl rfl rfl) ?_
    refine AOps.call (o_lit Tryd.underlying45 Tryd.sizeOf3 Tryd.zeroValue3 rfl rfl rfl rfl rfl rfl rfl) ?_
    refine AOps.call (o_callG (joined_s SP (headN h) (leB rfl) (leB rfl) (headN_bd hb)) hG Tryd.call120 rfl rfl) ?_
    refine AOps.call (o_lit Tryd.underlying135 Tryd.sizeOf9 Tryd.zeroValue9 rfl rfl rfl rfl rfl rfl rfl) ?_
    refine AOps.call (o_assign _ rfl rfl) ?_
    refine AOps.nil ?_
    refine AWP.seq ?_
    refine AWP.seq ?_
    refine AWP.region ?_
    refine AOps.call (o_fieldRef _ rfl fa54_8 rfl rfl) ?_
    refine AOps.call (o_loadRef _ rfl rfl Tryd.sizeOf52 Tryd.isAgg52 rfl rfl rfl) ?_
    refine AOps.call (o_len _ Tryd.underlying52 rfl rfl) ?_
    refine AOps.call (o_move _ rfl rfl) ?_
    refine AOps.nil ?_
    refine AWP.block ?_
    refine AWP.loop (ι := Nat) (fun i => AS.mk' 50 [(1, .ref (1, 0) 0), (5, .own (32, 0) (strs (wordsS h (h.stakes.take i)))), (34, .sl (stakes h.stakes)), (35, I (stakes h.stakes).length), (36, I i)] [((1, 0), eH h)] [((32, 0), ((strs (wordsS h (h.stakes.take i))).length, 1, 9))] [(1, 1), (32, 1)]) (fun i => i ≤ h.stakes.length) (fun i => h.stakes.length - i) (0) (Weak.mk' rfl ⟨⟨.refl rfl, rfl⟩, ⟨⟨.refl rfl, rfl⟩, ⟨⟨.refl rfl, rfl⟩, ⟨⟨.refl rfl, rfl⟩, ⟨⟨.refl rfl, rfl⟩, trivial⟩⟩⟩⟩⟩ ⟨⟨rfl, rfl, rfl⟩, trivial⟩ ⟨⟨rfl, rfl⟩, trivial⟩) (Nat.zero_le _) ?_
    rintro k hk
    try dsimp only at *
    refine AWP.seq ?_
    refine AWP.region ?_
    refine AOps.call (o_bin _ _ rfl rfl (fun _ => rfl) rfl) ?_
    refine AOps.nil ?_
    refine AWP.seq ?_
    refine AWP.cond _ rfl (fun h33 => ?_) (fun h33 => ?_)
    · skip
      have hlt : k < h.stakes.length := by simpa [stakes] using h33
      have hel := stakes_get hlt
      refine AWP.skip ?_
      refine AWP.seq ?_
      refine AWP.block ?_
      refine AWP.seq ?_
      refine AWP.region ?_
      refine AOps.call (o_index _ _ Tryd.underlying52 Tryd.sizeOf79 rfl rfl (by omega) (by assumption) rfl rfl) ?_
      refine AOps.call (o_loadRd _ rfl Tryd.sizeOf79 Tryd.isAgg79 rfl rfl rfl) ?_
      refine AOps.call (o_alloc ze79 rfl rfl) ?_
      refine AOps.cons (o_store _ _ rfl rfl Tryd.sizeOf79 rfl rfl rfl rfl rfl) ?_
      refine AOps.nil ?_
      refine AWP.seq ?_
      refine AWP.region ?_
      refine AOps.call (o_loadRef _ rfl rfl Tryd.sizeOf79 Tryd.isAgg79 rfl rfl rfl) ?_
      refine AOps.call (o_call (stakeNumbers_s h.stakes[k]) Tryd.call121 rfl rfl) ?_
      refine AOps.call (o_alloc ze136 rfl rfl) ?_
      refine AOps.cons (o_store _ _ rfl rfl Tryd.sizeOf136 rfl rfl rfl rfl rfl) ?_
      refine AOps.nil ?_
      refine AWP.region ?_
      refine AOps.call (o_move _ rfl rfl) ?_
      refine AOps.call (o_sliceArr _ Tryd.underlying136 Tryd.sizeOf3 rfl rfl rfl rfl rfl) ?_
      refine AOps.weak (Weak.frz (id := (8, 0)) (t := 43) (z := 1) (es := ints (kN h.stakes[k])) rfl rfl rfl rfl ints_z rfl) ?_
      refine AOps.call (o_callG (joined_s SL (kN h.stakes[k]) (leB rfl) (leB rfl) (kN_bd (sheetB_stakes hb _ (List.getElem_mem hlt)))) hG Tryd.call120 rfl rfl) ?_
      refine AOps.call (o_lit Tryd.underlying135 Tryd.sizeOf9 Tryd.zeroValue9 rfl rfl rfl rfl rfl rfl rfl) ?_
      refine AOps.cons (o_append _ _ Tryd.underlying135 info9 rfl rfl rfl rfl rfl rfl rfl rfl (fun c hc => by simp at hc; subst hc; rfl) strs_z (by
          rw [strs_len, words_len, List.length_take]; simp only [List.length_cons, List.length_nil, Nat.zero_add]; unfold Tryd.t9; simp only []; omega) rfl (words_snoc h hlt) rfl) ?_
      refine AOps.call (o_assign _ rfl rfl) ?_
      refine AOps.nil ?_
      refine AWP.region ?_
      refine AOps.call (o_add _ _ rfl rfl ⟨by (try dsimp only); omega, by (try dsimp only); omega⟩ rfl) ?_
      refine AOps.call (o_move _ rfl rfl) ?_
      refine AOps.nil ?_
      refine ⟨k + 1, ?_, (Weak.mk' rfl ⟨⟨.refl rfl, rfl⟩, ⟨⟨.refl rfl, rfl⟩, ⟨⟨.refl rfl, rfl⟩, ⟨⟨.refl rfl, rfl⟩, ⟨⟨.refl rfl, rfl⟩, trivial⟩⟩⟩⟩⟩ ⟨⟨rfl, rfl, rfl⟩, trivial⟩ ⟨⟨rfl, rfl⟩, trivial⟩)⟩
      exact ⟨by omega, by omega⟩
    · skip
      have hkl : k = h.stakes.length := by simp [stakes] at h33 hk; omega
      subst hkl
      rw [List.take_length]
      refine AWP.exit ?_
      refine AWP.seq ?_
      refine AWP.region ?_
      refine AOps.call (o_move _ rfl rfl) ?_
      refine AOps.call (o_call (Join_s (wordsS h h.stakes) SP (by rw [words_len]; omega) (words_bound hb)) Tryd.call122 rfl rfl) ?_
      refine AOps.call (o_assign _ rfl rfl) ?_
      refine AOps.call (o_assign _ rfl rfl) ?_
      refine AOps.nil ?_
      refine AWP.ret ?_
      refine postQ.ret2 Tryd.results65 rfl rfl ?_
      rw [hb]; rfl

end Go.Proofs.YtphoomnonenalaaDoor
