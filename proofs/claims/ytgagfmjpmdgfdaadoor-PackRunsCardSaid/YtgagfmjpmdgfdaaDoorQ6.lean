import Derived.Test.YtgagfmjpmdgfdaaDoorQ5
set_option linter.unusedSimpArgs false
set_option linter.unusedVariables false
namespace Go.Proofs.YtgagfmjpmdgfdaaDoor
open Go.Ab

theorem rep_split {n : Nat} (h : n ≤ 64) : List.replicate 64 zLay = List.replicate (64 - n) zLay ++ List.replicate n zLay := by
  rw [List.replicate_append_replicate]; congr 1; omega

set_option maxRecDepth 20000 in
theorem stand_a (p : List Lay) (h0 : 0 < p.length) (h1 : p.length < 64) : FSpecR Tryd.prog 69 [.agg (eK p)] (colC (List.replicate (64 - p.length) zLay ++ p) ((64 - p.length : Nat) : Int)) := by
  refine FSpecR.of_body Tryd.func69 rfl (leB rfl) fun w0 M0 => ?_
  have hpl := lays_len p
  have hT : (64 - ((lays p).length : Int)) = ((64 - p.length : Nat) : Int) := by rw [hpl]; omega
  have hz64 : (List.replicate 64 zLay).length = 64 := by simp
  have hC : splice (colC (List.replicate 64 zLay) (64 - ((lays p).length : Int))) (lays p).flatten ((64 - p.length) * 3) = colC (List.replicate (64 - p.length) zLay ++ p) (64 - ((lays p).length : Int)) := by rw [rep_split (n := p.length) (by omega)]; exact col_copy (by simp) (by simp)
  refine AWP.seq ?_
  refine AWP.region ?_
  refine AOps.call (o_box _ rfl rfl rfl) ?_
  refine AOps.call (o_assign _ rfl rfl) ?_
  refine AOps.nil ?_
  refine AWP.seq ?_
  refine AWP.region ?_
  refine AOps.call (o_fieldRef _ rfl fa24_0 rfl rfl) ?_
  refine AOps.call (o_loadRef _ rfl rfl Tryd.sizeOf22 Tryd.isAgg22 rfl rfl rfl) ?_
  refine AOps.call (o_len _ Tryd.underlying22 rfl rfl) ?_
  refine AOps.call (o_sub _ _ rfl rfl ⟨by (try dsimp only); omega, by (try dsimp only); omega⟩ rfl) ?_
  refine AOps.call (o_build (cs := colC (List.replicate 64 zLay) (64 - ((lays p).length : Int))) bu102 (by rfl) (nfL_sc _ (col_scs _ _)) rfl) ?_
  refine AOps.call (o_box (cs := colC (List.replicate 64 zLay) (64 - ((lays p).length : Int))) (ds := colC (List.replicate 64 zLay) (64 - ((lays p).length : Int))) _ rfl (nfL_sc _ (col_scs _ _)) rfl) ?_
  refine AOps.call (o_assign _ rfl rfl) ?_
  refine AOps.nil ?_
  refine AWP.seq ?_
  refine AWP.drawn 10 mixed (by kernel_rfl) ?_
  refine AHead.call (o_move _ rfl rfl) rfl ?_
  refine AHead.call (o_nilCheck _ rfl rfl) rfl ?_
  refine AHead.call (o_fieldRef _ rfl fa102_0 rfl rfl) rfl ?_
  refine AHead.call (o_move _ rfl rfl) rfl ?_
  refine AHead.call (o_nilCheck _ rfl rfl) rfl ?_
  refine AHead.call (o_fieldRef _ rfl fa102_1 rfl rfl) rfl ?_
  refine AHead.call (o_loadRefE _ rfl rfl Tryd.sizeOf3 Tryd.isAgg3 (col_top hz64) rfl) rfl ?_
  refine AHead.call (o_sliceRef (l := 64 - p.length) (off' := (64 - p.length) * 3) (k := p.length) _ _ Tryd.underlying100 Tryd.sizeOf28 rfl (boundA_some rfl (by omega) (by omega)) (by omega) (by omega) (by omega) (by omega) rfl) rfl ?_
  refine AHead.call (o_fieldRef _ rfl fa24_0 rfl rfl) rfl ?_
  refine AHead.call (o_loadRef _ rfl rfl Tryd.sizeOf22 Tryd.isAgg22 rfl rfl rfl) rfl ?_
  refine AHead.nil ?_
  refine AOps.cons (o_copyArr _ _ Tryd.underlying22 Tryd.sizeOf28 rfl rfl rfl lays_z rfl hpl (by omega) (by rw [col_len, hz64]; omega) hC rfl) ?_
  refine AOps.nil ?_
  refine AWP.seq ?_
  refine AWP.region ?_
  refine AOps.call (o_move _ rfl rfl) ?_
  refine AOps.call (o_assign _ rfl rfl) ?_
  refine AOps.nil ?_
  refine AWP.ret ?_
  exact ⟨(9, 0), ⟨rfl, trivial⟩, (by rw [← hT]; exact col_close _ _)⟩

set_option maxRecDepth 20000 in
theorem stand_b (p : List Lay) (h1 : p.length = 64) : FSpecR Tryd.prog 69 [.agg (eK p)] (colC (List.replicate (64 - p.length) zLay ++ p) ((64 - p.length : Nat) : Int)) := by
  refine FSpecR.of_body Tryd.func69 rfl (leB rfl) fun w0 M0 => ?_
  have hpl := lays_len p
  have hT : (64 - ((lays p).length : Int)) = ((64 - p.length : Nat) : Int) := by rw [hpl]; omega
  have hz64 : (List.replicate 64 zLay).length = 64 := by simp
  have hC : splice (colC (List.replicate 64 zLay) (64 - ((lays p).length : Int))) (lays p).flatten 0 = colC (List.replicate (64 - p.length) zLay ++ p) (64 - ((lays p).length : Int)) := by rw [show (List.replicate 64 zLay) = [] ++ List.replicate 64 zLay from rfl, h1]; exact col_copy (by simp [h1]) rfl
  refine AWP.seq ?_
  refine AWP.region ?_
  refine AOps.call (o_box _ rfl rfl rfl) ?_
  refine AOps.call (o_assign _ rfl rfl) ?_
  refine AOps.nil ?_
  refine AWP.seq ?_
  refine AWP.region ?_
  refine AOps.call (o_fieldRef _ rfl fa24_0 rfl rfl) ?_
  refine AOps.call (o_loadRef _ rfl rfl Tryd.sizeOf22 Tryd.isAgg22 rfl rfl rfl) ?_
  refine AOps.call (o_len _ Tryd.underlying22 rfl rfl) ?_
  refine AOps.call (o_sub _ _ rfl rfl ⟨by (try dsimp only); omega, by (try dsimp only); omega⟩ rfl) ?_
  refine AOps.call (o_build (cs := colC (List.replicate 64 zLay) (64 - ((lays p).length : Int))) bu102 (by rfl) (nfL_sc _ (col_scs _ _)) rfl) ?_
  refine AOps.call (o_box (cs := colC (List.replicate 64 zLay) (64 - ((lays p).length : Int))) (ds := colC (List.replicate 64 zLay) (64 - ((lays p).length : Int))) _ rfl (nfL_sc _ (col_scs _ _)) rfl) ?_
  refine AOps.call (o_assign _ rfl rfl) ?_
  refine AOps.nil ?_
  refine AWP.seq ?_
  refine AWP.drawn 10 mixed (by kernel_rfl) ?_
  refine AHead.call (o_move _ rfl rfl) rfl ?_
  refine AHead.call (o_nilCheck _ rfl rfl) rfl ?_
  refine AHead.call (o_fieldRef _ rfl fa102_0 rfl rfl) rfl ?_
  refine AHead.call (o_move _ rfl rfl) rfl ?_
  refine AHead.call (o_nilCheck _ rfl rfl) rfl ?_
  refine AHead.call (o_fieldRef _ rfl fa102_1 rfl rfl) rfl ?_
  refine AHead.call (o_loadRefE _ rfl rfl Tryd.sizeOf3 Tryd.isAgg3 (col_top hz64) rfl) rfl ?_
  refine AHead.call (o_sliceRefA (l := 0) _ _ Tryd.underlying100 Tryd.sizeOf28 rfl (boundA_some rfl (by omega) (by omega)) rfl (by omega) rfl (by rw [col_len]; simp) (by unfold maxLen; omega) rfl) rfl ?_
  refine AHead.call (o_fieldRef _ rfl fa24_0 rfl rfl) rfl ?_
  refine AHead.call (o_loadRef _ rfl rfl Tryd.sizeOf22 Tryd.isAgg22 rfl rfl rfl) rfl ?_
  refine AHead.nil ?_
  refine AOps.cons (o_copyArr _ _ Tryd.underlying22 Tryd.sizeOf28 rfl rfl rfl lays_z rfl (hpl.trans h1) (by omega) (by rw [col_len, hz64]; omega) hC rfl) ?_
  refine AOps.nil ?_
  refine AWP.seq ?_
  refine AWP.region ?_
  refine AOps.call (o_move _ rfl rfl) ?_
  refine AOps.call (o_assign _ rfl rfl) ?_
  refine AOps.nil ?_
  refine AWP.ret ?_
  exact ⟨(9, 0), ⟨rfl, trivial⟩, (by rw [← hT]; exact col_close _ _)⟩

set_option maxRecDepth 20000 in
theorem stand_c (p : List Lay) (h1 : p = []) : FSpecR Tryd.prog 69 [.agg (eK p)] (colC (List.replicate (64 - p.length) zLay ++ p) ((64 - p.length : Nat) : Int)) := by
  refine FSpecR.of_body Tryd.func69 rfl (leB rfl) fun w0 M0 => ?_
  have h0 : p.length = 0 := by rw [h1]; rfl
  have hpl := lays_len p
  have hT : (64 - ((lays p).length : Int)) = ((64 - p.length : Nat) : Int) := by rw [hpl]; omega
  have hz64 : (List.replicate 64 zLay).length = 64 := by simp
  have hC : colC (List.replicate 64 zLay) (64 - ((lays p).length : Int)) = colC (List.replicate (64 - p.length) zLay ++ p) (64 - ((lays p).length : Int)) := by subst h1; simp
  refine AWP.seq ?_
  refine AWP.region ?_
  refine AOps.call (o_box _ rfl rfl rfl) ?_
  refine AOps.call (o_assign _ rfl rfl) ?_
  refine AOps.nil ?_
  refine AWP.seq ?_
  refine AWP.region ?_
  refine AOps.call (o_fieldRef _ rfl fa24_0 rfl rfl) ?_
  refine AOps.call (o_loadRef _ rfl rfl Tryd.sizeOf22 Tryd.isAgg22 rfl rfl rfl) ?_
  refine AOps.call (o_len _ Tryd.underlying22 rfl rfl) ?_
  refine AOps.call (o_sub _ _ rfl rfl ⟨by (try dsimp only); omega, by (try dsimp only); omega⟩ rfl) ?_
  refine AOps.call (o_build (cs := colC (List.replicate 64 zLay) (64 - ((lays p).length : Int))) bu102 (by rfl) (nfL_sc _ (col_scs _ _)) rfl) ?_
  refine AOps.call (o_box (cs := colC (List.replicate 64 zLay) (64 - ((lays p).length : Int))) (ds := colC (List.replicate 64 zLay) (64 - ((lays p).length : Int))) _ rfl (nfL_sc _ (col_scs _ _)) rfl) ?_
  refine AOps.call (o_assign _ rfl rfl) ?_
  refine AOps.nil ?_
  refine AWP.seq ?_
  refine AWP.drawn 10 mixed (by kernel_rfl) ?_
  refine AHead.call (o_move _ rfl rfl) rfl ?_
  refine AHead.call (o_nilCheck _ rfl rfl) rfl ?_
  refine AHead.call (o_fieldRef _ rfl fa102_0 rfl rfl) rfl ?_
  refine AHead.call (o_move _ rfl rfl) rfl ?_
  refine AHead.call (o_nilCheck _ rfl rfl) rfl ?_
  refine AHead.call (o_fieldRef _ rfl fa102_1 rfl rfl) rfl ?_
  refine AHead.call (o_loadRefE _ rfl rfl Tryd.sizeOf3 Tryd.isAgg3 (col_top hz64) rfl) rfl ?_
  refine AHead.call (o_sliceRef0 (l := 64) _ _ Tryd.underlying100 Tryd.sizeOf28 rfl (boundA_some rfl (by omega) (by omega)) rfl rfl) rfl ?_
  refine AHead.call (o_fieldRef _ rfl fa24_0 rfl rfl) rfl ?_
  refine AHead.call (o_loadRef _ rfl rfl Tryd.sizeOf22 Tryd.isAgg22 rfl rfl rfl) rfl ?_
  refine AHead.nil ?_
  refine AOps.call (o_copy0 _ _ Tryd.underlying22 Tryd.sizeOf28 rfl rfl rfl) ?_
  refine AOps.nil ?_
  refine AWP.seq ?_
  refine AWP.region ?_
  refine AOps.call (o_move _ rfl rfl) ?_
  refine AOps.call (o_assign _ rfl rfl) ?_
  refine AOps.nil ?_
  refine AWP.ret ?_
  exact ⟨(9, 0), ⟨rfl, trivial⟩, (by rw [← hT, ← hC]; exact col_close _ _)⟩

theorem stand_s (p : List Lay) (hp : p.length ≤ 64) : FSpecR Tryd.prog 69 [.agg (eK p)] (colC (List.replicate (64 - p.length) zLay ++ p) ((64 - p.length : Nat) : Int)) := by
  rcases Nat.lt_or_ge p.length 64 with h | h
  · rcases Nat.eq_zero_or_pos p.length with h0 | h0
    · exact stand_c p (List.eq_nil_of_length_eq_zero h0)
    · exact stand_a p h0 h
  · exact stand_b p (by omega)

set_option maxRecDepth 20000 in
theorem pack_a (pre ls : List Lay) (hA : (pre ++ ls).length = 64) (h0 : 0 < ls.length) (h1 : 0 < pre.length) : FSpecM Tryd.prog 71 [.ref (1000000, 0) 0] [colC (pre ++ ls) pre.length] (.agg (eK ls)) none [colC (pre ++ ls) pre.length] := by
  refine FSpecM.of_body Tryd.func71 rfl (leB rfl) (leB rfl) rfl fun w0 M0 => ?_
  have hll := lays_len ls
  have hl2 : pre.length + ls.length = 64 := by simpa using hA
  refine AWP.seq ?_
  refine AWP.region ?_
  refine AOps.call (o_alloc ze24 rfl rfl) ?_
  refine AOps.nil ?_
  refine AWP.seq ?_
  refine AWP.drawn 8 mixed (by kernel_rfl) ?_
  refine AHead.call (o_move _ rfl rfl) rfl ?_
  refine AHead.call (o_nilCheck _ rfl rfl) rfl ?_
  refine AHead.call (o_fieldRef _ rfl fa102_0 rfl rfl) rfl ?_
  refine AHead.call (o_move _ rfl rfl) rfl ?_
  refine AHead.call (o_nilCheck _ rfl rfl) rfl ?_
  refine AHead.call (o_fieldRef _ rfl fa102_1 rfl rfl) rfl ?_
  refine AHead.call (o_loadRefE _ rfl rfl Tryd.sizeOf3 Tryd.isAgg3 (col_top hA) rfl) rfl ?_
  refine AHead.call (o_sliceRef (l := pre.length) (off' := pre.length * 3) (k := ls.length) _ _ Tryd.underlying100 Tryd.sizeOf28 rfl (boundA_some rfl (by omega) (by omega)) (by omega) (by omega) (by omega) (by omega) rfl) rfl ?_
  refine AHead.nil ?_
  refine AOps.cons (o_appNilArr (es := lays ls) _ Tryd.underlying22 info28 rfl rfl rfl rfl rfl rfl rfl (col_win rfl rfl) lays_z hll (lays_scs ls) (by omega) (by unfold Tryd.t28; simp only []; omega) rfl rfl) ?_
  refine AOps.call (o_build bu24 rfl rfl rfl) ?_
  refine AOps.cons (o_store _ _ rfl rfl Tryd.sizeOf24 rfl rfl rfl rfl rfl) ?_
  refine AOps.nil ?_
  refine AWP.ret ?_
  exact ⟨⟨[.agg [.own (11, 0) (lays ls)]], ⟨⟨(2, 0), 0, _, 1, true, rfl, rfl, Tryd.sizeOf24, Tryd.isAgg24, rfl⟩, trivial⟩, by first | rfl | (subst h1; rfl)⟩, col_close _ _, trivial⟩

set_option maxRecDepth 20000 in
theorem pack_b (pre ls : List Lay) (hA : (pre ++ ls).length = 64) (h1 : ls.length = 64) : FSpecM Tryd.prog 71 [.ref (1000000, 0) 0] [colC (pre ++ ls) pre.length] (.agg (eK ls)) none [colC (pre ++ ls) pre.length] := by
  refine FSpecM.of_body Tryd.func71 rfl (leB rfl) (leB rfl) rfl fun w0 M0 => ?_
  have hll := lays_len ls
  have hl2 : pre.length + ls.length = 64 := by simpa using hA
  have hp : pre = [] := List.eq_nil_of_length_eq_zero (by omega)
  have hW : ((colC (pre ++ ls) pre.length).drop 0).take (64 * 3) = (lays ls).flatten := by subst hp; exact col_win rfl h1
  refine AWP.seq ?_
  refine AWP.region ?_
  refine AOps.call (o_alloc ze24 rfl rfl) ?_
  refine AOps.nil ?_
  refine AWP.seq ?_
  refine AWP.drawn 8 mixed (by kernel_rfl) ?_
  refine AHead.call (o_move _ rfl rfl) rfl ?_
  refine AHead.call (o_nilCheck _ rfl rfl) rfl ?_
  refine AHead.call (o_fieldRef _ rfl fa102_0 rfl rfl) rfl ?_
  refine AHead.call (o_move _ rfl rfl) rfl ?_
  refine AHead.call (o_nilCheck _ rfl rfl) rfl ?_
  refine AHead.call (o_fieldRef _ rfl fa102_1 rfl rfl) rfl ?_
  refine AHead.call (o_loadRefE _ rfl rfl Tryd.sizeOf3 Tryd.isAgg3 (col_top hA) rfl) rfl ?_
  refine AHead.call (o_sliceRefA (l := 0) _ _ Tryd.underlying100 Tryd.sizeOf28 rfl (boundA_some rfl (by omega) (by omega)) rfl (by omega) rfl (by rw [col_len, hA]; omega) (by unfold maxLen; omega) rfl) rfl ?_
  refine AHead.nil ?_
  refine AOps.cons (o_appNilArr (es := lays ls) _ Tryd.underlying22 info28 rfl rfl rfl rfl rfl rfl rfl (hW) lays_z (hll.trans h1) (lays_scs ls) (by omega) (by unfold Tryd.t28; simp only []; omega) rfl rfl) ?_
  refine AOps.call (o_build bu24 rfl rfl rfl) ?_
  refine AOps.cons (o_store _ _ rfl rfl Tryd.sizeOf24 rfl rfl rfl rfl rfl) ?_
  refine AOps.nil ?_
  refine AWP.ret ?_
  exact ⟨⟨[.agg [.own (11, 0) (lays ls)]], ⟨⟨(2, 0), 0, _, 1, true, rfl, rfl, Tryd.sizeOf24, Tryd.isAgg24, rfl⟩, trivial⟩, by first | rfl | (subst h1; rfl)⟩, col_close _ _, trivial⟩

set_option maxRecDepth 20000 in
theorem pack_c (pre ls : List Lay) (hA : (pre ++ ls).length = 64) (h1 : ls = []) : FSpecM Tryd.prog 71 [.ref (1000000, 0) 0] [colC (pre ++ ls) pre.length] (.agg (eK ls)) none [colC (pre ++ ls) pre.length] := by
  refine FSpecM.of_body Tryd.func71 rfl (leB rfl) (leB rfl) rfl fun w0 M0 => ?_
  have hll := lays_len ls
  have hl2 : pre.length + ls.length = 64 := by simpa using hA
  have h0 : ls.length = 0 := by rw [h1]; rfl
  refine AWP.seq ?_
  refine AWP.region ?_
  refine AOps.call (o_alloc ze24 rfl rfl) ?_
  refine AOps.nil ?_
  refine AWP.seq ?_
  refine AWP.drawn 8 mixed (by kernel_rfl) ?_
  refine AHead.call (o_move _ rfl rfl) rfl ?_
  refine AHead.call (o_nilCheck _ rfl rfl) rfl ?_
  refine AHead.call (o_fieldRef _ rfl fa102_0 rfl rfl) rfl ?_
  refine AHead.call (o_move _ rfl rfl) rfl ?_
  refine AHead.call (o_nilCheck _ rfl rfl) rfl ?_
  refine AHead.call (o_fieldRef _ rfl fa102_1 rfl rfl) rfl ?_
  refine AHead.call (o_loadRefE _ rfl rfl Tryd.sizeOf3 Tryd.isAgg3 (col_top hA) rfl) rfl ?_
  refine AHead.call (o_sliceRef0 (l := 64) _ _ Tryd.underlying100 Tryd.sizeOf28 rfl (boundA_some rfl (by omega) (by omega)) rfl rfl) rfl ?_
  refine AHead.nil ?_
  refine AOps.cons (o_appNil0 _ Tryd.underlying22 Tryd.sizeOf28 rfl rfl) ?_
  refine AOps.call (o_build bu24 rfl rfl rfl) ?_
  refine AOps.cons (o_store _ _ rfl rfl Tryd.sizeOf24 rfl rfl rfl rfl rfl) ?_
  refine AOps.nil ?_
  refine AWP.ret ?_
  exact ⟨⟨[.agg [.sl []]], ⟨⟨(2, 0), 0, _, 1, true, rfl, rfl, Tryd.sizeOf24, Tryd.isAgg24, rfl⟩, trivial⟩, by first | rfl | (subst h1; rfl)⟩, col_close _ _, trivial⟩

theorem pack_s (pre ls : List Lay) (hA : (pre ++ ls).length = 64) : FSpecM Tryd.prog 71 [.ref (1000000, 0) 0] [colC (pre ++ ls) pre.length] (.agg (eK ls)) none [colC (pre ++ ls) pre.length] := by
  have hl2 : pre.length + ls.length = 64 := by simpa using hA
  rcases Nat.eq_zero_or_pos ls.length with h | h
  · exact pack_c pre ls hA (List.eq_nil_of_length_eq_zero h)
  · rcases Nat.eq_zero_or_pos pre.length with h0 | h0
    · exact pack_b pre ls hA (by omega)
    · exact pack_a pre ls hA h h0

end Go.Proofs.YtgagfmjpmdgfdaaDoor
