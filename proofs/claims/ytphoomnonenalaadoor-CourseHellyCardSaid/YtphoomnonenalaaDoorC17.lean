import Derived.Test.YtphoomnonenalaaDoorAbB
import Derived.Test.YtphoomnonenalaaDoorC16
set_option linter.unusedSimpArgs false
set_option linter.unusedVariables false
namespace Go.Proofs.YtphoomnonenalaaDoor
open Go.Ab

theorem shts_self (l : List Sht) : ∀ x ∈ (shts l).flatten, x.close = some x := by
  intro x hx
  obtain ⟨c, hc, hx⟩ := List.mem_flatten.1 hx
  obtain ⟨k, _, rfl⟩ := List.mem_map.1 hc
  simp only [eH, I, List.mem_cons, List.not_mem_nil, or_false] at hx
  rcases hx with rfl | rfl | rfl | rfl | rfl | rfl | rfl | rfl | rfl <;> rfl
theorem shts_erase (l : List Sht) (i : Nat) : shts (l.eraseIdx i) = (shts l).eraseIdx i := by
  unfold shts
  induction l generalizing i with
  | nil => rfl
  | cons a l ih =>
    cases i with
    | zero => rfl
    | succ i => simp only [List.eraseIdx_cons_succ, List.map_cons, ih i]
theorem rep_self {n : Nat} {zs : List Value} : ∀ x ∈ (List.replicate n (zs.map AV.sc)).flatten, x.close = some x := by
  intro x hx
  obtain ⟨c, hc, hx⟩ := List.mem_flatten.1 hx
  rw [(List.mem_replicate.1 hc).2] at hx
  obtain ⟨v, _, rfl⟩ := List.mem_map.1 hx
  rfl

set_option maxRecDepth 20000 in
theorem Clone61_s (l : List Sht) (hl : l.length ≤ 1000000) (h0 : 0 < l.length) : FSpecV Tryd.prog 61 [.sl (shts l)] (shts l).flatten (shts l).length := by
  refine FSpecV.of_body Tryd.func61 rfl (leB rfl) fun w0 M0 => ?_
  have hll := shts_len l
  refine AWP.seq ?_
  refine AWP.region ?_
  refine AOps.call (o_nil (z := 9) (e := 54) rfl) ?_
  refine AOps.nil ?_
  refine AWP.seq ?_
  refine AWP.seq ?_
  refine AWP.region ?_
  refine AOps.call (o_move _ rfl rfl) ?_
  refine AOps.nilq _ Tryd.underlying80 rfl rfl ?_
  intro bq hbq
  refine AOps.nil ?_
  refine AWP.cond _ rfl (fun h4 => ?_) (fun h4 => ?_)
  · skip
    exfalso
    have hnil := hbq h4
    rw [hnil] at hll
    simp at hll
    omega
  · skip
    refine AWP.skip ?_
    refine AWP.seq ?_
    refine AWP.region ?_
    refine AOps.call (o_lit Tryd.underlying80 Tryd.sizeOf54 Tryd.zeroValue54 rfl rfl rfl rfl rfl rfl rfl) ?_
    refine AOps.call (o_move _ rfl rfl) ?_
    refine AOps.appArr _ _ Tryd.underlying80 info54 rfl rfl rfl rfl rfl rfl rfl rfl shts_z (by omega) (by rw [hll]; unfold Tryd.t54; simp only []; omega) rfl rfl ?_
    refine AOps.call (o_assign _ rfl rfl) ?_
    refine AOps.nil ?_
    refine AWP.ret ?_
    exact postQV.ret Tryd.results61 rfl (closeL_self _ (shts_self l))

set_option maxRecDepth 20000 in
theorem Delete60_a (l : List Sht) (i : Nat) (hi : i + 1 < (shts l).length) : FSpecC Tryd.prog 60 [.arr (1000000, 0) 0 (shts l).length (shts l).length, I i, I ((i : Int) + 1)] [(shts l).flatten] (.sl (shts (l.eraseIdx i))) := by
  refine FSpecC.of_body Tryd.func60 rfl (leB rfl) (leB rfl) fun w0 M0 => ?_
  have hll := shts_len l
  refine AWP.seq ?_
  refine AWP.region ?_
  refine AOps.call (o_nil (z := 9) (e := 54) rfl) ?_
  refine AOps.nil ?_
  refine AWP.seq ?_
  refine AWP.region ?_
  refine AOps.call (o_move _ rfl rfl) ?_
  refine AOps.call (o_move _ rfl rfl) ?_
  refine AOps.call (o_move _ rfl rfl) ?_
  refine AOps.call (o_move _ rfl rfl) ?_
  refine AOps.call (o_lenArr _ Tryd.underlying80 rfl rfl) ?_
  refine AOps.call (o_slice3 (l := i) (h := i + 1) (m := (shts l).length) _ _ _ _ Tryd.underlying80 Tryd.sizeOf54 rfl (boundA_some rfl (by omega) (by omega)) (boundA_some rfl (by omega) (by omega)) (boundA_some rfl (by omega) (by omega)) (by omega) (by omega) (by omega) (by omega) rfl rfl) ?_
  refine AOps.nil ?_
  refine AWP.seq ?_
  refine AWP.seq ?_
  refine AWP.region ?_
  refine AOps.call (o_move _ rfl rfl) ?_
  refine AOps.call (o_move _ rfl rfl) ?_
  refine AOps.call (o_bin _ _ rfl rfl (fun _ => rfl) rfl) ?_
  refine AOps.nil ?_
  refine AWP.cond _ rfl (fun h11 => ?_) (fun h11 => ?_)
  · skip
    exfalso
    simp at h11
    omega
  · skip
    refine AWP.skip ?_
    refine AWP.seq ?_
    refine AWP.region ?_
    refine AOps.call (o_move _ rfl rfl) ?_
    refine AOps.call (o_lenArr _ Tryd.underlying80 rfl rfl) ?_
    refine AOps.call (o_assign _ rfl rfl) ?_
    refine AOps.nil ?_
    refine AWP.seq ?_
    refine AWP.drawn 6 mixed (by kernel_rfl) ?_
    refine AHead.call (o_move _ rfl rfl) rfl ?_
    refine AHead.call (o_move _ rfl rfl) rfl ?_
    refine AHead.call (o_sliceHi (h := i) _ _ Tryd.underlying80 Tryd.sizeOf54 rfl (boundA_some rfl (by omega) (by omega)) (by omega) rfl) rfl ?_
    refine AHead.call (o_move _ rfl rfl) rfl ?_
    refine AHead.call (o_move _ rfl rfl) rfl ?_
    refine AHead.call (o_sliceLo (l := i + 1) (o := (i + 1) * 9) _ _ Tryd.underlying80 Tryd.sizeOf54 rfl (boundA_some rfl (by omega) (by omega)) (by omega) (by omega) (by omega) rfl) rfl ?_
    refine AHead.nil ?_
    refine AOps.cons (ok_appendA (z := 9) _ _ Tryd.underlying80 info54 rfl rfl rfl rfl (by omega) (by rw [flat_len _ shts_z]; omega) (by rw [flat_len _ shts_z]; omega) rfl rfl) ?_
    refine AOps.call (o_assign _ rfl rfl) ?_
    refine AOps.nil ?_
    refine AWP.seq ?_
    refine AWP.region ?_
    refine AOps.call (o_move _ rfl rfl) ?_
    refine AOps.call (o_move _ rfl rfl) ?_
    refine AOps.call (o_lenArr _ Tryd.underlying80 rfl rfl) ?_
    refine AOps.call (o_move _ rfl rfl) ?_
    refine AOps.call (o_sliceLH (l := (shts l).length - 1) (h := (shts l).length) (o := ((shts l).length - 1) * 9) _ _ _ Tryd.underlying80 Tryd.sizeOf54 rfl (boundA_some rfl (by omega) (by omega)) (boundA_some rfl (by omega) (by omega)) (by omega) (by omega) (by omega) (by omega) rfl) ?_
    refine AOps.cons (ok_clearA (z := 9) _ Tryd.underlying80 Tryd.zeroValue54 rfl rfl rfl rfl rfl (by omega) (by rw [show splice _ _ _ = delA (shts l) i 9 from rfl, delA_len shts_z (by omega)]; omega) rfl) ?_
    refine AOps.nil ?_
    refine AWP.seq ?_
    refine AWP.region ?_
    refine AOps.weak (Weak.frzP (id := (1000000, 0)) (t := 0) (z := 9) (es := shts (l.eraseIdx i)) rfl rfl (del_closed (es := shts l) (i := i) (z := 9) (shts_self l) rep_self) (fun j c hj => (delB_get shts_z (by omega) j c (by rw [← shts_erase]; exact hj))) shts_z (by rw [shts_len, List.length_eraseIdx_of_lt (by omega)]; omega)) ?_
    refine AOps.call (o_move _ rfl rfl) ?_
    refine AOps.call (o_assign _ rfl rfl) ?_
    refine AOps.nil ?_
    refine AWP.ret ?_
    exact postQC.ret Tryd.results60 rfl rfl

set_option maxRecDepth 20000 in
theorem Delete60_b (l : List Sht) (i : Nat) (hi : i + 1 = (shts l).length) : FSpecC Tryd.prog 60 [.arr (1000000, 0) 0 (shts l).length (shts l).length, I i, I ((i : Int) + 1)] [(shts l).flatten] (.sl (shts (l.eraseIdx i))) := by
  refine FSpecC.of_body Tryd.func60 rfl (leB rfl) (leB rfl) fun w0 M0 => ?_
  have hll := shts_len l
  refine AWP.seq ?_
  refine AWP.region ?_
  refine AOps.call (o_nil (z := 9) (e := 54) rfl) ?_
  refine AOps.nil ?_
  refine AWP.seq ?_
  refine AWP.region ?_
  refine AOps.call (o_move _ rfl rfl) ?_
  refine AOps.call (o_move _ rfl rfl) ?_
  refine AOps.call (o_move _ rfl rfl) ?_
  refine AOps.call (o_move _ rfl rfl) ?_
  refine AOps.call (o_lenArr _ Tryd.underlying80 rfl rfl) ?_
  refine AOps.call (o_slice3 (l := i) (h := i + 1) (m := (shts l).length) _ _ _ _ Tryd.underlying80 Tryd.sizeOf54 rfl (boundA_some rfl (by omega) (by omega)) (boundA_some rfl (by omega) (by omega)) (boundA_some rfl (by omega) (by omega)) (by omega) (by omega) (by omega) (by omega) rfl rfl) ?_
  refine AOps.nil ?_
  refine AWP.seq ?_
  refine AWP.seq ?_
  refine AWP.region ?_
  refine AOps.call (o_move _ rfl rfl) ?_
  refine AOps.call (o_move _ rfl rfl) ?_
  refine AOps.call (o_bin _ _ rfl rfl (fun _ => rfl) rfl) ?_
  refine AOps.nil ?_
  refine AWP.cond _ rfl (fun h11 => ?_) (fun h11 => ?_)
  · skip
    exfalso
    simp at h11
    omega
  · skip
    refine AWP.skip ?_
    refine AWP.seq ?_
    refine AWP.region ?_
    refine AOps.call (o_move _ rfl rfl) ?_
    refine AOps.call (o_lenArr _ Tryd.underlying80 rfl rfl) ?_
    refine AOps.call (o_assign _ rfl rfl) ?_
    refine AOps.nil ?_
    refine AWP.seq ?_
    refine AWP.drawn 6 mixed (by kernel_rfl) ?_
    refine AHead.call (o_move _ rfl rfl) rfl ?_
    refine AHead.call (o_move _ rfl rfl) rfl ?_
    refine AHead.call (o_sliceHi (h := i) _ _ Tryd.underlying80 Tryd.sizeOf54 rfl (boundA_some rfl (by omega) (by omega)) (by omega) rfl) rfl ?_
    refine AHead.call (o_move _ rfl rfl) rfl ?_
    refine AHead.call (o_move _ rfl rfl) rfl ?_
    refine AHead.call (o_sliceEnd (l := (shts l).length) _ _ Tryd.underlying80 Tryd.sizeOf54 rfl (boundA_some rfl (by omega) (by omega)) rfl rfl) rfl ?_
    refine AHead.nil ?_
    refine AOps.cons ((o_appendA0 _ _ Tryd.underlying80 Tryd.sizeOf54 rfl rfl rfl).seq) ?_
    refine AOps.call (o_assign _ rfl rfl) ?_
    refine AOps.nil ?_
    refine AWP.seq ?_
    refine AWP.region ?_
    refine AOps.call (o_move _ rfl rfl) ?_
    refine AOps.call (o_move _ rfl rfl) ?_
    refine AOps.call (o_lenArr _ Tryd.underlying80 rfl rfl) ?_
    refine AOps.call (o_move _ rfl rfl) ?_
    refine AOps.call (o_sliceLH (l := (shts l).length - 1) (h := (shts l).length) (o := ((shts l).length - 1) * 9) _ _ _ Tryd.underlying80 Tryd.sizeOf54 rfl (boundA_some rfl (by omega) (by omega)) (boundA_some rfl (by omega) (by omega)) (by omega) (by omega) (by omega) (by omega) rfl) ?_
    refine AOps.cons (ok_clearA (z := 9) _ Tryd.underlying80 Tryd.zeroValue54 rfl rfl rfl rfl rfl (by omega) (by rw [flat_len _ shts_z]; omega) rfl) ?_
    refine AOps.nil ?_
    refine AWP.seq ?_
    refine AWP.region ?_
    refine AOps.weak (Weak.frzP (id := (1000000, 0)) (t := 0) (z := 9) (es := shts (l.eraseIdx i)) rfl rfl (by rw [← delA_last (i := i) shts_z hi]; exact del_closed (es := shts l) (i := i) (z := 9) (shts_self l) rep_self) (fun j c hj => (delB_get shts_z (by omega) j c (by rw [← shts_erase]; exact hj))) shts_z (by rw [shts_len, List.length_eraseIdx_of_lt (by omega)]; omega)) ?_
    refine AOps.call (o_move _ rfl rfl) ?_
    refine AOps.call (o_assign _ rfl rfl) ?_
    refine AOps.nil ?_
    refine AWP.ret ?_
    exact postQC.ret Tryd.results60 rfl rfl

theorem Delete60_s (l : List Sht) (i : Nat) (hi : i < (shts l).length) : FSpecC Tryd.prog 60 [.arr (1000000, 0) 0 (shts l).length (shts l).length, I i, I ((i : Int) + 1)] [(shts l).flatten] (.sl (shts (l.eraseIdx i))) := by
  rcases Nat.lt_or_ge (i + 1) (shts l).length with h | h
  · exact Delete60_a l i h
  · exact Delete60_b l i (by omega)

end Go.Proofs.YtphoomnonenalaaDoor
