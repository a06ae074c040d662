import Derived.Test.YtphoomnonenalaaDoorC20
set_option linter.unusedSimpArgs false
set_option linter.unusedVariables false
namespace Go.Proofs.YtphoomnonenalaaDoor
open Go.Ab
theorem ints_scs (l : List Int) : ∀ x ∈ (ints l).flatten, ∃ v, x = .sc v := by
  intro x hx
  obtain ⟨c, hc, hx⟩ := List.mem_flatten.1 hx
  obtain ⟨k, _, rfl⟩ := List.mem_map.1 hc
  simp only [I, List.mem_cons, List.not_mem_nil, or_false] at hx
  exact ⟨_, hx⟩

set_option maxRecDepth 20000 in
theorem Clone42_v (l : List Int) (hl : l.length ≤ 1000000) (h0 : 0 < l.length) : FSpecV Tryd.prog 42 [.sl (ints l)] (ints l).flatten (ints l).length := by
  refine FSpecV.of_body Tryd.func42 rfl (leB rfl) fun w0 M0 => ?_
  have hll := ints_len l
  refine AWP.seq ?_
  refine AWP.region ?_
  refine AOps.call (o_nil (z := 1) (e := 3) rfl) ?_
  refine AOps.nil ?_
  refine AWP.seq ?_
  refine AWP.seq ?_
  refine AWP.region ?_
  refine AOps.call (o_move _ rfl rfl) ?_
  refine AOps.nilq _ Tryd.underlying45 rfl rfl ?_
  intro bq hbq
  refine AOps.nil ?_
  refine AWP.cond _ rfl (fun h4 => ?_) (fun h4 => ?_)
  · skip
    exfalso
    have hnil := hbq h4
    rw [hnil] at hll
    simp at hll
    omega
  · skip
    refine AWP.skip ?_
    refine AWP.seq ?_
    refine AWP.region ?_
    refine AOps.call (o_lit Tryd.underlying45 Tryd.sizeOf3 Tryd.zeroValue3 rfl rfl rfl rfl rfl rfl rfl) ?_
    refine AOps.call (o_move _ rfl rfl) ?_
    refine AOps.appArr _ _ Tryd.underlying45 info3 rfl rfl rfl rfl rfl rfl rfl rfl ints_z (by omega) (by rw [hll]; unfold Tryd.t3; simp only []; omega) rfl rfl ?_
    refine AOps.call (o_assign _ rfl rfl) ?_
    refine AOps.nil ?_
    refine AWP.ret ?_
    exact postQV.ret Tryd.results42 rfl (closeL_self _ (sc_self (ints_scs l)))

end Go.Proofs.YtphoomnonenalaaDoor
