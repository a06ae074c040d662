import Derived.Test.YtphoomnonenalaaDoorAbB
import Derived.Test.YtphoomnonenalaaDoorC14
set_option linter.unusedSimpArgs false
set_option linter.unusedVariables false
namespace Go.Proofs.YtphoomnonenalaaDoor
open Go.Ab

set_option maxRecDepth 20000 in
theorem Clone42_s (l : List Int) (hl : l.length ≤ 1000000) : FSpec Tryd.prog 42 [.sl (ints l)] (.own (0, 0) (ints l)) (some ((ints l).length, 1, 3)) := by
  refine FSpec.of_body Tryd.func42 rfl (leB rfl) fun w0 M0 => ?_
  have hll := ints_len l
  refine AWP.seq ?_
  refine AWP.region ?_
  refine AOps.call (o_nil (z := 1) (e := 3) rfl) ?_
  refine AOps.nil ?_
  refine AWP.seq ?_
  refine AWP.seq ?_
  refine AWP.region ?_
  refine AOps.call (o_move _ rfl rfl) ?_
  refine AOps.nilq _ Tryd.underlying45 rfl rfl ?_
  intro bq hbq
  refine AOps.nil ?_
  refine AWP.cond _ rfl (fun h4 => ?_) (fun h4 => ?_)
  · skip
    have hnil := hbq h4
    rw [hnil]
    refine AWP.seq ?_
    refine AWP.region ?_
    refine AOps.call (o_nil (z := 1) (e := 3) rfl) ?_
    refine AOps.nil ?_
    refine AWP.ret ?_
    exact postQ.retF Tryd.results42 rfl rfl rfl
  · skip
    refine AWP.skip ?_
    refine AWP.seq ?_
    refine AWP.region ?_
    refine AOps.call (o_lit Tryd.underlying45 Tryd.sizeOf3 Tryd.zeroValue3 rfl rfl rfl rfl rfl rfl rfl) ?_
    refine AOps.call (o_move _ rfl rfl) ?_
    refine AOps.cons (o_append _ _ Tryd.underlying45 info3 rfl rfl rfl rfl rfl rfl rfl rfl ints_z (fun c hc => by simp at hc) (by rw [hll]; simp only [List.length_nil, Nat.zero_add]; unfold Tryd.t3; simp only []; omega) rfl rfl rfl) ?_
    refine AOps.call (o_assign _ rfl rfl) ?_
    refine AOps.nil ?_
    refine AWP.ret ?_
    exact postQ.retF Tryd.results42 rfl rfl rfl

set_option maxRecDepth 20000 in
theorem Clone53_s (l : List Stk) (hl : l.length ≤ 1000000) : FSpec Tryd.prog 53 [.sl (stakes l)] (.own (0, 0) (stakes l)) (some ((stakes l).length, 5, 79)) := by
  refine FSpec.of_body Tryd.func53 rfl (leB rfl) fun w0 M0 => ?_
  have hll := stakes_len l
  refine AWP.seq ?_
  refine AWP.region ?_
  refine AOps.call (o_nil (z := 5) (e := 79) rfl) ?_
  refine AOps.nil ?_
  refine AWP.seq ?_
  refine AWP.seq ?_
  refine AWP.region ?_
  refine AOps.call (o_move _ rfl rfl) ?_
  refine AOps.nilq _ Tryd.underlying52 rfl rfl ?_
  intro bq hbq
  refine AOps.nil ?_
  refine AWP.cond _ rfl (fun h4 => ?_) (fun h4 => ?_)
  · skip
    have hnil := hbq h4
    rw [hnil]
    refine AWP.seq ?_
    refine AWP.region ?_
    refine AOps.call (o_nil (z := 5) (e := 79) rfl) ?_
    refine AOps.nil ?_
    refine AWP.ret ?_
    exact postQ.retF Tryd.results53 rfl rfl rfl
  · skip
    refine AWP.skip ?_
    refine AWP.seq ?_
    refine AWP.region ?_
    refine AOps.call (o_lit Tryd.underlying52 Tryd.sizeOf79 Tryd.zeroValue79 rfl rfl rfl rfl rfl rfl rfl) ?_
    refine AOps.call (o_move _ rfl rfl) ?_
    refine AOps.cons (o_append _ _ Tryd.underlying52 info79 rfl rfl rfl rfl rfl rfl rfl rfl stakes_z (fun c hc => by simp at hc) (by rw [hll]; simp only [List.length_nil, Nat.zero_add]; unfold Tryd.t79; simp only []; omega) rfl rfl rfl) ?_
    refine AOps.call (o_assign _ rfl rfl) ?_
    refine AOps.nil ?_
    refine AWP.ret ?_
    exact postQ.retF Tryd.results53 rfl rfl rfl

set_option maxRecDepth 20000 in
theorem Clone105_s (l : List Tst) (hl : l.length ≤ 1000000) : FSpec Tryd.prog 105 [.sl (tests l)] (.own (0, 0) (tests l)) (some ((tests l).length, 4, 26)) := by
  refine FSpec.of_body Tryd.func105 rfl (leB rfl) fun w0 M0 => ?_
  have hll := tests_len l
  refine AWP.seq ?_
  refine AWP.region ?_
  refine AOps.call (o_nil (z := 4) (e := 26) rfl) ?_
  refine AOps.nil ?_
  refine AWP.seq ?_
  refine AWP.seq ?_
  refine AWP.region ?_
  refine AOps.call (o_move _ rfl rfl) ?_
  refine AOps.nilq _ Tryd.underlying22 rfl rfl ?_
  intro bq hbq
  refine AOps.nil ?_
  refine AWP.cond _ rfl (fun h4 => ?_) (fun h4 => ?_)
  · skip
    have hnil := hbq h4
    rw [hnil]
    refine AWP.seq ?_
    refine AWP.region ?_
    refine AOps.call (o_nil (z := 4) (e := 26) rfl) ?_
    refine AOps.nil ?_
    refine AWP.ret ?_
    exact postQ.retF Tryd.results105 rfl rfl rfl
  · skip
    refine AWP.skip ?_
    refine AWP.seq ?_
    refine AWP.region ?_
    refine AOps.call (o_lit Tryd.underlying22 Tryd.sizeOf26 Tryd.zeroValue26 rfl rfl rfl rfl rfl rfl rfl) ?_
    refine AOps.call (o_move _ rfl rfl) ?_
    refine AOps.cons (o_append _ _ Tryd.underlying22 info26 rfl rfl rfl rfl rfl rfl rfl rfl tests_z (fun c hc => by simp at hc) (by rw [hll]; simp only [List.length_nil, Nat.zero_add]; unfold Tryd.t26; simp only []; omega) rfl rfl rfl) ?_
    refine AOps.call (o_assign _ rfl rfl) ?_
    refine AOps.nil ?_
    refine AWP.ret ?_
    exact postQ.retF Tryd.results105 rfl rfl rfl

end Go.Proofs.YtphoomnonenalaaDoor
