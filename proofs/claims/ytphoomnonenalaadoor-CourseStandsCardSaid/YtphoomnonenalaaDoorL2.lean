import Derived.Test.YtphoomnonenalaaDoorR3
import Derived.Test.YtphoomnonenalaaDoorC14
import Derived.ChangeKeysEq
set_option linter.unusedSimpArgs false
set_option linter.unusedVariables false
namespace Go.Proofs.YtphoomnonenalaaDoor
open Go.Ab
theorem spanEqS (x y : Operand) (a b : Int) (w : World) : (do eqGuard .eql 40 x y (.agg #[.int .i64 a, .int .i64 b]) (.agg #[.int .i64 a, .int .i64 b]); binOp .eql 40 (.agg #[.int .i64 a, .int .i64 b]) (.agg #[.int .i64 a, .int .i64 b]) : Sem Value).run Tryd.prog w = .ok (.bool true) w := by
  have := spanEq x y a b a b w
  rw [show (a == a && b == b) = true by simp] at this
  exact this

set_option maxRecDepth 20000 in
theorem CourseDrifts_s (s : Scl) (a b c : Int) : FSpecG Tryd.prog TAB 4 [.agg (eS s), .agg [I a, I b, I c]] (B true) (none) := by
  refine FSpecG.of_body tab_stable Tryd.func4 rfl (leB rfl) fun w0 M0 hG => ?_
  obtain ⟨x, e, hA, hB⟩ : ∃ (x : Spn) (e : Int), FSpec Tryd.prog 22 [.agg (eS s), I a, I c] (.tup [.agg (eP x), I e]) none ∧ FSpec Tryd.prog 23 [.agg (eS s), I a, I c] (.tup [.agg (eP x), I e]) none := by
    have h1 := Drift_s s a c
    have h2 := rDrift_s s a c
    by_cases hz : askE s [a, c] = 0
    · rw [if_pos hz] at h1 h2; exact ⟨_, _, h1, h2⟩
    · rw [if_neg hz] at h1 h2; exact ⟨⟨0, 0⟩, _, h1, h2⟩
  obtain ⟨y, f, hC, hD⟩ : ∃ (y : Spn) (f : Int), FSpec Tryd.prog 24 [.agg (eS s), I a, I b, I c] (.tup [.agg (eP y), I f]) none ∧ FSpec Tryd.prog 25 [.agg (eS s), I a, I b, I c] (.tup [.agg (eP y), I f]) none := by
    have h1 := Turn_s s a b c
    have h2 := rTurn_s s a b c
    by_cases hz : askE s [a, b, c] = 0
    · rw [if_pos hz] at h1 h2; exact ⟨_, _, h1, h2⟩
    · rw [if_neg hz] at h1 h2; exact ⟨⟨0, 0⟩, _, h1, h2⟩
  refine AWP.seq ?_
  refine AWP.region ?_
  refine AOps.call (o_box _ rfl rfl rfl) ?_
  refine AOps.call (o_box _ rfl rfl rfl) ?_
  refine AOps.call (o_assign _ rfl rfl) ?_
  refine AOps.nil ?_
  refine AWP.seq ?_
  refine AWP.seq ?_
  refine AWP.region ?_
  refine AOps.call (o_callG (sane_s) hG Tryd.call12 rfl rfl) ?_
  refine AOps.call (o_un _ rfl (fun _ => rfl) rfl) ?_
  refine AOps.nil ?_
  refine AWP.cond _ rfl (fun h5 => ?_) (fun h5 => ?_)
  · skip
    refine AWP.seq ?_
    refine AWP.region ?_
    refine AOps.call (o_assign _ rfl rfl) ?_
    refine AOps.nil ?_
    refine AWP.ret ?_
    first
    | exact postQ.ret1 Tryd.results4 rfl rfl
    | (exfalso; simp at *; done)
    | (exfalso; simp_all; done)
    | (refine postQ.ret1 Tryd.results4 rfl ?_; simp [AV.close, B]; done)
  · skip
    refine AWP.skip ?_
    refine AWP.seq ?_
    refine AWP.seq ?_
    refine AWP.region ?_
    refine AOps.call (o_fieldRef _ rfl fa24_2 rfl rfl) ?_
    refine AOps.call (o_loadRef _ rfl rfl Tryd.sizeOf22 Tryd.isAgg22 rfl rfl rfl) ?_
    refine AOps.call (o_len _ Tryd.underlying22 rfl rfl) ?_
    refine AOps.call (o_bin _ _ rfl rfl (fun _ => rfl) rfl) ?_
    refine AOps.nil ?_
    refine AWP.cond _ rfl (fun h10 => ?_) (fun h10 => ?_)
    · skip
      refine AWP.seq ?_
      refine AWP.region ?_
      refine AOps.call (o_assign _ rfl rfl) ?_
      refine AOps.nil ?_
      refine AWP.ret ?_
      first
      | exact postQ.ret1 Tryd.results4 rfl rfl
      | (exfalso; simp at *; done)
      | (exfalso; simp_all; done)
      | (refine postQ.ret1 Tryd.results4 rfl ?_; simp [AV.close, B]; done)
    · skip
      have h100 : s.tests.length ≤ 100 := by simp [tests_len] at h10; omega
      refine AWP.skip ?_
      refine AWP.seq ?_
      refine AWP.region ?_
      refine AOps.call (o_loadRef _ rfl rfl Tryd.sizeOf24 Tryd.isAgg24 rfl rfl rfl) ?_
      refine AOps.call (ok_indexAddr_arr _ _ Tryd.underlying38 Tryd.sizeOf3 rfl rfl (by omega) (by omega) (okD rfl)) ?_
      refine AOps.call (o_loadRef _ rfl rfl Tryd.sizeOf3 Tryd.isAgg3 rfl rfl rfl) ?_
      refine AOps.call (ok_indexAddr_arr _ _ Tryd.underlying38 Tryd.sizeOf3 rfl rfl (by omega) (by omega) (okD rfl)) ?_
      refine AOps.call (o_loadRef _ rfl rfl Tryd.sizeOf3 Tryd.isAgg3 rfl rfl rfl) ?_
      refine AOps.call (o_call (hA) Tryd.call22 rfl rfl) ?_
      refine AOps.call (o_move _ rfl rfl) ?_
      refine AOps.call (o_extract _ rfl rfl rfl rfl) ?_
      refine AOps.call (o_extract _ rfl rfl rfl rfl) ?_
      refine AOps.call (o_alloc ze40 rfl rfl) ?_
      refine AOps.cons (o_store _ _ rfl rfl Tryd.sizeOf40 rfl rfl rfl rfl rfl) ?_
      refine AOps.call (o_assign _ rfl rfl) ?_
      refine AOps.nil ?_
      refine AWP.seq ?_
      refine AWP.region ?_
      refine AOps.call (o_loadRef _ rfl rfl Tryd.sizeOf24 Tryd.isAgg24 rfl rfl rfl) ?_
      refine AOps.call (ok_indexAddr_arr _ _ Tryd.underlying38 Tryd.sizeOf3 rfl rfl (by omega) (by omega) (okD rfl)) ?_
      refine AOps.call (o_loadRef _ rfl rfl Tryd.sizeOf3 Tryd.isAgg3 rfl rfl rfl) ?_
      refine AOps.call (ok_indexAddr_arr _ _ Tryd.underlying38 Tryd.sizeOf3 rfl rfl (by omega) (by omega) (okD rfl)) ?_
      refine AOps.call (o_loadRef _ rfl rfl Tryd.sizeOf3 Tryd.isAgg3 rfl rfl rfl) ?_
      refine AOps.call (o_call (hB) Tryd.call23 rfl rfl) ?_
      refine AOps.call (o_move _ rfl rfl) ?_
      refine AOps.call (o_extract _ rfl rfl rfl rfl) ?_
      refine AOps.call (o_extract _ rfl rfl rfl rfl) ?_
      refine AOps.call (o_alloc ze40 rfl rfl) ?_
      refine AOps.cons (o_store _ _ rfl rfl Tryd.sizeOf40 rfl rfl rfl rfl rfl) ?_
      refine AOps.call (o_assign _ rfl rfl) ?_
      refine AOps.nil ?_
      refine AWP.seq ?_
      refine AWP.region ?_
      refine AOps.call (o_loadRef _ rfl rfl Tryd.sizeOf24 Tryd.isAgg24 rfl rfl rfl) ?_
      refine AOps.call (ok_indexAddr_arr _ _ Tryd.underlying38 Tryd.sizeOf3 rfl rfl (by omega) (by omega) (okD rfl)) ?_
      refine AOps.call (o_loadRef _ rfl rfl Tryd.sizeOf3 Tryd.isAgg3 rfl rfl rfl) ?_
      refine AOps.call (ok_indexAddr_arr _ _ Tryd.underlying38 Tryd.sizeOf3 rfl rfl (by omega) (by omega) (okD rfl)) ?_
      refine AOps.call (o_loadRef _ rfl rfl Tryd.sizeOf3 Tryd.isAgg3 rfl rfl rfl) ?_
      refine AOps.call (ok_indexAddr_arr _ _ Tryd.underlying38 Tryd.sizeOf3 rfl rfl (by omega) (by omega) (okD rfl)) ?_
      refine AOps.call (o_loadRef _ rfl rfl Tryd.sizeOf3 Tryd.isAgg3 rfl rfl rfl) ?_
      refine AOps.call (o_call (hC) Tryd.call24 rfl rfl) ?_
      refine AOps.call (o_move _ rfl rfl) ?_
      refine AOps.call (o_extract _ rfl rfl rfl rfl) ?_
      refine AOps.call (o_extract _ rfl rfl rfl rfl) ?_
      refine AOps.call (o_alloc ze40 rfl rfl) ?_
      refine AOps.cons (o_store _ _ rfl rfl Tryd.sizeOf40 rfl rfl rfl rfl rfl) ?_
      refine AOps.call (o_assign _ rfl rfl) ?_
      refine AOps.nil ?_
      refine AWP.seq ?_
      refine AWP.region ?_
      refine AOps.call (o_loadRef _ rfl rfl Tryd.sizeOf24 Tryd.isAgg24 rfl rfl rfl) ?_
      refine AOps.call (ok_indexAddr_arr _ _ Tryd.underlying38 Tryd.sizeOf3 rfl rfl (by omega) (by omega) (okD rfl)) ?_
      refine AOps.call (o_loadRef _ rfl rfl Tryd.sizeOf3 Tryd.isAgg3 rfl rfl rfl) ?_
      refine AOps.call (ok_indexAddr_arr _ _ Tryd.underlying38 Tryd.sizeOf3 rfl rfl (by omega) (by omega) (okD rfl)) ?_
      refine AOps.call (o_loadRef _ rfl rfl Tryd.sizeOf3 Tryd.isAgg3 rfl rfl rfl) ?_
      refine AOps.call (ok_indexAddr_arr _ _ Tryd.underlying38 Tryd.sizeOf3 rfl rfl (by omega) (by omega) (okD rfl)) ?_
      refine AOps.call (o_loadRef _ rfl rfl Tryd.sizeOf3 Tryd.isAgg3 rfl rfl rfl) ?_
      refine AOps.call (o_call (hD) Tryd.call25 rfl rfl) ?_
      refine AOps.call (o_move _ rfl rfl) ?_
      refine AOps.call (o_extract _ rfl rfl rfl rfl) ?_
      refine AOps.call (o_extract _ rfl rfl rfl rfl) ?_
      refine AOps.call (o_alloc ze40 rfl rfl) ?_
      refine AOps.cons (o_store _ _ rfl rfl Tryd.sizeOf40 rfl rfl rfl rfl rfl) ?_
      refine AOps.call (o_assign _ rfl rfl) ?_
      refine AOps.nil ?_
      refine AWP.seq ?_
      refine AWP.region ?_
      refine AOps.call (o_loadRef _ rfl rfl Tryd.sizeOf40 Tryd.isAgg40 rfl rfl rfl) ?_
      refine AOps.call (o_loadRef _ rfl rfl Tryd.sizeOf40 Tryd.isAgg40 rfl rfl rfl) ?_
      refine AOps.call (o_bin _ _ rfl rfl (spanEqS _ _ _ _) rfl) ?_
      refine AOps.call (o_move _ rfl rfl) ?_
      refine AOps.split rfl rfl rfl (fun h54 => ?_) (fun h54 => ?_)
      · skip
        refine AOps.go rfl rfl rfl h54 (o_move _ rfl rfl) ?_
        refine AOps.go rfl rfl rfl h54 (o_move _ rfl rfl) ?_
        refine AOps.go rfl rfl rfl h54 (o_bin _ _ rfl rfl (fun _ => rfl) rfl) ?_
        refine AOps.call (o_pickT _ _ _ rfl h54 rfl rfl) ?_
        refine AOps.call (o_move _ rfl rfl) ?_
        refine AOps.split rfl rfl rfl (fun h56 => ?_) (fun h56 => ?_)
        · skip
          refine AOps.go rfl rfl rfl h56 (o_loadRef _ rfl rfl Tryd.sizeOf40 Tryd.isAgg40 rfl rfl rfl) ?_
          refine AOps.go rfl rfl rfl h56 (o_loadRef _ rfl rfl Tryd.sizeOf40 Tryd.isAgg40 rfl rfl rfl) ?_
          refine AOps.go rfl rfl rfl h56 (o_bin _ _ rfl rfl (spanEqS _ _ _ _) rfl) ?_
          refine AOps.call (o_pickT _ _ _ rfl h56 rfl rfl) ?_
          refine AOps.call (o_move _ rfl rfl) ?_
          refine AOps.split rfl rfl rfl (fun h60 => ?_) (fun h60 => ?_)
          · skip
            refine AOps.go rfl rfl rfl h60 (o_move _ rfl rfl) ?_
            refine AOps.go rfl rfl rfl h60 (o_move _ rfl rfl) ?_
            refine AOps.go rfl rfl rfl h60 (o_bin _ _ rfl rfl (fun _ => rfl) rfl) ?_
            refine AOps.call (o_pickT _ _ _ rfl h60 rfl rfl) ?_
            refine AOps.call (o_assign _ rfl rfl) ?_
            refine AOps.nil ?_
            refine AWP.ret ?_
            first
            | exact postQ.ret1 Tryd.results4 rfl rfl
            | (exfalso; simp at *; done)
            | (exfalso; simp_all; done)
            | (refine postQ.ret1 Tryd.results4 rfl ?_; simp [AV.close, B]; done)
          · skip
            refine AOps.pass rfl rfl rfl h60 rfl ?_
            refine AOps.pass rfl rfl rfl h60 rfl ?_
            refine AOps.pass rfl rfl rfl h60 rfl ?_
            refine AOps.call (o_pickF _ _ _ rfl h60 rfl rfl) ?_
            refine AOps.call (o_assign _ rfl rfl) ?_
            refine AOps.nil ?_
            refine AWP.ret ?_
            first
            | exact postQ.ret1 Tryd.results4 rfl rfl
            | (exfalso; simp at *; done)
            | (exfalso; simp_all; done)
            | (refine postQ.ret1 Tryd.results4 rfl ?_; simp [AV.close, B]; done)
        · skip
          refine AOps.pass rfl rfl rfl h56 rfl ?_
          refine AOps.pass rfl rfl rfl h56 rfl ?_
          refine AOps.pass rfl rfl rfl h56 rfl ?_
          refine AOps.call (o_pickF _ _ _ rfl h56 rfl rfl) ?_
          refine AOps.call (o_move _ rfl rfl) ?_
          refine AOps.pass rfl rfl rfl rfl rfl ?_
          refine AOps.pass rfl rfl rfl rfl rfl ?_
          refine AOps.pass rfl rfl rfl rfl rfl ?_
          refine AOps.call (o_pickF _ _ _ rfl rfl rfl rfl) ?_
          refine AOps.call (o_assign _ rfl rfl) ?_
          refine AOps.nil ?_
          refine AWP.ret ?_
          first
          | exact postQ.ret1 Tryd.results4 rfl rfl
          | (exfalso; simp at *; done)
          | (exfalso; simp_all; done)
          | (refine postQ.ret1 Tryd.results4 rfl ?_; simp [AV.close, B]; done)
      · skip
        refine AOps.pass rfl rfl rfl h54 rfl ?_
        refine AOps.pass rfl rfl rfl h54 rfl ?_
        refine AOps.pass rfl rfl rfl h54 rfl ?_
        refine AOps.call (o_pickF _ _ _ rfl h54 rfl rfl) ?_
        refine AOps.call (o_move _ rfl rfl) ?_
        refine AOps.pass rfl rfl rfl rfl rfl ?_
        refine AOps.pass rfl rfl rfl rfl rfl ?_
        refine AOps.pass rfl rfl rfl rfl rfl ?_
        refine AOps.call (o_pickF _ _ _ rfl rfl rfl rfl) ?_
        refine AOps.call (o_move _ rfl rfl) ?_
        refine AOps.pass rfl rfl rfl rfl rfl ?_
        refine AOps.pass rfl rfl rfl rfl rfl ?_
        refine AOps.pass rfl rfl rfl rfl rfl ?_
        refine AOps.call (o_pickF _ _ _ rfl rfl rfl rfl) ?_
        refine AOps.call (o_assign _ rfl rfl) ?_
        refine AOps.nil ?_
        refine AWP.ret ?_
        first
        | exact postQ.ret1 Tryd.results4 rfl rfl
        | (exfalso; simp at *; done)
        | (exfalso; simp_all; done)
        | (refine postQ.ret1 Tryd.results4 rfl ?_; simp [AV.close, B]; done)

end Go.Proofs.YtphoomnonenalaaDoor
