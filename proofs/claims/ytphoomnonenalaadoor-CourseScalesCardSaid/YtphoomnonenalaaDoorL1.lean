import Derived.Test.YtphoomnonenalaaDoorR2
import Derived.Test.YtphoomnonenalaaDoorC14
import Derived.ChangeKeysEq
set_option linter.unusedSimpArgs false
set_option linter.unusedVariables false
namespace Go.Proofs.YtphoomnonenalaaDoor
open Go.Ab
theorem nilAgg {w : World} {M : Nat → Option Nat} {a b : AV} {v : Value} (h : VR w M noV noG (.agg [a, b, .sc (.slice none 0 0)]) v) : VR w M noV noG (.agg [a, b, .sl []]) v := by
  cases h with
  | agg cs vs hl h1 hh =>
    refine .agg _ vs hl h1 fun i c v hc hv => ?_
    match i, hc with
    | 0, hc => exact hh 0 c v hc hv
    | 1, hc => exact hh 1 c v hc hv
    | 2, hc => simp at hc; subst hc; exact nil_cell (hh 2 _ v rfl hv)
theorem same0 : FSpec Tryd.prog 21 [.agg [I 0, I 0, .sc (.slice none 0 0)], .agg [I 0, I 0, .sc (.slice none 0 0)]] (B true) none := by
  intro w M vals hΓ hl hv hM
  refine SameScale_s ⟨0, 0, []⟩ (Nat.zero_le _) w M vals trivial hl (fun i y v hy hv' => ?_) hM
  match i, hy with
  | 0, hy => simp at hy; subst hy; exact nilAgg (hv 0 _ v rfl hv')
  | 1, hy => simp at hy; subst hy; exact nilAgg (hv 1 _ v rfl hv')
theorem g28 : Tryd.prog.eqGuardType Tryd.prog.depth 28 = false := by kernel_rfl
set_option maxRecDepth 20000 in
theorem pairEqIn (k : Nat) (a b : Int) (w : World) : (Op.equalIn (k + 2) 28 (.agg #[.int .i64 a, .int .i64 b]) (.agg #[.int .i64 a, .int .i64 b])).run Tryd.prog w = .ok true w := by
  have hc : Tryd.prog.cellsOf 3 = 1 := by kernel_rfl
  rw [run_equalIn_array w (k + 1) _ _ Tryd.underlying28 info3, hc]
  have hi : ∀ x y w, (Op.equalIn (k + 1) 3 (.int .i64 x) (.int .i64 y)).run Tryd.prog w = .ok (x == y) w := fun x y w => run_equalIn_int w k 3 .i64 .i64 x y Tryd.underlying3
  simp [Op.eqItems, List.range, List.range.loop, part, Tryd.isAgg3, hi, Result.andThen]
theorem pairEqual (a b : Int) (w : World) : (Op.equal 28 (.agg #[.int .i64 a, .int .i64 b]) (.agg #[.int .i64 a, .int .i64 b])).run Tryd.prog w = .ok true w := pairEqIn 9998 a b w
theorem pairEq (x y : Operand) (a b : Int) (w : World) : (do eqGuard .eql 28 x y (.agg #[.int .i64 a, .int .i64 b]) (.agg #[.int .i64 a, .int .i64 b]); binOp .eql 28 (.agg #[.int .i64 a, .int .i64 b]) (.agg #[.int .i64 a, .int .i64 b]) : Sem Value).run Tryd.prog w = .ok (.bool true) w := by
  simp [eqGuard, binOp, g28, pairEqual, Result.andThen]

set_option maxRecDepth 20000 in
theorem CourseScales_a (s : Scl) (t : Tst) (hz : addE s t = 0) : FSpecG Tryd.prog TAB 3 [.agg (eS s), .agg (eT t)] (B true) (none) := by
  refine FSpecG.of_body tab_stable Tryd.func3 rfl (leB rfl) fun w0 M0 hG => ?_
  obtain ⟨i, j, is, e, hA, hR⟩ : ∃ (i j : Int) (is : Bool) (e : Int), FSpec Tryd.prog 13 [.agg (eS s)] (.tup [.agg [I i, I j], B is, I e]) none ∧ FSpec Tryd.prog 14 [.agg (eS s)] (.tup [.agg [I i, I j], B is, I e]) none := by
    have h1 := Apart_s s
    have h2 := rApart_s s
    cases hs : scaleB s with
    | false => rw [hs] at h1 h2; exact ⟨0, 0, false, 11, h1, h2⟩
    | true =>
      rw [hs] at h1 h2
      cases hp : pairs s.rate s.tests 0 with
      | none => rw [hp] at h1 h2; exact ⟨0, 0, false, 0, h1, h2⟩
      | some q => obtain ⟨a, b⟩ := q; rw [hp] at h1 h2; exact ⟨a, b, true, 0, h1, h2⟩
  have hX := AddTest_s s t
  have hY := rAddTest_s s t
  rw [if_pos hz] at hX hY
  refine AWP.seq ?_
  refine AWP.region ?_
  refine AOps.call (o_box _ rfl rfl rfl) ?_
  refine AOps.call (o_box _ rfl rfl rfl) ?_
  refine AOps.call (o_assign _ rfl rfl) ?_
  refine AOps.nil ?_
  refine AWP.seq ?_
  refine AWP.seq ?_
  refine AWP.region ?_
  refine AOps.call (o_callG (sane_s) hG Tryd.call12 rfl rfl) ?_
  refine AOps.call (o_un _ rfl (fun _ => rfl) rfl) ?_
  refine AOps.nil ?_
  refine AWP.cond _ rfl (fun h5 => ?_) (fun h5 => ?_)
  · skip
    refine AWP.seq ?_
    refine AWP.region ?_
    refine AOps.call (o_assign _ rfl rfl) ?_
    refine AOps.nil ?_
    refine AWP.ret ?_
    first
    | exact postQ.ret1 Tryd.results3 rfl rfl
    | (exfalso; simp at *; done)
    | (exfalso; simp_all; done)
    | (refine postQ.ret1 Tryd.results3 rfl ?_; simp [AV.close, B]; done)
  · skip
    refine AWP.skip ?_
    refine AWP.seq ?_
    refine AWP.seq ?_
    refine AWP.region ?_
    refine AOps.call (o_fieldRef _ rfl fa24_2 rfl rfl) ?_
    refine AOps.call (o_loadRef _ rfl rfl Tryd.sizeOf22 Tryd.isAgg22 rfl rfl rfl) ?_
    refine AOps.call (o_len _ Tryd.underlying22 rfl rfl) ?_
    refine AOps.call (o_bin _ _ rfl rfl (fun _ => rfl) rfl) ?_
    refine AOps.nil ?_
    refine AWP.cond _ rfl (fun h10 => ?_) (fun h10 => ?_)
    · skip
      refine AWP.seq ?_
      refine AWP.region ?_
      refine AOps.call (o_assign _ rfl rfl) ?_
      refine AOps.nil ?_
      refine AWP.ret ?_
      first
      | exact postQ.ret1 Tryd.results3 rfl rfl
      | (exfalso; simp at *; done)
      | (exfalso; simp_all; done)
      | (refine postQ.ret1 Tryd.results3 rfl ?_; simp [AV.close, B]; done)
    · skip
      have h100 : s.tests.length ≤ 100 := by simp [tests_len] at h10; omega
      refine AWP.skip ?_
      refine AWP.seq ?_
      refine AWP.region ?_
      refine AOps.call (o_loadRef _ rfl rfl Tryd.sizeOf24 Tryd.isAgg24 rfl rfl rfl) ?_
      refine AOps.call (o_call (hA) Tryd.call13 rfl rfl) ?_
      refine AOps.call (o_move _ rfl rfl) ?_
      refine AOps.call (o_extract _ rfl rfl rfl rfl) ?_
      refine AOps.call (o_extract _ rfl rfl rfl rfl) ?_
      refine AOps.call (o_extract _ rfl rfl rfl rfl) ?_
      refine AOps.call (o_alloc ze28 rfl rfl) ?_
      refine AOps.cons (o_store _ _ rfl rfl Tryd.sizeOf28 rfl rfl rfl rfl rfl) ?_
      refine AOps.call (o_assign _ rfl rfl) ?_
      refine AOps.call (o_assign _ rfl rfl) ?_
      refine AOps.nil ?_
      refine AWP.seq ?_
      refine AWP.region ?_
      refine AOps.call (o_loadRef _ rfl rfl Tryd.sizeOf24 Tryd.isAgg24 rfl rfl rfl) ?_
      refine AOps.call (o_call (hR) Tryd.call14 rfl rfl) ?_
      refine AOps.call (o_move _ rfl rfl) ?_
      refine AOps.call (o_extract _ rfl rfl rfl rfl) ?_
      refine AOps.call (o_extract _ rfl rfl rfl rfl) ?_
      refine AOps.call (o_extract _ rfl rfl rfl rfl) ?_
      refine AOps.call (o_alloc ze28 rfl rfl) ?_
      refine AOps.cons (o_store _ _ rfl rfl Tryd.sizeOf28 rfl rfl rfl rfl rfl) ?_
      refine AOps.call (o_assign _ rfl rfl) ?_
      refine AOps.call (o_assign _ rfl rfl) ?_
      refine AOps.nil ?_
      refine AWP.seq ?_
      refine AWP.region ?_
      refine AOps.call (o_loadRef _ rfl rfl Tryd.sizeOf24 Tryd.isAgg24 rfl rfl rfl) ?_
      refine AOps.call (o_loadRef _ rfl rfl Tryd.sizeOf26 Tryd.isAgg26 rfl rfl rfl) ?_
      refine AOps.call (o_call (hX) Tryd.call15 rfl rfl) ?_
      refine AOps.call (o_move _ rfl rfl) ?_
      refine AOps.call (o_extract _ rfl rfl rfl rfl) ?_
      refine AOps.call (o_extract _ rfl rfl rfl rfl) ?_
      refine AOps.call (o_alloc ze24 rfl rfl) ?_
      refine AOps.cons (o_store _ _ rfl rfl Tryd.sizeOf24 rfl rfl rfl rfl rfl) ?_
      refine AOps.call (o_assign _ rfl rfl) ?_
      refine AOps.nil ?_
      refine AWP.seq ?_
      refine AWP.region ?_
      refine AOps.call (o_loadRef _ rfl rfl Tryd.sizeOf24 Tryd.isAgg24 rfl rfl rfl) ?_
      refine AOps.call (o_loadRef _ rfl rfl Tryd.sizeOf26 Tryd.isAgg26 rfl rfl rfl) ?_
      refine AOps.call (o_call (hY) Tryd.call16 rfl rfl) ?_
      refine AOps.call (o_move _ rfl rfl) ?_
      refine AOps.call (o_extract _ rfl rfl rfl rfl) ?_
      refine AOps.call (o_extract _ rfl rfl rfl rfl) ?_
      refine AOps.call (o_alloc ze24 rfl rfl) ?_
      refine AOps.cons (o_store _ _ rfl rfl Tryd.sizeOf24 rfl rfl rfl rfl rfl) ?_
      refine AOps.call (o_assign _ rfl rfl) ?_
      refine AOps.nil ?_
      refine AWP.seq ?_
      refine AWP.drawn 38 mixed (by kernel_rfl) ?_
      refine AHead.call (o_loadRef _ rfl rfl Tryd.sizeOf26 Tryd.isAgg26 rfl rfl rfl) rfl ?_
      refine AHead.call (o_call (CheckTest_s t) Tryd.call17 rfl rfl) rfl ?_
      refine AHead.call (o_loadRef _ rfl rfl Tryd.sizeOf26 Tryd.isAgg26 rfl rfl rfl) rfl ?_
      refine AHead.call (o_call (rCheckTest_s t) Tryd.call18 rfl rfl) rfl ?_
      refine AHead.call (o_bin _ _ rfl rfl (fun _ => rfl) rfl) rfl ?_
      refine AHead.call (o_move _ rfl rfl) rfl ?_
      refine AHead.split rfl rfl rfl (fun h40 => ?_) (fun h40 => ?_)
      · skip
        refine AHead.go rfl rfl rfl h40 (o_loadRef _ rfl rfl Tryd.sizeOf24 Tryd.isAgg24 rfl rfl rfl) rfl ?_
        refine AHead.go rfl rfl rfl h40 (o_call (CheckScale_s s) Tryd.call19 rfl rfl) rfl ?_
        refine AHead.go rfl rfl rfl h40 (o_loadRef _ rfl rfl Tryd.sizeOf24 Tryd.isAgg24 rfl rfl rfl) rfl ?_
        refine AHead.go rfl rfl rfl h40 (o_call (rCheckScale_s s) Tryd.call20 rfl rfl) rfl ?_
        refine AHead.go rfl rfl rfl h40 (o_bin _ _ rfl rfl (fun _ => rfl) rfl) rfl ?_
        refine AHead.call (o_pickT _ _ _ rfl h40 rfl rfl) rfl ?_
        refine AHead.call (o_move _ rfl rfl) rfl ?_
        refine AHead.split rfl rfl rfl (fun h46 => ?_) (fun h46 => ?_)
        · skip
          refine AHead.go rfl rfl rfl h46 (o_loadRef _ rfl rfl Tryd.sizeOf28 Tryd.isAgg28 rfl rfl rfl) rfl ?_
          refine AHead.go rfl rfl rfl h46 (o_loadRef _ rfl rfl Tryd.sizeOf28 Tryd.isAgg28 rfl rfl rfl) rfl ?_
          refine AHead.go rfl rfl rfl h46 (o_bin _ _ rfl rfl (pairEq _ _ _ _) rfl) rfl ?_
          refine AHead.call (o_pickT _ _ _ rfl h46 rfl rfl) rfl ?_
          refine AHead.call (o_move _ rfl rfl) rfl ?_
          refine AHead.split rfl rfl rfl (fun h50 => ?_) (fun h50 => ?_)
          · skip
            refine AHead.go rfl rfl rfl h50 (o_move _ rfl rfl) rfl ?_
            refine AHead.go rfl rfl rfl h50 (o_move _ rfl rfl) rfl ?_
            refine AHead.go rfl rfl rfl h50 (o_bin _ _ rfl rfl (fun _ => rfl) rfl) rfl ?_
            refine AHead.call (o_pickT _ _ _ rfl h50 rfl rfl) rfl ?_
            refine AHead.call (o_move _ rfl rfl) rfl ?_
            refine AHead.split rfl rfl rfl (fun h52 => ?_) (fun h52 => ?_)
            · skip
              refine AHead.go rfl rfl rfl h52 (o_move _ rfl rfl) rfl ?_
              refine AHead.go rfl rfl rfl h52 (o_move _ rfl rfl) rfl ?_
              refine AHead.go rfl rfl rfl h52 (o_bin _ _ rfl rfl (fun _ => rfl) rfl) rfl ?_
              refine AHead.call (o_pickT _ _ _ rfl h52 rfl rfl) rfl ?_
              refine AHead.call (o_move _ rfl rfl) rfl ?_
              refine AHead.split rfl rfl rfl (fun h54 => ?_) (fun h54 => ?_)
              · skip
                refine AHead.go rfl rfl rfl h54 (o_loadRef _ rfl rfl Tryd.sizeOf24 Tryd.isAgg24 rfl rfl rfl) rfl ?_
                refine AHead.go rfl rfl rfl h54 (o_loadRef _ rfl rfl Tryd.sizeOf24 Tryd.isAgg24 rfl rfl rfl) rfl ?_
                refine AHead.go rfl rfl rfl h54 (o_call (SameScale_s ⟨s.no, s.rate, s.tests ++ [t]⟩ (by simp; omega)) Tryd.call21 rfl rfl) rfl ?_
                refine AHead.call (o_pickT _ _ _ rfl h54 rfl rfl) rfl ?_
                refine AHead.call (o_move _ rfl rfl) rfl ?_
                refine AHead.split rfl rfl rfl (fun h58 => ?_) (fun h58 => ?_)
                · skip
                  refine AHead.go rfl rfl rfl h58 (o_move _ rfl rfl) rfl ?_
                  refine AHead.go rfl rfl rfl h58 (o_move _ rfl rfl) rfl ?_
                  refine AHead.go rfl rfl rfl h58 (o_bin _ _ rfl rfl (fun _ => rfl) rfl) rfl ?_
                  refine AHead.call (o_pickT _ _ _ rfl h58 rfl rfl) rfl ?_
                  refine AHead.call (o_assign _ rfl rfl) rfl ?_
                  refine AHead.nil ?_
                  refine AOps.nil ?_
                  refine AWP.ret ?_
                  first
                  | exact postQ.ret1 Tryd.results3 rfl rfl
                  | (exfalso; simp at *; done)
                  | (exfalso; simp_all; done)
                  | (refine postQ.ret1 Tryd.results3 rfl ?_; simp [AV.close, B]; done)
                · skip
                  refine AHead.pass rfl rfl rfl h58 rfl ?_
                  refine AHead.pass rfl rfl rfl h58 rfl ?_
                  refine AHead.pass rfl rfl rfl h58 rfl ?_
                  refine AHead.call (o_pickF _ _ _ rfl h58 rfl rfl) rfl ?_
                  refine AHead.call (o_assign _ rfl rfl) rfl ?_
                  refine AHead.nil ?_
                  refine AOps.nil ?_
                  refine AWP.ret ?_
                  first
                  | exact postQ.ret1 Tryd.results3 rfl rfl
                  | (exfalso; simp at *; done)
                  | (exfalso; simp_all; done)
                  | (refine postQ.ret1 Tryd.results3 rfl ?_; simp [AV.close, B]; done)
              · skip
                refine AHead.pass rfl rfl rfl h54 rfl ?_
                refine AHead.pass rfl rfl rfl h54 rfl ?_
                refine AHead.pass rfl rfl rfl h54 rfl ?_
                refine AHead.call (o_pickF _ _ _ rfl h54 rfl rfl) rfl ?_
                refine AHead.call (o_move _ rfl rfl) rfl ?_
                refine AHead.pass rfl rfl rfl rfl rfl ?_
                refine AHead.pass rfl rfl rfl rfl rfl ?_
                refine AHead.pass rfl rfl rfl rfl rfl ?_
                refine AHead.call (o_pickF _ _ _ rfl rfl rfl rfl) rfl ?_
                refine AHead.call (o_assign _ rfl rfl) rfl ?_
                refine AHead.nil ?_
                refine AOps.nil ?_
                refine AWP.ret ?_
                first
                | exact postQ.ret1 Tryd.results3 rfl rfl
                | (exfalso; simp at *; done)
                | (exfalso; simp_all; done)
                | (refine postQ.ret1 Tryd.results3 rfl ?_; simp [AV.close, B]; done)
            · skip
              refine AHead.pass rfl rfl rfl h52 rfl ?_
              refine AHead.pass rfl rfl rfl h52 rfl ?_
              refine AHead.pass rfl rfl rfl h52 rfl ?_
              refine AHead.call (o_pickF _ _ _ rfl h52 rfl rfl) rfl ?_
              refine AHead.call (o_move _ rfl rfl) rfl ?_
              refine AHead.pass rfl rfl rfl rfl rfl ?_
              refine AHead.pass rfl rfl rfl rfl rfl ?_
              refine AHead.pass rfl rfl rfl rfl rfl ?_
              refine AHead.call (o_pickF _ _ _ rfl rfl rfl rfl) rfl ?_
              refine AHead.call (o_move _ rfl rfl) rfl ?_
              refine AHead.pass rfl rfl rfl rfl rfl ?_
              refine AHead.pass rfl rfl rfl rfl rfl ?_
              refine AHead.pass rfl rfl rfl rfl rfl ?_
              refine AHead.call (o_pickF _ _ _ rfl rfl rfl rfl) rfl ?_
              refine AHead.call (o_assign _ rfl rfl) rfl ?_
              refine AHead.nil ?_
              refine AOps.nil ?_
              refine AWP.ret ?_
              first
              | exact postQ.ret1 Tryd.results3 rfl rfl
              | (exfalso; simp at *; done)
              | (exfalso; simp_all; done)
              | (refine postQ.ret1 Tryd.results3 rfl ?_; simp [AV.close, B]; done)
          · skip
            refine AHead.pass rfl rfl rfl h50 rfl ?_
            refine AHead.pass rfl rfl rfl h50 rfl ?_
            refine AHead.pass rfl rfl rfl h50 rfl ?_
            refine AHead.call (o_pickF _ _ _ rfl h50 rfl rfl) rfl ?_
            refine AHead.call (o_move _ rfl rfl) rfl ?_
            refine AHead.pass rfl rfl rfl rfl rfl ?_
            refine AHead.pass rfl rfl rfl rfl rfl ?_
            refine AHead.pass rfl rfl rfl rfl rfl ?_
            refine AHead.call (o_pickF _ _ _ rfl rfl rfl rfl) rfl ?_
            refine AHead.call (o_move _ rfl rfl) rfl ?_
            refine AHead.pass rfl rfl rfl rfl rfl ?_
            refine AHead.pass rfl rfl rfl rfl rfl ?_
            refine AHead.pass rfl rfl rfl rfl rfl ?_
            refine AHead.call (o_pickF _ _ _ rfl rfl rfl rfl) rfl ?_
            refine AHead.call (o_move _ rfl rfl) rfl ?_
            refine AHead.pass rfl rfl rfl rfl rfl ?_
            refine AHead.pass rfl rfl rfl rfl rfl ?_
            refine AHead.pass rfl rfl rfl rfl rfl ?_
            refine AHead.call (o_pickF _ _ _ rfl rfl rfl rfl) rfl ?_
            refine AHead.call (o_assign _ rfl rfl) rfl ?_
            refine AHead.nil ?_
            refine AOps.nil ?_
            refine AWP.ret ?_
            first
            | exact postQ.ret1 Tryd.results3 rfl rfl
            | (exfalso; simp at *; done)
            | (exfalso; simp_all; done)
            | (refine postQ.ret1 Tryd.results3 rfl ?_; simp [AV.close, B]; done)
        · skip
          refine AHead.pass rfl rfl rfl h46 rfl ?_
          refine AHead.pass rfl rfl rfl h46 rfl ?_
          refine AHead.pass rfl rfl rfl h46 rfl ?_
          refine AHead.call (o_pickF _ _ _ rfl h46 rfl rfl) rfl ?_
          refine AHead.call (o_move _ rfl rfl) rfl ?_
          refine AHead.pass rfl rfl rfl rfl rfl ?_
          refine AHead.pass rfl rfl rfl rfl rfl ?_
          refine AHead.pass rfl rfl rfl rfl rfl ?_
          refine AHead.call (o_pickF _ _ _ rfl rfl rfl rfl) rfl ?_
          refine AHead.call (o_move _ rfl rfl) rfl ?_
          refine AHead.pass rfl rfl rfl rfl rfl ?_
          refine AHead.pass rfl rfl rfl rfl rfl ?_
          refine AHead.pass rfl rfl rfl rfl rfl ?_
          refine AHead.call (o_pickF _ _ _ rfl rfl rfl rfl) rfl ?_
          refine AHead.call (o_move _ rfl rfl) rfl ?_
          refine AHead.pass rfl rfl rfl rfl rfl ?_
          refine AHead.pass rfl rfl rfl rfl rfl ?_
          refine AHead.pass rfl rfl rfl rfl rfl ?_
          refine AHead.call (o_pickF _ _ _ rfl rfl rfl rfl) rfl ?_
          refine AHead.call (o_move _ rfl rfl) rfl ?_
          refine AHead.pass rfl rfl rfl rfl rfl ?_
          refine AHead.pass rfl rfl rfl rfl rfl ?_
          refine AHead.pass rfl rfl rfl rfl rfl ?_
          refine AHead.call (o_pickF _ _ _ rfl rfl rfl rfl) rfl ?_
          refine AHead.call (o_assign _ rfl rfl) rfl ?_
          refine AHead.nil ?_
          refine AOps.nil ?_
          refine AWP.ret ?_
          first
          | exact postQ.ret1 Tryd.results3 rfl rfl
          | (exfalso; simp at *; done)
          | (exfalso; simp_all; done)
          | (refine postQ.ret1 Tryd.results3 rfl ?_; simp [AV.close, B]; done)
      · skip
        refine AHead.pass rfl rfl rfl h40 rfl ?_
        refine AHead.pass rfl rfl rfl h40 rfl ?_
        refine AHead.pass rfl rfl rfl h40 rfl ?_
        refine AHead.pass rfl rfl rfl h40 rfl ?_
        refine AHead.pass rfl rfl rfl h40 rfl ?_
        refine AHead.call (o_pickF _ _ _ rfl h40 rfl rfl) rfl ?_
        refine AHead.call (o_move _ rfl rfl) rfl ?_
        refine AHead.pass rfl rfl rfl rfl rfl ?_
        refine AHead.pass rfl rfl rfl rfl rfl ?_
        refine AHead.pass rfl rfl rfl rfl rfl ?_
        refine AHead.call (o_pickF _ _ _ rfl rfl rfl rfl) rfl ?_
        refine AHead.call (o_move _ rfl rfl) rfl ?_
        refine AHead.pass rfl rfl rfl rfl rfl ?_
        refine AHead.pass rfl rfl rfl rfl rfl ?_
        refine AHead.pass rfl rfl rfl rfl rfl ?_
        refine AHead.call (o_pickF _ _ _ rfl rfl rfl rfl) rfl ?_
        refine AHead.call (o_move _ rfl rfl) rfl ?_
        refine AHead.pass rfl rfl rfl rfl rfl ?_
        refine AHead.pass rfl rfl rfl rfl rfl ?_
        refine AHead.pass rfl rfl rfl rfl rfl ?_
        refine AHead.call (o_pickF _ _ _ rfl rfl rfl rfl) rfl ?_
        refine AHead.call (o_move _ rfl rfl) rfl ?_
        refine AHead.pass rfl rfl rfl rfl rfl ?_
        refine AHead.pass rfl rfl rfl rfl rfl ?_
        refine AHead.pass rfl rfl rfl rfl rfl ?_
        refine AHead.call (o_pickF _ _ _ rfl rfl rfl rfl) rfl ?_
        refine AHead.call (o_move _ rfl rfl) rfl ?_
        refine AHead.pass rfl rfl rfl rfl rfl ?_
        refine AHead.pass rfl rfl rfl rfl rfl ?_
        refine AHead.pass rfl rfl rfl rfl rfl ?_
        refine AHead.call (o_pickF _ _ _ rfl rfl rfl rfl) rfl ?_
        refine AHead.call (o_assign _ rfl rfl) rfl ?_
        refine AHead.nil ?_
        refine AOps.nil ?_
        refine AWP.ret ?_
        first
        | exact postQ.ret1 Tryd.results3 rfl rfl
        | (exfalso; simp at *; done)
        | (exfalso; simp_all; done)
        | (refine postQ.ret1 Tryd.results3 rfl ?_; simp [AV.close, B]; done)

set_option maxRecDepth 20000 in
theorem CourseScales_b (s : Scl) (t : Tst) (hz : ¬ addE s t = 0) : FSpecG Tryd.prog TAB 3 [.agg (eS s), .agg (eT t)] (B true) (none) := by
  refine FSpecG.of_body tab_stable Tryd.func3 rfl (leB rfl) fun w0 M0 hG => ?_
  obtain ⟨i, j, is, e, hA, hR⟩ : ∃ (i j : Int) (is : Bool) (e : Int), FSpec Tryd.prog 13 [.agg (eS s)] (.tup [.agg [I i, I j], B is, I e]) none ∧ FSpec Tryd.prog 14 [.agg (eS s)] (.tup [.agg [I i, I j], B is, I e]) none := by
    have h1 := Apart_s s
    have h2 := rApart_s s
    cases hs : scaleB s with
    | false => rw [hs] at h1 h2; exact ⟨0, 0, false, 11, h1, h2⟩
    | true =>
      rw [hs] at h1 h2
      cases hp : pairs s.rate s.tests 0 with
      | none => rw [hp] at h1 h2; exact ⟨0, 0, false, 0, h1, h2⟩
      | some q => obtain ⟨a, b⟩ := q; rw [hp] at h1 h2; exact ⟨a, b, true, 0, h1, h2⟩
  have hX := AddTest_s s t
  have hY := rAddTest_s s t
  rw [if_neg hz] at hX hY
  refine AWP.seq ?_
  refine AWP.region ?_
  refine AOps.call (o_box _ rfl rfl rfl) ?_
  refine AOps.call (o_box _ rfl rfl rfl) ?_
  refine AOps.call (o_assign _ rfl rfl) ?_
  refine AOps.nil ?_
  refine AWP.seq ?_
  refine AWP.seq ?_
  refine AWP.region ?_
  refine AOps.call (o_callG (sane_s) hG Tryd.call12 rfl rfl) ?_
  refine AOps.call (o_un _ rfl (fun _ => rfl) rfl) ?_
  refine AOps.nil ?_
  refine AWP.cond _ rfl (fun h5 => ?_) (fun h5 => ?_)
  · skip
    refine AWP.seq ?_
    refine AWP.region ?_
    refine AOps.call (o_assign _ rfl rfl) ?_
    refine AOps.nil ?_
    refine AWP.ret ?_
    first
    | exact postQ.ret1 Tryd.results3 rfl rfl
    | (exfalso; simp at *; done)
    | (exfalso; simp_all; done)
    | (refine postQ.ret1 Tryd.results3 rfl ?_; simp [AV.close, B]; done)
  · skip
    refine AWP.skip ?_
    refine AWP.seq ?_
    refine AWP.seq ?_
    refine AWP.region ?_
    refine AOps.call (o_fieldRef _ rfl fa24_2 rfl rfl) ?_
    refine AOps.call (o_loadRef _ rfl rfl Tryd.sizeOf22 Tryd.isAgg22 rfl rfl rfl) ?_
    refine AOps.call (o_len _ Tryd.underlying22 rfl rfl) ?_
    refine AOps.call (o_bin _ _ rfl rfl (fun _ => rfl) rfl) ?_
    refine AOps.nil ?_
    refine AWP.cond _ rfl (fun h10 => ?_) (fun h10 => ?_)
    · skip
      refine AWP.seq ?_
      refine AWP.region ?_
      refine AOps.call (o_assign _ rfl rfl) ?_
      refine AOps.nil ?_
      refine AWP.ret ?_
      first
      | exact postQ.ret1 Tryd.results3 rfl rfl
      | (exfalso; simp at *; done)
      | (exfalso; simp_all; done)
      | (refine postQ.ret1 Tryd.results3 rfl ?_; simp [AV.close, B]; done)
    · skip
      have h100 : s.tests.length ≤ 100 := by simp [tests_len] at h10; omega
      refine AWP.skip ?_
      refine AWP.seq ?_
      refine AWP.region ?_
      refine AOps.call (o_loadRef _ rfl rfl Tryd.sizeOf24 Tryd.isAgg24 rfl rfl rfl) ?_
      refine AOps.call (o_call (hA) Tryd.call13 rfl rfl) ?_
      refine AOps.call (o_move _ rfl rfl) ?_
      refine AOps.call (o_extract _ rfl rfl rfl rfl) ?_
      refine AOps.call (o_extract _ rfl rfl rfl rfl) ?_
      refine AOps.call (o_extract _ rfl rfl rfl rfl) ?_
      refine AOps.call (o_alloc ze28 rfl rfl) ?_
      refine AOps.cons (o_store _ _ rfl rfl Tryd.sizeOf28 rfl rfl rfl rfl rfl) ?_
      refine AOps.call (o_assign _ rfl rfl) ?_
      refine AOps.call (o_assign _ rfl rfl) ?_
      refine AOps.nil ?_
      refine AWP.seq ?_
      refine AWP.region ?_
      refine AOps.call (o_loadRef _ rfl rfl Tryd.sizeOf24 Tryd.isAgg24 rfl rfl rfl) ?_
      refine AOps.call (o_call (hR) Tryd.call14 rfl rfl) ?_
      refine AOps.call (o_move _ rfl rfl) ?_
      refine AOps.call (o_extract _ rfl rfl rfl rfl) ?_
      refine AOps.call (o_extract _ rfl rfl rfl rfl) ?_
      refine AOps.call (o_extract _ rfl rfl rfl rfl) ?_
      refine AOps.call (o_alloc ze28 rfl rfl) ?_
      refine AOps.cons (o_store _ _ rfl rfl Tryd.sizeOf28 rfl rfl rfl rfl rfl) ?_
      refine AOps.call (o_assign _ rfl rfl) ?_
      refine AOps.call (o_assign _ rfl rfl) ?_
      refine AOps.nil ?_
      refine AWP.seq ?_
      refine AWP.region ?_
      refine AOps.call (o_loadRef _ rfl rfl Tryd.sizeOf24 Tryd.isAgg24 rfl rfl rfl) ?_
      refine AOps.call (o_loadRef _ rfl rfl Tryd.sizeOf26 Tryd.isAgg26 rfl rfl rfl) ?_
      refine AOps.call (o_call (hX) Tryd.call15 rfl rfl) ?_
      refine AOps.call (o_move _ rfl rfl) ?_
      refine AOps.call (o_extract _ rfl rfl rfl rfl) ?_
      refine AOps.call (o_extract _ rfl rfl rfl rfl) ?_
      refine AOps.call (o_alloc ze24 rfl rfl) ?_
      refine AOps.cons (o_store _ _ rfl rfl Tryd.sizeOf24 rfl rfl rfl rfl rfl) ?_
      refine AOps.call (o_assign _ rfl rfl) ?_
      refine AOps.nil ?_
      refine AWP.seq ?_
      refine AWP.region ?_
      refine AOps.call (o_loadRef _ rfl rfl Tryd.sizeOf24 Tryd.isAgg24 rfl rfl rfl) ?_
      refine AOps.call (o_loadRef _ rfl rfl Tryd.sizeOf26 Tryd.isAgg26 rfl rfl rfl) ?_
      refine AOps.call (o_call (hY) Tryd.call16 rfl rfl) ?_
      refine AOps.call (o_move _ rfl rfl) ?_
      refine AOps.call (o_extract _ rfl rfl rfl rfl) ?_
      refine AOps.call (o_extract _ rfl rfl rfl rfl) ?_
      refine AOps.call (o_alloc ze24 rfl rfl) ?_
      refine AOps.cons (o_store _ _ rfl rfl Tryd.sizeOf24 rfl rfl rfl rfl rfl) ?_
      refine AOps.call (o_assign _ rfl rfl) ?_
      refine AOps.nil ?_
      refine AWP.seq ?_
      refine AWP.drawn 38 mixed (by kernel_rfl) ?_
      refine AHead.call (o_loadRef _ rfl rfl Tryd.sizeOf26 Tryd.isAgg26 rfl rfl rfl) rfl ?_
      refine AHead.call (o_call (CheckTest_s t) Tryd.call17 rfl rfl) rfl ?_
      refine AHead.call (o_loadRef _ rfl rfl Tryd.sizeOf26 Tryd.isAgg26 rfl rfl rfl) rfl ?_
      refine AHead.call (o_call (rCheckTest_s t) Tryd.call18 rfl rfl) rfl ?_
      refine AHead.call (o_bin _ _ rfl rfl (fun _ => rfl) rfl) rfl ?_
      refine AHead.call (o_move _ rfl rfl) rfl ?_
      refine AHead.split rfl rfl rfl (fun h40 => ?_) (fun h40 => ?_)
      · skip
        refine AHead.go rfl rfl rfl h40 (o_loadRef _ rfl rfl Tryd.sizeOf24 Tryd.isAgg24 rfl rfl rfl) rfl ?_
        refine AHead.go rfl rfl rfl h40 (o_call (CheckScale_s s) Tryd.call19 rfl rfl) rfl ?_
        refine AHead.go rfl rfl rfl h40 (o_loadRef _ rfl rfl Tryd.sizeOf24 Tryd.isAgg24 rfl rfl rfl) rfl ?_
        refine AHead.go rfl rfl rfl h40 (o_call (rCheckScale_s s) Tryd.call20 rfl rfl) rfl ?_
        refine AHead.go rfl rfl rfl h40 (o_bin _ _ rfl rfl (fun _ => rfl) rfl) rfl ?_
        refine AHead.call (o_pickT _ _ _ rfl h40 rfl rfl) rfl ?_
        refine AHead.call (o_move _ rfl rfl) rfl ?_
        refine AHead.split rfl rfl rfl (fun h46 => ?_) (fun h46 => ?_)
        · skip
          refine AHead.go rfl rfl rfl h46 (o_loadRef _ rfl rfl Tryd.sizeOf28 Tryd.isAgg28 rfl rfl rfl) rfl ?_
          refine AHead.go rfl rfl rfl h46 (o_loadRef _ rfl rfl Tryd.sizeOf28 Tryd.isAgg28 rfl rfl rfl) rfl ?_
          refine AHead.go rfl rfl rfl h46 (o_bin _ _ rfl rfl (pairEq _ _ _ _) rfl) rfl ?_
          refine AHead.call (o_pickT _ _ _ rfl h46 rfl rfl) rfl ?_
          refine AHead.call (o_move _ rfl rfl) rfl ?_
          refine AHead.split rfl rfl rfl (fun h50 => ?_) (fun h50 => ?_)
          · skip
            refine AHead.go rfl rfl rfl h50 (o_move _ rfl rfl) rfl ?_
            refine AHead.go rfl rfl rfl h50 (o_move _ rfl rfl) rfl ?_
            refine AHead.go rfl rfl rfl h50 (o_bin _ _ rfl rfl (fun _ => rfl) rfl) rfl ?_
            refine AHead.call (o_pickT _ _ _ rfl h50 rfl rfl) rfl ?_
            refine AHead.call (o_move _ rfl rfl) rfl ?_
            refine AHead.split rfl rfl rfl (fun h52 => ?_) (fun h52 => ?_)
            · skip
              refine AHead.go rfl rfl rfl h52 (o_move _ rfl rfl) rfl ?_
              refine AHead.go rfl rfl rfl h52 (o_move _ rfl rfl) rfl ?_
              refine AHead.go rfl rfl rfl h52 (o_bin _ _ rfl rfl (fun _ => rfl) rfl) rfl ?_
              refine AHead.call (o_pickT _ _ _ rfl h52 rfl rfl) rfl ?_
              refine AHead.call (o_move _ rfl rfl) rfl ?_
              refine AHead.split rfl rfl rfl (fun h54 => ?_) (fun h54 => ?_)
              · skip
                refine AHead.go rfl rfl rfl h54 (o_loadRef _ rfl rfl Tryd.sizeOf24 Tryd.isAgg24 rfl rfl rfl) rfl ?_
                refine AHead.go rfl rfl rfl h54 (o_loadRef _ rfl rfl Tryd.sizeOf24 Tryd.isAgg24 rfl rfl rfl) rfl ?_
                refine AHead.go rfl rfl rfl h54 (o_call (same0) Tryd.call21 rfl rfl) rfl ?_
                refine AHead.call (o_pickT _ _ _ rfl h54 rfl rfl) rfl ?_
                refine AHead.call (o_move _ rfl rfl) rfl ?_
                refine AHead.split rfl rfl rfl (fun h58 => ?_) (fun h58 => ?_)
                · skip
                  refine AHead.go rfl rfl rfl h58 (o_move _ rfl rfl) rfl ?_
                  refine AHead.go rfl rfl rfl h58 (o_move _ rfl rfl) rfl ?_
                  refine AHead.go rfl rfl rfl h58 (o_bin _ _ rfl rfl (fun _ => rfl) rfl) rfl ?_
                  refine AHead.call (o_pickT _ _ _ rfl h58 rfl rfl) rfl ?_
                  refine AHead.call (o_assign _ rfl rfl) rfl ?_
                  refine AHead.nil ?_
                  refine AOps.nil ?_
                  refine AWP.ret ?_
                  first
                  | exact postQ.ret1 Tryd.results3 rfl rfl
                  | (exfalso; simp at *; done)
                  | (exfalso; simp_all; done)
                  | (refine postQ.ret1 Tryd.results3 rfl ?_; simp [AV.close, B]; done)
                · skip
                  refine AHead.pass rfl rfl rfl h58 rfl ?_
                  refine AHead.pass rfl rfl rfl h58 rfl ?_
                  refine AHead.pass rfl rfl rfl h58 rfl ?_
                  refine AHead.call (o_pickF _ _ _ rfl h58 rfl rfl) rfl ?_
                  refine AHead.call (o_assign _ rfl rfl) rfl ?_
                  refine AHead.nil ?_
                  refine AOps.nil ?_
                  refine AWP.ret ?_
                  first
                  | exact postQ.ret1 Tryd.results3 rfl rfl
                  | (exfalso; simp at *; done)
                  | (exfalso; simp_all; done)
                  | (refine postQ.ret1 Tryd.results3 rfl ?_; simp [AV.close, B]; done)
              · skip
                refine AHead.pass rfl rfl rfl h54 rfl ?_
                refine AHead.pass rfl rfl rfl h54 rfl ?_
                refine AHead.pass rfl rfl rfl h54 rfl ?_
                refine AHead.call (o_pickF _ _ _ rfl h54 rfl rfl) rfl ?_
                refine AHead.call (o_move _ rfl rfl) rfl ?_
                refine AHead.pass rfl rfl rfl rfl rfl ?_
                refine AHead.pass rfl rfl rfl rfl rfl ?_
                refine AHead.pass rfl rfl rfl rfl rfl ?_
                refine AHead.call (o_pickF _ _ _ rfl rfl rfl rfl) rfl ?_
                refine AHead.call (o_assign _ rfl rfl) rfl ?_
                refine AHead.nil ?_
                refine AOps.nil ?_
                refine AWP.ret ?_
                first
                | exact postQ.ret1 Tryd.results3 rfl rfl
                | (exfalso; simp at *; done)
                | (exfalso; simp_all; done)
                | (refine postQ.ret1 Tryd.results3 rfl ?_; simp [AV.close, B]; done)
            · skip
              refine AHead.pass rfl rfl rfl h52 rfl ?_
              refine AHead.pass rfl rfl rfl h52 rfl ?_
              refine AHead.pass rfl rfl rfl h52 rfl ?_
              refine AHead.call (o_pickF _ _ _ rfl h52 rfl rfl) rfl ?_
              refine AHead.call (o_move _ rfl rfl) rfl ?_
              refine AHead.pass rfl rfl rfl rfl rfl ?_
              refine AHead.pass rfl rfl rfl rfl rfl ?_
              refine AHead.pass rfl rfl rfl rfl rfl ?_
              refine AHead.call (o_pickF _ _ _ rfl rfl rfl rfl) rfl ?_
              refine AHead.call (o_move _ rfl rfl) rfl ?_
              refine AHead.pass rfl rfl rfl rfl rfl ?_
              refine AHead.pass rfl rfl rfl rfl rfl ?_
              refine AHead.pass rfl rfl rfl rfl rfl ?_
              refine AHead.call (o_pickF _ _ _ rfl rfl rfl rfl) rfl ?_
              refine AHead.call (o_assign _ rfl rfl) rfl ?_
              refine AHead.nil ?_
              refine AOps.nil ?_
              refine AWP.ret ?_
              first
              | exact postQ.ret1 Tryd.results3 rfl rfl
              | (exfalso; simp at *; done)
              | (exfalso; simp_all; done)
              | (refine postQ.ret1 Tryd.results3 rfl ?_; simp [AV.close, B]; done)
          · skip
            refine AHead.pass rfl rfl rfl h50 rfl ?_
            refine AHead.pass rfl rfl rfl h50 rfl ?_
            refine AHead.pass rfl rfl rfl h50 rfl ?_
            refine AHead.call (o_pickF _ _ _ rfl h50 rfl rfl) rfl ?_
            refine AHead.call (o_move _ rfl rfl) rfl ?_
            refine AHead.pass rfl rfl rfl rfl rfl ?_
            refine AHead.pass rfl rfl rfl rfl rfl ?_
            refine AHead.pass rfl rfl rfl rfl rfl ?_
            refine AHead.call (o_pickF _ _ _ rfl rfl rfl rfl) rfl ?_
            refine AHead.call (o_move _ rfl rfl) rfl ?_
            refine AHead.pass rfl rfl rfl rfl rfl ?_
            refine AHead.pass rfl rfl rfl rfl rfl ?_
            refine AHead.pass rfl rfl rfl rfl rfl ?_
            refine AHead.call (o_pickF _ _ _ rfl rfl rfl rfl) rfl ?_
            refine AHead.call (o_move _ rfl rfl) rfl ?_
            refine AHead.pass rfl rfl rfl rfl rfl ?_
            refine AHead.pass rfl rfl rfl rfl rfl ?_
            refine AHead.pass rfl rfl rfl rfl rfl ?_
            refine AHead.call (o_pickF _ _ _ rfl rfl rfl rfl) rfl ?_
            refine AHead.call (o_assign _ rfl rfl) rfl ?_
            refine AHead.nil ?_
            refine AOps.nil ?_
            refine AWP.ret ?_
            first
            | exact postQ.ret1 Tryd.results3 rfl rfl
            | (exfalso; simp at *; done)
            | (exfalso; simp_all; done)
            | (refine postQ.ret1 Tryd.results3 rfl ?_; simp [AV.close, B]; done)
        · skip
          refine AHead.pass rfl rfl rfl h46 rfl ?_
          refine AHead.pass rfl rfl rfl h46 rfl ?_
          refine AHead.pass rfl rfl rfl h46 rfl ?_
          refine AHead.call (o_pickF _ _ _ rfl h46 rfl rfl) rfl ?_
          refine AHead.call (o_move _ rfl rfl) rfl ?_
          refine AHead.pass rfl rfl rfl rfl rfl ?_
          refine AHead.pass rfl rfl rfl rfl rfl ?_
          refine AHead.pass rfl rfl rfl rfl rfl ?_
          refine AHead.call (o_pickF _ _ _ rfl rfl rfl rfl) rfl ?_
          refine AHead.call (o_move _ rfl rfl) rfl ?_
          refine AHead.pass rfl rfl rfl rfl rfl ?_
          refine AHead.pass rfl rfl rfl rfl rfl ?_
          refine AHead.pass rfl rfl rfl rfl rfl ?_
          refine AHead.call (o_pickF _ _ _ rfl rfl rfl rfl) rfl ?_
          refine AHead.call (o_move _ rfl rfl) rfl ?_
          refine AHead.pass rfl rfl rfl rfl rfl ?_
          refine AHead.pass rfl rfl rfl rfl rfl ?_
          refine AHead.pass rfl rfl rfl rfl rfl ?_
          refine AHead.call (o_pickF _ _ _ rfl rfl rfl rfl) rfl ?_
          refine AHead.call (o_move _ rfl rfl) rfl ?_
          refine AHead.pass rfl rfl rfl rfl rfl ?_
          refine AHead.pass rfl rfl rfl rfl rfl ?_
          refine AHead.pass rfl rfl rfl rfl rfl ?_
          refine AHead.call (o_pickF _ _ _ rfl rfl rfl rfl) rfl ?_
          refine AHead.call (o_assign _ rfl rfl) rfl ?_
          refine AHead.nil ?_
          refine AOps.nil ?_
          refine AWP.ret ?_
          first
          | exact postQ.ret1 Tryd.results3 rfl rfl
          | (exfalso; simp at *; done)
          | (exfalso; simp_all; done)
          | (refine postQ.ret1 Tryd.results3 rfl ?_; simp [AV.close, B]; done)
      · skip
        refine AHead.pass rfl rfl rfl h40 rfl ?_
        refine AHead.pass rfl rfl rfl h40 rfl ?_
        refine AHead.pass rfl rfl rfl h40 rfl ?_
        refine AHead.pass rfl rfl rfl h40 rfl ?_
        refine AHead.pass rfl rfl rfl h40 rfl ?_
        refine AHead.call (o_pickF _ _ _ rfl h40 rfl rfl) rfl ?_
        refine AHead.call (o_move _ rfl rfl) rfl ?_
        refine AHead.pass rfl rfl rfl rfl rfl ?_
        refine AHead.pass rfl rfl rfl rfl rfl ?_
        refine AHead.pass rfl rfl rfl rfl rfl ?_
        refine AHead.call (o_pickF _ _ _ rfl rfl rfl rfl) rfl ?_
        refine AHead.call (o_move _ rfl rfl) rfl ?_
        refine AHead.pass rfl rfl rfl rfl rfl ?_
        refine AHead.pass rfl rfl rfl rfl rfl ?_
        refine AHead.pass rfl rfl rfl rfl rfl ?_
        refine AHead.call (o_pickF _ _ _ rfl rfl rfl rfl) rfl ?_
        refine AHead.call (o_move _ rfl rfl) rfl ?_
        refine AHead.pass rfl rfl rfl rfl rfl ?_
        refine AHead.pass rfl rfl rfl rfl rfl ?_
        refine AHead.pass rfl rfl rfl rfl rfl ?_
        refine AHead.call (o_pickF _ _ _ rfl rfl rfl rfl) rfl ?_
        refine AHead.call (o_move _ rfl rfl) rfl ?_
        refine AHead.pass rfl rfl rfl rfl rfl ?_
        refine AHead.pass rfl rfl rfl rfl rfl ?_
        refine AHead.pass rfl rfl rfl rfl rfl ?_
        refine AHead.call (o_pickF _ _ _ rfl rfl rfl rfl) rfl ?_
        refine AHead.call (o_move _ rfl rfl) rfl ?_
        refine AHead.pass rfl rfl rfl rfl rfl ?_
        refine AHead.pass rfl rfl rfl rfl rfl ?_
        refine AHead.pass rfl rfl rfl rfl rfl ?_
        refine AHead.call (o_pickF _ _ _ rfl rfl rfl rfl) rfl ?_
        refine AHead.call (o_assign _ rfl rfl) rfl ?_
        refine AHead.nil ?_
        refine AOps.nil ?_
        refine AWP.ret ?_
        first
        | exact postQ.ret1 Tryd.results3 rfl rfl
        | (exfalso; simp at *; done)
        | (exfalso; simp_all; done)
        | (refine postQ.ret1 Tryd.results3 rfl ?_; simp [AV.close, B]; done)

end Go.Proofs.YtphoomnonenalaaDoor
