import Derived.Test.YtphoomnonenalaaDoorR5
import Derived.Test.YtphoomnonenalaaDoorC14
set_option linter.unusedSimpArgs false
set_option linter.unusedVariables false
namespace Go.Proofs.YtphoomnonenalaaDoor
open Go.Ab
theorem eqB_self (x : List Int) : eqB x x = true := by
  induction x with
  | nil => rfl
  | cons a x ih => simp only [eqB, ih, decide_true, Bool.and_self]

set_option maxRecDepth 20000 in
theorem CourseHistories_s (s : Scl) (known : Int) (days grams more : List Int) : FSpecG Tryd.prog TAB 5 [.agg (eS s), I known, .sl (ints days), .sl (ints grams), .sl (ints more)] (B true) (none) := by
  refine FSpecG.of_body tab_stable Tryd.func5 rfl (leB rfl) fun w0 M0 hG => ?_
  obtain ⟨p, e, hA, hB⟩ : ∃ (p : Bool) (e : Int), FSpec Tryd.prog 26 [.agg (eS s), I known, .sl (ints days), .sl (ints grams)] (.tup [B p, I e]) none ∧ FSpec Tryd.prog 27 [.agg (eS s), I known, .sl (ints days), .sl (ints grams)] (.tup [B p, I e]) none := by
    have h1 := History_s s known days grams
    have h2 := rHistory_s s known days grams
    by_cases hz : givenE s known days grams = 0
    · rw [if_pos hz] at h1 h2; exact ⟨_, _, h1, h2⟩
    · rw [if_neg hz] at h1 h2; exact ⟨_, _, h1, h2⟩
  obtain ⟨x, q, f, hxl, hC, hD⟩ : ∃ (x : List Int) (q : Bool) (f : Int), x.length ≤ 1000000000000 ∧ FSpec Tryd.prog 28 [.agg (eS s), I known, .sl (ints days), .sl (ints grams), .sl (ints more)] (.tup [.sl (ints x), B q, I f]) none ∧ FSpec Tryd.prog 29 [.agg (eS s), I known, .sl (ints days), .sl (ints grams), .sl (ints more)] (.tup [.sl (ints x), B q, I f]) none := by
    have h1 := Extend_s s known days grams more
    have h2 := rExtend_s s known days grams more
    by_cases hz : givenE s known days grams = 0
    · rw [if_pos hz] at h1 h2
      cases hm : daysB more with
      | false => rw [hm] at h1 h2; exact ⟨[], _, _, Nat.zero_le _, h1, h2⟩
      | true =>
        rw [hm] at h1 h2
        cases hp : pinB s known days grams with
        | false => rw [hp] at h1 h2; exact ⟨[], _, _, Nat.zero_le _, h1, h2⟩
        | true => rw [hp] at h1 h2; exact ⟨_, _, _, by unfold extL; rw [List.length_map]; have := daysB_len hm; omega, h1, h2⟩
    · rw [if_neg hz] at h1 h2; exact ⟨[], _, _, Nat.zero_le _, h1, h2⟩
  have hEq := Equal_s x x hxl
  rw [eqB_self] at hEq
  refine AWP.seq ?_
  refine AWP.region ?_
  refine AOps.call (o_box _ rfl rfl rfl) ?_
  refine AOps.call (o_assign _ rfl rfl) ?_
  refine AOps.nil ?_
  refine AWP.seq ?_
  refine AWP.seq ?_
  refine AWP.region ?_
  refine AOps.call (o_callG (sane_s) hG Tryd.call12 rfl rfl) ?_
  refine AOps.call (o_un _ rfl (fun _ => rfl) rfl) ?_
  refine AOps.nil ?_
  refine AWP.cond _ rfl (fun h4 => ?_) (fun h4 => ?_)
  · skip
    refine AWP.seq ?_
    refine AWP.region ?_
    refine AOps.call (o_assign _ rfl rfl) ?_
    refine AOps.nil ?_
    refine AWP.ret ?_
    first
    | exact postQ.ret1 Tryd.results5 rfl rfl
    | (exfalso; simp at *; done)
    | (exfalso; simp_all; done)
    | (refine postQ.ret1 Tryd.results5 rfl ?_; simp [AV.close, B]; done)
  · skip
    refine AWP.skip ?_
    refine AWP.seq ?_
    refine AWP.seq ?_
    refine AWP.region ?_
    refine AOps.call (o_fieldRef _ rfl fa24_2 rfl rfl) ?_
    refine AOps.call (o_loadRef _ rfl rfl Tryd.sizeOf22 Tryd.isAgg22 rfl rfl rfl) ?_
    refine AOps.call (o_len _ Tryd.underlying22 rfl rfl) ?_
    refine AOps.call (o_bin _ _ rfl rfl (fun _ => rfl) rfl) ?_
    refine AOps.call (o_move _ rfl rfl) ?_
    refine AOps.split rfl rfl rfl (fun h9 => ?_) (fun h9 => ?_)
    · skip
      refine AOps.go rfl rfl rfl h9 (o_move _ rfl rfl) ?_
      refine AOps.go rfl rfl rfl h9 (o_len _ Tryd.underlying45 rfl rfl) ?_
      refine AOps.go rfl rfl rfl h9 (o_bin _ _ rfl rfl (fun _ => rfl) rfl) ?_
      refine AOps.call (o_pickF _ _ _ rfl h9 rfl rfl) ?_
      refine AOps.call (o_move _ rfl rfl) ?_
      refine AOps.split rfl rfl rfl (fun h13 => ?_) (fun h13 => ?_)
      · skip
        refine AOps.go rfl rfl rfl h13 (o_move _ rfl rfl) ?_
        refine AOps.go rfl rfl rfl h13 (o_len _ Tryd.underlying45 rfl rfl) ?_
        refine AOps.go rfl rfl rfl h13 (o_bin _ _ rfl rfl (fun _ => rfl) rfl) ?_
        refine AOps.call (o_pickF _ _ _ rfl h13 rfl rfl) ?_
        refine AOps.call (o_move _ rfl rfl) ?_
        refine AOps.split rfl rfl rfl (fun h17 => ?_) (fun h17 => ?_)
        · skip
          refine AOps.go rfl rfl rfl h17 (o_move _ rfl rfl) ?_
          refine AOps.go rfl rfl rfl h17 (o_len _ Tryd.underlying45 rfl rfl) ?_
          refine AOps.go rfl rfl rfl h17 (o_bin _ _ rfl rfl (fun _ => rfl) rfl) ?_
          refine AOps.call (o_pickF _ _ _ rfl h17 rfl rfl) ?_
          refine AOps.nil ?_
          refine AWP.cond _ rfl (fun h21 => ?_) (fun h21 => ?_)
          · skip
            refine AWP.seq ?_
            refine AWP.region ?_
            refine AOps.call (o_assign _ rfl rfl) ?_
            refine AOps.nil ?_
            refine AWP.ret ?_
            first
            | exact postQ.ret1 Tryd.results5 rfl rfl
            | (exfalso; simp at *; done)
            | (exfalso; simp_all; done)
            | (refine postQ.ret1 Tryd.results5 rfl ?_; simp [AV.close, B]; done)
          · skip
            refine AWP.skip ?_
            refine AWP.seq ?_
            refine AWP.region ?_
            refine AOps.call (o_loadRef _ rfl rfl Tryd.sizeOf24 Tryd.isAgg24 rfl rfl rfl) ?_
            refine AOps.call (o_move _ rfl rfl) ?_
            refine AOps.call (o_move _ rfl rfl) ?_
            refine AOps.call (o_move _ rfl rfl) ?_
            refine AOps.call (o_call (hA) Tryd.call26 rfl rfl) ?_
            refine AOps.call (o_move _ rfl rfl) ?_
            refine AOps.call (o_extract _ rfl rfl rfl rfl) ?_
            refine AOps.call (o_extract _ rfl rfl rfl rfl) ?_
            refine AOps.call (o_assign _ rfl rfl) ?_
            refine AOps.call (o_assign _ rfl rfl) ?_
            refine AOps.nil ?_
            refine AWP.seq ?_
            refine AWP.region ?_
            refine AOps.call (o_loadRef _ rfl rfl Tryd.sizeOf24 Tryd.isAgg24 rfl rfl rfl) ?_
            refine AOps.call (o_move _ rfl rfl) ?_
            refine AOps.call (o_move _ rfl rfl) ?_
            refine AOps.call (o_move _ rfl rfl) ?_
            refine AOps.call (o_call (hB) Tryd.call27 rfl rfl) ?_
            refine AOps.call (o_move _ rfl rfl) ?_
            refine AOps.call (o_extract _ rfl rfl rfl rfl) ?_
            refine AOps.call (o_extract _ rfl rfl rfl rfl) ?_
            refine AOps.call (o_assign _ rfl rfl) ?_
            refine AOps.call (o_assign _ rfl rfl) ?_
            refine AOps.nil ?_
            refine AWP.seq ?_
            refine AWP.region ?_
            refine AOps.call (o_loadRef _ rfl rfl Tryd.sizeOf24 Tryd.isAgg24 rfl rfl rfl) ?_
            refine AOps.call (o_move _ rfl rfl) ?_
            refine AOps.call (o_move _ rfl rfl) ?_
            refine AOps.call (o_move _ rfl rfl) ?_
            refine AOps.call (o_move _ rfl rfl) ?_
            refine AOps.call (o_call (hC) Tryd.call28 rfl rfl) ?_
            refine AOps.call (o_move _ rfl rfl) ?_
            refine AOps.call (o_extract _ rfl rfl rfl rfl) ?_
            refine AOps.call (o_extract _ rfl rfl rfl rfl) ?_
            refine AOps.call (o_extract _ rfl rfl rfl rfl) ?_
            refine AOps.call (o_assign _ rfl rfl) ?_
            refine AOps.call (o_assign _ rfl rfl) ?_
            refine AOps.call (o_assign _ rfl rfl) ?_
            refine AOps.nil ?_
            refine AWP.seq ?_
            refine AWP.region ?_
            refine AOps.call (o_loadRef _ rfl rfl Tryd.sizeOf24 Tryd.isAgg24 rfl rfl rfl) ?_
            refine AOps.call (o_move _ rfl rfl) ?_
            refine AOps.call (o_move _ rfl rfl) ?_
            refine AOps.call (o_move _ rfl rfl) ?_
            refine AOps.call (o_move _ rfl rfl) ?_
            refine AOps.call (o_call (hD) Tryd.call29 rfl rfl) ?_
            refine AOps.call (o_move _ rfl rfl) ?_
            refine AOps.call (o_extract _ rfl rfl rfl rfl) ?_
            refine AOps.call (o_extract _ rfl rfl rfl rfl) ?_
            refine AOps.call (o_extract _ rfl rfl rfl rfl) ?_
            refine AOps.call (o_assign _ rfl rfl) ?_
            refine AOps.call (o_assign _ rfl rfl) ?_
            refine AOps.call (o_assign _ rfl rfl) ?_
            refine AOps.nil ?_
            refine AWP.seq ?_
            refine AWP.region ?_
            refine AOps.call (o_move _ rfl rfl) ?_
            refine AOps.call (o_move _ rfl rfl) ?_
            refine AOps.call (o_bin _ _ rfl rfl (fun _ => rfl) rfl) ?_
            refine AOps.call (o_move _ rfl rfl) ?_
            refine AOps.split rfl rfl rfl (fun h55 => ?_) (fun h55 => ?_)
            · skip
              refine AOps.go rfl rfl rfl h55 (o_move _ rfl rfl) ?_
              refine AOps.go rfl rfl rfl h55 (o_move _ rfl rfl) ?_
              refine AOps.go rfl rfl rfl h55 (o_bin _ _ rfl rfl (fun _ => rfl) rfl) ?_
              refine AOps.call (o_pickT _ _ _ rfl h55 rfl rfl) ?_
              refine AOps.call (o_move _ rfl rfl) ?_
              refine AOps.split rfl rfl rfl (fun h57 => ?_) (fun h57 => ?_)
              · skip
                refine AOps.go rfl rfl rfl h57 (o_move _ rfl rfl) ?_
                refine AOps.go rfl rfl rfl h57 (o_move _ rfl rfl) ?_
                refine AOps.go rfl rfl rfl h57 (o_call (hEq) Tryd.call30 rfl rfl) ?_
                refine AOps.call (o_pickT _ _ _ rfl h57 rfl rfl) ?_
                refine AOps.call (o_move _ rfl rfl) ?_
                refine AOps.split rfl rfl rfl (fun h59 => ?_) (fun h59 => ?_)
                · skip
                  refine AOps.go rfl rfl rfl h59 (o_move _ rfl rfl) ?_
                  refine AOps.go rfl rfl rfl h59 (o_move _ rfl rfl) ?_
                  refine AOps.go rfl rfl rfl h59 (o_bin _ _ rfl rfl (fun _ => rfl) rfl) ?_
                  refine AOps.call (o_pickT _ _ _ rfl h59 rfl rfl) ?_
                  refine AOps.call (o_move _ rfl rfl) ?_
                  refine AOps.split rfl rfl rfl (fun h61 => ?_) (fun h61 => ?_)
                  · skip
                    refine AOps.go rfl rfl rfl h61 (o_move _ rfl rfl) ?_
                    refine AOps.go rfl rfl rfl h61 (o_move _ rfl rfl) ?_
                    refine AOps.go rfl rfl rfl h61 (o_bin _ _ rfl rfl (fun _ => rfl) rfl) ?_
                    refine AOps.call (o_pickT _ _ _ rfl h61 rfl rfl) ?_
                    refine AOps.call (o_assign _ rfl rfl) ?_
                    refine AOps.nil ?_
                    refine AWP.ret ?_
                    first
                    | exact postQ.ret1 Tryd.results5 rfl rfl
                    | (exfalso; simp at *; done)
                    | (exfalso; simp_all; done)
                    | (refine postQ.ret1 Tryd.results5 rfl ?_; simp [AV.close, B]; done)
                  · skip
                    refine AOps.pass rfl rfl rfl h61 rfl ?_
                    refine AOps.pass rfl rfl rfl h61 rfl ?_
                    refine AOps.pass rfl rfl rfl h61 rfl ?_
                    refine AOps.call (o_pickF _ _ _ rfl h61 rfl rfl) ?_
                    refine AOps.call (o_assign _ rfl rfl) ?_
                    refine AOps.nil ?_
                    refine AWP.ret ?_
                    first
                    | exact postQ.ret1 Tryd.results5 rfl rfl
                    | (exfalso; simp at *; done)
                    | (exfalso; simp_all; done)
                    | (refine postQ.ret1 Tryd.results5 rfl ?_; simp [AV.close, B]; done)
                · skip
                  refine AOps.pass rfl rfl rfl h59 rfl ?_
                  refine AOps.pass rfl rfl rfl h59 rfl ?_
                  refine AOps.pass rfl rfl rfl h59 rfl ?_
                  refine AOps.call (o_pickF _ _ _ rfl h59 rfl rfl) ?_
                  refine AOps.call (o_move _ rfl rfl) ?_
                  refine AOps.pass rfl rfl rfl rfl rfl ?_
                  refine AOps.pass rfl rfl rfl rfl rfl ?_
                  refine AOps.pass rfl rfl rfl rfl rfl ?_
                  refine AOps.call (o_pickF _ _ _ rfl rfl rfl rfl) ?_
                  refine AOps.call (o_assign _ rfl rfl) ?_
                  refine AOps.nil ?_
                  refine AWP.ret ?_
                  first
                  | exact postQ.ret1 Tryd.results5 rfl rfl
                  | (exfalso; simp at *; done)
                  | (exfalso; simp_all; done)
                  | (refine postQ.ret1 Tryd.results5 rfl ?_; simp [AV.close, B]; done)
              · skip
                refine AOps.pass rfl rfl rfl h57 rfl ?_
                refine AOps.pass rfl rfl rfl h57 rfl ?_
                refine AOps.pass rfl rfl rfl h57 rfl ?_
                refine AOps.call (o_pickF _ _ _ rfl h57 rfl rfl) ?_
                refine AOps.call (o_move _ rfl rfl) ?_
                refine AOps.pass rfl rfl rfl rfl rfl ?_
                refine AOps.pass rfl rfl rfl rfl rfl ?_
                refine AOps.pass rfl rfl rfl rfl rfl ?_
                refine AOps.call (o_pickF _ _ _ rfl rfl rfl rfl) ?_
                refine AOps.call (o_move _ rfl rfl) ?_
                refine AOps.pass rfl rfl rfl rfl rfl ?_
                refine AOps.pass rfl rfl rfl rfl rfl ?_
                refine AOps.pass rfl rfl rfl rfl rfl ?_
                refine AOps.call (o_pickF _ _ _ rfl rfl rfl rfl) ?_
                refine AOps.call (o_assign _ rfl rfl) ?_
                refine AOps.nil ?_
                refine AWP.ret ?_
                first
                | exact postQ.ret1 Tryd.results5 rfl rfl
                | (exfalso; simp at *; done)
                | (exfalso; simp_all; done)
                | (refine postQ.ret1 Tryd.results5 rfl ?_; simp [AV.close, B]; done)
            · skip
              refine AOps.pass rfl rfl rfl h55 rfl ?_
              refine AOps.pass rfl rfl rfl h55 rfl ?_
              refine AOps.pass rfl rfl rfl h55 rfl ?_
              refine AOps.call (o_pickF _ _ _ rfl h55 rfl rfl) ?_
              refine AOps.call (o_move _ rfl rfl) ?_
              refine AOps.pass rfl rfl rfl rfl rfl ?_
              refine AOps.pass rfl rfl rfl rfl rfl ?_
              refine AOps.pass rfl rfl rfl rfl rfl ?_
              refine AOps.call (o_pickF _ _ _ rfl rfl rfl rfl) ?_
              refine AOps.call (o_move _ rfl rfl) ?_
              refine AOps.pass rfl rfl rfl rfl rfl ?_
              refine AOps.pass rfl rfl rfl rfl rfl ?_
              refine AOps.pass rfl rfl rfl rfl rfl ?_
              refine AOps.call (o_pickF _ _ _ rfl rfl rfl rfl) ?_
              refine AOps.call (o_move _ rfl rfl) ?_
              refine AOps.pass rfl rfl rfl rfl rfl ?_
              refine AOps.pass rfl rfl rfl rfl rfl ?_
              refine AOps.pass rfl rfl rfl rfl rfl ?_
              refine AOps.call (o_pickF _ _ _ rfl rfl rfl rfl) ?_
              refine AOps.call (o_assign _ rfl rfl) ?_
              refine AOps.nil ?_
              refine AWP.ret ?_
              first
              | exact postQ.ret1 Tryd.results5 rfl rfl
              | (exfalso; simp at *; done)
              | (exfalso; simp_all; done)
              | (refine postQ.ret1 Tryd.results5 rfl ?_; simp [AV.close, B]; done)
        · skip
          refine AOps.pass rfl rfl rfl h17 rfl ?_
          refine AOps.pass rfl rfl rfl h17 rfl ?_
          refine AOps.pass rfl rfl rfl h17 rfl ?_
          refine AOps.call (o_pickT _ _ _ rfl h17 rfl rfl) ?_
          refine AOps.nil ?_
          refine AWP.condT rfl ?_
          refine AWP.seq ?_
          refine AWP.region ?_
          refine AOps.call (o_assign _ rfl rfl) ?_
          refine AOps.nil ?_
          refine AWP.ret ?_
          first
          | exact postQ.ret1 Tryd.results5 rfl rfl
          | (exfalso; simp at *; done)
          | (exfalso; simp_all; done)
          | (refine postQ.ret1 Tryd.results5 rfl ?_; simp [AV.close, B]; done)
      · skip
        refine AOps.pass rfl rfl rfl h13 rfl ?_
        refine AOps.pass rfl rfl rfl h13 rfl ?_
        refine AOps.pass rfl rfl rfl h13 rfl ?_
        refine AOps.call (o_pickT _ _ _ rfl h13 rfl rfl) ?_
        refine AOps.call (o_move _ rfl rfl) ?_
        refine AOps.pass rfl rfl rfl rfl rfl ?_
        refine AOps.pass rfl rfl rfl rfl rfl ?_
        refine AOps.pass rfl rfl rfl rfl rfl ?_
        refine AOps.call (o_pickT _ _ _ rfl rfl rfl rfl) ?_
        refine AOps.nil ?_
        refine AWP.condT rfl ?_
        refine AWP.seq ?_
        refine AWP.region ?_
        refine AOps.call (o_assign _ rfl rfl) ?_
        refine AOps.nil ?_
        refine AWP.ret ?_
        first
        | exact postQ.ret1 Tryd.results5 rfl rfl
        | (exfalso; simp at *; done)
        | (exfalso; simp_all; done)
        | (refine postQ.ret1 Tryd.results5 rfl ?_; simp [AV.close, B]; done)
    · skip
      refine AOps.pass rfl rfl rfl h9 rfl ?_
      refine AOps.pass rfl rfl rfl h9 rfl ?_
      refine AOps.pass rfl rfl rfl h9 rfl ?_
      refine AOps.call (o_pickT _ _ _ rfl h9 rfl rfl) ?_
      refine AOps.call (o_move _ rfl rfl) ?_
      refine AOps.pass rfl rfl rfl rfl rfl ?_
      refine AOps.pass rfl rfl rfl rfl rfl ?_
      refine AOps.pass rfl rfl rfl rfl rfl ?_
      refine AOps.call (o_pickT _ _ _ rfl rfl rfl rfl) ?_
      refine AOps.call (o_move _ rfl rfl) ?_
      refine AOps.pass rfl rfl rfl rfl rfl ?_
      refine AOps.pass rfl rfl rfl rfl rfl ?_
      refine AOps.pass rfl rfl rfl rfl rfl ?_
      refine AOps.call (o_pickT _ _ _ rfl rfl rfl rfl) ?_
      refine AOps.nil ?_
      refine AWP.condT rfl ?_
      refine AWP.seq ?_
      refine AWP.region ?_
      refine AOps.call (o_assign _ rfl rfl) ?_
      refine AOps.nil ?_
      refine AWP.ret ?_
      first
      | exact postQ.ret1 Tryd.results5 rfl rfl
      | (exfalso; simp at *; done)
      | (exfalso; simp_all; done)
      | (refine postQ.ret1 Tryd.results5 rfl ?_; simp [AV.close, B]; done)

end Go.Proofs.YtphoomnonenalaaDoor
