/- R1. -/
import Derived.Test.YtelenedgaoglaaaGreatDoorP1
import Derived.Test.YtelenedgaoglaaaGreatDoorAbC
import Derived.Scope
set_option linter.unusedSimpArgs false
set_option linter.unusedVariables false
namespace Go.Proofs.YtelenedgaoglaaaGreatDoor
open Go.Ab
open Go.Pil
set_option maxRecDepth 20000 in
theorem isNo_s (n : Int) : FSpec Tryz.prog 61 [I n] (B (noB n)) (none) := by
  refine FSpec.of_body Tryz.func61 rfl (leB rfl) fun w0 M0 => ?_
  refine AWP.seq ?_
  refine AWP.region ?_
  refine AOps.call (o_assign _ rfl rfl) ?_
  refine AOps.nil ?_
  refine AWP.seq ?_
  refine AWP.region ?_
  refine AOps.call (o_move _ rfl rfl) ?_
  refine AOps.call (o_bin _ _ rfl rfl (fun _ => rfl) rfl) ?_
  refine AOps.call (o_move _ rfl rfl) ?_
  refine AOps.split rfl rfl rfl (fun h3 => ?_) (fun h3 => ?_)
  · skip
    refine AOps.go rfl rfl rfl h3 (o_move _ rfl rfl) ?_
    refine AOps.go rfl rfl rfl h3 (o_bin _ _ rfl rfl (fun _ => rfl) rfl) ?_
    refine AOps.call (o_pickT _ _ _ rfl h3 rfl rfl) ?_
    refine AOps.call (o_assign _ rfl rfl) ?_
    refine AOps.nil ?_
    refine AWP.ret ?_
    refine postQ.ret1 Tryz.results61 rfl ?_
    simp_all [AV.close, B, noB]
    try (intros; omega)
  · skip
    refine AOps.pass rfl rfl rfl h3 rfl ?_
    refine AOps.pass rfl rfl rfl h3 rfl ?_
    refine AOps.call (o_pickF _ _ _ rfl h3 rfl rfl) ?_
    refine AOps.call (o_assign _ rfl rfl) ?_
    refine AOps.nil ?_
    refine AWP.ret ?_
    refine postQ.ret1 Tryz.results61 rfl ?_
    simp_all [AV.close, B, noB]
    try (intros; omega)
set_option maxRecDepth 20000 in
theorem isWater_s (n : Int) : FSpec Tryz.prog 62 [I n] (B (watB n)) (none) := by
  refine FSpec.of_body Tryz.func62 rfl (leB rfl) fun w0 M0 => ?_
  refine AWP.seq ?_
  refine AWP.region ?_
  refine AOps.call (o_assign _ rfl rfl) ?_
  refine AOps.nil ?_
  refine AWP.seq ?_
  refine AWP.region ?_
  refine AOps.call (o_move _ rfl rfl) ?_
  refine AOps.call (o_bin _ _ rfl rfl (fun _ => rfl) rfl) ?_
  refine AOps.call (o_move _ rfl rfl) ?_
  refine AOps.split rfl rfl rfl (fun h3 => ?_) (fun h3 => ?_)
  · skip
    refine AOps.go rfl rfl rfl h3 (o_move _ rfl rfl) ?_
    refine AOps.go rfl rfl rfl h3 (o_bin _ _ rfl rfl (fun _ => rfl) rfl) ?_
    refine AOps.call (o_pickT _ _ _ rfl h3 rfl rfl) ?_
    refine AOps.call (o_assign _ rfl rfl) ?_
    refine AOps.nil ?_
    refine AWP.ret ?_
    refine postQ.ret1 Tryz.results62 rfl ?_
    simp_all [AV.close, B, watB]
    try (intros; omega)
  · skip
    refine AOps.pass rfl rfl rfl h3 rfl ?_
    refine AOps.pass rfl rfl rfl h3 rfl ?_
    refine AOps.call (o_pickF _ _ _ rfl h3 rfl rfl) ?_
    refine AOps.call (o_assign _ rfl rfl) ?_
    refine AOps.nil ?_
    refine AWP.ret ?_
    refine postQ.ret1 Tryz.results62 rfl ?_
    simp_all [AV.close, B, watB]
    try (intros; omega)
set_option maxRecDepth 20000 in
theorem isEmpty_s (s : Sp) : FSpec Tryz.prog 95 [.agg (eN s)] (B (decide (s.hi < s.lo))) (none) := by
  refine FSpec.of_body Tryz.func95 rfl (leB rfl) fun w0 M0 => ?_
  refine AWP.seq ?_
  refine AWP.region ?_
  refine AOps.call (o_box _ rfl rfl rfl) ?_
  refine AOps.call (o_assign _ rfl rfl) ?_
  refine AOps.nil ?_
  refine AWP.seq ?_
  refine AWP.region ?_
  refine AOps.call (o_fieldRef _ rfl fa54_0 rfl rfl) ?_
  refine AOps.call (o_loadRef _ rfl rfl Tryz.sizeOf3 Tryz.isAgg3 rfl rfl rfl) ?_
  refine AOps.call (o_fieldRef _ rfl fa54_1 rfl rfl) ?_
  refine AOps.call (o_loadRef _ rfl rfl Tryz.sizeOf3 Tryz.isAgg3 rfl rfl rfl) ?_
  refine AOps.call (o_bin _ _ rfl rfl (fun _ => rfl) rfl) ?_
  refine AOps.call (o_assign _ rfl rfl) ?_
  refine AOps.nil ?_
  refine AWP.ret ?_
  refine postQ.ret1 Tryz.results95 rfl ?_
  first
  | rfl
  | (simp_all [AV.close, B, I]; done)
set_option maxRecDepth 20000 in
theorem meet_s (a b : Sp) : FSpec Tryz.prog 96 [.agg (eN a), .agg (eN b)] (.agg (eN (a.meet b))) (none) := by
  refine FSpec.of_body Tryz.func96 rfl (leB rfl) fun w0 M0 => ?_
  refine AWP.seq ?_
  refine AWP.region ?_
  refine AOps.call (o_box _ rfl rfl rfl) ?_
  refine AOps.call (o_box _ rfl rfl rfl) ?_
  refine AOps.call (o_alloc ze54 rfl rfl) ?_
  refine AOps.nil ?_
  refine AWP.seq ?_
  refine AWP.region ?_
  refine AOps.call (o_fieldRef _ rfl fa54_0 rfl rfl) ?_
  refine AOps.call (o_loadRef _ rfl rfl Tryz.sizeOf3 Tryz.isAgg3 rfl rfl rfl) ?_
  refine AOps.call (o_fieldRef _ rfl fa54_0 rfl rfl) ?_
  refine AOps.call (o_loadRef _ rfl rfl Tryz.sizeOf3 Tryz.isAgg3 rfl rfl rfl) ?_
  refine AOps.call (o_maxZ _ _ rfl rfl rfl) ?_
  refine AOps.call (o_fieldRef _ rfl fa54_1 rfl rfl) ?_
  refine AOps.call (o_loadRef _ rfl rfl Tryz.sizeOf3 Tryz.isAgg3 rfl rfl rfl) ?_
  refine AOps.call (o_fieldRef _ rfl fa54_1 rfl rfl) ?_
  refine AOps.call (o_loadRef _ rfl rfl Tryz.sizeOf3 Tryz.isAgg3 rfl rfl rfl) ?_
  refine AOps.call (o_minZ _ _ rfl rfl rfl) ?_
  refine AOps.call (o_build bu54 rfl rfl rfl) ?_
  refine AOps.cons (o_store _ _ rfl rfl Tryz.sizeOf54 rfl rfl rfl rfl rfl) ?_
  refine AOps.nil ?_
  refine AWP.ret ?_
  exact postQ.retC Tryz.results96 rfl rfl Tryz.sizeOf54 Tryz.isAgg54 rfl rfl
set_option maxRecDepth 20000 in
theorem plus_s (a b : Sp) (h : inI64 (a.lo + b.lo) ∧ inI64 (a.hi + b.hi)) : FSpec Tryz.prog 121 [.agg (eN a), .agg (eN b)] (.agg (eN (a.plus b))) (none) := by
  refine FSpec.of_body Tryz.func121 rfl (leB rfl) fun w0 M0 => ?_
  simp only [okRange] at h
  refine AWP.seq ?_
  refine AWP.region ?_
  refine AOps.call (o_box _ rfl rfl rfl) ?_
  refine AOps.call (o_box _ rfl rfl rfl) ?_
  refine AOps.call (o_alloc ze54 rfl rfl) ?_
  refine AOps.nil ?_
  refine AWP.seq ?_
  refine AWP.region ?_
  refine AOps.call (o_fieldRef _ rfl fa54_0 rfl rfl) ?_
  refine AOps.call (o_loadRef _ rfl rfl Tryz.sizeOf3 Tryz.isAgg3 rfl rfl rfl) ?_
  refine AOps.call (o_fieldRef _ rfl fa54_0 rfl rfl) ?_
  refine AOps.call (o_loadRef _ rfl rfl Tryz.sizeOf3 Tryz.isAgg3 rfl rfl rfl) ?_
  refine AOps.call (o_add _ _ rfl rfl ⟨by (try dsimp only); omega, by (try dsimp only); omega⟩ rfl) ?_
  refine AOps.call (o_fieldRef _ rfl fa54_1 rfl rfl) ?_
  refine AOps.call (o_loadRef _ rfl rfl Tryz.sizeOf3 Tryz.isAgg3 rfl rfl rfl) ?_
  refine AOps.call (o_fieldRef _ rfl fa54_1 rfl rfl) ?_
  refine AOps.call (o_loadRef _ rfl rfl Tryz.sizeOf3 Tryz.isAgg3 rfl rfl rfl) ?_
  refine AOps.call (o_add _ _ rfl rfl ⟨by (try dsimp only); omega, by (try dsimp only); omega⟩ rfl) ?_
  refine AOps.call (o_build bu54 rfl rfl rfl) ?_
  refine AOps.cons (o_store _ _ rfl rfl Tryz.sizeOf54 rfl rfl rfl rfl rfl) ?_
  refine AOps.nil ?_
  refine AWP.ret ?_
  exact postQ.retC Tryz.results121 rfl rfl Tryz.sizeOf54 Tryz.isAgg54 rfl rfl
set_option maxRecDepth 20000 in
theorem minus_s (a b : Sp) (h : inI64 (a.lo - b.hi) ∧ inI64 (a.hi - b.lo)) : FSpec Tryz.prog 97 [.agg (eN a), .agg (eN b)] (.agg (eN (a.minus b))) (none) := by
  refine FSpec.of_body Tryz.func97 rfl (leB rfl) fun w0 M0 => ?_
  simp only [okRange] at h
  refine AWP.seq ?_
  refine AWP.region ?_
  refine AOps.call (o_box _ rfl rfl rfl) ?_
  refine AOps.call (o_box _ rfl rfl rfl) ?_
  refine AOps.call (o_alloc ze54 rfl rfl) ?_
  refine AOps.nil ?_
  refine AWP.seq ?_
  refine AWP.region ?_
  refine AOps.call (o_fieldRef _ rfl fa54_0 rfl rfl) ?_
  refine AOps.call (o_loadRef _ rfl rfl Tryz.sizeOf3 Tryz.isAgg3 rfl rfl rfl) ?_
  refine AOps.call (o_fieldRef _ rfl fa54_1 rfl rfl) ?_
  refine AOps.call (o_loadRef _ rfl rfl Tryz.sizeOf3 Tryz.isAgg3 rfl rfl rfl) ?_
  refine AOps.call (o_sub _ _ rfl rfl ⟨by (try dsimp only); omega, by (try dsimp only); omega⟩ rfl) ?_
  refine AOps.call (o_fieldRef _ rfl fa54_1 rfl rfl) ?_
  refine AOps.call (o_loadRef _ rfl rfl Tryz.sizeOf3 Tryz.isAgg3 rfl rfl rfl) ?_
  refine AOps.call (o_fieldRef _ rfl fa54_0 rfl rfl) ?_
  refine AOps.call (o_loadRef _ rfl rfl Tryz.sizeOf3 Tryz.isAgg3 rfl rfl rfl) ?_
  refine AOps.call (o_sub _ _ rfl rfl ⟨by (try dsimp only); omega, by (try dsimp only); omega⟩ rfl) ?_
  refine AOps.call (o_build bu54 rfl rfl rfl) ?_
  refine AOps.cons (o_store _ _ rfl rfl Tryz.sizeOf54 rfl rfl rfl rfl rfl) ?_
  refine AOps.nil ?_
  refine AWP.ret ?_
  exact postQ.retC Tryz.results97 rfl rfl Tryz.sizeOf54 Tryz.isAgg54 rfl rfl
set_option maxRecDepth 20000 in
theorem has_s (p : Plw) (n : Int) : FSpec Tryz.prog 56 [.agg (eP p), I n] (B (decide (0 ≤ n) && decide (n < p.log.length))) (none) := by
  refine FSpec.of_body Tryz.func56 rfl (leB rfl) fun w0 M0 => ?_
  have hl := shws_len p.log
  refine AWP.seq ?_
  refine AWP.region ?_
  refine AOps.call (o_box _ rfl rfl rfl) ?_
  refine AOps.call (o_assign _ rfl rfl) ?_
  refine AOps.nil ?_
  refine AWP.seq ?_
  refine AWP.region ?_
  refine AOps.call (o_move _ rfl rfl) ?_
  refine AOps.call (o_bin _ _ rfl rfl (fun _ => rfl) rfl) ?_
  refine AOps.call (o_move _ rfl rfl) ?_
  refine AOps.split rfl rfl rfl (fun h4 => ?_) (fun h4 => ?_)
  · skip
    refine AOps.go rfl rfl rfl h4 (o_move _ rfl rfl) ?_
    refine AOps.go rfl rfl rfl h4 (o_fieldRef _ rfl fa83_0 rfl rfl) ?_
    refine AOps.go rfl rfl rfl h4 (o_fieldRef _ rfl fa24_6 rfl rfl) ?_
    refine AOps.go rfl rfl rfl h4 (o_loadRef _ rfl rfl Tryz.sizeOf22 Tryz.isAgg22 rfl rfl rfl) ?_
    refine AOps.go rfl rfl rfl h4 (o_len _ Tryz.underlying22 rfl rfl) ?_
    refine AOps.go rfl rfl rfl h4 (o_bin _ _ rfl rfl (fun _ => rfl) rfl) ?_
    refine AOps.call (o_pickT _ _ _ rfl h4 rfl rfl) ?_
    refine AOps.call (o_assign _ rfl rfl) ?_
    refine AOps.nil ?_
    refine AWP.ret ?_
    refine postQ.ret1 Tryz.results56 rfl ?_
    simp_all [AV.close, B, I]
    try (intros; omega)
  · skip
    refine AOps.pass rfl rfl rfl h4 rfl ?_
    refine AOps.pass rfl rfl rfl h4 rfl ?_
    refine AOps.pass rfl rfl rfl h4 rfl ?_
    refine AOps.pass rfl rfl rfl h4 rfl ?_
    refine AOps.pass rfl rfl rfl h4 rfl ?_
    refine AOps.pass rfl rfl rfl h4 rfl ?_
    refine AOps.call (o_pickF _ _ _ rfl h4 rfl rfl) ?_
    refine AOps.call (o_assign _ rfl rfl) ?_
    refine AOps.nil ?_
    refine AWP.ret ?_
    refine postQ.ret1 Tryz.results56 rfl ?_
    simp_all [AV.close, B, I]
    try (intros; omega)
end Go.Proofs.YtelenedgaoglaaaGreatDoor
set_option linter.unusedSimpArgs false
set_option linter.unusedVariables false
namespace Go.Proofs.YtelenedgaoglaaaGreatDoor
open Go.Ab
open Go.Pil
def ah (l : List Shw) (i : Nat) : Int := if i = 0 then -1 else (l.getD (i - 1) ⟨0, 0⟩).day
theorem ah_succ {l : List Shw} {k : Nat} (h : k < l.length) : ah l (k + 1) = l[k].day := by
  unfold ah; rw [if_neg (by omega), Nat.add_sub_cancel, List.getD_eq_getElem?_getD, List.getElem?_eq_getElem h]; rfl
def entB (a : Int) (s : Shw) : Bool := decide (a < s.day) && decide (s.day ≤ 1048576) && watB s.weight
theorem logB_step {l : List Shw} {k : Nat} (h : k < l.length) : logB (ah l k) (l.drop k) = (entB (ah l k) l[k] && logB (ah l (k + 1)) (l.drop (k + 1))) := by
  rw [List.drop_eq_getElem_cons h, ah_succ h]; simp only [logB, entB]
def headB (p : Plw) : Bool := noB p.no && noB p.cell && decide (0 ≤ p.faults) && decide (p.faults ≤ 32) && decide (p.log.length ≤ 32)
def restB (p : Plw) : Bool := watB p.noise && watB p.slab && watB p.jump
theorem logE_eq (p : Plw) : logE p = if headB p = true ∧ restB p = true ∧ logB (-1) p.log = true then 0 else 30 := by
  unfold logE okP headB restB
  simp only [Bool.and_eq_true]
  congr 1
  simp only [eq_iff_iff]
  exact ⟨fun ⟨⟨⟨⟨h1, h2⟩, h3⟩, h4⟩, h5⟩ => ⟨h1, ⟨⟨h2, h3⟩, h4⟩, h5⟩, fun ⟨h1, ⟨⟨h2, h3⟩, h4⟩, h5⟩ => ⟨⟨⟨⟨h1, h2⟩, h3⟩, h4⟩, h5⟩⟩
set_option maxRecDepth 20000 in
theorem Check_s (p : Plw) : FSpec Tryz.prog 17 [.agg (eP p)] (I (logE p)) (none) := by
  refine FSpec.of_body Tryz.func17 rfl (leB rfl) fun w0 M0 => ?_
  have hpl := shws_len p.log
  refine AWP.seq ?_
  refine AWP.region ?_
  refine AOps.call (o_box _ rfl rfl rfl) ?_
  refine AOps.call (o_assign _ rfl rfl) ?_
  refine AOps.nil ?_
  refine AWP.seq ?_
  refine AWP.seq ?_
  refine AWP.region ?_
  refine AOps.call (o_fieldRef _ rfl fa24_0 rfl rfl) ?_
  refine AOps.call (o_loadRef _ rfl rfl Tryz.sizeOf3 Tryz.isAgg3 rfl rfl rfl) ?_
  refine AOps.call (o_call (isNo_s _) Tryz.call61 rfl rfl) ?_
  refine AOps.call (o_un _ rfl (fun _ => rfl) rfl) ?_
  refine AOps.call (o_move _ rfl rfl) ?_
  refine AOps.split rfl rfl rfl (fun h7 => ?_) (fun h7 => ?_)
  · skip
    refine AOps.go rfl rfl rfl h7 (o_fieldRef _ rfl fa24_1 rfl rfl) ?_
    refine AOps.go rfl rfl rfl h7 (o_loadRef _ rfl rfl Tryz.sizeOf3 Tryz.isAgg3 rfl rfl rfl) ?_
    refine AOps.go rfl rfl rfl h7 (o_call (isNo_s _) Tryz.call61 rfl rfl) ?_
    refine AOps.go rfl rfl rfl h7 (o_un _ rfl (fun _ => rfl) rfl) ?_
    refine AOps.call (o_pickF _ _ _ rfl h7 rfl rfl) ?_
    refine AOps.call (o_move _ rfl rfl) ?_
    refine AOps.split rfl rfl rfl (fun h12 => ?_) (fun h12 => ?_)
    · skip
      refine AOps.go rfl rfl rfl h12 (o_fieldRef _ rfl fa24_5 rfl rfl) ?_
      refine AOps.go rfl rfl rfl h12 (o_loadRef _ rfl rfl Tryz.sizeOf3 Tryz.isAgg3 rfl rfl rfl) ?_
      refine AOps.go rfl rfl rfl h12 (o_bin _ _ rfl rfl (fun _ => rfl) rfl) ?_
      refine AOps.call (o_pickF _ _ _ rfl h12 rfl rfl) ?_
      refine AOps.call (o_move _ rfl rfl) ?_
      refine AOps.split rfl rfl rfl (fun h16 => ?_) (fun h16 => ?_)
      · skip
        refine AOps.go rfl rfl rfl h16 (o_fieldRef _ rfl fa24_5 rfl rfl) ?_
        refine AOps.go rfl rfl rfl h16 (o_loadRef _ rfl rfl Tryz.sizeOf3 Tryz.isAgg3 rfl rfl rfl) ?_
        refine AOps.go rfl rfl rfl h16 (o_bin _ _ rfl rfl (fun _ => rfl) rfl) ?_
        refine AOps.call (o_pickF _ _ _ rfl h16 rfl rfl) ?_
        refine AOps.call (o_move _ rfl rfl) ?_
        refine AOps.split rfl rfl rfl (fun h20 => ?_) (fun h20 => ?_)
        · skip
          refine AOps.go rfl rfl rfl h20 (o_fieldRef _ rfl fa24_6 rfl rfl) ?_
          refine AOps.go rfl rfl rfl h20 (o_loadRef _ rfl rfl Tryz.sizeOf22 Tryz.isAgg22 rfl rfl rfl) ?_
          refine AOps.go rfl rfl rfl h20 (o_len _ Tryz.underlying22 rfl rfl) ?_
          refine AOps.go rfl rfl rfl h20 (o_bin _ _ rfl rfl (fun _ => rfl) rfl) ?_
          refine AOps.call (o_pickF _ _ _ rfl h20 rfl rfl) ?_
          refine AOps.nil ?_
          refine AWP.cond _ rfl (fun h25 => ?_) (fun h25 => ?_)
          · skip
            have hh : headB p = false := by
              cases hc : headB p with
              | false => rfl
              | true =>
                simp only [headB, Bool.and_eq_true, decide_eq_true_eq] at hc
                simp_all [AV.close, B, I]
                try omega
            refine AWP.seq ?_
            refine AWP.region ?_
            refine AOps.call (o_assign _ rfl rfl) ?_
            refine AOps.nil ?_
            refine AWP.ret ?_
            refine postQ.ret1 Tryz.results17 rfl ?_
            rw [logE_eq]
            simp_all [I, AV.close]
          · skip
            have hh : headB p = true := by
              simp only [headB, Bool.and_eq_true, decide_eq_true_eq]
              simp_all [AV.close, B, I]
              try omega
            have h32 : p.log.length ≤ 32 := by
              have hh2 := hh
              simp only [headB, Bool.and_eq_true, decide_eq_true_eq] at hh2
              exact hh2.2
            refine AWP.skip ?_
            refine AWP.seq ?_
            refine AWP.seq ?_
            refine AWP.region ?_
            refine AOps.call (o_fieldRef _ rfl fa24_2 rfl rfl) ?_
            refine AOps.call (o_loadRef _ rfl rfl Tryz.sizeOf3 Tryz.isAgg3 rfl rfl rfl) ?_
            refine AOps.call (o_call (isWater_s _) Tryz.call62 rfl rfl) ?_
            refine AOps.call (o_un _ rfl (fun _ => rfl) rfl) ?_
            refine AOps.call (o_move _ rfl rfl) ?_
            refine AOps.split rfl rfl rfl (fun h31 => ?_) (fun h31 => ?_)
            · skip
              refine AOps.go rfl rfl rfl h31 (o_fieldRef _ rfl fa24_3 rfl rfl) ?_
              refine AOps.go rfl rfl rfl h31 (o_loadRef _ rfl rfl Tryz.sizeOf3 Tryz.isAgg3 rfl rfl rfl) ?_
              refine AOps.go rfl rfl rfl h31 (o_call (isWater_s _) Tryz.call62 rfl rfl) ?_
              refine AOps.go rfl rfl rfl h31 (o_un _ rfl (fun _ => rfl) rfl) ?_
              refine AOps.call (o_pickF _ _ _ rfl h31 rfl rfl) ?_
              refine AOps.call (o_move _ rfl rfl) ?_
              refine AOps.split rfl rfl rfl (fun h36 => ?_) (fun h36 => ?_)
              · skip
                refine AOps.go rfl rfl rfl h36 (o_fieldRef _ rfl fa24_4 rfl rfl) ?_
                refine AOps.go rfl rfl rfl h36 (o_loadRef _ rfl rfl Tryz.sizeOf3 Tryz.isAgg3 rfl rfl rfl) ?_
                refine AOps.go rfl rfl rfl h36 (o_call (isWater_s _) Tryz.call62 rfl rfl) ?_
                refine AOps.go rfl rfl rfl h36 (o_un _ rfl (fun _ => rfl) rfl) ?_
                refine AOps.call (o_pickF _ _ _ rfl h36 rfl rfl) ?_
                refine AOps.nil ?_
                refine AWP.cond _ rfl (fun h41 => ?_) (fun h41 => ?_)
                · skip
                  have hr : restB p = false := by
                    cases hc : restB p with
                    | false => rfl
                    | true =>
                      simp only [restB, Bool.and_eq_true] at hc
                      simp_all [AV.close, B, I]
                  refine AWP.seq ?_
                  refine AWP.region ?_
                  refine AOps.call (o_assign _ rfl rfl) ?_
                  refine AOps.nil ?_
                  refine AWP.ret ?_
                  refine postQ.ret1 Tryz.results17 rfl ?_
                  rw [logE_eq]
                  simp_all [I, AV.close]
                · skip
                  have hr : restB p = true := by
                    simp only [restB, Bool.and_eq_true]
                    simp_all [AV.close, B, I]
                  refine AWP.skip ?_
                  refine AWP.seq ?_
                  refine AWP.region ?_
                  refine AOps.call (o_assign _ rfl rfl) ?_
                  refine AOps.nil ?_
                  refine AWP.seq ?_
                  refine AWP.seq ?_
                  refine AWP.region ?_
                  refine AOps.call (o_fieldRef _ rfl fa24_6 rfl rfl) ?_
                  refine AOps.call (o_loadRef _ rfl rfl Tryz.sizeOf22 Tryz.isAgg22 rfl rfl rfl) ?_
                  refine AOps.call (o_len _ Tryz.underlying22 rfl rfl) ?_
                  refine AOps.call (o_move _ rfl rfl) ?_
                  refine AOps.nil ?_
                  refine AWP.block ?_
                  refine AWP.loop (ι := Nat) (fun i => AS.mk' 73 [(1, .ref (1, 0) 0), (3, I (ah p.log i)), (49, .sl (shws p.log)), (50, I (shws p.log).length), (51, I i)] [((1, 0), eP p)] [] [(1, 1)]) (fun i => i ≤ p.log.length ∧ logB (-1) p.log = logB (ah p.log i) (p.log.drop i)) (fun i => p.log.length - i) (0) (Weak.mk' rfl ⟨⟨.refl rfl, rfl⟩, ⟨⟨.refl rfl, rfl⟩, ⟨⟨.refl rfl, rfl⟩, ⟨⟨.refl rfl, rfl⟩, ⟨⟨.refl rfl, rfl⟩, trivial⟩⟩⟩⟩⟩ ⟨⟨rfl, rfl, rfl⟩, trivial⟩ trivial) (⟨Nat.zero_le _, rfl⟩) ?_
                  rintro k ⟨hk, hv⟩
                  try dsimp only at *
                  refine AWP.seq ?_
                  refine AWP.region ?_
                  refine AOps.call (o_bin _ _ rfl rfl (fun _ => rfl) rfl) ?_
                  refine AOps.nil ?_
                  refine AWP.seq ?_
                  refine AWP.cond _ rfl (fun h49 => ?_) (fun h49 => ?_)
                  · skip
                    have hlt : k < p.log.length := by simpa [shws] using h49
                    have hel := shws_at hlt
                    refine AWP.skip ?_
                    refine AWP.seq ?_
                    refine AWP.block ?_
                    refine AWP.seq ?_
                    refine AWP.region ?_
                    refine AOps.call (o_index _ _ Tryz.underlying22 Tryz.sizeOf27 rfl rfl (by omega) (by assumption) rfl rfl) ?_
                    refine AOps.call (o_loadRd _ rfl Tryz.sizeOf27 Tryz.isAgg27 rfl rfl rfl) ?_
                    refine AOps.call (o_alloc ze27 rfl rfl) ?_
                    refine AOps.cons (o_store _ _ rfl rfl Tryz.sizeOf27 rfl rfl rfl rfl rfl) ?_
                    refine AOps.nil ?_
                    refine AWP.seq ?_
                    refine AWP.seq ?_
                    refine AWP.region ?_
                    refine AOps.call (o_fieldRef _ rfl fa27_0 rfl rfl) ?_
                    refine AOps.call (o_loadRef _ rfl rfl Tryz.sizeOf3 Tryz.isAgg3 rfl rfl rfl) ?_
                    refine AOps.call (o_move _ rfl rfl) ?_
                    refine AOps.call (o_bin _ _ rfl rfl (fun _ => rfl) rfl) ?_
                    refine AOps.call (o_move _ rfl rfl) ?_
                    refine AOps.split rfl rfl rfl (fun h57 => ?_) (fun h57 => ?_)
                    · skip
                      refine AOps.go rfl rfl rfl h57 (o_fieldRef _ rfl fa27_0 rfl rfl) ?_
                      refine AOps.go rfl rfl rfl h57 (o_loadRef _ rfl rfl Tryz.sizeOf3 Tryz.isAgg3 rfl rfl rfl) ?_
                      refine AOps.go rfl rfl rfl h57 (o_bin _ _ rfl rfl (fun _ => rfl) rfl) ?_
                      refine AOps.call (o_pickF _ _ _ rfl h57 rfl rfl) ?_
                      refine AOps.call (o_move _ rfl rfl) ?_
                      refine AOps.split rfl rfl rfl (fun h61 => ?_) (fun h61 => ?_)
                      · skip
                        refine AOps.go rfl rfl rfl h61 (o_fieldRef _ rfl fa27_1 rfl rfl) ?_
                        refine AOps.go rfl rfl rfl h61 (o_loadRef _ rfl rfl Tryz.sizeOf3 Tryz.isAgg3 rfl rfl rfl) ?_
                        refine AOps.go rfl rfl rfl h61 (o_call (isWater_s _) Tryz.call62 rfl rfl) ?_
                        refine AOps.go rfl rfl rfl h61 (o_un _ rfl (fun _ => rfl) rfl) ?_
                        refine AOps.call (o_pickF _ _ _ rfl h61 rfl rfl) ?_
                        refine AOps.nil ?_
                        refine AWP.cond _ rfl (fun h66 => ?_) (fun h66 => ?_)
                        · skip
                          have hbk : entB (ah p.log k) p.log[k] = false := by
                            cases hc : entB (ah p.log k) p.log[k] with
                            | false => rfl
                            | true =>
                              simp only [entB, Bool.and_eq_true, decide_eq_true_eq] at hc
                              simp_all [AV.close, B, I]
                              try omega
                          have hlg : logB (-1) p.log = false := by rw [hv, logB_step hlt, hbk, Bool.false_and]
                          refine AWP.seq ?_
                          refine AWP.region ?_
                          refine AOps.call (o_assign _ rfl rfl) ?_
                          refine AOps.nil ?_
                          refine AWP.ret ?_
                          refine postQ.ret1 Tryz.results17 rfl ?_
                          rw [logE_eq]
                          simp_all [I, AV.close]
                        · skip
                          have hbk : entB (ah p.log k) p.log[k] = true := by
                            simp only [entB, Bool.and_eq_true, decide_eq_true_eq]
                            simp_all [AV.close, B, I]
                            try omega
                          refine AWP.skip ?_
                          refine AWP.region ?_
                          refine AOps.call (o_fieldRef _ rfl fa27_0 rfl rfl) ?_
                          refine AOps.call (o_loadRef _ rfl rfl Tryz.sizeOf3 Tryz.isAgg3 rfl rfl rfl) ?_
                          refine AOps.call (o_assign _ rfl rfl) ?_
                          refine AOps.nil ?_
                          refine AWP.region ?_
                          refine AOps.call (o_add _ _ rfl rfl ⟨by (try dsimp only); omega, by (try dsimp only); omega⟩ rfl) ?_
                          refine AOps.call (o_move _ rfl rfl) ?_
                          refine AOps.nil ?_
                          refine ⟨k + 1, ?_, (Weak.mk' rfl ⟨⟨.refl rfl, rfl⟩, ⟨⟨.refl (by rw [ah_succ hlt]; rfl), rfl⟩, ⟨⟨.refl rfl, rfl⟩, ⟨⟨.refl rfl, rfl⟩, ⟨⟨.refl rfl, rfl⟩, trivial⟩⟩⟩⟩⟩ ⟨⟨rfl, rfl, rfl⟩, trivial⟩ trivial)⟩
                          exact ⟨⟨by omega, by rw [hv, logB_step hlt, hbk, Bool.true_and]⟩, by omega⟩
                      · skip
                        refine AOps.pass rfl rfl rfl h61 rfl ?_
                        refine AOps.pass rfl rfl rfl h61 rfl ?_
                        refine AOps.pass rfl rfl rfl h61 rfl ?_
                        refine AOps.pass rfl rfl rfl h61 rfl ?_
                        refine AOps.call (o_pickT _ _ _ rfl h61 rfl rfl) ?_
                        refine AOps.nil ?_
                        refine AWP.condT rfl ?_
                        have hbk : entB (ah p.log k) p.log[k] = false := by
                          cases hc : entB (ah p.log k) p.log[k] with
                          | false => rfl
                          | true =>
                            simp only [entB, Bool.and_eq_true, decide_eq_true_eq] at hc
                            simp_all [AV.close, B, I]
                            try omega
                        have hlg : logB (-1) p.log = false := by rw [hv, logB_step hlt, hbk, Bool.false_and]
                        refine AWP.seq ?_
                        refine AWP.region ?_
                        refine AOps.call (o_assign _ rfl rfl) ?_
                        refine AOps.nil ?_
                        refine AWP.ret ?_
                        refine postQ.ret1 Tryz.results17 rfl ?_
                        rw [logE_eq]
                        simp_all [I, AV.close]
                    · skip
                      refine AOps.pass rfl rfl rfl h57 rfl ?_
                      refine AOps.pass rfl rfl rfl h57 rfl ?_
                      refine AOps.pass rfl rfl rfl h57 rfl ?_
                      refine AOps.call (o_pickT _ _ _ rfl h57 rfl rfl) ?_
                      refine AOps.call (o_move _ rfl rfl) ?_
                      refine AOps.pass rfl rfl rfl rfl rfl ?_
                      refine AOps.pass rfl rfl rfl rfl rfl ?_
                      refine AOps.pass rfl rfl rfl rfl rfl ?_
                      refine AOps.pass rfl rfl rfl rfl rfl ?_
                      refine AOps.call (o_pickT _ _ _ rfl rfl rfl rfl) ?_
                      refine AOps.nil ?_
                      refine AWP.condT rfl ?_
                      have hbk : entB (ah p.log k) p.log[k] = false := by
                        cases hc : entB (ah p.log k) p.log[k] with
                        | false => rfl
                        | true =>
                          simp only [entB, Bool.and_eq_true, decide_eq_true_eq] at hc
                          simp_all [AV.close, B, I]
                          try omega
                      have hlg : logB (-1) p.log = false := by rw [hv, logB_step hlt, hbk, Bool.false_and]
                      refine AWP.seq ?_
                      refine AWP.region ?_
                      refine AOps.call (o_assign _ rfl rfl) ?_
                      refine AOps.nil ?_
                      refine AWP.ret ?_
                      refine postQ.ret1 Tryz.results17 rfl ?_
                      rw [logE_eq]
                      simp_all [I, AV.close]
                  · skip
                    have hlg : logB (-1) p.log = true := by
                      rw [hv, List.drop_eq_nil_of_le (by simp [shws] at h49; omega)]; rfl
                    refine AWP.exit ?_
                    refine AWP.seq ?_
                    refine AWP.region ?_
                    refine AOps.call (o_assign _ rfl rfl) ?_
                    refine AOps.nil ?_
                    refine AWP.ret ?_
                    refine postQ.ret1 Tryz.results17 rfl ?_
                    rw [logE_eq]
                    simp_all [I, AV.close]
              · skip
                refine AOps.pass rfl rfl rfl h36 rfl ?_
                refine AOps.pass rfl rfl rfl h36 rfl ?_
                refine AOps.pass rfl rfl rfl h36 rfl ?_
                refine AOps.pass rfl rfl rfl h36 rfl ?_
                refine AOps.call (o_pickT _ _ _ rfl h36 rfl rfl) ?_
                refine AOps.nil ?_
                refine AWP.condT rfl ?_
                have hr : restB p = false := by
                  cases hc : restB p with
                  | false => rfl
                  | true =>
                    simp only [restB, Bool.and_eq_true] at hc
                    simp_all [AV.close, B, I]
                refine AWP.seq ?_
                refine AWP.region ?_
                refine AOps.call (o_assign _ rfl rfl) ?_
                refine AOps.nil ?_
                refine AWP.ret ?_
                refine postQ.ret1 Tryz.results17 rfl ?_
                rw [logE_eq]
                simp_all [I, AV.close]
            · skip
              refine AOps.pass rfl rfl rfl h31 rfl ?_
              refine AOps.pass rfl rfl rfl h31 rfl ?_
              refine AOps.pass rfl rfl rfl h31 rfl ?_
              refine AOps.pass rfl rfl rfl h31 rfl ?_
              refine AOps.call (o_pickT _ _ _ rfl h31 rfl rfl) ?_
              refine AOps.call (o_move _ rfl rfl) ?_
              refine AOps.pass rfl rfl rfl rfl rfl ?_
              refine AOps.pass rfl rfl rfl rfl rfl ?_
              refine AOps.pass rfl rfl rfl rfl rfl ?_
              refine AOps.pass rfl rfl rfl rfl rfl ?_
              refine AOps.call (o_pickT _ _ _ rfl rfl rfl rfl) ?_
              refine AOps.nil ?_
              refine AWP.condT rfl ?_
              have hr : restB p = false := by
                cases hc : restB p with
                | false => rfl
                | true =>
                  simp only [restB, Bool.and_eq_true] at hc
                  simp_all [AV.close, B, I]
              refine AWP.seq ?_
              refine AWP.region ?_
              refine AOps.call (o_assign _ rfl rfl) ?_
              refine AOps.nil ?_
              refine AWP.ret ?_
              refine postQ.ret1 Tryz.results17 rfl ?_
              rw [logE_eq]
              simp_all [I, AV.close]
        · skip
          refine AOps.pass rfl rfl rfl h20 rfl ?_
          refine AOps.pass rfl rfl rfl h20 rfl ?_
          refine AOps.pass rfl rfl rfl h20 rfl ?_
          refine AOps.pass rfl rfl rfl h20 rfl ?_
          refine AOps.call (o_pickT _ _ _ rfl h20 rfl rfl) ?_
          refine AOps.nil ?_
          refine AWP.condT rfl ?_
          have hh : headB p = false := by
            cases hc : headB p with
            | false => rfl
            | true =>
              simp only [headB, Bool.and_eq_true, decide_eq_true_eq] at hc
              simp_all [AV.close, B, I]
              try omega
          refine AWP.seq ?_
          refine AWP.region ?_
          refine AOps.call (o_assign _ rfl rfl) ?_
          refine AOps.nil ?_
          refine AWP.ret ?_
          refine postQ.ret1 Tryz.results17 rfl ?_
          rw [logE_eq]
          simp_all [I, AV.close]
      · skip
        refine AOps.pass rfl rfl rfl h16 rfl ?_
        refine AOps.pass rfl rfl rfl h16 rfl ?_
        refine AOps.pass rfl rfl rfl h16 rfl ?_
        refine AOps.call (o_pickT _ _ _ rfl h16 rfl rfl) ?_
        refine AOps.call (o_move _ rfl rfl) ?_
        refine AOps.pass rfl rfl rfl rfl rfl ?_
        refine AOps.pass rfl rfl rfl rfl rfl ?_
        refine AOps.pass rfl rfl rfl rfl rfl ?_
        refine AOps.pass rfl rfl rfl rfl rfl ?_
        refine AOps.call (o_pickT _ _ _ rfl rfl rfl rfl) ?_
        refine AOps.nil ?_
        refine AWP.condT rfl ?_
        have hh : headB p = false := by
          cases hc : headB p with
          | false => rfl
          | true =>
            simp only [headB, Bool.and_eq_true, decide_eq_true_eq] at hc
            simp_all [AV.close, B, I]
            try omega
        refine AWP.seq ?_
        refine AWP.region ?_
        refine AOps.call (o_assign _ rfl rfl) ?_
        refine AOps.nil ?_
        refine AWP.ret ?_
        refine postQ.ret1 Tryz.results17 rfl ?_
        rw [logE_eq]
        simp_all [I, AV.close]
    · skip
      refine AOps.pass rfl rfl rfl h12 rfl ?_
      refine AOps.pass rfl rfl rfl h12 rfl ?_
      refine AOps.pass rfl rfl rfl h12 rfl ?_
      refine AOps.call (o_pickT _ _ _ rfl h12 rfl rfl) ?_
      refine AOps.call (o_move _ rfl rfl) ?_
      refine AOps.pass rfl rfl rfl rfl rfl ?_
      refine AOps.pass rfl rfl rfl rfl rfl ?_
      refine AOps.pass rfl rfl rfl rfl rfl ?_
      refine AOps.call (o_pickT _ _ _ rfl rfl rfl rfl) ?_
      refine AOps.call (o_move _ rfl rfl) ?_
      refine AOps.pass rfl rfl rfl rfl rfl ?_
      refine AOps.pass rfl rfl rfl rfl rfl ?_
      refine AOps.pass rfl rfl rfl rfl rfl ?_
      refine AOps.pass rfl rfl rfl rfl rfl ?_
      refine AOps.call (o_pickT _ _ _ rfl rfl rfl rfl) ?_
      refine AOps.nil ?_
      refine AWP.condT rfl ?_
      have hh : headB p = false := by
        cases hc : headB p with
        | false => rfl
        | true =>
          simp only [headB, Bool.and_eq_true, decide_eq_true_eq] at hc
          simp_all [AV.close, B, I]
          try omega
      refine AWP.seq ?_
      refine AWP.region ?_
      refine AOps.call (o_assign _ rfl rfl) ?_
      refine AOps.nil ?_
      refine AWP.ret ?_
      refine postQ.ret1 Tryz.results17 rfl ?_
      rw [logE_eq]
      simp_all [I, AV.close]
  · skip
    refine AOps.pass rfl rfl rfl h7 rfl ?_
    refine AOps.pass rfl rfl rfl h7 rfl ?_
    refine AOps.pass rfl rfl rfl h7 rfl ?_
    refine AOps.pass rfl rfl rfl h7 rfl ?_
    refine AOps.call (o_pickT _ _ _ rfl h7 rfl rfl) ?_
    refine AOps.call (o_move _ rfl rfl) ?_
    refine AOps.pass rfl rfl rfl rfl rfl ?_
    refine AOps.pass rfl rfl rfl rfl rfl ?_
    refine AOps.pass rfl rfl rfl rfl rfl ?_
    refine AOps.call (o_pickT _ _ _ rfl rfl rfl rfl) ?_
    refine AOps.call (o_move _ rfl rfl) ?_
    refine AOps.pass rfl rfl rfl rfl rfl ?_
    refine AOps.pass rfl rfl rfl rfl rfl ?_
    refine AOps.pass rfl rfl rfl rfl rfl ?_
    refine AOps.call (o_pickT _ _ _ rfl rfl rfl rfl) ?_
    refine AOps.call (o_move _ rfl rfl) ?_
    refine AOps.pass rfl rfl rfl rfl rfl ?_
    refine AOps.pass rfl rfl rfl rfl rfl ?_
    refine AOps.pass rfl rfl rfl rfl rfl ?_
    refine AOps.pass rfl rfl rfl rfl rfl ?_
    refine AOps.call (o_pickT _ _ _ rfl rfl rfl rfl) ?_
    refine AOps.nil ?_
    refine AWP.condT rfl ?_
    have hh : headB p = false := by
      cases hc : headB p with
      | false => rfl
      | true =>
        simp only [headB, Bool.and_eq_true, decide_eq_true_eq] at hc
        simp_all [AV.close, B, I]
        try omega
    refine AWP.seq ?_
    refine AWP.region ?_
    refine AOps.call (o_assign _ rfl rfl) ?_
    refine AOps.nil ?_
    refine AWP.ret ?_
    refine postQ.ret1 Tryz.results17 rfl ?_
    rw [logE_eq]
    simp_all [I, AV.close]
end Go.Proofs.YtelenedgaoglaaaGreatDoor
set_option linter.unusedSimpArgs false
set_option linter.unusedVariables false
namespace Go.Proofs.YtelenedgaoglaaaGreatDoor
open Go.Ab
open Go.Pil
theorem at_eq {p : Plw} {i : Nat} (h : i < p.log.length) : p.at i = p.log[i].weight := by
  unfold Plw.at; rw [List.getD_eq_getElem?_getD, List.getElem?_eq_getElem h]; rfl
theorem shws_at1' {l : List Shw} {k : Nat} (h : k + 1 < l.length) : (shws l)[(((k : Nat) : Int) + 1).toNat]? = some (eW l[k + 1]) := by
  have e : (((k : Nat) : Int) + 1).toNat = k + 1 := by omega
  rw [e]; simp [shws, h]
set_option maxRecDepth 20000 in
theorem isLast_s (p : Plw) (n : Int) (h32 : p.log.length ≤ 32) : FSpec Tryz.prog 57 [.agg (eP p), I n] (B (decide (n = (p.log.length : Int) - 1))) (none) := by
  refine FSpec.of_body Tryz.func57 rfl (leB rfl) fun w0 M0 => ?_
  have hl := shws_len p.log
  refine AWP.seq ?_
  refine AWP.region ?_
  refine AOps.call (o_box _ rfl rfl rfl) ?_
  refine AOps.call (o_assign _ rfl rfl) ?_
  refine AOps.nil ?_
  refine AWP.seq ?_
  refine AWP.region ?_
  refine AOps.call (o_move _ rfl rfl) ?_
  refine AOps.call (o_fieldRef _ rfl fa83_0 rfl rfl) ?_
  refine AOps.call (o_fieldRef _ rfl fa24_6 rfl rfl) ?_
  refine AOps.call (o_loadRef _ rfl rfl Tryz.sizeOf22 Tryz.isAgg22 rfl rfl rfl) ?_
  refine AOps.call (o_len _ Tryz.underlying22 rfl rfl) ?_
  refine AOps.call (o_sub _ _ rfl rfl ⟨by (try dsimp only); omega, by (try dsimp only); omega⟩ rfl) ?_
  refine AOps.call (o_bin _ _ rfl rfl (fun _ => rfl) rfl) ?_
  refine AOps.call (o_assign _ rfl rfl) ?_
  refine AOps.nil ?_
  refine AWP.ret ?_
  refine postQ.ret1 Tryz.results57 rfl ?_
  simp_all [AV.close, B, I]
  rw [Bool.eq_iff_iff]
  simp
set_option maxRecDepth 20000 in
theorem shift_s (p : Plw) (hp : OkP p) (i : Nat) (h : i + 1 < p.log.length) : FSpec Tryz.prog 58 [.agg (eP p), I i] (B (p.shift i)) (none) := by
  refine FSpec.of_body Tryz.func58 rfl (leB rfl) fun w0 M0 => ?_
  have hl := shws_len p.log
  have h32 := hp.len
  have hj := hp.jump
  have hb0 := hp.at i
  have hb1 := hp.at (i + 1)
  rw [at_eq (by omega)] at hb0
  rw [at_eq h] at hb1
  have hel := shws_at (l := p.log) (k := i) (by omega)
  have hel1 := shws_at1' h
  refine AWP.seq ?_
  refine AWP.region ?_
  refine AOps.call (o_box _ rfl rfl rfl) ?_
  refine AOps.call (o_assign _ rfl rfl) ?_
  refine AOps.nil ?_
  refine AWP.seq ?_
  refine AWP.drawn 17 mixed (by kernel_rfl) ?_
  refine AHead.call (o_fieldRef _ rfl fa83_0 rfl rfl) rfl ?_
  refine AHead.call (o_fieldRef _ rfl fa24_6 rfl rfl) rfl ?_
  refine AHead.call (o_loadRef _ rfl rfl Tryz.sizeOf22 Tryz.isAgg22 rfl rfl rfl) rfl ?_
  refine AHead.call (o_move _ rfl rfl) rfl ?_
  refine AHead.call (o_add _ _ rfl rfl ⟨by (try dsimp only); omega, by (try dsimp only); omega⟩ rfl) rfl ?_
  refine AHead.call (o_index _ _ Tryz.underlying22 Tryz.sizeOf27 rfl rfl (by omega) (by assumption) rfl rfl) rfl ?_
  refine AHead.call (o_fieldRd _ rfl fa27_1 rfl) rfl ?_
  refine AHead.call (o_loadRd _ rfl Tryz.sizeOf3 Tryz.isAgg3 rfl rfl rfl) rfl ?_
  refine AHead.call (o_fieldRef _ rfl fa83_0 rfl rfl) rfl ?_
  refine AHead.call (o_fieldRef _ rfl fa24_6 rfl rfl) rfl ?_
  refine AHead.call (o_loadRef _ rfl rfl Tryz.sizeOf22 Tryz.isAgg22 rfl rfl rfl) rfl ?_
  refine AHead.call (o_move _ rfl rfl) rfl ?_
  refine AHead.call (o_index _ _ Tryz.underlying22 Tryz.sizeOf27 rfl rfl (by omega) (by assumption) rfl rfl) rfl ?_
  refine AHead.call (o_fieldRd _ rfl fa27_1 rfl) rfl ?_
  refine AHead.call (o_loadRd _ rfl Tryz.sizeOf3 Tryz.isAgg3 rfl rfl rfl) rfl ?_
  refine AHead.call (o_sub _ _ rfl rfl ⟨by (try dsimp only); omega, by (try dsimp only); omega⟩ rfl) rfl ?_
  refine AHead.call (o_assign _ rfl rfl) rfl ?_
  refine AHead.nil ?_
  refine AOps.nil ?_
  refine AWP.seq ?_
  refine AWP.region ?_
  refine AOps.call (o_move _ rfl rfl) ?_
  refine AOps.call (o_bin _ _ rfl rfl (fun _ => rfl) rfl) ?_
  refine AOps.call (o_move _ rfl rfl) ?_
  refine AOps.split rfl rfl rfl (fun h19 => ?_) (fun h19 => ?_)
  · skip
    refine AOps.go rfl rfl rfl h19 (o_move _ rfl rfl) ?_
    refine AOps.go rfl rfl rfl h19 (o_fieldRef _ rfl fa83_0 rfl rfl) ?_
    refine AOps.go rfl rfl rfl h19 (o_fieldRef _ rfl fa24_4 rfl rfl) ?_
    refine AOps.go rfl rfl rfl h19 (o_loadRef _ rfl rfl Tryz.sizeOf3 Tryz.isAgg3 rfl rfl rfl) ?_
    refine AOps.go rfl rfl rfl h19 (o_bin _ _ rfl rfl (fun _ => rfl) rfl) ?_
    refine AOps.call (o_pickF _ _ _ rfl h19 rfl rfl) ?_
    refine AOps.call (o_move _ rfl rfl) ?_
    refine AOps.split rfl rfl rfl (fun h24 => ?_) (fun h24 => ?_)
    · skip
      refine AOps.go rfl rfl rfl h24 (o_move _ rfl rfl) ?_
      refine AOps.go rfl rfl rfl h24 (o_neg _ rfl ⟨by (try dsimp only); omega, by (try dsimp only); omega⟩ rfl) ?_
      refine AOps.go rfl rfl rfl h24 (o_fieldRef _ rfl fa83_0 rfl rfl) ?_
      refine AOps.go rfl rfl rfl h24 (o_fieldRef _ rfl fa24_4 rfl rfl) ?_
      refine AOps.go rfl rfl rfl h24 (o_loadRef _ rfl rfl Tryz.sizeOf3 Tryz.isAgg3 rfl rfl rfl) ?_
      refine AOps.go rfl rfl rfl h24 (o_bin _ _ rfl rfl (fun _ => rfl) rfl) ?_
      refine AOps.call (o_pickF _ _ _ rfl h24 rfl rfl) ?_
      refine AOps.call (o_assign _ rfl rfl) ?_
      refine AOps.nil ?_
      refine AWP.ret ?_
      refine postQ.ret1 Tryz.results58 rfl ?_
      unfold Plw.shift
      rw [at_eq h, at_eq (by omega : i < p.log.length)]
      simp_all [AV.close, B, I]
      try (intros; omega)
    · skip
      refine AOps.pass rfl rfl rfl h24 rfl ?_
      refine AOps.pass rfl rfl rfl h24 rfl ?_
      refine AOps.pass rfl rfl rfl h24 rfl ?_
      refine AOps.pass rfl rfl rfl h24 rfl ?_
      refine AOps.pass rfl rfl rfl h24 rfl ?_
      refine AOps.pass rfl rfl rfl h24 rfl ?_
      refine AOps.call (o_pickT _ _ _ rfl h24 rfl rfl) ?_
      refine AOps.call (o_assign _ rfl rfl) ?_
      refine AOps.nil ?_
      refine AWP.ret ?_
      refine postQ.ret1 Tryz.results58 rfl ?_
      unfold Plw.shift
      rw [at_eq h, at_eq (by omega : i < p.log.length)]
      simp_all [AV.close, B, I]
      try (intros; omega)
  · skip
    refine AOps.pass rfl rfl rfl h19 rfl ?_
    refine AOps.pass rfl rfl rfl h19 rfl ?_
    refine AOps.pass rfl rfl rfl h19 rfl ?_
    refine AOps.pass rfl rfl rfl h19 rfl ?_
    refine AOps.pass rfl rfl rfl h19 rfl ?_
    refine AOps.call (o_pickT _ _ _ rfl h19 rfl rfl) ?_
    refine AOps.call (o_move _ rfl rfl) ?_
    refine AOps.pass rfl rfl rfl rfl rfl ?_
    refine AOps.pass rfl rfl rfl rfl rfl ?_
    refine AOps.pass rfl rfl rfl rfl rfl ?_
    refine AOps.pass rfl rfl rfl rfl rfl ?_
    refine AOps.pass rfl rfl rfl rfl rfl ?_
    refine AOps.pass rfl rfl rfl rfl rfl ?_
    refine AOps.call (o_pickT _ _ _ rfl rfl rfl rfl) ?_
    refine AOps.call (o_assign _ rfl rfl) ?_
    refine AOps.nil ?_
    refine AWP.ret ?_
    refine postQ.ret1 Tryz.results58 rfl ?_
    unfold Plw.shift
    rw [at_eq h, at_eq (by omega : i < p.log.length)]
    simp_all [AV.close, B, I]
    try (intros; omega)
set_option maxRecDepth 20000 in
theorem allowed_s (p : Plw) (hp : OkP p) (i : Nat) (s : Int) (h : i < p.log.length) : FSpec Tryz.prog 103 [.agg (eP p), I i, I s] (.agg (eN (p.allow i s))) (none) := by
  refine FSpec.of_body Tryz.func103 rfl (leB rfl) fun w0 M0 => ?_
  have hl := shws_len p.log
  have h32 := hp.len
  have hs := hp.slab
  have hn := hp.noise
  have hb0 := hp.at i
  rw [at_eq h] at hb0
  have hel := shws_at h
  refine AWP.seq ?_
  refine AWP.region ?_
  refine AOps.call (o_box _ rfl rfl rfl) ?_
  refine AOps.call (o_alloc ze54 rfl rfl) ?_
  refine AOps.nil ?_
  refine AWP.seq ?_
  refine AWP.region ?_
  refine AOps.call (o_build bu54 rfl rfl rfl) ?_
  refine AOps.call (o_alloc ze54 rfl rfl) ?_
  refine AOps.cons (o_store _ _ rfl rfl Tryz.sizeOf54 rfl rfl rfl rfl rfl) ?_
  refine AOps.nil ?_
  refine AWP.seq ?_
  refine AWP.seq ?_
  refine AWP.region ?_
  refine AOps.call (o_move _ rfl rfl) ?_
  refine AOps.call (o_bin _ _ rfl rfl (fun _ => rfl) rfl) ?_
  refine AOps.nil ?_
  refine AWP.cond _ rfl (fun h7 => ?_) (fun h7 => ?_)
  · skip
    refine AWP.seq ?_
    refine AWP.region ?_
    refine AOps.call (o_loadRef _ rfl rfl Tryz.sizeOf54 Tryz.isAgg54 rfl rfl rfl) ?_
    refine AOps.cons (o_store _ _ rfl rfl Tryz.sizeOf54 rfl rfl rfl rfl rfl) ?_
    refine AOps.nil ?_
    refine AWP.ret ?_
    refine postQ.retC Tryz.results103 rfl rfl Tryz.sizeOf54 Tryz.isAgg54 rfl ?_
    unfold Plw.allow
    rw [at_eq h]
    simp_all [AV.close, AV.close.closeL, B, I, eN, Sp.meet]
    try (intros; omega)
  · skip
    refine AWP.skip ?_
    refine AWP.seq ?_
    refine AWP.region ?_
    refine AOps.call (o_fieldRef _ rfl fa83_0 rfl rfl) ?_
    refine AOps.call (o_fieldRef _ rfl fa24_6 rfl rfl) ?_
    refine AOps.call (o_loadRef _ rfl rfl Tryz.sizeOf22 Tryz.isAgg22 rfl rfl rfl) ?_
    refine AOps.call (o_move _ rfl rfl) ?_
    refine AOps.call (o_index _ _ Tryz.underlying22 Tryz.sizeOf27 rfl rfl (by omega) (by assumption) rfl rfl) ?_
    refine AOps.call (o_fieldRd _ rfl fa27_1 rfl) ?_
    refine AOps.call (o_loadRd _ rfl Tryz.sizeOf3 Tryz.isAgg3 rfl rfl rfl) ?_
    refine AOps.call (o_assign _ rfl rfl) ?_
    refine AOps.nil ?_
    refine AWP.seq ?_
    refine AWP.region ?_
    refine AOps.call (o_move _ rfl rfl) ?_
    refine AOps.call (o_fieldRef _ rfl fa83_0 rfl rfl) ?_
    refine AOps.call (o_fieldRef _ rfl fa24_2 rfl rfl) ?_
    refine AOps.call (o_loadRef _ rfl rfl Tryz.sizeOf3 Tryz.isAgg3 rfl rfl rfl) ?_
    refine AOps.call (o_sub _ _ rfl rfl ⟨by (try dsimp only); omega, by (try dsimp only); omega⟩ rfl) ?_
    refine AOps.call (o_move _ rfl rfl) ?_
    refine AOps.call (o_fieldRef _ rfl fa83_0 rfl rfl) ?_
    refine AOps.call (o_fieldRef _ rfl fa24_2 rfl rfl) ?_
    refine AOps.call (o_loadRef _ rfl rfl Tryz.sizeOf3 Tryz.isAgg3 rfl rfl rfl) ?_
    refine AOps.call (o_add _ _ rfl rfl ⟨by (try dsimp only); omega, by (try dsimp only); omega⟩ rfl) ?_
    refine AOps.call (o_build bu54 rfl rfl rfl) ?_
    refine AOps.call (o_alloc ze54 rfl rfl) ?_
    refine AOps.cons (o_store _ _ rfl rfl Tryz.sizeOf54 rfl rfl rfl rfl rfl) ?_
    refine AOps.nil ?_
    refine AWP.seq ?_
    refine AWP.seq ?_
    refine AWP.region ?_
    refine AOps.call (o_move _ rfl rfl) ?_
    refine AOps.call (o_bin _ _ rfl rfl (fun _ => rfl) rfl) ?_
    refine AOps.nil ?_
    refine AWP.cond _ rfl (fun h28 => ?_) (fun h28 => ?_)
    · skip
      refine AWP.region ?_
      refine AOps.call (o_fieldRef _ rfl fa54_1 rfl rfl) ?_
      refine AOps.call (o_loadRef _ rfl rfl Tryz.sizeOf3 Tryz.isAgg3 rfl rfl rfl) ?_
      refine AOps.call (o_fieldRef _ rfl fa83_0 rfl rfl) ?_
      refine AOps.call (o_fieldRef _ rfl fa24_3 rfl rfl) ?_
      refine AOps.call (o_loadRef _ rfl rfl Tryz.sizeOf3 Tryz.isAgg3 rfl rfl rfl) ?_
      refine AOps.call (o_add _ _ rfl rfl ⟨by (try dsimp only); omega, by (try dsimp only); omega⟩ rfl) ?_
      refine AOps.call (o_fieldRef _ rfl fa54_1 rfl rfl) ?_
      refine AOps.cons (o_store _ _ rfl rfl Tryz.sizeOf3 rfl rfl rfl rfl rfl) ?_
      refine AOps.nil ?_
      refine AWP.seq ?_
      refine AWP.region ?_
      refine AOps.call (o_loadRef _ rfl rfl Tryz.sizeOf54 Tryz.isAgg54 rfl rfl rfl) ?_
      refine AOps.call (o_loadRef _ rfl rfl Tryz.sizeOf54 Tryz.isAgg54 rfl rfl rfl) ?_
      refine AOps.call (o_call (meet_s ⟨_, _⟩ ⟨0, 65536⟩) Tryz.call96 rfl rfl) ?_
      refine AOps.cons (o_store _ _ rfl rfl Tryz.sizeOf54 rfl rfl rfl rfl rfl) ?_
      refine AOps.nil ?_
      refine AWP.ret ?_
      refine postQ.retC Tryz.results103 rfl rfl Tryz.sizeOf54 Tryz.isAgg54 rfl ?_
      unfold Plw.allow
      rw [at_eq h]
      simp_all [AV.close, AV.close.closeL, B, I, eN, Sp.meet]
      try (intros; omega)
    · skip
      refine AWP.skip ?_
      refine AWP.seq ?_
      refine AWP.region ?_
      refine AOps.call (o_loadRef _ rfl rfl Tryz.sizeOf54 Tryz.isAgg54 rfl rfl rfl) ?_
      refine AOps.call (o_loadRef _ rfl rfl Tryz.sizeOf54 Tryz.isAgg54 rfl rfl rfl) ?_
      refine AOps.call (o_call (meet_s ⟨_, _⟩ ⟨0, 65536⟩) Tryz.call96 rfl rfl) ?_
      refine AOps.cons (o_store _ _ rfl rfl Tryz.sizeOf54 rfl rfl rfl rfl rfl) ?_
      refine AOps.nil ?_
      refine AWP.ret ?_
      refine postQ.retC Tryz.results103 rfl rfl Tryz.sizeOf54 Tryz.isAgg54 rfl ?_
      unfold Plw.allow
      rw [at_eq h]
      simp_all [AV.close, AV.close.closeL, B, I, eN, Sp.meet]
      try (intros; omega)
def wf (w : List Sp) (i : Nat) : Sp := w.getD i ⟨0, 0⟩
theorem win_at {w : List Sp} {lo hi k : Nat} (h : k < hi - lo) (hw : hi ≤ w.length) : (((sps w).drop lo).take (hi - lo))[((k : Nat) : Int).toNat]? = some (eN (wf w (lo + k))) := by
  rw [List.getElem?_take, if_pos (by omega), List.getElem?_drop]
  have : lo + k < w.length := by omega
  simp [sps, wf, List.getD_eq_getElem?_getD, this]
theorem win_len {w : List Sp} {lo hi : Nat} (h : lo ≤ hi) (hw : hi ≤ w.length) : (((sps w).drop lo).take (hi - lo)).length = hi - lo := by simp [sps]; omega
def WB (w : Nat → Sp) : Prop := ∀ i, -65536 ≤ (w i).lo ∧ (w i).hi ≤ 65536 ∧ (w i).lo ≤ (w i).hi
theorem okW_WB {p : Plw} {w : List Sp} (h : okW p w = true) : WB (wf w) := fun i => by
  have := okW_ne h i; simp only [Sp.Ne] at this; exact ⟨this.2.1, this.2.2, this.1⟩
set_option maxRecDepth 20000 in
theorem between_s (w : List Sp) (lo hi : Nat) (hlh : lo ≤ hi) (hw : hi ≤ w.length) (hb : WB (wf w)) (h32 : w.length ≤ 32) : FSpec Tryz.prog 98 [.sl (sps w), I lo, I hi] (.agg (eN (Sm (wf w) lo (hi - lo)))) (none) := by
  refine FSpec.of_body Tryz.func98 rfl (leB rfl) fun w0 M0 => ?_
  have hsl := sps_len w
  have hz := sps_z (l := w)
  have hwl := win_len hlh hw
  refine AWP.seq ?_
  refine AWP.region ?_
  refine AOps.call (o_alloc ze54 rfl rfl) ?_
  refine AOps.nil ?_
  refine AWP.seq ?_
  refine AWP.region ?_
  refine AOps.call (o_alloc ze54 rfl rfl) ?_
  refine AOps.nil ?_
  refine AWP.seq ?_
  refine AWP.seq ?_
  refine AWP.region ?_
  refine AOps.call (o_move _ rfl rfl) ?_
  refine AOps.call (o_move _ rfl rfl) ?_
  refine AOps.call (o_move _ rfl rfl) ?_
  refine AOps.call (o_slice _ _ _ Tryz.underlying89 Tryz.sizeOf54 rfl rfl rfl (by omega) (by omega) (by assumption) rfl) ?_
  refine AOps.call (o_len _ Tryz.underlying89 rfl rfl) ?_
  refine AOps.call (o_move _ rfl rfl) ?_
  refine AOps.nil ?_
  refine AWP.block ?_
  refine AWP.loop (ι := Nat) (fun i => AS.mk' 24 [(6, .ref (6, 0) 0), (7, .ref (7, 0) 0), (13, .sl (((sps w).drop lo).take (hi - lo))), (14, I (((sps w).drop lo).take (hi - lo)).length), (15, I i)] [((6, 0), eN ⟨0, 0⟩), ((7, 0), eN (Sm (wf w) lo i))] [] [(6, 1), (7, 1)]) (fun i => i ≤ hi - lo) (fun i => hi - lo - i) (0) (Weak.mk' rfl ⟨⟨.refl rfl, rfl⟩, ⟨⟨.refl rfl, rfl⟩, ⟨⟨.refl rfl, rfl⟩, ⟨⟨.refl rfl, rfl⟩, ⟨⟨.refl rfl, rfl⟩, trivial⟩⟩⟩⟩⟩ ⟨⟨rfl, rfl, rfl⟩, ⟨⟨rfl, rfl, rfl⟩, trivial⟩⟩ trivial) (Nat.zero_le _) ?_
  rintro k hk
  try dsimp only at *
  refine AWP.seq ?_
  refine AWP.region ?_
  refine AOps.call (o_bin _ _ rfl rfl (fun _ => rfl) rfl) ?_
  refine AOps.nil ?_
  refine AWP.seq ?_
  refine AWP.cond _ rfl (fun h10 => ?_) (fun h10 => ?_)
  · skip
    have hlt : k < hi - lo := by simpa [hwl] using h10
    have hel := win_at hlt hw
    have hpl : inI64 ((Sm (wf w) lo k).lo + (wf w (lo + k)).lo) ∧ inI64 ((Sm (wf w) lo k).hi + (wf w (lo + k)).hi) := by
      have h1 := Sm_small hb lo k; have h2 := hb (lo + k)
      simp only [okRange]; omega
    refine AWP.skip ?_
    refine AWP.seq ?_
    refine AWP.block ?_
    refine AWP.seq ?_
    refine AWP.region ?_
    refine AOps.call (o_index _ _ Tryz.underlying89 Tryz.sizeOf54 rfl rfl (by omega) (by assumption) rfl rfl) ?_
    refine AOps.call (o_loadRd _ rfl Tryz.sizeOf54 Tryz.isAgg54 rfl rfl rfl) ?_
    refine AOps.call (o_alloc ze54 rfl rfl) ?_
    refine AOps.cons (o_store _ _ rfl rfl Tryz.sizeOf54 rfl rfl rfl rfl rfl) ?_
    refine AOps.nil ?_
    refine AWP.region ?_
    refine AOps.call (o_loadRef _ rfl rfl Tryz.sizeOf54 Tryz.isAgg54 rfl rfl rfl) ?_
    refine AOps.call (o_loadRef _ rfl rfl Tryz.sizeOf54 Tryz.isAgg54 rfl rfl rfl) ?_
    refine AOps.call (o_call (plus_s (Sm (wf w) lo k) (wf w (lo + k)) hpl) Tryz.call121 rfl rfl) ?_
    refine AOps.cons (o_store _ _ rfl rfl Tryz.sizeOf54 rfl rfl rfl rfl rfl) ?_
    refine AOps.nil ?_
    refine AWP.region ?_
    refine AOps.call (o_add _ _ rfl rfl ⟨by (try dsimp only); omega, by (try dsimp only); omega⟩ rfl) ?_
    refine AOps.call (o_move _ rfl rfl) ?_
    refine AOps.nil ?_
    refine ⟨k + 1, ?_, (Weak.mk' rfl ⟨⟨.refl rfl, rfl⟩, ⟨⟨.refl rfl, rfl⟩, ⟨⟨.refl rfl, rfl⟩, ⟨⟨.refl rfl, rfl⟩, ⟨⟨.refl rfl, rfl⟩, trivial⟩⟩⟩⟩⟩ ⟨⟨rfl, rfl, rfl⟩, ⟨⟨rfl, rfl, rfl⟩, trivial⟩⟩ trivial)⟩
    exact ⟨by omega, by omega⟩
  · skip
    have hkl : k = hi - lo := by simp [hwl] at h10; omega
    subst hkl
    refine AWP.exit ?_
    refine AWP.seq ?_
    refine AWP.region ?_
    refine AOps.call (o_loadRef _ rfl rfl Tryz.sizeOf54 Tryz.isAgg54 rfl rfl rfl) ?_
    refine AOps.cons (o_store _ _ rfl rfl Tryz.sizeOf54 rfl rfl rfl rfl rfl) ?_
    refine AOps.nil ?_
    refine AWP.ret ?_
    exact postQ.retC Tryz.results98 rfl rfl Tryz.sizeOf54 Tryz.isAgg54 rfl rfl
end Go.Proofs.YtelenedgaoglaaaGreatDoor
set_option linter.unusedSimpArgs false
set_option linter.unusedVariables false
namespace Go.Proofs.YtelenedgaoglaaaGreatDoor
open Go.Ab
open Go.Pil
theorem betweenI_s (w : List Sp) (lo hi : Nat) (a b : Int) (ha : a = lo) (hb' : b = hi) (hlh : lo ≤ hi) (hw : hi ≤ w.length) (hb : WB (wf w)) (h32 : w.length ≤ 32) :
    FSpec Tryz.prog 98 [.sl (sps w), I a, I b] (.agg (eN (Sm (wf w) lo (hi - lo)))) none := by
  subst ha; subst hb'; exact between_s w lo hi hlh hw hb h32
theorem between1_s (w : List Sp) (lo : Nat) (a b : Int) (ha : a = lo) (hb' : b = lo + 1) (hw : lo + 1 ≤ w.length) (hb : WB (wf w)) (h32 : w.length ≤ 32) :
    FSpec Tryz.prog 98 [.sl (sps w), I a, I b] (.agg (eN (wf w lo))) none := by
  have h := betweenI_s w lo (lo + 1) a b ha (by omega) (by omega) hw hb h32
  have e : Sm (wf w) lo (lo + 1 - lo) = wf w lo := by
    rw [show lo + 1 - lo = 0 + 1 by omega]; simp [Sm, Sp.plus]
  rwa [e] at h
theorem shiftI_s (p : Plw) (hp : OkP p) (n : Int) (h0 : 0 ≤ n) (h : n + 1 < p.log.length) : FSpec Tryz.prog 58 [.agg (eP p), I n] (B (p.shift n.toNat)) none := by
  have := shift_s p hp n.toNat (by omega)
  rwa [show ((n.toNat : Nat) : Int) = n by omega] at this
theorem allowedI_s (p : Plw) (hp : OkP p) (n : Int) (s : Int) (h0 : 0 ≤ n) (h : n < p.log.length) : FSpec Tryz.prog 103 [.agg (eP p), I n, I s] (.agg (eN (p.allow n.toNat s))) none := by
  have := allowed_s p hp n.toNat s (by omega)
  rwa [show ((n.toNat : Nat) : Int) = n by omega] at this
theorem Sp.ext {a b : Sp} (h : a.lo = b.lo) (k : a.hi = b.hi) : a = b := by cases a; cases b; simp_all
def reachP (p : Plw) (w : List Sp) (n s : Int) (a : Sp) : Sp := if n = 0 then p.allow n.toNat s else (p.allow n.toNat s).meet (a.plus (wf w (n.toNat - 1)))
def eL (r : Pl) : List AV := [I r.entry, I r.state, I r.faults]
def pls (l : List Pl) : List (List AV) := l.map eL
theorem pls_len (l : List Pl) : (pls l).length = l.length := by simp [pls]
theorem pls_at {l : List Pl} {k : Nat} (h : k < l.length) : (pls l)[((k : Nat) : Int).toNat]? = some (eL l[k]) := by simp [pls, h]
theorem pls_z {l : List Pl} : ∀ e ∈ pls l, e.length = 3 := by
  intro e he; obtain ⟨_, _, rfl⟩ := List.mem_map.1 he; rfl
set_option maxRecDepth 20000 in
theorem start_s (p : Plw) : FSpec Tryz.prog 87 [.agg (eP p)] (.agg (eL ⟨-1, 0, p.faults⟩)) (none) := by
  refine FSpec.of_body Tryz.func87 rfl (leB rfl) fun w0 M0 => ?_
  refine AWP.seq ?_
  refine AWP.region ?_
  refine AOps.call (o_box _ rfl rfl rfl) ?_
  refine AOps.call (o_alloc ze110 rfl rfl) ?_
  refine AOps.nil ?_
  refine AWP.seq ?_
  refine AWP.region ?_
  refine AOps.call (o_fieldRef _ rfl fa83_0 rfl rfl) ?_
  refine AOps.call (o_fieldRef _ rfl fa24_5 rfl rfl) ?_
  refine AOps.call (o_loadRef _ rfl rfl Tryz.sizeOf3 Tryz.isAgg3 rfl rfl rfl) ?_
  refine AOps.call (o_build bu110 rfl rfl rfl) ?_
  refine AOps.cons (o_store _ _ rfl rfl Tryz.sizeOf110 rfl rfl rfl rfl rfl) ?_
  refine AOps.nil ?_
  refine AWP.ret ?_
  exact postQ.retC Tryz.results87 rfl rfl Tryz.sizeOf110 Tryz.isAgg110 rfl rfl
set_option maxRecDepth 20000 in
theorem reached_s (p : Plw) (w : List Sp) (hp : OkP p) (hw : okW p w = true) (n s : Int) (a : Sp) (h0 : 0 ≤ n) (h : n < p.log.length) (ha : n ≠ 0 → -9000000000 ≤ a.lo ∧ a.lo ≤ 9000000000 ∧ -9000000000 ≤ a.hi ∧ a.hi ≤ 9000000000) : FSpec Tryz.prog 94 [.agg (eR p w), I n, I s, .agg (eN a)] (.agg (eN (reachP p w n s a))) (none) := by
  refine FSpec.of_body Tryz.func94 rfl (leB rfl) fun w0 M0 => ?_
  have hl := shws_len p.log
  have hsl := sps_len w
  have hb := okW_WB hw
  have hwl : w.length = p.log.length - 1 := by simp only [okW, Bool.and_eq_true, decide_eq_true_eq] at hw; exact hw.1
  have h32 := hp.len
  refine AWP.seq ?_
  refine AWP.region ?_
  refine AOps.call (o_box _ rfl rfl rfl) ?_
  refine AOps.call (o_box _ rfl rfl rfl) ?_
  refine AOps.call (o_alloc ze54 rfl rfl) ?_
  refine AOps.nil ?_
  refine AWP.seq ?_
  refine AWP.region ?_
  refine AOps.call (o_fieldRef _ rfl fa91_0 rfl rfl) ?_
  refine AOps.call (o_loadRef _ rfl rfl Tryz.sizeOf83 Tryz.isAgg83 rfl rfl rfl) ?_
  refine AOps.call (o_move _ rfl rfl) ?_
  refine AOps.call (o_move _ rfl rfl) ?_
  refine AOps.call (o_call (allowedI_s p hp n s h0 h) Tryz.call103 rfl rfl) ?_
  refine AOps.call (o_alloc ze54 rfl rfl) ?_
  refine AOps.cons (o_store _ _ rfl rfl Tryz.sizeOf54 rfl rfl rfl rfl rfl) ?_
  refine AOps.nil ?_
  refine AWP.seq ?_
  refine AWP.seq ?_
  refine AWP.region ?_
  refine AOps.call (o_move _ rfl rfl) ?_
  refine AOps.call (o_bin _ _ rfl rfl (fun _ => rfl) rfl) ?_
  refine AOps.nil ?_
  refine AWP.cond _ rfl (fun h12 => ?_) (fun h12 => ?_)
  · skip
    have hn : n = 0 := by simpa using h12
    refine AWP.seq ?_
    refine AWP.region ?_
    refine AOps.call (o_loadRef _ rfl rfl Tryz.sizeOf54 Tryz.isAgg54 rfl rfl rfl) ?_
    refine AOps.cons (o_store _ _ rfl rfl Tryz.sizeOf54 rfl rfl rfl rfl rfl) ?_
    refine AOps.nil ?_
    refine AWP.ret ?_
    refine postQ.retC Tryz.results94 rfl rfl Tryz.sizeOf54 Tryz.isAgg54 rfl ?_
    unfold reachP
    first
    | (rw [if_pos hn]; rfl)
    | (rw [if_neg hn]; rfl)
  · skip
    have hn : n ≠ 0 := by simpa using h12
    have hpl : inI64 (a.lo + (wf w (n.toNat - 1)).lo) ∧ inI64 (a.hi + (wf w (n.toNat - 1)).hi) := by
      have h1 := ha hn; have h2 := hb (n.toNat - 1)
      simp only [okRange]; omega
    refine AWP.skip ?_
    refine AWP.seq ?_
    refine AWP.drawn 10 mixed (by kernel_rfl) ?_
    refine AHead.call (o_loadRef _ rfl rfl Tryz.sizeOf54 Tryz.isAgg54 rfl rfl rfl) rfl ?_
    refine AHead.call (o_loadRef _ rfl rfl Tryz.sizeOf54 Tryz.isAgg54 rfl rfl rfl) rfl ?_
    refine AHead.call (o_fieldRef _ rfl fa91_1 rfl rfl) rfl ?_
    refine AHead.call (o_loadRef _ rfl rfl Tryz.sizeOf89 Tryz.isAgg89 rfl rfl rfl) rfl ?_
    refine AHead.call (o_move _ rfl rfl) rfl ?_
    refine AHead.call (o_sub _ _ rfl rfl ⟨by (try dsimp only); omega, by (try dsimp only); omega⟩ rfl) rfl ?_
    refine AHead.call (o_move _ rfl rfl) rfl ?_
    refine AHead.call (o_call (between1_s w (n.toNat - 1) (n - 1) n (by omega) (by omega) (by omega) hb (by omega)) Tryz.call98 rfl rfl) rfl ?_
    refine AHead.call (o_call (plus_s a (wf w (n.toNat - 1)) hpl) Tryz.call121 rfl rfl) rfl ?_
    refine AHead.call (o_call (meet_s (p.allow n.toNat s) (a.plus (wf w (n.toNat - 1)))) Tryz.call96 rfl rfl) rfl ?_
    refine AHead.nil ?_
    refine AOps.cons (o_store _ _ rfl rfl Tryz.sizeOf54 rfl rfl rfl rfl rfl) ?_
    refine AOps.nil ?_
    refine AWP.ret ?_
    refine postQ.retC Tryz.results94 rfl rfl Tryz.sizeOf54 Tryz.isAgg54 rfl ?_
    unfold reachP
    first
    | (rw [if_pos hn]; rfl)
    | (rw [if_neg hn]; rfl)
set_option maxRecDepth 20000 in
theorem states_s (p : Plw) (hp : OkP p) (r : Pl) (h : r.entry + 1 < p.log.length) : FSpec Tryz.prog 115 [.agg (eP p), .agg (eL r)] (.sl (ints (r.sts (p.pb [])))) (none) := by
  refine FSpec.of_body Tryz.func115 rfl (leB rfl) fun w0 M0 => ?_
  have hl := shws_len p.log
  refine AWP.seq ?_
  refine AWP.region ?_
  refine AOps.call (o_box _ rfl rfl rfl) ?_
  refine AOps.call (o_box _ rfl rfl rfl) ?_
  refine AOps.call (o_nil (z := 1) (e := 3) rfl) ?_
  refine AOps.nil ?_
  refine AWP.block ?_
  refine AWP.seq ?_
  refine AWP.region ?_
  refine AOps.call (o_fieldRef _ rfl fa110_0 rfl rfl) ?_
  refine AOps.call (o_loadRef _ rfl rfl Tryz.sizeOf3 Tryz.isAgg3 rfl rfl rfl) ?_
  refine AOps.call (o_bin _ _ rfl rfl (fun _ => rfl) rfl) ?_
  refine AOps.call (o_assign _ rfl rfl) ?_
  refine AOps.nil ?_
  refine AWP.cond _ rfl (fun h7 => ?_) (fun h7 => ?_)
  · skip
    have h0 : r.entry < 0 := by simpa using h7
    refine AWP.seq ?_
    refine AWP.region ?_
    refine AOps.call (o_lit Tryz.underlying25 Tryz.sizeOf3 Tryz.zeroValue3 rfl rfl rfl rfl rfl rfl rfl) ?_
    refine AOps.call (o_assign _ rfl rfl) ?_
    refine AOps.nil ?_
    refine AWP.ret ?_
    refine postQ.ret1 Tryz.results115 rfl ?_
    unfold Pl.sts
    first
    | (rw [if_pos h0]; rfl)
    | (rw [if_neg (by omega), if_pos (show (p.pb []).sh r.entry.toNat = true from h1)]; rfl)
    | (rw [if_neg (by omega), if_neg (show ¬ (p.pb []).sh r.entry.toNat = true from by rw [show (p.pb []).sh r.entry.toNat = false from h1]; decide)]; rfl)
  · skip
    have h0 : 0 ≤ r.entry := by simpa using h7
    refine AWP.seq ?_
    refine AWP.region ?_
    refine AOps.call (o_loadRef _ rfl rfl Tryz.sizeOf83 Tryz.isAgg83 rfl rfl rfl) ?_
    refine AOps.call (o_fieldRef _ rfl fa110_0 rfl rfl) ?_
    refine AOps.call (o_loadRef _ rfl rfl Tryz.sizeOf3 Tryz.isAgg3 rfl rfl rfl) ?_
    refine AOps.call (o_call (shiftI_s p hp r.entry h0 h) Tryz.call58 rfl rfl) ?_
    refine AOps.call (o_assign _ rfl rfl) ?_
    refine AOps.nil ?_
    refine AWP.cond _ rfl (fun h13 => ?_) (fun h13 => ?_)
    · skip
      have h1 : p.shift r.entry.toNat = true := by simpa using h13
      refine AWP.seq ?_
      refine AWP.region ?_
      refine AOps.call (o_lit Tryz.underlying25 Tryz.sizeOf3 Tryz.zeroValue3 rfl rfl rfl rfl rfl rfl rfl) ?_
      refine AOps.call (o_assign _ rfl rfl) ?_
      refine AOps.nil ?_
      refine AWP.ret ?_
      refine postQ.ret1 Tryz.results115 rfl ?_
      unfold Pl.sts
      first
      | (rw [if_pos h0]; rfl)
      | (rw [if_neg (by omega), if_pos (show (p.pb []).sh r.entry.toNat = true from h1)]; rfl)
      | (rw [if_neg (by omega), if_neg (show ¬ (p.pb []).sh r.entry.toNat = true from by rw [show (p.pb []).sh r.entry.toNat = false from h1]; decide)]; rfl)
    · skip
      have h1 : p.shift r.entry.toNat = false := by simpa using h13
      refine AWP.seq ?_
      refine AWP.region ?_
      refine AOps.call (o_fieldRef _ rfl fa110_1 rfl rfl) ?_
      refine AOps.call (o_loadRef _ rfl rfl Tryz.sizeOf3 Tryz.isAgg3 rfl rfl rfl) ?_
      refine AOps.call (o_lit Tryz.underlying25 Tryz.sizeOf3 Tryz.zeroValue3 rfl rfl rfl rfl rfl rfl rfl) ?_
      refine AOps.call (o_assign _ rfl rfl) ?_
      refine AOps.nil ?_
      refine AWP.ret ?_
      refine postQ.ret1 Tryz.results115 rfl ?_
      unfold Pl.sts
      first
      | (rw [if_pos h0]; rfl)
      | (rw [if_neg (by omega), if_pos (show (p.pb []).sh r.entry.toNat = true from h1)]; rfl)
      | (rw [if_neg (by omega), if_neg (show ¬ (p.pb []).sh r.entry.toNat = true from by rw [show (p.pb []).sh r.entry.toNat = false from h1]; decide)]; rfl)
end Go.Proofs.YtelenedgaoglaaaGreatDoor
set_option linter.unusedSimpArgs false
set_option linter.unusedVariables false
namespace Go.Proofs.YtelenedgaoglaaaGreatDoor
open Go.Ab
open Go.Pil
theorem pls_snoc3 (l : List Pl) (a b c : Int) : pls l ++ [[I a, I b, I c]] = pls (l ++ [⟨a, b, c⟩]) := by simp [pls, eL]
def nextF (r : Pl) (S : List Int) (n : Nat) : List Pl := ((S.take n).map r.to).filter fun x => decide (0 ≤ x.faults)
theorem nextF_succ {r : Pl} {S : List Int} {n : Nat} (h : n < S.length) : nextF r S (n + 1) = nextF r S n ++ (if 0 ≤ (r.to S[n]).faults then [r.to S[n]] else []) := by
  unfold nextF
  rw [List.take_succ_eq_append_getElem h, List.map_append, List.filter_append]
  congr 1
  by_cases hf : 0 ≤ (r.to S[n]).faults
  · simp [hf]
  · simp [hf]
theorem sts_len (q : Pb) (r : Pl) : (r.sts q).length ≤ 3 := by
  unfold Pl.sts
  split
  · simp
  · split <;> simp
theorem nextF_len (r : Pl) (S : List Int) (n : Nat) : (nextF r S n).length ≤ S.length := by
  unfold nextF
  refine Nat.le_trans (List.length_filter_le ..) ?_
  rw [List.length_map, List.length_take]; omega
set_option maxRecDepth 20000 in
theorem next_s (p : Plw) (hp : OkP p) (r : Pl) (h : r.entry + 1 < p.log.length) (hr : -1 ≤ r.entry) (hf0 : 0 ≤ r.faults ∧ r.faults ≤ 32) : FSpec Tryz.prog 88 [.agg (eP p), .agg (eL r)] (.sl (pls (r.next (p.pb [])))) (none) := by
  refine FSpec.of_body Tryz.func88 rfl (leB rfl) fun w0 M0 => ?_
  have hl := shws_len p.log
  have h32 := hp.len
  have hsl := sts_len (p.pb []) r
  have hil := ints_len (r.sts (p.pb []))
  refine AWP.seq ?_
  refine AWP.region ?_
  refine AOps.call (o_box _ rfl rfl rfl) ?_
  refine AOps.call (o_box _ rfl rfl rfl) ?_
  refine AOps.call (o_nil (z := 3) (e := 110) rfl) ?_
  refine AOps.nil ?_
  refine AWP.seq ?_
  refine AWP.region ?_
  refine AOps.call (o_nil (z := 3) (e := 110) rfl) ?_
  refine AOps.nil ?_
  refine AWP.seq ?_
  refine AWP.seq ?_
  refine AWP.region ?_
  refine AOps.call (o_loadRef _ rfl rfl Tryz.sizeOf83 Tryz.isAgg83 rfl rfl rfl) ?_
  refine AOps.call (o_loadRef _ rfl rfl Tryz.sizeOf110 Tryz.isAgg110 rfl rfl rfl) ?_
  refine AOps.call (o_call (states_s p hp r h) Tryz.call115 rfl rfl) ?_
  refine AOps.call (o_len _ Tryz.underlying25 rfl rfl) ?_
  refine AOps.call (o_move _ rfl rfl) ?_
  refine AOps.nil ?_
  refine AWP.block ?_
  refine AWP.loop (ι := Nat × List Pl) (fun i => AS.mk' 39 [(2, .ref (2, 0) 0), (3, .ref (3, 0) 0), (5, .own (5, 0) (pls i.2)), (11, .sl (ints (r.sts (p.pb [])))), (12, I (ints (r.sts (p.pb []))).length), (13, I i.1)] [((2, 0), eP p), ((3, 0), eL r)] [((5, 0), ((pls i.2).length, 3, 110))] [(2, 1), (3, 1), (5, 1)]) (fun i => i.1 ≤ (r.sts (p.pb [])).length ∧ i.2 = nextF r (r.sts (p.pb [])) i.1) (fun i => (r.sts (p.pb [])).length - i.1) (0, []) (Weak.mk' rfl ⟨⟨.refl rfl, rfl⟩, ⟨⟨.refl rfl, rfl⟩, ⟨⟨.refl rfl, rfl⟩, ⟨⟨.refl rfl, rfl⟩, ⟨⟨.refl rfl, rfl⟩, ⟨⟨.refl rfl, rfl⟩, trivial⟩⟩⟩⟩⟩⟩ ⟨⟨rfl, rfl, rfl⟩, ⟨⟨rfl, rfl, rfl⟩, trivial⟩⟩ ⟨⟨rfl, rfl⟩, trivial⟩) (⟨Nat.zero_le _, rfl⟩) ?_
  rintro ⟨j, acc⟩ ⟨hk, hacc⟩
  try dsimp only at *
  refine AWP.seq ?_
  refine AWP.region ?_
  refine AOps.call (o_bin _ _ rfl rfl (fun _ => rfl) rfl) ?_
  refine AOps.nil ?_
  refine AWP.seq ?_
  refine AWP.cond _ rfl (fun h11 => ?_) (fun h11 => ?_)
  · skip
    have hlt : j < (r.sts (p.pb [])).length := by simpa [ints] using h11
    have hel := ints_at hlt
    refine AWP.skip ?_
    refine AWP.seq ?_
    refine AWP.block ?_
    refine AWP.seq ?_
    refine AWP.region ?_
    refine AOps.call (o_index _ _ Tryz.underlying25 Tryz.sizeOf3 rfl rfl (by omega) (by assumption) rfl rfl) ?_
    refine AOps.call (o_loadRd _ rfl Tryz.sizeOf3 Tryz.isAgg3 rfl rfl rfl) ?_
    refine AOps.call (o_assign _ rfl rfl) ?_
    refine AOps.nil ?_
    refine AWP.seq ?_
    refine AWP.region ?_
    refine AOps.call (o_fieldRef _ rfl fa110_0 rfl rfl) ?_
    refine AOps.call (o_loadRef _ rfl rfl Tryz.sizeOf3 Tryz.isAgg3 rfl rfl rfl) ?_
    refine AOps.call (o_add _ _ rfl rfl ⟨by (try dsimp only); omega, by (try dsimp only); omega⟩ rfl) ?_
    refine AOps.call (o_move _ rfl rfl) ?_
    refine AOps.call (o_fieldRef _ rfl fa110_2 rfl rfl) ?_
    refine AOps.call (o_loadRef _ rfl rfl Tryz.sizeOf3 Tryz.isAgg3 rfl rfl rfl) ?_
    refine AOps.call (o_build bu110 rfl rfl rfl) ?_
    refine AOps.call (o_alloc ze110 rfl rfl) ?_
    refine AOps.cons (o_store _ _ rfl rfl Tryz.sizeOf110 rfl rfl rfl rfl rfl) ?_
    refine AOps.nil ?_
    refine AWP.seq ?_
    refine AWP.seq ?_
    refine AWP.region ?_
    refine AOps.call (o_move _ rfl rfl) ?_
    refine AOps.call (o_bin _ _ rfl rfl (fun _ => rfl) rfl) ?_
    refine AOps.nil ?_
    refine AWP.cond _ rfl (fun h22 => ?_) (fun h22 => ?_)
    · skip
      have hs2 : (r.sts (p.pb []))[j] = 2 := by simpa using h22
      have hto : r.to (r.sts (p.pb []))[j] = ⟨r.entry + 1, (r.sts (p.pb []))[j], r.faults - 1⟩ := by unfold Pl.to; rw [if_pos hs2]
      refine AWP.region ?_
      refine AOps.call (o_fieldRef _ rfl fa110_2 rfl rfl) ?_
      refine AOps.call (o_loadRef _ rfl rfl Tryz.sizeOf3 Tryz.isAgg3 rfl rfl rfl) ?_
      refine AOps.call (o_sub _ _ rfl rfl ⟨by (try dsimp only); omega, by (try dsimp only); omega⟩ rfl) ?_
      refine AOps.call (o_fieldRef _ rfl fa110_2 rfl rfl) ?_
      refine AOps.cons (o_store _ _ rfl rfl Tryz.sizeOf3 rfl rfl rfl rfl rfl) ?_
      refine AOps.nil ?_
      refine AWP.seq ?_
      refine AWP.region ?_
      refine AOps.call (o_fieldRef _ rfl fa110_2 rfl rfl) ?_
      refine AOps.call (o_loadRef _ rfl rfl Tryz.sizeOf3 Tryz.isAgg3 rfl rfl rfl) ?_
      refine AOps.call (o_bin _ _ rfl rfl (fun _ => rfl) rfl) ?_
      refine AOps.nil ?_
      refine AWP.cond _ rfl (fun h30 => ?_) (fun h30 => ?_)
      · skip
        have hf : 0 ≤ (r.to (r.sts (p.pb []))[j]).faults := by rw [hto]; simpa using h30
        refine AWP.region ?_
        refine AOps.call (o_move _ rfl rfl) ?_
        refine AOps.call (o_loadRef _ rfl rfl Tryz.sizeOf110 Tryz.isAgg110 rfl rfl rfl) ?_
        refine AOps.call (o_lit Tryz.underlying125 Tryz.sizeOf110 Tryz.zeroValue110 rfl rfl rfl rfl rfl rfl rfl) ?_
        refine AOps.cons (o_append _ _ Tryz.underlying125 info110 rfl rfl rfl rfl rfl rfl rfl rfl (fun c hc => by simp at hc; subst hc; rfl) pls_z (by
            have hal := nextF_len r (r.sts (p.pb [])) j
            rw [← hacc] at hal
            unfold Tryz.t110; simp only [pls_len, List.length_cons, List.length_nil]; omega) rfl (pls_snoc3 acc _ _ _) rfl) ?_
        refine AOps.call (o_assign _ rfl rfl) ?_
        refine AOps.nil ?_
        refine AWP.region ?_
        refine AOps.call (o_add _ _ rfl rfl ⟨by (try dsimp only); omega, by (try dsimp only); omega⟩ rfl) ?_
        refine AOps.call (o_move _ rfl rfl) ?_
        refine AOps.nil ?_
        refine ⟨(j + 1, _), ?_, (Weak.mk' rfl ⟨⟨.refl rfl, rfl⟩, ⟨⟨.refl rfl, rfl⟩, ⟨⟨.refl rfl, rfl⟩, ⟨⟨.refl rfl, rfl⟩, ⟨⟨.refl rfl, rfl⟩, ⟨⟨.refl rfl, rfl⟩, trivial⟩⟩⟩⟩⟩⟩ ⟨⟨rfl, rfl, rfl⟩, ⟨⟨rfl, rfl, rfl⟩, trivial⟩⟩ ⟨⟨rfl, rfl⟩, trivial⟩)⟩
        refine ⟨⟨by omega, ?_⟩, by omega⟩
        rw [nextF_succ hlt, ← hacc]
        first
        | (rw [if_pos hf, hto]; done)
        | (rw [if_neg hf, List.append_nil]; done)
      · skip
        have hf : ¬ 0 ≤ (r.to (r.sts (p.pb []))[j]).faults := by rw [hto]; simpa using h30
        refine AWP.skip ?_
        refine AWP.region ?_
        refine AOps.call (o_add _ _ rfl rfl ⟨by (try dsimp only); omega, by (try dsimp only); omega⟩ rfl) ?_
        refine AOps.call (o_move _ rfl rfl) ?_
        refine AOps.nil ?_
        refine ⟨(j + 1, _), ?_, (Weak.mk' rfl ⟨⟨.refl rfl, rfl⟩, ⟨⟨.refl rfl, rfl⟩, ⟨⟨.refl rfl, rfl⟩, ⟨⟨.refl rfl, rfl⟩, ⟨⟨.refl rfl, rfl⟩, ⟨⟨.refl rfl, rfl⟩, trivial⟩⟩⟩⟩⟩⟩ ⟨⟨rfl, rfl, rfl⟩, ⟨⟨rfl, rfl, rfl⟩, trivial⟩⟩ ⟨⟨rfl, rfl⟩, trivial⟩)⟩
        refine ⟨⟨by omega, ?_⟩, by omega⟩
        rw [nextF_succ hlt, ← hacc]
        first
        | (rw [if_pos hf, hto]; done)
        | (rw [if_neg hf, List.append_nil]; done)
    · skip
      have hs2 : (r.sts (p.pb []))[j] ≠ 2 := by simpa using h22
      have hto : r.to (r.sts (p.pb []))[j] = ⟨r.entry + 1, (r.sts (p.pb []))[j], r.faults⟩ := by unfold Pl.to; rw [if_neg hs2]
      refine AWP.skip ?_
      refine AWP.seq ?_
      refine AWP.region ?_
      refine AOps.call (o_fieldRef _ rfl fa110_2 rfl rfl) ?_
      refine AOps.call (o_loadRef _ rfl rfl Tryz.sizeOf3 Tryz.isAgg3 rfl rfl rfl) ?_
      refine AOps.call (o_bin _ _ rfl rfl (fun _ => rfl) rfl) ?_
      refine AOps.nil ?_
      refine AWP.cond _ rfl (fun h39 => ?_) (fun h39 => ?_)
      · skip
        have hf : 0 ≤ (r.to (r.sts (p.pb []))[j]).faults := by rw [hto]; simpa using h39
        refine AWP.region ?_
        refine AOps.call (o_move _ rfl rfl) ?_
        refine AOps.call (o_loadRef _ rfl rfl Tryz.sizeOf110 Tryz.isAgg110 rfl rfl rfl) ?_
        refine AOps.call (o_lit Tryz.underlying125 Tryz.sizeOf110 Tryz.zeroValue110 rfl rfl rfl rfl rfl rfl rfl) ?_
        refine AOps.cons (o_append _ _ Tryz.underlying125 info110 rfl rfl rfl rfl rfl rfl rfl rfl (fun c hc => by simp at hc; subst hc; rfl) pls_z (by
            have hal := nextF_len r (r.sts (p.pb [])) j
            rw [← hacc] at hal
            unfold Tryz.t110; simp only [pls_len, List.length_cons, List.length_nil]; omega) rfl (pls_snoc3 acc _ _ _) rfl) ?_
        refine AOps.call (o_assign _ rfl rfl) ?_
        refine AOps.nil ?_
        refine AWP.region ?_
        refine AOps.call (o_add _ _ rfl rfl ⟨by (try dsimp only); omega, by (try dsimp only); omega⟩ rfl) ?_
        refine AOps.call (o_move _ rfl rfl) ?_
        refine AOps.nil ?_
        refine ⟨(j + 1, _), ?_, (Weak.mk' rfl ⟨⟨.refl rfl, rfl⟩, ⟨⟨.refl rfl, rfl⟩, ⟨⟨.refl rfl, rfl⟩, ⟨⟨.refl rfl, rfl⟩, ⟨⟨.refl rfl, rfl⟩, ⟨⟨.refl rfl, rfl⟩, trivial⟩⟩⟩⟩⟩⟩ ⟨⟨rfl, rfl, rfl⟩, ⟨⟨rfl, rfl, rfl⟩, trivial⟩⟩ ⟨⟨rfl, rfl⟩, trivial⟩)⟩
        refine ⟨⟨by omega, ?_⟩, by omega⟩
        rw [nextF_succ hlt, ← hacc]
        first
        | (rw [if_pos hf, hto]; done)
        | (rw [if_neg hf, List.append_nil]; done)
      · skip
        have hf : ¬ 0 ≤ (r.to (r.sts (p.pb []))[j]).faults := by rw [hto]; simpa using h39
        refine AWP.skip ?_
        refine AWP.region ?_
        refine AOps.call (o_add _ _ rfl rfl ⟨by (try dsimp only); omega, by (try dsimp only); omega⟩ rfl) ?_
        refine AOps.call (o_move _ rfl rfl) ?_
        refine AOps.nil ?_
        refine ⟨(j + 1, _), ?_, (Weak.mk' rfl ⟨⟨.refl rfl, rfl⟩, ⟨⟨.refl rfl, rfl⟩, ⟨⟨.refl rfl, rfl⟩, ⟨⟨.refl rfl, rfl⟩, ⟨⟨.refl rfl, rfl⟩, ⟨⟨.refl rfl, rfl⟩, trivial⟩⟩⟩⟩⟩⟩ ⟨⟨rfl, rfl, rfl⟩, ⟨⟨rfl, rfl, rfl⟩, trivial⟩⟩ ⟨⟨rfl, rfl⟩, trivial⟩)⟩
        refine ⟨⟨by omega, ?_⟩, by omega⟩
        rw [nextF_succ hlt, ← hacc]
        first
        | (rw [if_pos hf, hto]; done)
        | (rw [if_neg hf, List.append_nil]; done)
  · skip
    have hkl : j = (r.sts (p.pb [])).length := by simp [ints] at h11; omega
    subst hkl
    refine AWP.exit ?_
    refine AWP.seq ?_
    refine AWP.region ?_
    refine AOps.call (o_move _ rfl rfl) ?_
    refine AOps.call (o_assign _ rfl rfl) ?_
    refine AOps.nil ?_
    refine AWP.ret ?_
    refine postQ.ret1 Tryz.results88 rfl ?_
    rw [hacc]
    unfold nextF
    rw [List.take_length]
    rfl
set_option maxRecDepth 20000 in
theorem hasCase1_s (r : Pl) (s : Int) : FSpec Tryz.prog 90 [.agg (eL r), .rd [I s]] (B (decide (r.state = s))) (none) := by
  refine FSpec.of_body Tryz.func90 rfl (leB rfl) fun w0 M0 => ?_
  refine AWP.seq ?_
  refine AWP.region ?_
  refine AOps.call (o_box _ rfl rfl rfl) ?_
  refine AOps.call (o_assign _ rfl rfl) ?_
  refine AOps.nil ?_
  refine AWP.seq ?_
  refine AWP.region ?_
  refine AOps.call (o_fieldRef _ rfl fa110_1 rfl rfl) ?_
  refine AOps.call (o_loadRef _ rfl rfl Tryz.sizeOf3 Tryz.isAgg3 rfl rfl rfl) ?_
  refine AOps.call (o_loadRd _ rfl Tryz.sizeOf3 Tryz.isAgg3 rfl rfl rfl) ?_
  refine AOps.call (o_bin _ _ rfl rfl (fun _ => rfl) rfl) ?_
  refine AOps.call (o_assign _ rfl rfl) ?_
  refine AOps.nil ?_
  refine AWP.ret ?_
  refine postQ.ret1 Tryz.results90 rfl ?_
  simp_all [AV.close, B, I]
  try (rw [Bool.eq_iff_iff]; simp)
end Go.Proofs.YtelenedgaoglaaaGreatDoor
set_option linter.unusedSimpArgs false
set_option linter.unusedVariables false
namespace Go.Proofs.YtelenedgaoglaaaGreatDoor
open Go.Ab
open Go.Pil
def firstA {α : Type} (q : α → Bool) : List α → Int → Int
  | [], _ => -1
  | x :: l, i => if q x = true then i else firstA q l (i + 1)
theorem firstA_at {α : Type} {q : α → Bool} {l : List α} {k : Nat} (h : k < l.length) : firstA q (l.drop k) k = if q l[k] = true then (k : Int) else firstA q (l.drop (k + 1)) ((k + 1 : Nat) : Int) := by
  rw [List.drop_eq_getElem_cons h]; rfl
theorem firstA_some {α : Type} {q : α → Bool} {l : List α} {i : Int} (hi : 0 ≤ i) (h : 0 ≤ firstA q l i) : ∃ k, ∃ hk : k < l.length, firstA q l i = i + k ∧ q l[k] = true := by
  induction l generalizing i with
  | nil => simp [firstA] at h
  | cons x l ih =>
    simp only [firstA] at h ⊢
    by_cases hx : q x = true
    · rw [if_pos hx]; exact ⟨0, by simp, by simp, by simpa using hx⟩
    · rw [if_neg hx] at h ⊢
      obtain ⟨k, hk, h1, h2⟩ := ih (by omega) h
      exact ⟨k + 1, by simpa using hk, by rw [h1]; omega, by simpa using h2⟩
theorem firstA_none {α : Type} {q : α → Bool} {l : List α} {i : Int} (hi : 0 ≤ i) (h : firstA q l i < 0) : ∀ x ∈ l, q x = false := by
  induction l generalizing i with
  | nil => simp
  | cons y l ih =>
    simp only [firstA] at h
    by_cases hy : q y = true
    · rw [if_pos hy] at h; omega
    · rw [if_neg hy] at h
      intro x hx
      rcases List.mem_cons.1 hx with rfl | hx
      · simpa using hy
      · exact ih (by omega) h x hx
def zR : List AV := [I 0, I 0, I 0, I 0, I 0, I 0, .sc (.slice none 0 0), .sc (.slice none 0 0)]
def readR (p : Plw) (w : List Sp) : AV := if okP p = false then .tup [.agg zR, I 30] else if okW p w = false then .tup [.agg zR, I 1] else .tup [.agg (eR p w), I 0]
theorem all_at {w : List Sp} {k : Nat} (h : k < w.length) : (w.drop k).all spB = (spB w[k] && (w.drop (k + 1)).all spB) := by rw [List.drop_eq_getElem_cons h]; rfl
set_option maxRecDepth 20000 in
theorem IndexPl_s (l : List Pl) (s : Int) (hl : l.length ≤ 1000000) : FSpec Tryz.prog 89 [.sl (pls l), .clo 90 [.rd [I s]]] (I (firstA (fun r : Pl => decide (r.state = s)) l 0)) (none) := by
  refine FSpec.of_body Tryz.func89 rfl (leB rfl) fun w0 M0 => ?_
  refine AWP.seq ?_
  refine AWP.region ?_
  refine AOps.call (o_assign _ rfl rfl) ?_
  refine AOps.nil ?_
  refine AWP.seq ?_
  refine AWP.seq ?_
  refine AWP.region ?_
  refine AOps.call (o_move _ rfl rfl) ?_
  refine AOps.call (o_len _ Tryz.underlying125 rfl rfl) ?_
  refine AOps.call (o_move _ rfl rfl) ?_
  refine AOps.nil ?_
  refine AWP.block ?_
  refine AWP.loop (ι := Nat) (fun i => AS.mk' 19 [(0, .sl (pls l)), (1, .clo 90 [.rd [I s]]), (7, I (pls l).length), (8, I i)] [] [] []) (fun i => i ≤ l.length ∧ firstA (fun r : Pl => decide (r.state = s)) l 0 = firstA (fun r : Pl => decide (r.state = s)) (l.drop i) i) (fun i => l.length - i) (0) (Weak.mk' rfl ⟨⟨.refl rfl, rfl⟩, ⟨⟨.refl rfl, rfl⟩, ⟨⟨.refl rfl, rfl⟩, ⟨⟨.refl rfl, rfl⟩, trivial⟩⟩⟩⟩ trivial trivial) (⟨Nat.zero_le _, rfl⟩) ?_
  rintro k ⟨hk, hinv⟩
  try dsimp only at *
  refine AWP.seq ?_
  refine AWP.region ?_
  refine AOps.call (o_bin _ _ rfl rfl (fun _ => rfl) rfl) ?_
  refine AOps.nil ?_
  refine AWP.seq ?_
  refine AWP.cond _ rfl (fun h6 => ?_) (fun h6 => ?_)
  · skip
    have hlt : k < l.length := by simp [pls_len] at h6; omega
    have hel := pls_at hlt
    refine AWP.skip ?_
    refine AWP.seq ?_
    refine AWP.block ?_
    refine AWP.seq ?_
    refine AWP.region ?_
    refine AOps.call (o_move _ rfl rfl) ?_
    refine AOps.call (o_assign _ rfl rfl) ?_
    refine AOps.nil ?_
    refine AWP.seq ?_
    refine AWP.region ?_
    refine AOps.call (o_move _ rfl rfl) ?_
    refine AOps.call (o_move _ rfl rfl) ?_
    refine AOps.call (o_move _ rfl rfl) ?_
    refine AOps.call (o_index _ _ Tryz.underlying125 Tryz.sizeOf110 rfl rfl (by omega) (by assumption) rfl rfl) ?_
    refine AOps.call (o_loadRd _ rfl Tryz.sizeOf110 Tryz.isAgg110 rfl rfl rfl) ?_
    refine AOps.call (o_callV (cl := [.agg (eL l[k])]) (ccl := [.rd [I s]]) _ rfl (hasCase1_s l[k] s) Tryz.call90 rfl rfl rfl) ?_
    refine AOps.nil ?_
    refine AWP.cond _ rfl (fun h12 => ?_) (fun h12 => ?_)
    · skip
      have hq : (fun r : Pl => decide (r.state = s)) l[k] = true := h12
      refine AWP.seq ?_
      refine AWP.region ?_
      refine AOps.call (o_move _ rfl rfl) ?_
      refine AOps.call (o_assign _ rfl rfl) ?_
      refine AOps.nil ?_
      refine AWP.ret ?_
      refine postQ.ret1 Tryz.results89 rfl ?_
      first
      | (rw [hinv, firstA_at hlt, if_pos hq]; rfl)
      | (rw [hinv]; rfl)
    · skip
      have hq : (fun r : Pl => decide (r.state = s)) l[k] = false := h12
      refine AWP.skip ?_
      refine AWP.region ?_
      refine AOps.call (o_add _ _ rfl rfl ⟨by (try dsimp only); omega, by (try dsimp only); omega⟩ rfl) ?_
      refine AOps.call (o_move _ rfl rfl) ?_
      refine AOps.nil ?_
      refine ⟨k + 1, ?_, (Weak.mk' rfl ⟨⟨.refl rfl, rfl⟩, ⟨⟨.refl rfl, rfl⟩, ⟨⟨.refl rfl, rfl⟩, ⟨⟨.refl rfl, rfl⟩, trivial⟩⟩⟩⟩ trivial trivial)⟩
      refine ⟨⟨by omega, ?_⟩, by omega⟩
      rw [hinv, firstA_at hlt, if_neg (by simpa using hq)]
  · skip
    have hkl : k = l.length := by simp [pls_len] at h6; omega
    subst hkl
    rw [List.drop_length] at hinv
    refine AWP.exit ?_
    refine AWP.seq ?_
    refine AWP.region ?_
    refine AOps.call (o_assign _ rfl rfl) ?_
    refine AOps.nil ?_
    refine AWP.ret ?_
    refine postQ.ret1 Tryz.results89 rfl ?_
    first
    | (rw [hinv, firstA_at hlt, if_pos hq]; rfl)
    | (rw [hinv]; rfl)
set_option maxRecDepth 20000 in
theorem read_s (p : Plw) (w : List Sp) (hw1 : w.length ≤ 9223372036854775807) : FSpec Tryz.prog 65 [.agg (eP p), .sl (sps w)] (readR p w) (none) := by
  refine FSpec.of_body Tryz.func65 rfl (leB rfl) fun w0 M0 => ?_
  have hl := shws_len p.log
  have hsl := sps_len w
  refine AWP.seq ?_
  refine AWP.region ?_
  refine AOps.call (o_box _ rfl rfl rfl) ?_
  refine AOps.call (o_alloc ze91 rfl rfl) ?_
  refine AOps.call (o_assign _ rfl rfl) ?_
  refine AOps.nil ?_
  refine AWP.seq ?_
  refine AWP.seq ?_
  refine AWP.region ?_
  refine AOps.call (o_loadRef _ rfl rfl Tryz.sizeOf24 Tryz.isAgg24 rfl rfl rfl) ?_
  refine AOps.call (o_call (Check_s p) Tryz.call17 rfl rfl) ?_
  refine AOps.call (o_assign _ rfl rfl) ?_
  refine AOps.nil ?_
  refine AWP.seq ?_
  refine AWP.region ?_
  refine AOps.call (o_move _ rfl rfl) ?_
  refine AOps.call (o_bin _ _ rfl rfl (fun _ => rfl) rfl) ?_
  refine AOps.nil ?_
  refine AWP.cond _ rfl (fun h7 => ?_) (fun h7 => ?_)
  · skip
    have he : okP p = false := by
      cases hc : okP p with
      | false => rfl
      | true => simp [logE, hc] at h7
    refine AWP.seq ?_
    refine AWP.region ?_
    refine AOps.call (o_build bu91 rfl rfl rfl) ?_
    refine AOps.call (o_move _ rfl rfl) ?_
    refine AOps.cons (o_store _ _ rfl rfl Tryz.sizeOf91 rfl rfl rfl rfl rfl) ?_
    refine AOps.call (o_assign _ rfl rfl) ?_
    refine AOps.nil ?_
    refine AWP.ret ?_
    refine postQ.retC1 Tryz.results65 rfl rfl Tryz.sizeOf91 Tryz.isAgg91 rfl rfl ?_
    unfold readR
    first
    | (rw [if_pos he]; simp [logE, he]; rfl)
    | (rw [if_neg (by rw [he]; decide), if_pos hq]; rfl)
    | (rw [if_neg (by rw [he]; decide), if_neg (by rw [hq]; decide)]; rfl)
  · skip
    have he : okP p = true := by
      cases hc : okP p with
      | true => rfl
      | false => simp [logE, hc] at h7
    have hp := okP_iff.1 he
    have h32 := hp.len
    refine AWP.skip ?_
    refine AWP.seq ?_
    refine AWP.seq ?_
    refine AWP.region ?_
    refine AOps.call (o_move _ rfl rfl) ?_
    refine AOps.call (o_len _ Tryz.underlying38 rfl rfl) ?_
    refine AOps.call (o_fieldRef _ rfl fa24_6 rfl rfl) ?_
    refine AOps.call (o_loadRef _ rfl rfl Tryz.sizeOf22 Tryz.isAgg22 rfl rfl rfl) ?_
    refine AOps.call (o_len _ Tryz.underlying22 rfl rfl) ?_
    refine AOps.call (o_sub _ _ rfl rfl ⟨by (try dsimp only); omega, by (try dsimp only); omega⟩ rfl) ?_
    refine AOps.call (o_maxZ _ _ rfl rfl rfl) ?_
    refine AOps.call (o_bin _ _ rfl rfl (fun _ => rfl) rfl) ?_
    refine AOps.nil ?_
    refine AWP.cond _ rfl (fun h17 => ?_) (fun h17 => ?_)
    · skip
      have hq : okW p w = false := by
        cases hc : okW p w with
        | false => rfl
        | true =>
          simp only [okW, Bool.and_eq_true, decide_eq_true_eq] at hc
          simp at h17
          omega
      refine AWP.seq ?_
      refine AWP.region ?_
      refine AOps.call (o_build bu91 rfl rfl rfl) ?_
      refine AOps.cons (o_store _ _ rfl rfl Tryz.sizeOf91 rfl rfl rfl rfl rfl) ?_
      refine AOps.call (o_assign _ rfl rfl) ?_
      refine AOps.nil ?_
      refine AWP.ret ?_
      refine postQ.retC1 Tryz.results65 rfl rfl Tryz.sizeOf91 Tryz.isAgg91 rfl rfl ?_
      unfold readR
      first
      | (rw [if_pos he]; simp [logE, he]; rfl)
      | (rw [if_neg (by rw [he]; decide), if_pos hq]; rfl)
      | (rw [if_neg (by rw [he]; decide), if_neg (by rw [hq]; decide)]; rfl)
    · skip
      have hlw : w.length = p.log.length - 1 := by simp at h17; omega
      refine AWP.skip ?_
      refine AWP.seq ?_
      refine AWP.seq ?_
      refine AWP.region ?_
      refine AOps.call (o_move _ rfl rfl) ?_
      refine AOps.call (o_len _ Tryz.underlying38 rfl rfl) ?_
      refine AOps.call (o_move _ rfl rfl) ?_
      refine AOps.nil ?_
      refine AWP.block ?_
      refine AWP.loop (ι := Nat) (fun i => AS.mk' 51 [(1, .sl (sps w)), (2, .ref (2, 0) 0), (4, .ref (4, 0) 0), (24, .sl (sps w)), (25, I (sps w).length), (26, I i)] [((2, 0), eP p), ((4, 0), [I 0, I 0, I 0, I 0, I 0, I 0, .sc (.slice none 0 0), .sc (.slice none 0 0)])] [] [(2, 1), (4, 1)]) (fun i => i ≤ w.length ∧ w.all spB = (w.drop i).all spB) (fun i => w.length - i) (0) (Weak.mk' rfl ⟨⟨.refl rfl, rfl⟩, ⟨⟨.refl rfl, rfl⟩, ⟨⟨.refl rfl, rfl⟩, ⟨⟨.refl rfl, rfl⟩, ⟨⟨.refl rfl, rfl⟩, ⟨⟨.refl rfl, rfl⟩, trivial⟩⟩⟩⟩⟩⟩ ⟨⟨rfl, rfl, rfl⟩, ⟨⟨rfl, rfl, rfl⟩, trivial⟩⟩ trivial) (⟨Nat.zero_le _, rfl⟩) ?_
      rintro k ⟨hk, hv⟩
      try dsimp only at *
      refine AWP.seq ?_
      refine AWP.region ?_
      refine AOps.call (o_bin _ _ rfl rfl (fun _ => rfl) rfl) ?_
      refine AOps.nil ?_
      refine AWP.seq ?_
      refine AWP.cond _ rfl (fun h24 => ?_) (fun h24 => ?_)
      · skip
        have hlt : k < w.length := by simpa [sps] using h24
        have hel := sps_at hlt
        refine AWP.skip ?_
        refine AWP.seq ?_
        refine AWP.block ?_
        refine AWP.seq ?_
        refine AWP.region ?_
        refine AOps.call (o_index _ _ Tryz.underlying38 Tryz.sizeOf54 rfl rfl (by omega) (by assumption) rfl rfl) ?_
        refine AOps.call (o_loadRd _ rfl Tryz.sizeOf54 Tryz.isAgg54 rfl rfl rfl) ?_
        refine AOps.call (o_alloc ze54 rfl rfl) ?_
        refine AOps.cons (o_store _ _ rfl rfl Tryz.sizeOf54 rfl rfl rfl rfl rfl) ?_
        refine AOps.nil ?_
        refine AWP.seq ?_
        refine AWP.region ?_
        refine AOps.call (o_fieldRef _ rfl fa54_0 rfl rfl) ?_
        refine AOps.call (o_loadRef _ rfl rfl Tryz.sizeOf3 Tryz.isAgg3 rfl rfl rfl) ?_
        refine AOps.call (o_fieldRef _ rfl fa54_1 rfl rfl) ?_
        refine AOps.call (o_loadRef _ rfl rfl Tryz.sizeOf3 Tryz.isAgg3 rfl rfl rfl) ?_
        refine AOps.call (o_bin _ _ rfl rfl (fun _ => rfl) rfl) ?_
        refine AOps.call (o_move _ rfl rfl) ?_
        refine AOps.split rfl rfl rfl (fun h33 => ?_) (fun h33 => ?_)
        · skip
          refine AOps.go rfl rfl rfl h33 (o_fieldRef _ rfl fa54_0 rfl rfl) ?_
          refine AOps.go rfl rfl rfl h33 (o_loadRef _ rfl rfl Tryz.sizeOf3 Tryz.isAgg3 rfl rfl rfl) ?_
          refine AOps.go rfl rfl rfl h33 (o_bin _ _ rfl rfl (fun _ => rfl) rfl) ?_
          refine AOps.call (o_pickF _ _ _ rfl h33 rfl rfl) ?_
          refine AOps.call (o_move _ rfl rfl) ?_
          refine AOps.split rfl rfl rfl (fun h37 => ?_) (fun h37 => ?_)
          · skip
            refine AOps.go rfl rfl rfl h37 (o_fieldRef _ rfl fa54_1 rfl rfl) ?_
            refine AOps.go rfl rfl rfl h37 (o_loadRef _ rfl rfl Tryz.sizeOf3 Tryz.isAgg3 rfl rfl rfl) ?_
            refine AOps.go rfl rfl rfl h37 (o_bin _ _ rfl rfl (fun _ => rfl) rfl) ?_
            refine AOps.call (o_pickF _ _ _ rfl h37 rfl rfl) ?_
            refine AOps.nil ?_
            refine AWP.cond _ rfl (fun h41 => ?_) (fun h41 => ?_)
            · skip
              have hbk : spB w[k] = false := by
                cases hc : spB w[k] with
                | false => rfl
                | true =>
                  simp only [spB, Bool.and_eq_true, decide_eq_true_eq] at hc
                  simp_all [AV.close, B, I]
                  try omega
              have hq : okW p w = false := by
                unfold okW
                rw [hv, all_at hlt, hbk, Bool.false_and, Bool.and_false]
              refine AWP.seq ?_
              refine AWP.region ?_
              refine AOps.call (o_build bu91 rfl rfl rfl) ?_
              refine AOps.cons (o_store _ _ rfl rfl Tryz.sizeOf91 rfl rfl rfl rfl rfl) ?_
              refine AOps.call (o_assign _ rfl rfl) ?_
              refine AOps.nil ?_
              refine AWP.ret ?_
              refine postQ.retC1 Tryz.results65 rfl rfl Tryz.sizeOf91 Tryz.isAgg91 rfl rfl ?_
              unfold readR
              first
              | (rw [if_pos he]; simp [logE, he]; rfl)
              | (rw [if_neg (by rw [he]; decide), if_pos hq]; rfl)
              | (rw [if_neg (by rw [he]; decide), if_neg (by rw [hq]; decide)]; rfl)
            · skip
              have hbk : spB w[k] = true := by
                simp only [spB, Bool.and_eq_true, decide_eq_true_eq]
                simp_all [AV.close, B, I]
                try omega
              refine AWP.skip ?_
              refine AWP.region ?_
              refine AOps.call (o_add _ _ rfl rfl ⟨by (try dsimp only); omega, by (try dsimp only); omega⟩ rfl) ?_
              refine AOps.call (o_move _ rfl rfl) ?_
              refine AOps.nil ?_
              refine ⟨k + 1, ?_, (Weak.mk' rfl ⟨⟨.refl rfl, rfl⟩, ⟨⟨.refl rfl, rfl⟩, ⟨⟨.refl rfl, rfl⟩, ⟨⟨.refl rfl, rfl⟩, ⟨⟨.refl rfl, rfl⟩, ⟨⟨.refl rfl, rfl⟩, trivial⟩⟩⟩⟩⟩⟩ ⟨⟨rfl, rfl, rfl⟩, ⟨⟨rfl, rfl, rfl⟩, trivial⟩⟩ trivial)⟩
              exact ⟨⟨by omega, by rw [hv, all_at hlt, hbk, Bool.true_and]⟩, by omega⟩
          · skip
            refine AOps.pass rfl rfl rfl h37 rfl ?_
            refine AOps.pass rfl rfl rfl h37 rfl ?_
            refine AOps.pass rfl rfl rfl h37 rfl ?_
            refine AOps.call (o_pickT _ _ _ rfl h37 rfl rfl) ?_
            refine AOps.nil ?_
            refine AWP.condT rfl ?_
            have hbk : spB w[k] = false := by
              cases hc : spB w[k] with
              | false => rfl
              | true =>
                simp only [spB, Bool.and_eq_true, decide_eq_true_eq] at hc
                simp_all [AV.close, B, I]
                try omega
            have hq : okW p w = false := by
              unfold okW
              rw [hv, all_at hlt, hbk, Bool.false_and, Bool.and_false]
            refine AWP.seq ?_
            refine AWP.region ?_
            refine AOps.call (o_build bu91 rfl rfl rfl) ?_
            refine AOps.cons (o_store _ _ rfl rfl Tryz.sizeOf91 rfl rfl rfl rfl rfl) ?_
            refine AOps.call (o_assign _ rfl rfl) ?_
            refine AOps.nil ?_
            refine AWP.ret ?_
            refine postQ.retC1 Tryz.results65 rfl rfl Tryz.sizeOf91 Tryz.isAgg91 rfl rfl ?_
            unfold readR
            first
            | (rw [if_pos he]; simp [logE, he]; rfl)
            | (rw [if_neg (by rw [he]; decide), if_pos hq]; rfl)
            | (rw [if_neg (by rw [he]; decide), if_neg (by rw [hq]; decide)]; rfl)
        · skip
          refine AOps.pass rfl rfl rfl h33 rfl ?_
          refine AOps.pass rfl rfl rfl h33 rfl ?_
          refine AOps.pass rfl rfl rfl h33 rfl ?_
          refine AOps.call (o_pickT _ _ _ rfl h33 rfl rfl) ?_
          refine AOps.call (o_move _ rfl rfl) ?_
          refine AOps.pass rfl rfl rfl rfl rfl ?_
          refine AOps.pass rfl rfl rfl rfl rfl ?_
          refine AOps.pass rfl rfl rfl rfl rfl ?_
          refine AOps.call (o_pickT _ _ _ rfl rfl rfl rfl) ?_
          refine AOps.nil ?_
          refine AWP.condT rfl ?_
          have hbk : spB w[k] = false := by
            cases hc : spB w[k] with
            | false => rfl
            | true =>
              simp only [spB, Bool.and_eq_true, decide_eq_true_eq] at hc
              simp_all [AV.close, B, I]
              try omega
          have hq : okW p w = false := by
            unfold okW
            rw [hv, all_at hlt, hbk, Bool.false_and, Bool.and_false]
          refine AWP.seq ?_
          refine AWP.region ?_
          refine AOps.call (o_build bu91 rfl rfl rfl) ?_
          refine AOps.cons (o_store _ _ rfl rfl Tryz.sizeOf91 rfl rfl rfl rfl rfl) ?_
          refine AOps.call (o_assign _ rfl rfl) ?_
          refine AOps.nil ?_
          refine AWP.ret ?_
          refine postQ.retC1 Tryz.results65 rfl rfl Tryz.sizeOf91 Tryz.isAgg91 rfl rfl ?_
          unfold readR
          first
          | (rw [if_pos he]; simp [logE, he]; rfl)
          | (rw [if_neg (by rw [he]; decide), if_pos hq]; rfl)
          | (rw [if_neg (by rw [he]; decide), if_neg (by rw [hq]; decide)]; rfl)
      · skip
        have hall : w.all spB = true := by
          rw [hv, List.drop_eq_nil_of_le (by simp [sps] at h24; omega)]; rfl
        have hq : okW p w = true := by simp [okW, hlw, hall]
        refine AWP.exit ?_
        refine AWP.seq ?_
        refine AWP.region ?_
        refine AOps.call (o_loadRef _ rfl rfl Tryz.sizeOf24 Tryz.isAgg24 rfl rfl rfl) ?_
        refine AOps.call (o_build bu83 rfl rfl rfl) ?_
        refine AOps.call (o_move _ rfl rfl) ?_
        refine AOps.call (o_build bu91 rfl rfl rfl) ?_
        refine AOps.cons (o_store _ _ rfl rfl Tryz.sizeOf91 rfl rfl rfl rfl rfl) ?_
        refine AOps.call (o_assign _ rfl rfl) ?_
        refine AOps.nil ?_
        refine AWP.ret ?_
        refine postQ.retC1 Tryz.results65 rfl rfl Tryz.sizeOf91 Tryz.isAgg91 rfl rfl ?_
        unfold readR
        first
        | (rw [if_pos he]; simp [logE, he]; rfl)
        | (rw [if_neg (by rw [he]; decide), if_pos hq]; rfl)
        | (rw [if_neg (by rw [he]; decide), if_neg (by rw [hq]; decide)]; rfl)
end Go.Proofs.YtelenedgaoglaaaGreatDoor
set_option linter.unusedSimpArgs false
set_option linter.unusedVariables false
namespace Go.Proofs.YtelenedgaoglaaaGreatDoor
open Go.Ab
open Go.Pil
def caseB (p : Plw) (l : List Int) : Bool := decide (l.length = p.log.length ∧ Rt (p.pb []) l)
theorem caseE_eq (p : Plw) (l : List Int) : caseE p l = if okP p = false then 30 else if caseB p l = true then 0 else 31 := by
  unfold caseE caseB; simp only [decide_eq_true_eq]
def nxtP (p : Plw) (l : List Int) (k : Nat) : List Pl := (pl (p.pb []) (l.take k)).next (p.pb [])
theorem nxtP_len (p : Plw) (l : List Int) (k : Nat) : (nxtP p l k).length ≤ 3 := by
  unfold nxtP Pl.next
  refine Nat.le_trans (List.length_filter_le ..) ?_
  rw [List.length_map]; exact sts_len _ _
theorem nxtP_pl {p : Plw} (hp : OkP p) {l : List Int} {k : Nat} (hlt : k < l.length) (hr : Rt (p.pb []) (l.take k)) : (pl (p.pb []) (l.take k)).entry = (k : Int) - 1 ∧ 0 ≤ (pl (p.pb []) (l.take k)).faults ∧ (pl (p.pb []) (l.take k)).faults ≤ 32 := by
  have h1 : flt (l.take k) ≤ p.faults := hr.2.2.2
  have h2 := flt_nonneg (l.take k); have h3 := hp.faults
  have h4 : (l.take k).length = k := by rw [List.length_take]; omega
  refine ⟨?_, ?_, ?_⟩
  · show ((l.take k).length : Int) - 1 = _; rw [h4]
  · show 0 ≤ p.faults - flt (l.take k); omega
  · show p.faults - flt (l.take k) ≤ 32; omega
theorem nxtP_none {p : Plw} {l : List Int} {k : Nat} (hlt : k < l.length) (h : firstA (fun r : Pl => decide (r.state = l[k])) (nxtP p l k) 0 < 0) : caseB p l = false := by
  have h1 := firstA_none (Int.le_refl 0) h
  unfold caseB
  rw [decide_eq_false_iff_not]
  rintro ⟨_, hr⟩
  have h2 := rt_take _ hr (k + 1)
  rw [List.take_succ_eq_append_getElem hlt] at h2
  obtain ⟨r, hr, e⟩ := (next_mem _).2 ((rt_snoc _).1 h2).2
  have := h1 r hr
  simp [e] at this
theorem nxtP_some {p : Plw} {l : List Int} {k : Nat} (hlt : k < l.length) (hr : Rt (p.pb []) (l.take k)) (h : 0 ≤ firstA (fun r : Pl => decide (r.state = l[k])) (nxtP p l k) 0) :
    firstA (fun r : Pl => decide (r.state = l[k])) (nxtP p l k) 0 < (pls (nxtP p l k)).length ∧ (pls (nxtP p l k))[(firstA (fun r : Pl => decide (r.state = l[k])) (nxtP p l k) 0).toNat]? = some (eL (pl (p.pb []) (l.take (k + 1)))) ∧ Rt (p.pb []) (l.take (k + 1)) := by
  obtain ⟨m, hm, e, hq⟩ := firstA_some (Int.le_refl 0) h
  have hs : (nxtP p l k)[m].state = l[k] := by simpa using hq
  have hmem : (nxtP p l k)[m] ∈ (pl (p.pb []) (l.take k)).next (p.pb []) := List.getElem_mem hm
  have h1 := next_at _ hmem
  have h2 := (next_mem _).1 ⟨_, hmem, hs⟩
  rw [hs] at h1
  rw [List.take_succ_eq_append_getElem hlt, ← h1]
  refine ⟨by rw [e, pls_len]; omega, ?_, (rt_snoc _).2 ⟨hr, h2⟩⟩
  rw [e]
  have e2 : ((0 : Int) + (m : Nat)).toNat = m := by omega
  rw [e2]; simp [pls, hm]
set_option maxRecDepth 20000 in
theorem hasCase_s (p : Plw) (hp : OkP p) (l : List Int) (hl1 : l.length ≤ 9223372036854775807) : FSpec Tryz.prog 63 [.agg (eP p), .sl (ints l)] (B (caseB p l)) (none) := by
  refine FSpec.of_body Tryz.func63 rfl (leB rfl) fun w0 M0 => ?_
  have hl := shws_len p.log
  have h32 := hp.len
  have hil := ints_len l
  have hst : pl (p.pb []) (l.take 0) = ⟨-1, 0, p.faults⟩ := by simp [pl, flt, Plw.pb]
  have hr0 : Rt (p.pb []) (l.take 0) := (rem_nil (p.pb []) hp.faults.1).2.1
  refine AWP.seq ?_
  refine AWP.region ?_
  refine AOps.call (o_box _ rfl rfl rfl) ?_
  refine AOps.call (o_assign _ rfl rfl) ?_
  refine AOps.nil ?_
  refine AWP.seq ?_
  refine AWP.seq ?_
  refine AWP.region ?_
  refine AOps.call (o_move _ rfl rfl) ?_
  refine AOps.call (o_len _ Tryz.underlying25 rfl rfl) ?_
  refine AOps.call (o_fieldRef _ rfl fa83_0 rfl rfl) ?_
  refine AOps.call (o_fieldRef _ rfl fa24_6 rfl rfl) ?_
  refine AOps.call (o_loadRef _ rfl rfl Tryz.sizeOf22 Tryz.isAgg22 rfl rfl rfl) ?_
  refine AOps.call (o_len _ Tryz.underlying22 rfl rfl) ?_
  refine AOps.call (o_bin _ _ rfl rfl (fun _ => rfl) rfl) ?_
  refine AOps.nil ?_
  refine AWP.cond _ rfl (fun h9 => ?_) (fun h9 => ?_)
  · skip
    have hc : caseB p l = false := by
      unfold caseB
      rw [decide_eq_false_iff_not]
      rintro ⟨h, _⟩
      simp at h9
      omega
    refine AWP.seq ?_
    refine AWP.region ?_
    refine AOps.call (o_assign _ rfl rfl) ?_
    refine AOps.nil ?_
    refine AWP.ret ?_
    refine postQ.ret1 Tryz.results63 rfl ?_
    rw [hc]
    rfl
  · skip
    have hlen : l.length = p.log.length := by simp at h9; omega
    refine AWP.skip ?_
    refine AWP.seq ?_
    refine AWP.region ?_
    refine AOps.call (o_loadRef _ rfl rfl Tryz.sizeOf83 Tryz.isAgg83 rfl rfl rfl) ?_
    refine AOps.call (o_call (start_s p) Tryz.call87 rfl rfl) ?_
    refine AOps.call (o_alloc ze110 rfl rfl) ?_
    refine AOps.cons (o_store _ _ rfl rfl Tryz.sizeOf110 rfl rfl rfl rfl rfl) ?_
    refine AOps.nil ?_
    refine AWP.seq ?_
    refine AWP.seq ?_
    refine AWP.region ?_
    refine AOps.call (o_move _ rfl rfl) ?_
    refine AOps.call (o_len _ Tryz.underlying25 rfl rfl) ?_
    refine AOps.call (o_move _ rfl rfl) ?_
    refine AOps.nil ?_
    refine AWP.block ?_
    refine AWP.loop (ι := Nat) (fun i => AS.mk' 38 [(2, .ref (2, 0) 0), (5, .ref (5, 0) 0), (19, .sl (ints l)), (20, I (ints l).length), (21, I i)] [((2, 0), eP p), ((5, 0), eL (pl (p.pb []) (l.take i)))] [] [(2, 1), (5, 1)]) (fun i => i ≤ l.length ∧ Rt (p.pb []) (l.take i)) (fun i => l.length - i) (0) (Weak.mk' rfl ⟨⟨.refl rfl, rfl⟩, ⟨⟨.refl rfl, rfl⟩, ⟨⟨.refl rfl, rfl⟩, ⟨⟨.refl rfl, rfl⟩, ⟨⟨.refl rfl, rfl⟩, trivial⟩⟩⟩⟩⟩ ⟨⟨rfl, rfl, rfl⟩, ⟨⟨(by rw [hst]; rfl), rfl, rfl⟩, trivial⟩⟩ trivial) (⟨Nat.zero_le _, hr0⟩) ?_
    rintro k ⟨hk, hr⟩
    try dsimp only at *
    refine AWP.seq ?_
    refine AWP.region ?_
    refine AOps.call (o_bin _ _ rfl rfl (fun _ => rfl) rfl) ?_
    refine AOps.nil ?_
    refine AWP.seq ?_
    refine AWP.cond _ rfl (fun h17 => ?_) (fun h17 => ?_)
    · skip
      have hlt : k < l.length := by simpa [ints] using h17
      have hel := ints_at hlt
      have hpl := nxtP_pl hp hlt hr
      refine AWP.skip ?_
      refine AWP.seq ?_
      refine AWP.block ?_
      refine AWP.seq ?_
      refine AWP.region ?_
      refine AOps.call (o_index _ _ Tryz.underlying25 Tryz.sizeOf3 rfl rfl (by omega) (by assumption) rfl rfl) ?_
      refine AOps.call (o_loadRd _ rfl Tryz.sizeOf3 Tryz.isAgg3 rfl rfl rfl) ?_
      refine AOps.call (o_alloc ze3 rfl rfl) ?_
      refine AOps.cons (o_store _ _ rfl rfl Tryz.sizeOf3 rfl rfl rfl rfl rfl) ?_
      refine AOps.nil ?_
      refine AWP.seq ?_
      refine AWP.region ?_
      refine AOps.call (o_loadRef _ rfl rfl Tryz.sizeOf83 Tryz.isAgg83 rfl rfl rfl) ?_
      refine AOps.call (o_loadRef _ rfl rfl Tryz.sizeOf110 Tryz.isAgg110 rfl rfl rfl) ?_
      refine AOps.call (o_call (next_s p hp (pl (p.pb []) (l.take k)) (by omega) (by omega) (by omega)) Tryz.call88 rfl rfl) ?_
      refine AOps.call (o_assign _ rfl rfl) ?_
      refine AOps.nil ?_
      refine AWP.seq ?_
      refine AWP.region ?_
      refine AOps.call (o_move _ rfl rfl) ?_
      refine AOps.weak (Weak.frzv (id := (7, 0)) (t := 7) rfl rfl rfl) ?_
      refine AOps.call (o_makeClo rfl rfl) ?_
      refine AOps.call (o_call (IndexPl_s (nxtP p l k) l[k] (by have := nxtP_len p l k; omega)) Tryz.call89 rfl rfl) ?_
      refine AOps.call (o_assign _ rfl rfl) ?_
      refine AOps.nil ?_
      refine AWP.seq ?_
      refine AWP.seq ?_
      refine AWP.region ?_
      refine AOps.call (o_move _ rfl rfl) ?_
      refine AOps.call (o_bin _ _ rfl rfl (fun _ => rfl) rfl) ?_
      refine AOps.nil ?_
      refine AWP.cond _ rfl (fun h27 => ?_) (fun h27 => ?_)
      · skip
        have hc : caseB p l = false := nxtP_none hlt (of_decide_eq_true h27)
        refine AWP.seq ?_
        refine AWP.region ?_
        refine AOps.call (o_assign _ rfl rfl) ?_
        refine AOps.nil ?_
        refine AWP.ret ?_
        refine postQ.ret1 Tryz.results63 rfl ?_
        rw [hc]
        rfl
      · skip
        obtain ⟨hs1, hs2, hs3⟩ := nxtP_some hlt hr (Int.not_lt.1 (of_decide_eq_false h27))
        have hs0 := Int.not_lt.1 (of_decide_eq_false h27)
        refine AWP.skip ?_
        refine AWP.region ?_
        refine AOps.call (o_move _ rfl rfl) ?_
        refine AOps.call (o_move _ rfl rfl) ?_
        refine AOps.call (o_index _ _ Tryz.underlying125 Tryz.sizeOf110 rfl rfl (by omega) (by assumption) rfl rfl) ?_
        refine AOps.call (o_loadRd _ rfl Tryz.sizeOf110 Tryz.isAgg110 rfl rfl rfl) ?_
        refine AOps.cons (o_store _ _ rfl rfl Tryz.sizeOf110 rfl rfl rfl rfl rfl) ?_
        refine AOps.nil ?_
        refine AWP.region ?_
        refine AOps.call (o_add _ _ rfl rfl ⟨by (try dsimp only); omega, by (try dsimp only); omega⟩ rfl) ?_
        refine AOps.call (o_move _ rfl rfl) ?_
        refine AOps.nil ?_
        refine ⟨k + 1, ?_, (Weak.mk' rfl ⟨⟨.refl rfl, rfl⟩, ⟨⟨.refl rfl, rfl⟩, ⟨⟨.refl rfl, rfl⟩, ⟨⟨.refl rfl, rfl⟩, ⟨⟨.refl rfl, rfl⟩, trivial⟩⟩⟩⟩⟩ ⟨⟨rfl, rfl, rfl⟩, ⟨⟨rfl, rfl, rfl⟩, trivial⟩⟩ trivial)⟩
        exact ⟨⟨by omega, hs3⟩, by omega⟩
    · skip
      have hc : caseB p l = true := by
        have hkl : k = l.length := by simp [ints] at h17; omega
        subst hkl
        rw [List.take_length] at hr
        unfold caseB
        rw [decide_eq_true_eq]
        exact ⟨hlen, hr⟩
      refine AWP.exit ?_
      refine AWP.seq ?_
      refine AWP.region ?_
      refine AOps.call (o_assign _ rfl rfl) ?_
      refine AOps.nil ?_
      refine AWP.ret ?_
      refine postQ.ret1 Tryz.results63 rfl ?_
      rw [hc]
      rfl
set_option maxRecDepth 20000 in
theorem CheckCase_s (p : Plw) (l : List Int) (hl1 : l.length ≤ 9223372036854775807) : FSpec Tryz.prog 19 [.agg (eP p), .sl (ints l)] (I (caseE p l)) (none) := by
  refine FSpec.of_body Tryz.func19 rfl (leB rfl) fun w0 M0 => ?_
  refine AWP.seq ?_
  refine AWP.region ?_
  refine AOps.call (o_box _ rfl rfl rfl) ?_
  refine AOps.call (o_assign _ rfl rfl) ?_
  refine AOps.nil ?_
  refine AWP.seq ?_
  refine AWP.seq ?_
  refine AWP.region ?_
  refine AOps.call (o_loadRef _ rfl rfl Tryz.sizeOf24 Tryz.isAgg24 rfl rfl rfl) ?_
  refine AOps.call (o_call (Check_s p) Tryz.call17 rfl rfl) ?_
  refine AOps.call (o_assign _ rfl rfl) ?_
  refine AOps.nil ?_
  refine AWP.seq ?_
  refine AWP.region ?_
  refine AOps.call (o_move _ rfl rfl) ?_
  refine AOps.call (o_bin _ _ rfl rfl (fun _ => rfl) rfl) ?_
  refine AOps.nil ?_
  refine AWP.cond _ rfl (fun h6 => ?_) (fun h6 => ?_)
  · skip
    have he : okP p = false := by
      cases hc : okP p with
      | false => rfl
      | true => simp [logE, hc] at h6
    refine AWP.seq ?_
    refine AWP.region ?_
    refine AOps.call (o_move _ rfl rfl) ?_
    refine AOps.call (o_assign _ rfl rfl) ?_
    refine AOps.nil ?_
    refine AWP.ret ?_
    refine postQ.ret1 Tryz.results19 rfl ?_
    rw [caseE_eq]
    simp_all [AV.close, I, logE]
  · skip
    have he : okP p = true := by
      cases hc : okP p with
      | true => rfl
      | false => simp [logE, hc] at h6
    have hp := okP_iff.1 he
    refine AWP.skip ?_
    refine AWP.seq ?_
    refine AWP.seq ?_
    refine AWP.region ?_
    refine AOps.call (o_loadRef _ rfl rfl Tryz.sizeOf24 Tryz.isAgg24 rfl rfl rfl) ?_
    refine AOps.call (o_build bu83 rfl rfl rfl) ?_
    refine AOps.call (o_move _ rfl rfl) ?_
    refine AOps.call (o_call (hasCase_s p hp l hl1) Tryz.call63 rfl rfl) ?_
    refine AOps.call (o_un _ rfl (fun _ => rfl) rfl) ?_
    refine AOps.nil ?_
    refine AWP.cond _ rfl (fun h12 => ?_) (fun h12 => ?_)
    · skip
      refine AWP.seq ?_
      refine AWP.region ?_
      refine AOps.call (o_assign _ rfl rfl) ?_
      refine AOps.nil ?_
      refine AWP.ret ?_
      refine postQ.ret1 Tryz.results19 rfl ?_
      rw [caseE_eq]
      simp_all [AV.close, I, logE]
    · skip
      refine AWP.skip ?_
      refine AWP.seq ?_
      refine AWP.region ?_
      refine AOps.call (o_assign _ rfl rfl) ?_
      refine AOps.nil ?_
      refine AWP.ret ?_
      refine postQ.ret1 Tryz.results19 rfl ?_
      rw [caseE_eq]
      simp_all [AV.close, I, logE]
end Go.Proofs.YtelenedgaoglaaaGreatDoor
set_option linter.unusedSimpArgs false
set_option linter.unusedVariables false
namespace Go.Proofs.YtelenedgaoglaaaGreatDoor
open Go.Ab
open Go.Pil
theorem read_ok (p : Plw) (w : List Sp) (hw1 : w.length ≤ 9223372036854775807) (he : okP p = true) (hq : okW p w = true) : FSpec Tryz.prog 65 [.agg (eP p), .sl (sps w)] (.tup [.agg (eR p w), I 0]) none := by
  have h := read_s p w hw1
  unfold readR at h
  rwa [if_neg (by rw [he]; decide), if_neg (by rw [hq]; decide)] at h
theorem read_log (p : Plw) (w : List Sp) (hw1 : w.length ≤ 9223372036854775807) (he : okP p = false) : FSpec Tryz.prog 65 [.agg (eP p), .sl (sps w)] (.tup [.agg zR, I 30]) none := by
  have h := read_s p w hw1
  unfold readR at h
  rwa [if_pos he] at h
theorem read_arg (p : Plw) (w : List Sp) (hw1 : w.length ≤ 9223372036854775807) (he : okP p = true) (hq : okW p w = false) : FSpec Tryz.prog 65 [.agg (eP p), .sl (sps w)] (.tup [.agg zR, I 1]) none := by
  have h := read_s p w hw1
  unfold readR at h
  rwa [if_neg (by rw [he]; decide), if_pos hq] at h
set_option maxRecDepth 20000 in
theorem readCase_ok (p : Plw) (w : List Sp) (l : List Int) (hw1 : w.length ≤ 9223372036854775807) (hl1 : l.length ≤ 9223372036854775807) (he : okP p = true) (hq : okW p w = true) : FSpec Tryz.prog 69 [.agg (eP p), .sl (sps w), .sl (ints l)] (.tup [.agg (eR p w), I (caseE p l)]) (none) := by
  refine FSpec.of_body Tryz.func69 rfl (leB rfl) fun w0 M0 => ?_
  refine AWP.seq ?_
  refine AWP.region ?_
  refine AOps.call (o_box _ rfl rfl rfl) ?_
  refine AOps.call (o_alloc ze91 rfl rfl) ?_
  refine AOps.call (o_assign _ rfl rfl) ?_
  refine AOps.nil ?_
  refine AWP.seq ?_
  refine AWP.region ?_
  refine AOps.call (o_loadRef _ rfl rfl Tryz.sizeOf24 Tryz.isAgg24 rfl rfl rfl) ?_
  refine AOps.call (o_move _ rfl rfl) ?_
  refine AOps.call (o_call (read_ok p w hw1 he hq) Tryz.call65 rfl rfl) ?_
  refine AOps.call (o_move _ rfl rfl) ?_
  refine AOps.call (o_extract _ rfl rfl rfl rfl) ?_
  refine AOps.call (o_extract _ rfl rfl rfl rfl) ?_
  refine AOps.call (o_alloc ze91 rfl rfl) ?_
  refine AOps.cons (o_store _ _ rfl rfl Tryz.sizeOf91 rfl rfl rfl rfl rfl) ?_
  refine AOps.call (o_assign _ rfl rfl) ?_
  refine AOps.nil ?_
  refine AWP.seq ?_
  refine AWP.seq ?_
  refine AWP.region ?_
  refine AOps.call (o_move _ rfl rfl) ?_
  refine AOps.call (o_bin _ _ rfl rfl (fun _ => rfl) rfl) ?_
  refine AOps.nil ?_
  refine AWP.cond _ rfl (fun h11 => ?_) (fun h11 => ?_)
  · skip
    exfalso
    exact absurd h11 (by decide)
  · skip
    refine AWP.skip ?_
    refine AWP.seq ?_
    refine AWP.drawn 4 mixed (by kernel_rfl) ?_
    refine AHead.call (o_loadRef _ rfl rfl Tryz.sizeOf91 Tryz.isAgg91 rfl rfl rfl) rfl ?_
    refine AHead.call (o_loadRef _ rfl rfl Tryz.sizeOf24 Tryz.isAgg24 rfl rfl rfl) rfl ?_
    refine AHead.call (o_move _ rfl rfl) rfl ?_
    refine AHead.call (o_call (CheckCase_s p l hl1) Tryz.call19 rfl rfl) rfl ?_
    refine AHead.nil ?_
    refine AOps.cons (o_store _ _ rfl rfl Tryz.sizeOf91 rfl rfl rfl rfl rfl) ?_
    refine AOps.call (o_assign _ rfl rfl) ?_
    refine AOps.nil ?_
    refine AWP.ret ?_
    exact postQ.retC1 Tryz.results69 rfl rfl Tryz.sizeOf91 Tryz.isAgg91 rfl rfl rfl
set_option maxRecDepth 20000 in
theorem readCase_log (p : Plw) (w : List Sp) (l : List Int) (hw1 : w.length ≤ 9223372036854775807) (hl1 : l.length ≤ 9223372036854775807) (he : okP p = false) : FSpec Tryz.prog 69 [.agg (eP p), .sl (sps w), .sl (ints l)] (.tup [.agg zR, I 30]) (none) := by
  refine FSpec.of_body Tryz.func69 rfl (leB rfl) fun w0 M0 => ?_
  refine AWP.seq ?_
  refine AWP.region ?_
  refine AOps.call (o_box _ rfl rfl rfl) ?_
  refine AOps.call (o_alloc ze91 rfl rfl) ?_
  refine AOps.call (o_assign _ rfl rfl) ?_
  refine AOps.nil ?_
  refine AWP.seq ?_
  refine AWP.region ?_
  refine AOps.call (o_loadRef _ rfl rfl Tryz.sizeOf24 Tryz.isAgg24 rfl rfl rfl) ?_
  refine AOps.call (o_move _ rfl rfl) ?_
  refine AOps.call (o_call (read_log p w hw1 he) Tryz.call65 rfl rfl) ?_
  refine AOps.call (o_move _ rfl rfl) ?_
  refine AOps.call (o_extract _ rfl rfl rfl rfl) ?_
  refine AOps.call (o_extract _ rfl rfl rfl rfl) ?_
  refine AOps.call (o_alloc ze91 rfl rfl) ?_
  refine AOps.cons (o_store _ _ rfl rfl Tryz.sizeOf91 rfl rfl rfl rfl rfl) ?_
  refine AOps.call (o_assign _ rfl rfl) ?_
  refine AOps.nil ?_
  refine AWP.seq ?_
  refine AWP.seq ?_
  refine AWP.region ?_
  refine AOps.call (o_move _ rfl rfl) ?_
  refine AOps.call (o_bin _ _ rfl rfl (fun _ => rfl) rfl) ?_
  refine AOps.nil ?_
  refine AWP.cond _ rfl (fun h11 => ?_) (fun h11 => ?_)
  · skip
    refine AWP.seq ?_
    refine AWP.region ?_
    refine AOps.call (o_build bu91 rfl rfl rfl) ?_
    refine AOps.call (o_move _ rfl rfl) ?_
    refine AOps.cons (o_store _ _ rfl rfl Tryz.sizeOf91 rfl rfl rfl rfl rfl) ?_
    refine AOps.call (o_assign _ rfl rfl) ?_
    refine AOps.nil ?_
    refine AWP.ret ?_
    exact postQ.retC1 Tryz.results69 rfl rfl Tryz.sizeOf91 Tryz.isAgg91 rfl rfl rfl
  · skip
    exfalso
    exact absurd h11 (by decide)
set_option maxRecDepth 20000 in
theorem readCase_arg (p : Plw) (w : List Sp) (l : List Int) (hw1 : w.length ≤ 9223372036854775807) (hl1 : l.length ≤ 9223372036854775807) (he : okP p = true) (hq : okW p w = false) : FSpec Tryz.prog 69 [.agg (eP p), .sl (sps w), .sl (ints l)] (.tup [.agg zR, I 1]) (none) := by
  refine FSpec.of_body Tryz.func69 rfl (leB rfl) fun w0 M0 => ?_
  refine AWP.seq ?_
  refine AWP.region ?_
  refine AOps.call (o_box _ rfl rfl rfl) ?_
  refine AOps.call (o_alloc ze91 rfl rfl) ?_
  refine AOps.call (o_assign _ rfl rfl) ?_
  refine AOps.nil ?_
  refine AWP.seq ?_
  refine AWP.region ?_
  refine AOps.call (o_loadRef _ rfl rfl Tryz.sizeOf24 Tryz.isAgg24 rfl rfl rfl) ?_
  refine AOps.call (o_move _ rfl rfl) ?_
  refine AOps.call (o_call (read_arg p w hw1 he hq) Tryz.call65 rfl rfl) ?_
  refine AOps.call (o_move _ rfl rfl) ?_
  refine AOps.call (o_extract _ rfl rfl rfl rfl) ?_
  refine AOps.call (o_extract _ rfl rfl rfl rfl) ?_
  refine AOps.call (o_alloc ze91 rfl rfl) ?_
  refine AOps.cons (o_store _ _ rfl rfl Tryz.sizeOf91 rfl rfl rfl rfl rfl) ?_
  refine AOps.call (o_assign _ rfl rfl) ?_
  refine AOps.nil ?_
  refine AWP.seq ?_
  refine AWP.seq ?_
  refine AWP.region ?_
  refine AOps.call (o_move _ rfl rfl) ?_
  refine AOps.call (o_bin _ _ rfl rfl (fun _ => rfl) rfl) ?_
  refine AOps.nil ?_
  refine AWP.cond _ rfl (fun h11 => ?_) (fun h11 => ?_)
  · skip
    refine AWP.seq ?_
    refine AWP.region ?_
    refine AOps.call (o_build bu91 rfl rfl rfl) ?_
    refine AOps.call (o_move _ rfl rfl) ?_
    refine AOps.cons (o_store _ _ rfl rfl Tryz.sizeOf91 rfl rfl rfl rfl rfl) ?_
    refine AOps.call (o_assign _ rfl rfl) ?_
    refine AOps.nil ?_
    refine AWP.ret ?_
    exact postQ.retC1 Tryz.results69 rfl rfl Tryz.sizeOf91 Tryz.isAgg91 rfl rfl rfl
  · skip
    exfalso
    exact absurd h11 (by decide)
set_option maxRecDepth 20000 in
theorem begin_s (p : Plw) (w : List Sp) : FSpec Tryz.prog 79 [.agg (eR p w)] (.agg [I (-1), I 0, I p.faults, .sc (.slice none 0 0), I 0, I 0]) (none) := by
  refine FSpec.of_body Tryz.func79 rfl (leB rfl) fun w0 M0 => ?_
  refine AWP.seq ?_
  refine AWP.region ?_
  refine AOps.call (o_box _ rfl rfl rfl) ?_
  refine AOps.call (o_alloc ze112 rfl rfl) ?_
  refine AOps.nil ?_
  refine AWP.seq ?_
  refine AWP.region ?_
  refine AOps.call (o_fieldRef _ rfl fa91_0 rfl rfl) ?_
  refine AOps.call (o_loadRef _ rfl rfl Tryz.sizeOf83 Tryz.isAgg83 rfl rfl rfl) ?_
  refine AOps.call (o_call (start_s p) Tryz.call87 rfl rfl) ?_
  refine AOps.call (o_build bu112 rfl rfl rfl) ?_
  refine AOps.cons (o_store _ _ rfl rfl Tryz.sizeOf112 rfl rfl rfl rfl rfl) ?_
  refine AOps.nil ?_
  refine AWP.ret ?_
  exact postQ.retC Tryz.results79 rfl rfl Tryz.sizeOf112 Tryz.isAgg112 rfl rfl
end Go.Proofs.YtelenedgaoglaaaGreatDoor
set_option linter.unusedSimpArgs false
set_option linter.unusedVariables false
namespace Go.Proofs.YtelenedgaoglaaaGreatDoor
open Go.Ab
open Go.Pil
def stA (l : List Int) (n : Nat) : Int := l.getD n 0
theorem ints_atD {l : List Int} {k : Nat} (h : k < l.length) : (ints l)[((k : Nat) : Int).toNat]? = some [I (stA l k)] := by
  unfold stA; rw [List.getD_eq_getElem?_getD, List.getElem?_eq_getElem h]; exact ints_at h
theorem against_iff (p : Plw) (w : List Sp) (l : List Int) (i k : Nat) (hik : i ≤ k) : decide ((((p.allow k (stA l k)).minus (p.allow i (stA l i))).meet (Sm (wf w) i (k - i))).hi < (((p.allow k (stA l k)).minus (p.allow i (stA l i))).meet (Sm (wf w) i (k - i))).lo) = decide (againstP p w l i k) := by
  rw [decide_eq_decide]
  have e : i + (k - i) = k := by omega
  unfold againstP Ag Sp.Ne
  rw [e]
  exact Int.not_le.symm
set_option maxRecDepth 20000 in
theorem contr1_s (p : Plw) (w : List Sp) (l : List Int) (hp : OkP p) (hw : okW p w = true) (hll : l.length = p.log.length) (n : Nat) (h : n < l.length) : FSpec Tryz.prog 102 [I n, .rd (eR p w), .rd [.sl (ints l)]] (.agg (eN (p.allow n (stA l n)))) (none) := by
  refine FSpec.of_body Tryz.func102 rfl (leB rfl) fun w0 M0 => ?_
  have hil := ints_len l
  have hel := ints_atD h
  refine AWP.seq ?_
  refine AWP.region ?_
  refine AOps.call (o_alloc ze54 rfl rfl) ?_
  refine AOps.nil ?_
  refine AWP.seq ?_
  refine AWP.drawn 8 mixed (by kernel_rfl) ?_
  refine AHead.call (o_fieldRd _ rfl fa91_0 rfl) rfl ?_
  refine AHead.call (o_loadRd _ rfl Tryz.sizeOf83 Tryz.isAgg83 rfl rfl rfl) rfl ?_
  refine AHead.call (o_move _ rfl rfl) rfl ?_
  refine AHead.call (o_loadRd _ rfl Tryz.sizeOf25 Tryz.isAgg25 rfl rfl rfl) rfl ?_
  refine AHead.call (o_move _ rfl rfl) rfl ?_
  refine AHead.call (o_index _ _ Tryz.underlying25 Tryz.sizeOf3 rfl rfl (by omega) (by assumption) rfl rfl) rfl ?_
  refine AHead.call (o_loadRd _ rfl Tryz.sizeOf3 Tryz.isAgg3 rfl rfl rfl) rfl ?_
  refine AHead.call (o_call (allowed_s p hp n (stA l n) (by omega)) Tryz.call103 rfl rfl) rfl ?_
  refine AHead.nil ?_
  refine AOps.cons (o_store _ _ rfl rfl Tryz.sizeOf54 rfl rfl rfl rfl rfl) ?_
  refine AOps.nil ?_
  refine AWP.ret ?_
  exact postQ.retC Tryz.results102 rfl rfl Tryz.sizeOf54 Tryz.isAgg54 rfl rfl
set_option maxRecDepth 20000 in
theorem contr2_s (p : Plw) (w : List Sp) (l : List Int) (hp : OkP p) (hw : okW p w = true) (hll : l.length = p.log.length) (i k : Nat) (hik : i ≤ k) (hk : k < l.length) : FSpec Tryz.prog 104 [I i, I k, .rd [.clo 102 [.rd (eR p w), .rd [.sl (ints l)]]], .rd (eR p w)] (B (decide (againstP p w l i k))) (none) := by
  refine FSpec.of_body Tryz.func104 rfl (leB rfl) fun w0 M0 => ?_
  have hb := okW_WB hw
  have hwl : w.length = p.log.length - 1 := by simp only [okW, Bool.and_eq_true, decide_eq_true_eq] at hw; exact hw.1
  have h32 := hp.len
  have hki := hp.allow_in k (stA l k)
  have hii := hp.allow_in i (stA l i)
  have hkn := hp.allow_ne k (stA l k)
  have hin := hp.allow_ne i (stA l i)
  simp only [Sp.Ne] at hkn hin
  have hmi : inI64 ((p.allow k (stA l k)).lo - (p.allow i (stA l i)).hi) ∧ inI64 ((p.allow k (stA l k)).hi - (p.allow i (stA l i)).lo) := by simp only [okRange]; omega
  refine AWP.seq ?_
  refine AWP.region ?_
  refine AOps.call (o_assign _ rfl rfl) ?_
  refine AOps.nil ?_
  refine AWP.seq ?_
  refine AWP.drawn 15 mixed (by kernel_rfl) ?_
  refine AHead.call (o_loadRd _ rfl Tryz.sizeOf138 Tryz.isAgg138 rfl rfl rfl) rfl ?_
  refine AHead.call (o_move _ rfl rfl) rfl ?_
  refine AHead.call (o_callV (cl := [I k]) (ccl := [.rd (eR p w), .rd [.sl (ints l)]]) _ rfl (contr1_s p w l hp hw hll k hk) Tryz.call102 rfl rfl rfl) rfl ?_
  refine AHead.call (o_loadRd _ rfl Tryz.sizeOf138 Tryz.isAgg138 rfl rfl rfl) rfl ?_
  refine AHead.call (o_move _ rfl rfl) rfl ?_
  refine AHead.call (o_callV (cl := [I i]) (ccl := [.rd (eR p w), .rd [.sl (ints l)]]) _ rfl (contr1_s p w l hp hw hll i (by omega)) Tryz.call102 rfl rfl rfl) rfl ?_
  refine AHead.call (o_call (minus_s (p.allow k (stA l k)) (p.allow i (stA l i)) hmi) Tryz.call97 rfl rfl) rfl ?_
  refine AHead.call (o_fieldRd _ rfl fa91_1 rfl) rfl ?_
  refine AHead.call (o_loadRd _ rfl Tryz.sizeOf89 Tryz.isAgg89 rfl rfl rfl) rfl ?_
  refine AHead.call (o_move _ rfl rfl) rfl ?_
  refine AHead.call (o_move _ rfl rfl) rfl ?_
  refine AHead.call (o_call (between_s w i k hik (by omega) hb (by omega)) Tryz.call98 rfl rfl) rfl ?_
  refine AHead.call (o_call (meet_s ((p.allow k (stA l k)).minus (p.allow i (stA l i))) (Sm (wf w) i (k - i))) Tryz.call96 rfl rfl) rfl ?_
  refine AHead.call (o_call (isEmpty_s (((p.allow k (stA l k)).minus (p.allow i (stA l i))).meet (Sm (wf w) i (k - i)))) Tryz.call95 rfl rfl) rfl ?_
  refine AHead.call (o_assign _ rfl rfl) rfl ?_
  refine AHead.nil ?_
  refine AOps.nil ?_
  refine AWP.ret ?_
  refine postQ.ret1 Tryz.results104 rfl ?_
  rw [← against_iff p w l i k hik]
  rfl
end Go.Proofs.YtelenedgaoglaaaGreatDoor
set_option linter.unusedSimpArgs false
set_option linter.unusedVariables false
namespace Go.Proofs.YtelenedgaoglaaaGreatDoor
open Go.Ab
open Go.Pil
set_option maxRecDepth 20000 in
theorem contradiction_s (p : Plw) (w : List Sp) (l : List Int) : FSpec Tryz.prog 74 [.agg (eR p w), .sl (ints l)] (.clo 104 [.rd [.clo 102 [.rd (eR p w), .rd [.sl (ints l)]]], .rd (eR p w)]) (none) := by
  refine FSpec.of_body Tryz.func74 rfl (leB rfl) fun w0 M0 => ?_
  refine AWP.seq ?_
  refine AWP.region ?_
  refine AOps.call (o_box _ rfl rfl rfl) ?_
  refine AOps.call (o_box _ rfl rfl rfl) ?_
  refine AOps.call (o_assign _ rfl rfl) ?_
  refine AOps.nil ?_
  refine AWP.seq ?_
  refine AWP.region ?_
  refine AOps.weak (Weak.frzv (id := (2, 0)) (t := 2) rfl rfl rfl) ?_
  refine AOps.weak (Weak.frzv (id := (3, 0)) (t := 3) rfl rfl rfl) ?_
  refine AOps.call (o_makeClo rfl rfl) ?_
  refine AOps.call (o_alloc ze138 rfl rfl) ?_
  refine AOps.cons (o_store _ _ rfl rfl Tryz.sizeOf138 rfl rfl rfl rfl rfl) ?_
  refine AOps.nil ?_
  refine AWP.seq ?_
  refine AWP.region ?_
  refine AOps.weak (Weak.frzv (id := (5, 0)) (t := 5) rfl rfl rfl) ?_
  refine AOps.call (o_makeClo rfl rfl) ?_
  refine AOps.call (o_assign _ rfl rfl) ?_
  refine AOps.nil ?_
  refine AWP.ret ?_
  exact postQ.ret1 Tryz.results74 rfl rfl
end Go.Proofs.YtelenedgaoglaaaGreatDoor
set_option linter.unusedSimpArgs false
set_option linter.unusedVariables false
namespace Go.Proofs.YtelenedgaoglaaaGreatDoor
open Go.Ab
open Go.Pil
set_option maxRecDepth 20000 in
theorem ints_s (a b : List Int) (hl : a.length ≤ 1000000) : FSpec Tryz.prog 49 [.sl (ints a), .sl (ints b)] (B (decide (a = b))) (none) := by
  refine FSpec.of_body Tryz.func49 rfl (leB rfl) fun w0 M0 => ?_
  have hpl := ints_len a
  have hql := ints_len b
  refine AWP.seq ?_
  refine AWP.region ?_
  refine AOps.call (o_assign _ rfl rfl) ?_
  refine AOps.nil ?_
  refine AWP.seq ?_
  refine AWP.seq ?_
  refine AWP.region ?_
  refine AOps.call (o_move _ rfl rfl) ?_
  refine AOps.call (o_len _ Tryz.underlying25 rfl rfl) ?_
  refine AOps.call (o_move _ rfl rfl) ?_
  refine AOps.call (o_len _ Tryz.underlying25 rfl rfl) ?_
  refine AOps.call (o_bin _ _ rfl rfl (fun _ => rfl) rfl) ?_
  refine AOps.nil ?_
  refine AWP.cond _ rfl (fun h6 => ?_) (fun h6 => ?_)
  · skip
    have hne : ¬ a.length = b.length := by
      have hq : ¬(((ints a).length : Nat) : Int) = ((ints b).length : Nat) := by simpa using h6
      omega
    have hE : decide (a = b) = false := decide_eq_false fun h => hne (by rw [h])
    refine AWP.seq ?_
    refine AWP.region ?_
    refine AOps.call (o_assign _ rfl rfl) ?_
    refine AOps.nil ?_
    refine AWP.ret ?_
    refine postQ.ret1 Tryz.results49 rfl ?_
    rw [hE]
    rfl
  · skip
    have hlen : a.length = b.length := by
      have hq : (((ints a).length : Nat) : Int) = ((ints b).length : Nat) := by simpa using h6
      omega
    refine AWP.skip ?_
    refine AWP.seq ?_
    refine AWP.seq ?_
    refine AWP.region ?_
    refine AOps.call (o_assign _ rfl rfl) ?_
    refine AOps.nil ?_
    refine AWP.block ?_
    refine AWP.loop (ι := Nat) (fun i => AS.mk' 26 [(0, .sl (ints a)), (1, .sl (ints b)), (5, I i)] [] [] []) (fun i => i ≤ a.length ∧ a.take i = b.take i) (fun i => a.length - i) (0) (Weak.mk' rfl ⟨⟨.refl rfl, rfl⟩, ⟨⟨.refl rfl, rfl⟩, ⟨⟨.refl rfl, rfl⟩, trivial⟩⟩⟩ trivial trivial) (⟨Nat.zero_le _, rfl⟩) ?_
    rintro k ⟨hk, heq⟩
    try dsimp only at *
    refine AWP.seq ?_
    refine AWP.seq ?_
    refine AWP.region ?_
    refine AOps.call (o_move _ rfl rfl) ?_
    refine AOps.call (o_move _ rfl rfl) ?_
    refine AOps.call (o_len _ Tryz.underlying25 rfl rfl) ?_
    refine AOps.call (o_bin _ _ rfl rfl (fun _ => rfl) rfl) ?_
    refine AOps.nil ?_
    refine AWP.cond _ rfl (fun h11 => ?_) (fun h11 => ?_)
    · skip
      have hlt : k < a.length := by have hq := of_decide_eq_true h11; omega
      have hlt2 : k < b.length := by omega
      have hel := ints_at hlt
      have hel2 := ints_at hlt2
      refine AWP.skip ?_
      refine AWP.seq ?_
      refine AWP.block ?_
      refine AWP.seq ?_
      refine AWP.drawn 9 mixed (by kernel_rfl) ?_
      refine AHead.call (o_move _ rfl rfl) rfl ?_
      refine AHead.call (o_move _ rfl rfl) rfl ?_
      refine AHead.call (o_index _ _ Tryz.underlying25 Tryz.sizeOf3 rfl rfl (by omega) hel rfl rfl) rfl ?_
      refine AHead.call (o_loadRd _ rfl Tryz.sizeOf3 Tryz.isAgg3 rfl rfl rfl) rfl ?_
      refine AHead.call (o_move _ rfl rfl) rfl ?_
      refine AHead.call (o_move _ rfl rfl) rfl ?_
      refine AHead.call (o_index _ _ Tryz.underlying25 Tryz.sizeOf3 rfl rfl (by omega) hel2 rfl rfl) rfl ?_
      refine AHead.call (o_loadRd _ rfl Tryz.sizeOf3 Tryz.isAgg3 rfl rfl rfl) rfl ?_
      refine AHead.call (o_bin _ _ rfl rfl (fun _ => rfl) rfl) rfl ?_
      refine AHead.nil ?_
      refine AOps.nil ?_
      refine AWP.cond _ rfl (fun h19 => ?_) (fun h19 => ?_)
      · skip
        have hne : ¬ a[k] = b[k] := by simpa using h19
        have hE : decide (a = b) = false := decide_eq_false fun h => hne (by subst h; rfl)
        refine AWP.seq ?_
        refine AWP.region ?_
        refine AOps.call (o_assign _ rfl rfl) ?_
        refine AOps.nil ?_
        refine AWP.ret ?_
        refine postQ.ret1 Tryz.results49 rfl ?_
        rw [hE]
        rfl
      · skip
        have hsame : a[k] = b[k] := by simpa using h19
        refine AWP.skip ?_
        refine AWP.region ?_
        refine AOps.call (o_move _ rfl rfl) ?_
        refine AOps.call (o_add _ _ rfl rfl ⟨by (try dsimp only); omega, by (try dsimp only); omega⟩ rfl) ?_
        refine AOps.call (o_assign _ rfl rfl) ?_
        refine AOps.nil ?_
        refine ⟨k + 1, ?_, (Weak.mk' rfl ⟨⟨.refl rfl, rfl⟩, ⟨⟨.refl rfl, rfl⟩, ⟨⟨.refl rfl, rfl⟩, trivial⟩⟩⟩ trivial trivial)⟩
        exact ⟨⟨by omega, by rw [List.take_succ_eq_append_getElem hlt, List.take_succ_eq_append_getElem hlt2, heq, hsame]⟩, by omega⟩
    · skip
      have hkl : k = a.length := by have hq := of_decide_eq_false h11; omega
      have hE : decide (a = b) = true := decide_eq_true (by rw [hkl, List.take_length] at heq; rw [heq, hlen, List.take_length])
      refine AWP.exit ?_
      refine AWP.seq ?_
      refine AWP.region ?_
      refine AOps.call (o_assign _ rfl rfl) ?_
      refine AOps.nil ?_
      refine AWP.ret ?_
      refine postQ.ret1 Tryz.results49 rfl ?_
      rw [hE]
      rfl
end Go.Proofs.YtelenedgaoglaaaGreatDoor
