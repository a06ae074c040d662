import Derived.Test.YtphoomnonenalaaDoorM6
import Derived.Test.YtphoomnonenalaaDoorAb20
import Derived.Test.YtphoomnonenalaaDoorC14
set_option linter.unusedSimpArgs false
set_option linter.unusedVariables false
namespace Go.Proofs.YtphoomnonenalaaDoor
open Go.Ab
theorem Drift_r (s : Scl) (day known : Int) : FSpec Tryd.prog 22 [.agg (eS s), I day, I known] (.tup [.agg (eP (drR s day known)), I (askE s [day, known])]) none := by
  have h := Drift_s s day known
  unfold drR
  by_cases hz : askE s [day, known] = 0
  · rw [if_pos hz] at h; rw [if_pos hz, hz]; exact h
  · rw [if_neg hz] at h; rw [if_neg hz]; exact h
theorem Turn_r (s : Scl) (a b known : Int) : FSpec Tryd.prog 24 [.agg (eS s), I a, I b, I known] (.tup [.agg (eP (tnR s a b known)), I (askE s [a, b, known])]) none := by
  have h := Turn_s s a b known
  unfold tnR
  by_cases hz : askE s [a, b, known] = 0
  · rw [if_pos hz] at h; rw [if_pos hz, hz]; exact h
  · rw [if_neg hz] at h; rw [if_neg hz]; exact h

set_option maxRecDepth 20000 in
theorem More44_s (h : Sht) (i d0 d1 d2 d3 : Int) (c : Scl) (k : Int) : FSpec Tryd.prog 44 [.agg (eS c), I k, .rd [I d0, I d1, I d2, I d3]] (.tup [.agg (eP (drR c d0 k)), I (askE c [d0, k])]) (none) := by
  refine FSpec.of_body Tryd.func44 rfl (leB rfl) fun w0 M0 => ?_
  refine AWP.seq ?_
  refine AWP.region ?_
  refine AOps.call (o_box _ rfl rfl rfl) ?_
  refine AOps.call (o_alloc ze40 rfl rfl) ?_
  refine AOps.call (o_assign _ rfl rfl) ?_
  refine AOps.nil ?_
  refine AWP.seq ?_
  refine AWP.region ?_
  refine AOps.call (o_loadRef _ rfl rfl Tryd.sizeOf24 Tryd.isAgg24 rfl rfl rfl) ?_
  refine AOps.call (o_indexArrRd _ _ Tryd.underlying69 Tryd.sizeOf3 rfl rfl (by omega) (by omega) rfl rfl) ?_
  refine AOps.call (o_loadRd _ rfl Tryd.sizeOf3 Tryd.isAgg3 rfl rfl rfl) ?_
  refine AOps.call (o_move _ rfl rfl) ?_
  refine AOps.call (o_call (Drift_r c d0 k) Tryd.call22 rfl rfl) ?_
  refine AOps.call (o_extract _ rfl rfl rfl rfl) ?_
  refine AOps.call (o_extract _ rfl rfl rfl rfl) ?_
  refine AOps.cons (o_store _ _ rfl rfl Tryd.sizeOf40 rfl rfl rfl rfl rfl) ?_
  refine AOps.call (o_assign _ rfl rfl) ?_
  refine AOps.nil ?_
  refine AWP.ret ?_
  exact postQ.retC1 Tryd.results44 rfl rfl Tryd.sizeOf40 Tryd.isAgg40 rfl rfl rfl

set_option maxRecDepth 20000 in
theorem More45_s (h : Sht) (i d0 d1 d2 d3 : Int) (c : Scl) (k : Int) : FSpec Tryd.prog 45 [.agg (eS c), I k, .rd [I d0, I d1, I d2, I d3]] (.tup [.agg (eP (tnR c d0 d1 k)), I (askE c [d0, d1, k])]) (none) := by
  refine FSpec.of_body Tryd.func45 rfl (leB rfl) fun w0 M0 => ?_
  refine AWP.seq ?_
  refine AWP.region ?_
  refine AOps.call (o_box _ rfl rfl rfl) ?_
  refine AOps.call (o_alloc ze40 rfl rfl) ?_
  refine AOps.call (o_assign _ rfl rfl) ?_
  refine AOps.nil ?_
  refine AWP.seq ?_
  refine AWP.region ?_
  refine AOps.call (o_loadRef _ rfl rfl Tryd.sizeOf24 Tryd.isAgg24 rfl rfl rfl) ?_
  refine AOps.call (o_indexArrRd _ _ Tryd.underlying69 Tryd.sizeOf3 rfl rfl (by omega) (by omega) rfl rfl) ?_
  refine AOps.call (o_loadRd _ rfl Tryd.sizeOf3 Tryd.isAgg3 rfl rfl rfl) ?_
  refine AOps.call (o_indexArrRd _ _ Tryd.underlying69 Tryd.sizeOf3 rfl rfl (by omega) (by omega) rfl rfl) ?_
  refine AOps.call (o_loadRd _ rfl Tryd.sizeOf3 Tryd.isAgg3 rfl rfl rfl) ?_
  refine AOps.call (o_move _ rfl rfl) ?_
  refine AOps.call (o_call (Turn_r c d0 d1 k) Tryd.call24 rfl rfl) ?_
  refine AOps.call (o_extract _ rfl rfl rfl rfl) ?_
  refine AOps.call (o_extract _ rfl rfl rfl rfl) ?_
  refine AOps.cons (o_store _ _ rfl rfl Tryd.sizeOf40 rfl rfl rfl rfl rfl) ?_
  refine AOps.call (o_assign _ rfl rfl) ?_
  refine AOps.nil ?_
  refine AWP.ret ?_
  exact postQ.retC1 Tryd.results45 rfl rfl Tryd.sizeOf40 Tryd.isAgg40 rfl rfl rfl

set_option maxRecDepth 20000 in
theorem More46_s (h : Sht) (i d0 d1 d2 d3 : Int) (c : Scl) (k : Int) : FSpec Tryd.prog 46 [.agg (eS c), I k, .rd (eH h), .rd [I i]] (.tup [.agg (eP (corR c h i k)), I (watE c h i k)]) (none) := by
  refine FSpec.of_body Tryd.func46 rfl (leB rfl) fun w0 M0 => ?_
  refine AWP.seq ?_
  refine AWP.region ?_
  refine AOps.call (o_box _ rfl rfl rfl) ?_
  refine AOps.call (o_alloc ze40 rfl rfl) ?_
  refine AOps.call (o_assign _ rfl rfl) ?_
  refine AOps.nil ?_
  refine AWP.seq ?_
  refine AWP.region ?_
  refine AOps.call (o_loadRef _ rfl rfl Tryd.sizeOf24 Tryd.isAgg24 rfl rfl rfl) ?_
  refine AOps.call (o_loadRd _ rfl Tryd.sizeOf54 Tryd.isAgg54 rfl rfl rfl) ?_
  refine AOps.call (o_loadRd _ rfl Tryd.sizeOf3 Tryd.isAgg3 rfl rfl rfl) ?_
  refine AOps.call (o_move _ rfl rfl) ?_
  refine AOps.call (o_call (Core_s c h i k) Tryd.call31 rfl rfl) ?_
  refine AOps.call (o_extract _ rfl rfl rfl rfl) ?_
  refine AOps.call (o_extract _ rfl rfl rfl rfl) ?_
  refine AOps.cons (o_store _ _ rfl rfl Tryd.sizeOf40 rfl rfl rfl rfl rfl) ?_
  refine AOps.call (o_assign _ rfl rfl) ?_
  refine AOps.nil ?_
  refine AWP.ret ?_
  exact postQ.retC1 Tryd.results46 rfl rfl Tryd.sizeOf40 Tryd.isAgg40 rfl rfl rfl

set_option maxRecDepth 20000 in
theorem More47_s (h : Sht) (i d0 d1 d2 d3 : Int) (c : Scl) (k : Int) : FSpec Tryd.prog 47 [.agg (eS c), I k, .rd (eH h), .rd [I i]] (.tup [.agg (eP (watR c h i k)), I (watE c h i k)]) (none) := by
  refine FSpec.of_body Tryd.func47 rfl (leB rfl) fun w0 M0 => ?_
  refine AWP.seq ?_
  refine AWP.region ?_
  refine AOps.call (o_box _ rfl rfl rfl) ?_
  refine AOps.call (o_alloc ze40 rfl rfl) ?_
  refine AOps.call (o_assign _ rfl rfl) ?_
  refine AOps.nil ?_
  refine AWP.seq ?_
  refine AWP.region ?_
  refine AOps.call (o_loadRef _ rfl rfl Tryd.sizeOf24 Tryd.isAgg24 rfl rfl rfl) ?_
  refine AOps.call (o_loadRd _ rfl Tryd.sizeOf54 Tryd.isAgg54 rfl rfl rfl) ?_
  refine AOps.call (o_loadRd _ rfl Tryd.sizeOf3 Tryd.isAgg3 rfl rfl rfl) ?_
  refine AOps.call (o_move _ rfl rfl) ?_
  refine AOps.call (o_call (Water_s c h i k) Tryd.call33 rfl rfl) ?_
  refine AOps.call (o_extract _ rfl rfl rfl rfl) ?_
  refine AOps.call (o_extract _ rfl rfl rfl rfl) ?_
  refine AOps.cons (o_store _ _ rfl rfl Tryd.sizeOf40 rfl rfl rfl rfl rfl) ?_
  refine AOps.call (o_assign _ rfl rfl) ?_
  refine AOps.nil ?_
  refine AWP.ret ?_
  exact postQ.retC1 Tryd.results47 rfl rfl Tryd.sizeOf40 Tryd.isAgg40 rfl rfl rfl

set_option maxRecDepth 20000 in
theorem More48_s (h : Sht) (i d0 d1 d2 d3 : Int) (c : Scl) (k : Int) : FSpec Tryd.prog 48 [.agg (eS c), I k, .rd (eH h), .rd [I i]] (.tup [.agg (eP (denR c h i k)), I (denE c h i k)]) (none) := by
  refine FSpec.of_body Tryd.func48 rfl (leB rfl) fun w0 M0 => ?_
  refine AWP.seq ?_
  refine AWP.region ?_
  refine AOps.call (o_box _ rfl rfl rfl) ?_
  refine AOps.call (o_alloc ze40 rfl rfl) ?_
  refine AOps.call (o_assign _ rfl rfl) ?_
  refine AOps.nil ?_
  refine AWP.seq ?_
  refine AWP.region ?_
  refine AOps.call (o_loadRef _ rfl rfl Tryd.sizeOf24 Tryd.isAgg24 rfl rfl rfl) ?_
  refine AOps.call (o_loadRd _ rfl Tryd.sizeOf54 Tryd.isAgg54 rfl rfl rfl) ?_
  refine AOps.call (o_loadRd _ rfl Tryd.sizeOf3 Tryd.isAgg3 rfl rfl rfl) ?_
  refine AOps.call (o_move _ rfl rfl) ?_
  refine AOps.call (o_call (Density_s c h i k) Tryd.call49 rfl rfl) ?_
  refine AOps.call (o_extract _ rfl rfl rfl rfl) ?_
  refine AOps.call (o_extract _ rfl rfl rfl rfl) ?_
  refine AOps.cons (o_store _ _ rfl rfl Tryd.sizeOf40 rfl rfl rfl rfl rfl) ?_
  refine AOps.call (o_assign _ rfl rfl) ?_
  refine AOps.nil ?_
  refine AWP.ret ?_
  exact postQ.retC1 Tryd.results48 rfl rfl Tryd.sizeOf40 Tryd.isAgg40 rfl rfl rfl

set_option maxRecDepth 20000 in
theorem More50_s (h : Sht) (i d0 d1 d2 d3 : Int) (c : Scl) (k : Int) : FSpec Tryd.prog 50 [.agg (eS c), I k, .rd (eH h)] (.tup [.agg (eP (couR c h k)), I (watE c h 0 k)]) (none) := by
  refine FSpec.of_body Tryd.func50 rfl (leB rfl) fun w0 M0 => ?_
  refine AWP.seq ?_
  refine AWP.region ?_
  refine AOps.call (o_box _ rfl rfl rfl) ?_
  refine AOps.call (o_alloc ze40 rfl rfl) ?_
  refine AOps.call (o_assign _ rfl rfl) ?_
  refine AOps.nil ?_
  refine AWP.seq ?_
  refine AWP.region ?_
  refine AOps.call (o_loadRef _ rfl rfl Tryd.sizeOf24 Tryd.isAgg24 rfl rfl rfl) ?_
  refine AOps.call (o_loadRd _ rfl Tryd.sizeOf54 Tryd.isAgg54 rfl rfl rfl) ?_
  refine AOps.call (o_move _ rfl rfl) ?_
  refine AOps.call (o_call (Course_s c h k) Tryd.call51 rfl rfl) ?_
  refine AOps.call (o_extract _ rfl rfl rfl rfl) ?_
  refine AOps.call (o_extract _ rfl rfl rfl rfl) ?_
  refine AOps.cons (o_store _ _ rfl rfl Tryd.sizeOf40 rfl rfl rfl rfl rfl) ?_
  refine AOps.call (o_assign _ rfl rfl) ?_
  refine AOps.nil ?_
  refine AWP.ret ?_
  exact postQ.retC1 Tryd.results50 rfl rfl Tryd.sizeOf40 Tryd.isAgg40 rfl rfl rfl

set_option maxRecDepth 20000 in
theorem inside_s (a b : Spn) : FSpec Tryd.prog 52 [.agg (eP a), .agg (eP b)] (B (decide (b.lo ≤ a.lo) && decide (a.hi ≤ b.hi))) (none) := by
  refine FSpec.of_body Tryd.func52 rfl (leB rfl) fun w0 M0 => ?_
  refine AWP.seq ?_
  refine AWP.region ?_
  refine AOps.call (o_box _ rfl rfl rfl) ?_
  refine AOps.call (o_box _ rfl rfl rfl) ?_
  refine AOps.call (o_assign _ rfl rfl) ?_
  refine AOps.nil ?_
  refine AWP.seq ?_
  refine AWP.region ?_
  refine AOps.call (o_fieldRef _ rfl fa40_0 rfl rfl) ?_
  refine AOps.call (o_loadRef _ rfl rfl Tryd.sizeOf3 Tryd.isAgg3 rfl rfl rfl) ?_
  refine AOps.call (o_fieldRef _ rfl fa40_0 rfl rfl) ?_
  refine AOps.call (o_loadRef _ rfl rfl Tryd.sizeOf3 Tryd.isAgg3 rfl rfl rfl) ?_
  refine AOps.call (o_bin _ _ rfl rfl (fun _ => rfl) rfl) ?_
  refine AOps.call (o_move _ rfl rfl) ?_
  refine AOps.split rfl rfl rfl (fun h8 => ?_) (fun h8 => ?_)
  · skip
    refine AOps.go rfl rfl rfl h8 (o_fieldRef _ rfl fa40_1 rfl rfl) ?_
    refine AOps.go rfl rfl rfl h8 (o_loadRef _ rfl rfl Tryd.sizeOf3 Tryd.isAgg3 rfl rfl rfl) ?_
    refine AOps.go rfl rfl rfl h8 (o_fieldRef _ rfl fa40_1 rfl rfl) ?_
    refine AOps.go rfl rfl rfl h8 (o_loadRef _ rfl rfl Tryd.sizeOf3 Tryd.isAgg3 rfl rfl rfl) ?_
    refine AOps.go rfl rfl rfl h8 (o_bin _ _ rfl rfl (fun _ => rfl) rfl) ?_
    refine AOps.call (o_pickT _ _ _ rfl h8 rfl rfl) ?_
    refine AOps.call (o_assign _ rfl rfl) ?_
    refine AOps.nil ?_
    refine AWP.ret ?_
    refine postQ.ret1 Tryd.results52 rfl ?_
    simp_all [AV.close, AV.close.closeL, B, I]
    try (intros; omega)
  · skip
    refine AOps.pass rfl rfl rfl h8 rfl ?_
    refine AOps.pass rfl rfl rfl h8 rfl ?_
    refine AOps.pass rfl rfl rfl h8 rfl ?_
    refine AOps.pass rfl rfl rfl h8 rfl ?_
    refine AOps.pass rfl rfl rfl h8 rfl ?_
    refine AOps.call (o_pickF _ _ _ rfl h8 rfl rfl) ?_
    refine AOps.call (o_assign _ rfl rfl) ?_
    refine AOps.nil ?_
    refine AWP.ret ?_
    refine postQ.ret1 Tryd.results52 rfl ?_
    simp_all [AV.close, AV.close.closeL, B, I]
    try (intros; omega)

def moreF (h : Sht) (i d0 d1 d2 d3 : Int) : List (List AV) := [[.clo 44 [.rd [I d0, I d1, I d2, I d3]]], [.clo 45 [.rd [I d0, I d1, I d2, I d3]]], [.clo 46 [.rd (eH h), .rd [I i]]], [.clo 47 [.rd (eH h), .rd [I i]]], [.clo 48 [.rd (eH h), .rd [I i]]], [.clo 50 [.rd (eH h)]]]
theorem moreF_get (h : Sht) (i d0 d1 d2 d3 : Int) (k : Nat) (hk : k < 6) : ∃ (F : FuncId) (caps : List AV) (E : Scl → Int → Int) (R : Scl → Int → Spn), (moreF h i d0 d1 d2 d3)[((k : Nat) : Int).toNat]? = some [.clo F caps] ∧ AV.close.closeL caps = some caps ∧ (∀ gen, AV.low.lowL gen caps = true) ∧
    (∀ c x, FSpec Tryd.prog F ([.agg (eS c), I x] ++ caps) (.tup [.agg (eP (R c x)), I (E c x)]) none) ∧ Body Tryd.prog F ∧ ∀ c k x d, Finer c k x d → Narrow (E c k) (E x d) (R c k) (R x d) := by
  match k, hk with
  | 0, _ => exact ⟨44, [.rd [I d0, I d1, I d2, I d3]], fun c k => askE c [d0, k], fun c k => drR c d0 k, rfl, rfl, fun _ => rfl, fun c k => More44_s h i d0 d1 d2 d3 c k, Tryd.call44, fun c k x d hF => narrow_drift hF d0⟩
  | 1, _ => exact ⟨45, [.rd [I d0, I d1, I d2, I d3]], fun c k => askE c [d0, d1, k], fun c k => tnR c d0 d1 k, rfl, rfl, fun _ => rfl, fun c k => More45_s h i d0 d1 d2 d3 c k, Tryd.call45, fun c k x d hF => narrow_turn hF d0 d1⟩
  | 2, _ => exact ⟨46, [.rd (eH h), .rd [I i]], fun c k => watE c h i k, fun c k => corR c h i k, rfl, rfl, fun _ => rfl, fun c k => More46_s h i d0 d1 d2 d3 c k, Tryd.call46, fun c k x d hF => narrow_core hF h i⟩
  | 3, _ => exact ⟨47, [.rd (eH h), .rd [I i]], fun c k => watE c h i k, fun c k => watR c h i k, rfl, rfl, fun _ => rfl, fun c k => More47_s h i d0 d1 d2 d3 c k, Tryd.call47, fun c k x d hF => narrow_water hF h i⟩
  | 4, _ => exact ⟨48, [.rd (eH h), .rd [I i]], fun c k => denE c h i k, fun c k => denR c h i k, rfl, rfl, fun _ => rfl, fun c k => More48_s h i d0 d1 d2 d3 c k, Tryd.call48, fun c k x d hF => narrow_density hF h i⟩
  | 5, _ => exact ⟨50, [.rd (eH h)], fun c k => watE c h 0 k, fun c k => couR c h k, rfl, rfl, fun _ => rfl, fun c k => More50_s h i d0 d1 d2 d3 c k, Tryd.call50, fun c k x d hF => narrow_course hF h⟩
  | n + 6, hk => omega

end Go.Proofs.YtphoomnonenalaaDoor
