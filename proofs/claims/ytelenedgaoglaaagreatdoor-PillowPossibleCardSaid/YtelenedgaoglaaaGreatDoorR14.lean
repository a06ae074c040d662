/- R14. -/
import Derived.Test.YtelenedgaoglaaaGreatDoorR13
set_option linter.unusedSimpArgs false
set_option linter.unusedVariables false
namespace Go.Proofs.YtelenedgaoglaaaGreatDoor
open Go.Ab
open Go.Pil
def refOk (p : Plw) (w : List Sp) (l : List Int) (x y : Int) : Prop := 0 ≤ x ∧ x < y ∧ y < l.length ∧ againstP p w l x.toNat y.toNat
instance (p w l x y) : Decidable (refOk p w l x y) := inferInstanceAs (Decidable (_ ∧ _ ∧ _ ∧ _))
def crE (p : Plw) (w : List Sp) (l : List Int) (x y e : Int) : Int := if e = 0 then (if refOk p w l x y then 0 else 33) else e
theorem contr2I_s (p : Plw) (w : List Sp) (l : List Int) (hp : OkP p) (hw : okW p w = true) (hll : l.length = p.log.length) (i k : Int) (h0 : 0 ≤ i) (hik : i ≤ k) (hk : k < l.length) : FSpec Tryz.prog 104 [I i, I k, .rd [.clo 102 [.rd (eR p w), .rd [.sl (ints l)]]], .rd (eR p w)] (B (decide (againstP p w l i.toNat k.toNat))) none := by
  have h := contr2_s p w l hp hw hll i.toNat k.toNat (by omega) (by omega)
  rwa [Int.toNat_of_nonneg h0, Int.toNat_of_nonneg (by omega)] at h
set_option maxRecDepth 20000 in
theorem CheckRefute_ok (p : Plw) (w : List Sp) (l : List Int) (hw1 : w.length ≤ 9223372036854775807) (hl1 : l.length ≤ 9223372036854775807) (x y : Int) (he : okP p = true) (hq : okW p w = true) : FSpec Tryz.prog 37 [.agg (eP p), .sl (sps w), .sl (ints l), .agg [I x, I y]] (I (crE p w l x y (caseE p l))) (none) := by
  refine FSpec.of_body Tryz.func37 rfl (leB rfl) fun w0 M0 => ?_
  refine AWP.seq ?_
  refine AWP.region ?_
  refine AOps.call (o_box _ rfl rfl rfl) ?_
  refine AOps.call (o_box _ rfl rfl rfl) ?_
  refine AOps.call (o_assign _ rfl rfl) ?_
  refine AOps.nil ?_
  refine AWP.seq ?_
  refine AWP.region ?_
  refine AOps.call (o_loadRef _ rfl rfl Tryz.sizeOf24 Tryz.isAgg24 rfl rfl rfl) ?_
  refine AOps.call (o_move _ rfl rfl) ?_
  refine AOps.call (o_move _ rfl rfl) ?_
  refine AOps.call (o_call (readCase_ok p w l hw1 hl1 he hq) Tryz.call69 rfl rfl) ?_
  refine AOps.call (o_move _ rfl rfl) ?_
  refine AOps.call (o_extract _ rfl rfl rfl rfl) ?_
  refine AOps.call (o_extract _ rfl rfl rfl rfl) ?_
  refine AOps.call (o_alloc ze91 rfl rfl) ?_
  refine AOps.cons (o_store _ _ rfl rfl Tryz.sizeOf91 rfl rfl rfl rfl rfl) ?_
  refine AOps.call (o_assign _ rfl rfl) ?_
  refine AOps.nil ?_
  refine AWP.seq ?_
  refine AWP.seq ?_
  refine AWP.region ?_
  refine AOps.call (o_move _ rfl rfl) ?_
  refine AOps.call (o_bin _ _ rfl rfl (fun _ => rfl) rfl) ?_
  refine AOps.nil ?_
  refine AWP.cond _ rfl (fun h12 => ?_) (fun h12 => ?_)
  · skip
    have hne : caseE p l ≠ 0 := by simpa using h12
    refine AWP.seq ?_
    refine AWP.region ?_
    refine AOps.call (o_move _ rfl rfl) ?_
    refine AOps.call (o_assign _ rfl rfl) ?_
    refine AOps.nil ?_
    refine AWP.ret ?_
    refine postQ.ret1 Tryz.results37 rfl ?_
    unfold crE
    first
    | (rw [if_neg hne]; rfl)
    | (rw [if_pos hz, if_neg hr]; rfl)
    | (rw [if_pos hz, if_pos hr]; rfl)
    | (have hag := HAG; rw [if_pos hz, if_pos hr]; rfl)
  · skip
    have hz : caseE p l = 0 := by simpa using h12
    obtain ⟨hp, hll, hrt⟩ := caseE_0 hz
    have h32 := hp.len
    refine AWP.skip ?_
    refine AWP.seq ?_
    refine AWP.drawn 6 mixed (by kernel_rfl) ?_
    refine AHead.call (ok_indexAddr_arr _ _ Tryz.underlying56 Tryz.sizeOf3 rfl rfl (by omega) (by omega) (okD rfl)) rfl ?_
    refine AHead.call (o_loadRef _ rfl rfl Tryz.sizeOf3 Tryz.isAgg3 rfl rfl rfl) rfl ?_
    refine AHead.call (ok_indexAddr_arr _ _ Tryz.underlying56 Tryz.sizeOf3 rfl rfl (by omega) (by omega) (okD rfl)) rfl ?_
    refine AHead.call (o_loadRef _ rfl rfl Tryz.sizeOf3 Tryz.isAgg3 rfl rfl rfl) rfl ?_
    refine AHead.call (o_assign _ rfl rfl) rfl ?_
    refine AHead.call (o_assign _ rfl rfl) rfl ?_
    refine AHead.nil ?_
    refine AOps.nil ?_
    refine AWP.seq ?_
    refine AWP.seq ?_
    refine AWP.region ?_
    refine AOps.call (o_fieldRef _ rfl fa91_0 rfl rfl) ?_
    refine AOps.call (o_loadRef _ rfl rfl Tryz.sizeOf83 Tryz.isAgg83 rfl rfl rfl) ?_
    refine AOps.call (o_move _ rfl rfl) ?_
    refine AOps.call (o_call (has_s p x) Tryz.call56 rfl rfl) ?_
    refine AOps.call (o_un _ rfl (fun _ => rfl) rfl) ?_
    refine AOps.call (o_move _ rfl rfl) ?_
    refine AOps.split rfl rfl rfl (fun h21 => ?_) (fun h21 => ?_)
    · skip
      have hx : 0 ≤ x ∧ x < p.log.length := by simpa using h21
      refine AOps.go rfl rfl rfl h21 (o_fieldRef _ rfl fa91_0 rfl rfl) ?_
      refine AOps.go rfl rfl rfl h21 (o_loadRef _ rfl rfl Tryz.sizeOf83 Tryz.isAgg83 rfl rfl rfl) ?_
      refine AOps.go rfl rfl rfl h21 (o_move _ rfl rfl) ?_
      refine AOps.go rfl rfl rfl h21 (o_call (has_s p y) Tryz.call56 rfl rfl) ?_
      refine AOps.go rfl rfl rfl h21 (o_un _ rfl (fun _ => rfl) rfl) ?_
      refine AOps.call (o_pickF _ _ _ rfl h21 rfl rfl) ?_
      refine AOps.call (o_move _ rfl rfl) ?_
      refine AOps.split rfl rfl rfl (fun h26 => ?_) (fun h26 => ?_)
      · skip
        have hy : 0 ≤ y ∧ y < p.log.length := by simpa using h26
        refine AOps.go rfl rfl rfl h26 (o_move _ rfl rfl) ?_
        refine AOps.go rfl rfl rfl h26 (o_move _ rfl rfl) ?_
        refine AOps.go rfl rfl rfl h26 (o_bin _ _ rfl rfl (fun _ => rfl) rfl) ?_
        refine AOps.call (o_pickF _ _ _ rfl h26 rfl rfl) ?_
        refine AOps.call (o_move _ rfl rfl) ?_
        refine AOps.split rfl rfl rfl (fun h28 => ?_) (fun h28 => ?_)
        · skip
          have hxy : x < y := by simpa using h28
          refine AOps.go rfl rfl rfl h28 (o_loadRef _ rfl rfl Tryz.sizeOf91 Tryz.isAgg91 rfl rfl rfl) ?_
          refine AOps.go rfl rfl rfl h28 (o_move _ rfl rfl) ?_
          refine AOps.go rfl rfl rfl h28 (o_call (contradiction_s p w l) Tryz.call74 rfl rfl) ?_
          refine AOps.go rfl rfl rfl h28 (o_move _ rfl rfl) ?_
          refine AOps.go rfl rfl rfl h28 (o_move _ rfl rfl) ?_
          refine AOps.go rfl rfl rfl h28 (o_callV (cl := [I x, I y]) (ccl := [.rd [.clo 102 [.rd (eR p w), .rd [.sl (ints l)]]], .rd (eR p w)]) _ rfl (contr2I_s p w l hp hq hll x y (by omega) (by omega) (by omega)) Tryz.call104 rfl rfl rfl) ?_
          refine AOps.go rfl rfl rfl h28 (o_un _ rfl (fun _ => rfl) rfl) ?_
          refine AOps.call (o_pickF _ _ _ rfl h28 rfl rfl) ?_
          refine AOps.nil ?_
          refine AWP.cond _ rfl (fun h34 => ?_) (fun h34 => ?_)
          · skip
            have hr : ¬ refOk p w l x y := fun h => by
              unfold refOk at h
              simp_all [AV.close, B, I]
            refine AWP.seq ?_
            refine AWP.region ?_
            refine AOps.call (o_assign _ rfl rfl) ?_
            refine AOps.nil ?_
            refine AWP.ret ?_
            refine postQ.ret1 Tryz.results37 rfl ?_
            unfold crE
            first
            | (rw [if_neg hne]; rfl)
            | (rw [if_pos hz, if_neg hr]; rfl)
            | (rw [if_pos hz, if_pos hr]; rfl)
            | (have hag := HAG; rw [if_pos hz, if_pos hr]; rfl)
          · skip
            have hr : refOk p w l x y := by
              unfold refOk
              simp_all [AV.close, B, I]
            refine AWP.skip ?_
            refine AWP.seq ?_
            refine AWP.region ?_
            refine AOps.call (o_assign _ rfl rfl) ?_
            refine AOps.nil ?_
            refine AWP.ret ?_
            refine postQ.ret1 Tryz.results37 rfl ?_
            unfold crE
            first
            | (rw [if_neg hne]; rfl)
            | (rw [if_pos hz, if_neg hr]; rfl)
            | (rw [if_pos hz, if_pos hr]; rfl)
            | (have hag := HAG; rw [if_pos hz, if_pos hr]; rfl)
        · skip
          have hr : ¬ refOk p w l x y := fun h => by
            have h1 := h.1; have h2 := h.2.1; have h3 := h.2.2.1
            simp at h28
            omega
          refine AOps.pass rfl rfl rfl h28 rfl ?_
          refine AOps.pass rfl rfl rfl h28 rfl ?_
          refine AOps.pass rfl rfl rfl h28 rfl ?_
          refine AOps.pass rfl rfl rfl h28 rfl ?_
          refine AOps.pass rfl rfl rfl h28 rfl ?_
          refine AOps.pass rfl rfl rfl h28 rfl ?_
          refine AOps.pass rfl rfl rfl h28 rfl ?_
          refine AOps.call (o_pickT _ _ _ rfl h28 rfl rfl) ?_
          refine AOps.nil ?_
          refine AWP.condT rfl ?_
          refine AWP.seq ?_
          refine AWP.region ?_
          refine AOps.call (o_assign _ rfl rfl) ?_
          refine AOps.nil ?_
          refine AWP.ret ?_
          refine postQ.ret1 Tryz.results37 rfl ?_
          unfold crE
          first
          | (rw [if_neg hne]; rfl)
          | (rw [if_pos hz, if_neg hr]; rfl)
          | (rw [if_pos hz, if_pos hr]; rfl)
          | (have hag := HAG; rw [if_pos hz, if_pos hr]; rfl)
      · skip
        have hr : ¬ refOk p w l x y := fun h => by
          have h1 := h.1; have h2 := h.2.1; have h3 := h.2.2.1
          simp at h26
          omega
        refine AOps.pass rfl rfl rfl h26 rfl ?_
        refine AOps.pass rfl rfl rfl h26 rfl ?_
        refine AOps.pass rfl rfl rfl h26 rfl ?_
        refine AOps.call (o_pickT _ _ _ rfl h26 rfl rfl) ?_
        refine AOps.call (o_move _ rfl rfl) ?_
        refine AOps.pass rfl rfl rfl rfl rfl ?_
        refine AOps.pass rfl rfl rfl rfl rfl ?_
        refine AOps.pass rfl rfl rfl rfl rfl ?_
        refine AOps.pass rfl rfl rfl rfl rfl ?_
        refine AOps.pass rfl rfl rfl rfl rfl ?_
        refine AOps.pass rfl rfl rfl rfl rfl ?_
        refine AOps.pass rfl rfl rfl rfl rfl ?_
        refine AOps.call (o_pickT _ _ _ rfl rfl rfl rfl) ?_
        refine AOps.nil ?_
        refine AWP.condT rfl ?_
        refine AWP.seq ?_
        refine AWP.region ?_
        refine AOps.call (o_assign _ rfl rfl) ?_
        refine AOps.nil ?_
        refine AWP.ret ?_
        refine postQ.ret1 Tryz.results37 rfl ?_
        unfold crE
        first
        | (rw [if_neg hne]; rfl)
        | (rw [if_pos hz, if_neg hr]; rfl)
        | (rw [if_pos hz, if_pos hr]; rfl)
        | (have hag := HAG; rw [if_pos hz, if_pos hr]; rfl)
    · skip
      have hr : ¬ refOk p w l x y := fun h => by
        have h1 := h.1; have h2 := h.2.1; have h3 := h.2.2.1
        simp at h21
        omega
      refine AOps.pass rfl rfl rfl h21 rfl ?_
      refine AOps.pass rfl rfl rfl h21 rfl ?_
      refine AOps.pass rfl rfl rfl h21 rfl ?_
      refine AOps.pass rfl rfl rfl h21 rfl ?_
      refine AOps.pass rfl rfl rfl h21 rfl ?_
      refine AOps.call (o_pickT _ _ _ rfl h21 rfl rfl) ?_
      refine AOps.call (o_move _ rfl rfl) ?_
      refine AOps.pass rfl rfl rfl rfl rfl ?_
      refine AOps.pass rfl rfl rfl rfl rfl ?_
      refine AOps.pass rfl rfl rfl rfl rfl ?_
      refine AOps.call (o_pickT _ _ _ rfl rfl rfl rfl) ?_
      refine AOps.call (o_move _ rfl rfl) ?_
      refine AOps.pass rfl rfl rfl rfl rfl ?_
      refine AOps.pass rfl rfl rfl rfl rfl ?_
      refine AOps.pass rfl rfl rfl rfl rfl ?_
      refine AOps.pass rfl rfl rfl rfl rfl ?_
      refine AOps.pass rfl rfl rfl rfl rfl ?_
      refine AOps.pass rfl rfl rfl rfl rfl ?_
      refine AOps.pass rfl rfl rfl rfl rfl ?_
      refine AOps.call (o_pickT _ _ _ rfl rfl rfl rfl) ?_
      refine AOps.nil ?_
      refine AWP.condT rfl ?_
      refine AWP.seq ?_
      refine AWP.region ?_
      refine AOps.call (o_assign _ rfl rfl) ?_
      refine AOps.nil ?_
      refine AWP.ret ?_
      refine postQ.ret1 Tryz.results37 rfl ?_
      unfold crE
      first
      | (rw [if_neg hne]; rfl)
      | (rw [if_pos hz, if_neg hr]; rfl)
      | (rw [if_pos hz, if_pos hr]; rfl)
      | (have hag := HAG; rw [if_pos hz, if_pos hr]; rfl)
set_option maxRecDepth 20000 in
theorem CheckRefute_log (p : Plw) (w : List Sp) (l : List Int) (hw1 : w.length ≤ 9223372036854775807) (hl1 : l.length ≤ 9223372036854775807) (x y : Int) (he : okP p = false) : FSpec Tryz.prog 37 [.agg (eP p), .sl (sps w), .sl (ints l), .agg [I x, I y]] (I 30) (none) := by
  refine FSpec.of_body Tryz.func37 rfl (leB rfl) fun w0 M0 => ?_
  refine AWP.seq ?_
  refine AWP.region ?_
  refine AOps.call (o_box _ rfl rfl rfl) ?_
  refine AOps.call (o_box _ rfl rfl rfl) ?_
  refine AOps.call (o_assign _ rfl rfl) ?_
  refine AOps.nil ?_
  refine AWP.seq ?_
  refine AWP.region ?_
  refine AOps.call (o_loadRef _ rfl rfl Tryz.sizeOf24 Tryz.isAgg24 rfl rfl rfl) ?_
  refine AOps.call (o_move _ rfl rfl) ?_
  refine AOps.call (o_move _ rfl rfl) ?_
  refine AOps.call (o_call (readCase_log p w l hw1 hl1 he) Tryz.call69 rfl rfl) ?_
  refine AOps.call (o_move _ rfl rfl) ?_
  refine AOps.call (o_extract _ rfl rfl rfl rfl) ?_
  refine AOps.call (o_extract _ rfl rfl rfl rfl) ?_
  refine AOps.call (o_alloc ze91 rfl rfl) ?_
  refine AOps.cons (o_store _ _ rfl rfl Tryz.sizeOf91 rfl rfl rfl rfl rfl) ?_
  refine AOps.call (o_assign _ rfl rfl) ?_
  refine AOps.nil ?_
  refine AWP.seq ?_
  refine AWP.seq ?_
  refine AWP.region ?_
  refine AOps.call (o_move _ rfl rfl) ?_
  refine AOps.call (o_bin _ _ rfl rfl (fun _ => rfl) rfl) ?_
  refine AOps.nil ?_
  refine AWP.cond _ rfl (fun h12 => ?_) (fun h12 => ?_)
  · skip
    refine AWP.seq ?_
    refine AWP.region ?_
    refine AOps.call (o_move _ rfl rfl) ?_
    refine AOps.call (o_assign _ rfl rfl) ?_
    refine AOps.nil ?_
    refine AWP.ret ?_
    exact postQ.ret1 Tryz.results37 rfl rfl
  · skip
    exfalso
    exact absurd h12 (by decide)
set_option maxRecDepth 20000 in
theorem CheckRefute_arg (p : Plw) (w : List Sp) (l : List Int) (hw1 : w.length ≤ 9223372036854775807) (hl1 : l.length ≤ 9223372036854775807) (x y : Int) (he : okP p = true) (hq : okW p w = false) : FSpec Tryz.prog 37 [.agg (eP p), .sl (sps w), .sl (ints l), .agg [I x, I y]] (I 1) (none) := by
  refine FSpec.of_body Tryz.func37 rfl (leB rfl) fun w0 M0 => ?_
  refine AWP.seq ?_
  refine AWP.region ?_
  refine AOps.call (o_box _ rfl rfl rfl) ?_
  refine AOps.call (o_box _ rfl rfl rfl) ?_
  refine AOps.call (o_assign _ rfl rfl) ?_
  refine AOps.nil ?_
  refine AWP.seq ?_
  refine AWP.region ?_
  refine AOps.call (o_loadRef _ rfl rfl Tryz.sizeOf24 Tryz.isAgg24 rfl rfl rfl) ?_
  refine AOps.call (o_move _ rfl rfl) ?_
  refine AOps.call (o_move _ rfl rfl) ?_
  refine AOps.call (o_call (readCase_arg p w l hw1 hl1 he hq) Tryz.call69 rfl rfl) ?_
  refine AOps.call (o_move _ rfl rfl) ?_
  refine AOps.call (o_extract _ rfl rfl rfl rfl) ?_
  refine AOps.call (o_extract _ rfl rfl rfl rfl) ?_
  refine AOps.call (o_alloc ze91 rfl rfl) ?_
  refine AOps.cons (o_store _ _ rfl rfl Tryz.sizeOf91 rfl rfl rfl rfl rfl) ?_
  refine AOps.call (o_assign _ rfl rfl) ?_
  refine AOps.nil ?_
  refine AWP.seq ?_
  refine AWP.seq ?_
  refine AWP.region ?_
  refine AOps.call (o_move _ rfl rfl) ?_
  refine AOps.call (o_bin _ _ rfl rfl (fun _ => rfl) rfl) ?_
  refine AOps.nil ?_
  refine AWP.cond _ rfl (fun h12 => ?_) (fun h12 => ?_)
  · skip
    refine AWP.seq ?_
    refine AWP.region ?_
    refine AOps.call (o_move _ rfl rfl) ?_
    refine AOps.call (o_assign _ rfl rfl) ?_
    refine AOps.nil ?_
    refine AWP.ret ?_
    exact postQ.ret1 Tryz.results37 rfl rfl
  · skip
    exfalso
    exact absurd h12 (by decide)
theorem CheckRefute_s (p : Plw) (w : List Sp) (l : List Int) (hw1 : w.length ≤ 9223372036854775807) (hl1 : l.length ≤ 9223372036854775807) (x y : Int) : FSpec Tryz.prog 37 [.agg (eP p), .sl (sps w), .sl (ints l), .agg [I x, I y]] (I (crE p w l x y (rcE p w l))) none := by
  by_cases he : okP p = true
  · by_cases hq : okW p w = true
    · have h := CheckRefute_ok p w l hw1 hl1 x y he hq
      have e : rcE p w l = caseE p l := by unfold rcE; rw [if_neg (by rw [he]; decide), if_neg (by rw [hq]; decide)]
      rw [e]; exact h
    · have h := CheckRefute_arg p w l hw1 hl1 x y he (by simpa using hq)
      have e : rcE p w l = 1 := by unfold rcE; rw [if_neg (by rw [he]; decide), if_pos (by simpa using hq)]
      rw [e]; exact h
  · have h := CheckRefute_log p w l hw1 hl1 x y (by simpa using he)
    have e : rcE p w l = 30 := by unfold rcE; rw [if_pos (by simpa using he)]
    rw [e]; exact h
end Go.Proofs.YtelenedgaoglaaaGreatDoor
