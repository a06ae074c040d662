/- Y8. -/
import Derived.Test.YtelenedgaoglaaaGreatDoorY4
import Derived.Test.YtelenedgaoglaaaGreatDoorR28
import Derived.Test.YtelenedgaoglaaaGreatDoorK4
import Derived.Test.YtelenedgaoglaaaGreatDoorAdB
set_option linter.unusedSimpArgs false
set_option linter.unusedVariables false
namespace Go.Proofs.YtelenedgaoglaaaGreatDoor
open Go.Ab
open Go.Pil Go.RowKit
def shfE (p : Plw) (n : Int) : Int := if okP p = false then 30 else if 0 ≤ n ∧ n + 1 < p.log.length then 0 else 1
def shfB (p : Plw) (n : Int) : Bool := if shfE p n = 0 then p.shift n.toNat else false
theorem shf_log {p : Plw} {n : Int} (h : okP p = false) : shfE p n = 30 ∧ shfB p n = false := by
  have e : shfE p n = 30 := if_pos h
  exact ⟨e, if_neg (by rw [e]; decide)⟩
theorem shf_arg {p : Plw} {n : Int} (h : okP p = true) (h2 : ¬ (0 ≤ n ∧ n + 1 < p.log.length)) : shfE p n = 1 ∧ shfB p n = false := by
  have e : shfE p n = 1 := (if_neg (by rw [h]; decide)).trans (if_neg h2)
  exact ⟨e, if_neg (by rw [e]; decide)⟩
theorem shf_ok {p : Plw} {n : Int} (h : okP p = true) (h2 : 0 ≤ n ∧ n + 1 < p.log.length) : shfE p n = 0 ∧ shfB p n = p.shift n.toNat := by
  have e : shfE p n = 0 := (if_neg (by rw [h]; decide)).trans (if_pos h2)
  exact ⟨e, if_pos e⟩
set_option maxHeartbeats 4000000 in
set_option maxRecDepth 20000 in
theorem ShiftP_s (p : Plw) (n : Int) : FSpec Tryz.prog 13 [.agg (eP p), I n] (.tup [B (shfB p n), I (shfE p n)]) (none) := by
  refine FSpec.of_body Tryz.func13 rfl (leB rfl) fun w0 M0 => ?_
  have hpl := shws_len p.log
  refine AWP.seq ?_
  refine AWP.region ?_
  refine AOps.call (o_box _ rfl rfl rfl) ?_
  refine AOps.call (o_assign _ rfl rfl) ?_
  refine AOps.call (o_assign _ rfl rfl) ?_
  refine AOps.nil ?_
  refine AWP.seq ?_
  refine AWP.seq ?_
  refine AWP.region ?_
  refine AOps.call (o_loadRef _ rfl rfl Tryz.sizeOf24 Tryz.isAgg24 rfl rfl rfl) ?_
  refine AOps.call (o_call (Check_s p) Tryz.call17 rfl rfl) ?_
  refine AOps.call (o_assign _ rfl rfl) ?_
  refine AOps.nil ?_
  refine AWP.seq ?_
  refine AWP.region ?_
  refine AOps.call (o_move _ rfl rfl) ?_
  refine AOps.call (o_bin _ _ rfl rfl (fun _ => rfl) rfl) ?_
  refine AOps.nil ?_
  refine AWP.cond _ rfl (fun h6 => ?_) (fun h6 => ?_)
  · skip
    have hE := shf_log (n := n) (okP_no (by simpa using h6))
    have hlg : logE p = 30 := logE_bad (okP_no (by simpa using h6))
    refine AWP.seq ?_
    refine AWP.region ?_
    refine AOps.call (o_move _ rfl rfl) ?_
    refine AOps.call (o_assign _ rfl rfl) ?_
    refine AOps.call (o_assign _ rfl rfl) ?_
    refine AOps.nil ?_
    refine AWP.ret ?_
    refine postQ.ret2 Tryz.results13 rfl rfl ?_
    rw [hE.1, hE.2]
    first
    | rfl
    | (rw [hlg]; rfl)
  · skip
    have he := okP_of (by simpa using h6)
    have hp := okP_iff.1 he
    have h32 := hp.len
    refine AWP.skip ?_
    refine AWP.seq ?_
    refine AWP.region ?_
    refine AOps.call (o_loadRef _ rfl rfl Tryz.sizeOf24 Tryz.isAgg24 rfl rfl rfl) ?_
    refine AOps.call (o_build bu83 rfl rfl rfl) ?_
    refine AOps.call (o_alloc ze83 rfl rfl) ?_
    refine AOps.cons (o_store _ _ rfl rfl Tryz.sizeOf83 rfl rfl rfl rfl rfl) ?_
    refine AOps.nil ?_
    refine AWP.seq ?_
    refine AWP.seq ?_
    refine AWP.region ?_
    refine AOps.call (o_loadRef _ rfl rfl Tryz.sizeOf83 Tryz.isAgg83 rfl rfl rfl) ?_
    refine AOps.call (o_move _ rfl rfl) ?_
    refine AOps.call (o_call (has_s p n) Tryz.call56 rfl rfl) ?_
    refine AOps.call (o_un _ rfl (fun _ => rfl) rfl) ?_
    refine AOps.call (o_move _ rfl rfl) ?_
    refine AOps.split rfl rfl rfl (fun h14 => ?_) (fun h14 => ?_)
    · skip
      have hn0 : 0 ≤ n ∧ n < p.log.length := by simpa using h14
      refine AOps.go rfl rfl rfl h14 (o_loadRef _ rfl rfl Tryz.sizeOf83 Tryz.isAgg83 rfl rfl rfl) ?_
      refine AOps.go rfl rfl rfl h14 (o_move _ rfl rfl) ?_
      refine AOps.go rfl rfl rfl h14 (o_call (isLast_s p n h32) Tryz.call57 rfl rfl) ?_
      refine AOps.call (o_pickF _ _ _ rfl h14 rfl rfl) ?_
      refine AOps.nil ?_
      refine AWP.cond _ rfl (fun h18 => ?_) (fun h18 => ?_)
      · skip
        have hE := shf_arg (n := n) he (by simp_all; try omega)
        refine AWP.seq ?_
        refine AWP.region ?_
        refine AOps.call (o_assign _ rfl rfl) ?_
        refine AOps.call (o_assign _ rfl rfl) ?_
        refine AOps.nil ?_
        refine AWP.ret ?_
        refine postQ.ret2 Tryz.results13 rfl rfl ?_
        rw [hE.1, hE.2]
        first
        | rfl
        | (rw [hlg]; rfl)
      · skip
        have hn : 0 ≤ n ∧ n + 1 < p.log.length := by simp_all; try omega
        have hE := shf_ok he hn
        refine AWP.skip ?_
        refine AWP.seq ?_
        refine AWP.region ?_
        refine AOps.call (o_loadRef _ rfl rfl Tryz.sizeOf83 Tryz.isAgg83 rfl rfl rfl) ?_
        refine AOps.call (o_move _ rfl rfl) ?_
        refine AOps.call (o_call (shiftI_s p hp n hn.1 hn.2) Tryz.call58 rfl rfl) ?_
        refine AOps.call (o_assign _ rfl rfl) ?_
        refine AOps.call (o_assign _ rfl rfl) ?_
        refine AOps.nil ?_
        refine AWP.ret ?_
        refine postQ.ret2 Tryz.results13 rfl rfl ?_
        rw [hE.1, hE.2]
        first
        | rfl
        | (rw [hlg]; rfl)
    · skip
      have hq19 := h14
      refine AOps.pass rfl rfl rfl h14 rfl ?_
      refine AOps.pass rfl rfl rfl h14 rfl ?_
      refine AOps.pass rfl rfl rfl h14 rfl ?_
      refine AOps.call (o_pickT _ _ _ rfl h14 rfl rfl) ?_
      refine AOps.nil ?_
      refine AWP.condT rfl ?_
      have hE := shf_arg (n := n) he (by simp_all; try omega)
      refine AWP.seq ?_
      refine AWP.region ?_
      refine AOps.call (o_assign _ rfl rfl) ?_
      refine AOps.call (o_assign _ rfl rfl) ?_
      refine AOps.nil ?_
      refine AWP.ret ?_
      refine postQ.ret2 Tryz.results13 rfl rfl ?_
      rw [hE.1, hE.2]
      first
      | rfl
      | (rw [hlg]; rfl)
set_option maxHeartbeats 4000000 in
set_option maxRecDepth 20000 in
theorem ShiftR2_s (p : Plw) (n : Int) : FSpec Tryz.prog 14 [.agg (eP p), I n] (.tup [B (shfB p n), I (shfE p n)]) (none) := by
  refine FSpec.of_body Tryz.func14 rfl (leB rfl) fun w0 M0 => ?_
  have hpl := shws_len p.log
  refine AWP.seq ?_
  refine AWP.region ?_
  refine AOps.call (o_box _ rfl rfl rfl) ?_
  refine AOps.call (o_assign _ rfl rfl) ?_
  refine AOps.call (o_assign _ rfl rfl) ?_
  refine AOps.nil ?_
  refine AWP.seq ?_
  refine AWP.seq ?_
  refine AWP.region ?_
  refine AOps.call (o_loadRef _ rfl rfl Tryz.sizeOf24 Tryz.isAgg24 rfl rfl rfl) ?_
  refine AOps.call (o_call (CheckR_s p) Tryz.call18 rfl rfl) ?_
  refine AOps.call (o_bin _ _ rfl rfl (fun _ => rfl) rfl) ?_
  refine AOps.nil ?_
  refine AWP.cond _ rfl (fun h6 => ?_) (fun h6 => ?_)
  · skip
    have hE := shf_log (n := n) (okP_no (by simpa using h6))
    have hlg : logE p = 30 := logE_bad (okP_no (by simpa using h6))
    refine AWP.seq ?_
    refine AWP.region ?_
    refine AOps.call (o_assign _ rfl rfl) ?_
    refine AOps.call (o_assign _ rfl rfl) ?_
    refine AOps.nil ?_
    refine AWP.ret ?_
    refine postQ.ret2 Tryz.results14 rfl rfl ?_
    rw [hE.1, hE.2]
    first
    | rfl
    | (rw [hlg]; rfl)
  · skip
    have he := okP_of (by simpa using h6)
    have hp := okP_iff.1 he
    have h32 := hp.len
    refine AWP.skip ?_
    refine AWP.seq ?_
    refine AWP.seq ?_
    refine AWP.region ?_
    refine AOps.call (o_move _ rfl rfl) ?_
    refine AOps.call (o_fieldRef _ rfl fa24_6 rfl rfl) ?_
    refine AOps.call (o_loadRef _ rfl rfl Tryz.sizeOf22 Tryz.isAgg22 rfl rfl rfl) ?_
    refine AOps.call (o_len _ Tryz.underlying22 rfl rfl) ?_
    refine AOps.call (o_sub _ _ rfl rfl ⟨by (try dsimp only); omega, by (try dsimp only); omega⟩ rfl) ?_
    refine AOps.call (o_call (within_s _ _ _) Tryz.call59 rfl rfl) ?_
    refine AOps.call (o_un _ rfl (fun _ => rfl) rfl) ?_
    refine AOps.nil ?_
    refine AWP.cond _ rfl (fun h15 => ?_) (fun h15 => ?_)
    · skip
      have hE := shf_arg (n := n) he (fun hc => by
        have h := h15
        rw [hpl] at h
        have h2 : inB n 0 ((p.log.length : Int) - 2) = false := by simpa using h
        have h3 : inB n 0 ((p.log.length : Int) - 2) = true := inB_iff.2 ⟨hc.1, by omega⟩
        rw [h2] at h3; cases h3)
      refine AWP.seq ?_
      refine AWP.region ?_
      refine AOps.call (o_assign _ rfl rfl) ?_
      refine AOps.call (o_assign _ rfl rfl) ?_
      refine AOps.nil ?_
      refine AWP.ret ?_
      refine postQ.ret2 Tryz.results14 rfl rfl ?_
      rw [hE.1, hE.2]
      first
      | rfl
      | (rw [hlg]; rfl)
    · skip
      have hn : 0 ≤ n ∧ n + 1 < p.log.length := by
        have h := h15
        rw [hpl] at h
        have h2 : inB n 0 ((p.log.length : Int) - 2) = true := by simpa using h
        rw [inB_iff] at h2; omega
      have hE := shf_ok he hn
      refine AWP.skip ?_
      refine AWP.seq ?_
      refine AWP.region ?_
      refine AOps.call (o_loadRef _ rfl rfl Tryz.sizeOf24 Tryz.isAgg24 rfl rfl rfl) ?_
      refine AOps.call (o_move _ rfl rfl) ?_
      refine AOps.call (o_call (shiftR_s p hp n hn.1 hn.2) Tryz.call60 rfl rfl) ?_
      refine AOps.call (o_assign _ rfl rfl) ?_
      refine AOps.call (o_assign _ rfl rfl) ?_
      refine AOps.nil ?_
      refine AWP.ret ?_
      refine postQ.ret2 Tryz.results14 rfl rfl ?_
      rw [hE.1, hE.2]
      first
      | rfl
      | (rw [hlg]; rfl)
def z0P : Plw := ⟨0, 0, 0, 0, 0, 0, []⟩
def addR (p : Plw) (s : Shw) : Plw := if addE p s = 0 then addP p s else z0P
theorem zP_c {w' : World} {M : Nat → Option Nat} {u : Value} (h : VR w' M noV noG (.agg zP) u) : VR w' M noV noG (.agg (eP z0P)) u := by
  cases h with
  | agg _ vs hl h1 hh =>
    refine .agg _ vs hl h1 fun i c x hc hx => ?_
    rcases i with _ | _ | _ | _ | _ | _ | _ | i
    · exact hh 0 c x hc hx
    · exact hh 1 c x hc hx
    · exact hh 2 c x hc hx
    · exact hh 3 c x hc hx
    · exact hh 4 c x hc hx
    · exact hh 5 c x hc hx
    · have := hh 6 _ x rfl hx
      have e : c = .sl [] := (Option.some.inj hc).symm
      subst e
      cases this
      exact .sl0 _ _
    · cases hc
theorem addE_log {p : Plw} {s : Shw} (h : okP p = false) : addE p s = 30 ∧ addA p s = zP := by
  have e : addE p s = 30 := if_pos h
  exact ⟨e, if_neg (by rw [e]; decide)⟩
theorem addE_lim {p : Plw} {s : Shw} (h : okP p = true) (h2 : p.log.length = 32) : addE p s = 2 ∧ addA p s = zP := by
  have e : addE p s = 2 := (if_neg (by rw [h]; decide)).trans (if_pos h2)
  exact ⟨e, if_neg (by rw [e]; decide)⟩
theorem addE_arg {p : Plw} {s : Shw} (h : okP p = true) (h2 : ¬ p.log.length = 32) (h3 : okP (addP p s) = false) : addE p s = 1 ∧ addA p s = zP := by
  have e : addE p s = 1 := (if_neg (by rw [h]; decide)).trans ((if_neg h2).trans (if_pos h3))
  exact ⟨e, if_neg (by rw [e]; decide)⟩
theorem addE_ok {p : Plw} {s : Shw} (h : okP p = true) (h2 : ¬ p.log.length = 32) (h3 : okP (addP p s) = true) : addE p s = 0 ∧ addA p s = eP (addP p s) := by
  have e : addE p s = 0 := (if_neg (by rw [h]; decide)).trans ((if_neg h2).trans (if_neg (by rw [h3]; decide)))
  exact ⟨e, if_pos e⟩
theorem add_conv {f : FuncId} {args : List AV} {p : Plw} {s : Shw} {y : AV} (h : FSpec Tryz.prog f args (.tup [.agg (addA p s), y]) none) : FSpec Tryz.prog f args (.tup [.agg (eP (addR p s)), y]) none := by
  unfold addA at h
  unfold addR
  by_cases h0 : addE p s = 0
  · rw [if_pos h0] at h ⊢; exact h
  · rw [if_neg h0] at h ⊢
    intro w M vals ex hl ha hM
    refine (h w M vals ex hl ha hM).mono fun e w' ⟨v, h1, h2, h3⟩ => ⟨v, h1, h2, ?_⟩
    cases h3 with
    | tup _ vs hl hh =>
      refine .tup _ vs hl fun i c u hc hu => ?_
      rcases i with _ | i
      · have := hh 0 _ u rfl hu
        have e := (Option.some.inj hc).symm
        subst e
        exact zP_c this
      · exact hh (i + 1) c u hc hu
theorem AddP_s (p : Plw) (s : Shw) : FSpec Tryz.prog 15 [.agg (eP p), .agg (eW s)] (.tup [.agg (eP (addR p s)), I (addE p s)]) none := add_conv (Add_s p s)
set_option maxHeartbeats 4000000 in
set_option maxRecDepth 20000 in
theorem AddR0_s_b (p : Plw) (s : Shw) (hwn : p.log ≠ []) : FSpec Tryz.prog 16 [.agg (eP p), .agg (eW s)] (.tup [.agg (addA p s), I (addE p s)]) (none) := by
  refine FSpec.of_body Tryz.func16 rfl (leB rfl) fun w0 M0 => ?_
  have hsl := shws_len p.log
  refine AWP.seq ?_
  refine AWP.region ?_
  refine AOps.call (o_box _ rfl rfl rfl) ?_
  refine AOps.call (o_box _ rfl rfl rfl) ?_
  refine AOps.call (o_alloc ze24 rfl rfl) ?_
  refine AOps.call (o_assign _ rfl rfl) ?_
  refine AOps.nil ?_
  refine AWP.seq ?_
  refine AWP.seq ?_
  refine AWP.region ?_
  refine AOps.call (o_loadRef _ rfl rfl Tryz.sizeOf24 Tryz.isAgg24 rfl rfl rfl) ?_
  refine AOps.call (o_call (CheckR_s p) Tryz.call18 rfl rfl) ?_
  refine AOps.call (o_bin _ _ rfl rfl (fun _ => rfl) rfl) ?_
  refine AOps.nil ?_
  refine AWP.cond _ rfl (fun h8 => ?_) (fun h8 => ?_)
  · skip
    have hno : logE p ≠ 0 := by simpa using h8
    have hE := addE_log (s := s) (okP_no hno)
    refine AWP.seq ?_
    refine AWP.region ?_
    refine AOps.call (o_build bu24 rfl rfl rfl) ?_
    refine AOps.cons (o_store _ _ rfl rfl Tryz.sizeOf24 rfl rfl rfl rfl rfl) ?_
    refine AOps.call (o_assign _ rfl rfl) ?_
    refine AOps.nil ?_
    refine AWP.ret ?_
    refine postQ.retC1 Tryz.results16 rfl rfl Tryz.sizeOf24 Tryz.isAgg24 rfl rfl ?_
    rw [hE.1, hE.2]
    rfl
  · skip
    have hok := okP_of (p := p) (by simpa using h8)
    have hp := okP_iff.1 hok
    have h32 := hp.len
    refine AWP.skip ?_
    refine AWP.seq ?_
    refine AWP.seq ?_
    refine AWP.region ?_
    refine AOps.call (o_fieldRef _ rfl fa24_6 rfl rfl) ?_
    refine AOps.call (o_loadRef _ rfl rfl Tryz.sizeOf22 Tryz.isAgg22 rfl rfl rfl) ?_
    refine AOps.call (o_len _ Tryz.underlying22 rfl rfl) ?_
    refine AOps.call (o_bin _ _ rfl rfl (fun _ => rfl) rfl) ?_
    refine AOps.nil ?_
    refine AWP.cond _ rfl (fun h15 => ?_) (fun h15 => ?_)
    · skip
      have hf : p.log.length = 32 := by
        have h := of_decide_eq_true h15
        omega
      have hE := addE_lim (s := s) hok hf
      refine AWP.seq ?_
      refine AWP.region ?_
      refine AOps.call (o_build bu24 rfl rfl rfl) ?_
      refine AOps.cons (o_store _ _ rfl rfl Tryz.sizeOf24 rfl rfl rfl rfl rfl) ?_
      refine AOps.call (o_assign _ rfl rfl) ?_
      refine AOps.nil ?_
      refine AWP.ret ?_
      refine postQ.retC1 Tryz.results16 rfl rfl Tryz.sizeOf24 Tryz.isAgg24 rfl rfl ?_
      rw [hE.1, hE.2]
      rfl
    · skip
      have hf : ¬ p.log.length = 32 := by
        have h := of_decide_eq_false h15
        omega
      refine AWP.skip ?_
      refine AWP.seq ?_
      refine AWP.region ?_
      refine AOps.call (o_loadRef _ rfl rfl Tryz.sizeOf24 Tryz.isAgg24 rfl rfl rfl) ?_
      refine AOps.call (o_alloc ze24 rfl rfl) ?_
      refine AOps.cons (o_store _ _ rfl rfl Tryz.sizeOf24 rfl rfl rfl rfl rfl) ?_
      refine AOps.nil ?_
      refine AWP.seq ?_
      refine AWP.drawn 6 mixed (by kernel_rfl) ?_
      refine AHead.call (o_lit0 Tryz.underlying22 Tryz.sizeOf27 Tryz.zeroValue27 rfl) rfl ?_
      refine AHead.call (o_fieldRef _ rfl fa24_6 rfl rfl) rfl ?_
      refine AHead.call (o_loadRef _ rfl rfl Tryz.sizeOf22 Tryz.isAgg22 rfl rfl rfl) rfl ?_
      refine AHead.call (o_appendNew _ _ Tryz.underlying22 info27 rfl rfl rfl rfl rfl rfl rfl shws_z (by rw [hsl]; unfold Tryz.t27; simp only []; omega) rfl (by rw [hsl]; exact List.length_pos_iff.2 hwn) rfl) rfl ?_
      refine AHead.call (o_loadRef _ rfl rfl Tryz.sizeOf27 Tryz.isAgg27 rfl rfl rfl) rfl ?_
      refine AHead.call (o_lit Tryz.underlying22 Tryz.sizeOf27 Tryz.zeroValue27 rfl rfl rfl rfl rfl rfl rfl) rfl ?_
      refine AHead.nil ?_
      refine AOps.cons (o_append _ _ Tryz.underlying22 info27 rfl rfl rfl rfl rfl rfl rfl rfl (fun c hc => by simp at hc; subst hc; rfl) shws_z (by rw [hsl]; unfold Tryz.t27; simp only [List.length_cons, List.length_nil]; omega) rfl (shws_app p.log s) rfl) ?_
      refine AOps.weak (Weak.mk' (n := 30) (tm := [(4, .ref (4, 0) 0), (6, .ref (6, 0) 0), (23, .sl (shws (p.log ++ [s])))]) (va := [((4, 0), zP), ((6, 0), eP p)]) (gr := []) (gen := [(4, 1), (6, 1)]) rfl ⟨⟨.refl rfl, rfl⟩, ⟨⟨.refl rfl, rfl⟩, ⟨⟨.sl rfl, rfl⟩, trivial⟩⟩⟩ ⟨⟨rfl, rfl, rfl⟩, ⟨⟨rfl, rfl, rfl⟩, trivial⟩⟩ trivial) ?_
      refine AOps.call (o_fieldRef _ rfl fa24_6 rfl rfl) ?_
      refine AOps.cons (o_store _ _ rfl rfl Tryz.sizeOf22 rfl rfl rfl rfl rfl) ?_
      refine AOps.nil ?_
      refine AWP.seq ?_
      refine AWP.seq ?_
      refine AWP.region ?_
      refine AOps.call (o_loadRef _ rfl rfl Tryz.sizeOf24 Tryz.isAgg24 rfl rfl rfl) ?_
      refine AOps.call (o_call (CheckR_s (addP p s)) Tryz.call18 rfl rfl) ?_
      refine AOps.call (o_bin _ _ rfl rfl (fun _ => rfl) rfl) ?_
      refine AOps.nil ?_
      refine AWP.cond _ rfl (fun h31 => ?_) (fun h31 => ?_)
      · skip
        have hno2 : logE (addP p s) ≠ 0 := by simpa using h31
        have hE := addE_arg (s := s) hok hf (okP_no hno2)
        refine AWP.seq ?_
        refine AWP.region ?_
        refine AOps.call (o_build bu24 rfl rfl rfl) ?_
        refine AOps.cons (o_store _ _ rfl rfl Tryz.sizeOf24 rfl rfl rfl rfl rfl) ?_
        refine AOps.call (o_assign _ rfl rfl) ?_
        refine AOps.nil ?_
        refine AWP.ret ?_
        refine postQ.retC1 Tryz.results16 rfl rfl Tryz.sizeOf24 Tryz.isAgg24 rfl rfl ?_
        rw [hE.1, hE.2]
        rfl
      · skip
        have hok2 := okP_of (p := addP p s) (by simpa using h31)
        have hE := addE_ok (s := s) hok hf hok2
        refine AWP.skip ?_
        refine AWP.seq ?_
        refine AWP.region ?_
        refine AOps.call (o_loadRef _ rfl rfl Tryz.sizeOf24 Tryz.isAgg24 rfl rfl rfl) ?_
        refine AOps.cons (o_store _ _ rfl rfl Tryz.sizeOf24 rfl rfl rfl rfl rfl) ?_
        refine AOps.call (o_assign _ rfl rfl) ?_
        refine AOps.nil ?_
        refine AWP.ret ?_
        refine postQ.retC1 Tryz.results16 rfl rfl Tryz.sizeOf24 Tryz.isAgg24 rfl rfl ?_
        rw [hE.1, hE.2]
        rfl
set_option maxHeartbeats 4000000 in
set_option maxRecDepth 20000 in
theorem AddR0_s_c (c0 c1 c2 c3 c4 c5 : Int) (s : Shw) : FSpec Tryz.prog 16 [.agg (eP (⟨c0, c1, c2, c3, c4, c5, []⟩ : Plw)), .agg (eW s)] (.tup [.agg (addA (⟨c0, c1, c2, c3, c4, c5, []⟩ : Plw) s), I (addE (⟨c0, c1, c2, c3, c4, c5, []⟩ : Plw) s)]) (none) := by
  refine FSpec.of_body Tryz.func16 rfl (leB rfl) fun w0 M0 => ?_
  have hsl := shws_len (⟨c0, c1, c2, c3, c4, c5, []⟩ : Plw).log
  refine AWP.seq ?_
  refine AWP.region ?_
  refine AOps.call (o_box _ rfl rfl rfl) ?_
  refine AOps.call (o_box _ rfl rfl rfl) ?_
  refine AOps.call (o_alloc ze24 rfl rfl) ?_
  refine AOps.call (o_assign _ rfl rfl) ?_
  refine AOps.nil ?_
  refine AWP.seq ?_
  refine AWP.seq ?_
  refine AWP.region ?_
  refine AOps.call (o_loadRef _ rfl rfl Tryz.sizeOf24 Tryz.isAgg24 rfl rfl rfl) ?_
  refine AOps.call (o_call (CheckR_s (⟨c0, c1, c2, c3, c4, c5, []⟩ : Plw)) Tryz.call18 rfl rfl) ?_
  refine AOps.call (o_bin _ _ rfl rfl (fun _ => rfl) rfl) ?_
  refine AOps.nil ?_
  refine AWP.cond _ rfl (fun h8 => ?_) (fun h8 => ?_)
  · skip
    have hno : logE (⟨c0, c1, c2, c3, c4, c5, []⟩ : Plw) ≠ 0 := by simpa using h8
    have hE := addE_log (s := s) (okP_no hno)
    refine AWP.seq ?_
    refine AWP.region ?_
    refine AOps.call (o_build bu24 rfl rfl rfl) ?_
    refine AOps.cons (o_store _ _ rfl rfl Tryz.sizeOf24 rfl rfl rfl rfl rfl) ?_
    refine AOps.call (o_assign _ rfl rfl) ?_
    refine AOps.nil ?_
    refine AWP.ret ?_
    refine postQ.retC1 Tryz.results16 rfl rfl Tryz.sizeOf24 Tryz.isAgg24 rfl rfl ?_
    rw [hE.1, hE.2]
    rfl
  · skip
    have hok := okP_of (p := (⟨c0, c1, c2, c3, c4, c5, []⟩ : Plw)) (by simpa using h8)
    have hp := okP_iff.1 hok
    have h32 := hp.len
    refine AWP.skip ?_
    refine AWP.seq ?_
    refine AWP.seq ?_
    refine AWP.region ?_
    refine AOps.call (o_fieldRef _ rfl fa24_6 rfl rfl) ?_
    refine AOps.call (o_loadRef _ rfl rfl Tryz.sizeOf22 Tryz.isAgg22 rfl rfl rfl) ?_
    refine AOps.call (o_len _ Tryz.underlying22 rfl rfl) ?_
    refine AOps.call (o_bin _ _ rfl rfl (fun _ => rfl) rfl) ?_
    refine AOps.nil ?_
    refine AWP.cond _ rfl (fun h15 => ?_) (fun h15 => ?_)
    · skip
      have hf : (⟨c0, c1, c2, c3, c4, c5, []⟩ : Plw).log.length = 32 := by
        have h := of_decide_eq_true h15
        omega
      have hE := addE_lim (s := s) hok hf
      refine AWP.seq ?_
      refine AWP.region ?_
      refine AOps.call (o_build bu24 rfl rfl rfl) ?_
      refine AOps.cons (o_store _ _ rfl rfl Tryz.sizeOf24 rfl rfl rfl rfl rfl) ?_
      refine AOps.call (o_assign _ rfl rfl) ?_
      refine AOps.nil ?_
      refine AWP.ret ?_
      refine postQ.retC1 Tryz.results16 rfl rfl Tryz.sizeOf24 Tryz.isAgg24 rfl rfl ?_
      rw [hE.1, hE.2]
      rfl
    · skip
      have hf : ¬ (⟨c0, c1, c2, c3, c4, c5, []⟩ : Plw).log.length = 32 := by
        have h := of_decide_eq_false h15
        omega
      refine AWP.skip ?_
      refine AWP.seq ?_
      refine AWP.region ?_
      refine AOps.call (o_loadRef _ rfl rfl Tryz.sizeOf24 Tryz.isAgg24 rfl rfl rfl) ?_
      refine AOps.call (o_alloc ze24 rfl rfl) ?_
      refine AOps.cons (o_store _ _ rfl rfl Tryz.sizeOf24 rfl rfl rfl rfl rfl) ?_
      refine AOps.nil ?_
      refine AWP.seq ?_
      refine AWP.drawn 8 mixed (by kernel_rfl) ?_
      refine AHead.call (o_lit0 Tryz.underlying22 Tryz.sizeOf27 Tryz.zeroValue27 rfl) rfl ?_
      refine AHead.call (o_fieldRef _ rfl fa24_6 rfl rfl) rfl ?_
      refine AHead.call (o_loadRef _ rfl rfl Tryz.sizeOf22 Tryz.isAgg22 rfl rfl rfl) rfl ?_
      refine AHead.call (o_append0 _ _ Tryz.underlying22 Tryz.sizeOf27 rfl rfl rfl) rfl ?_
      refine AHead.call (o_loadRef _ rfl rfl Tryz.sizeOf27 Tryz.isAgg27 rfl rfl rfl) rfl ?_
      refine AHead.call (o_lit Tryz.underlying22 Tryz.sizeOf27 Tryz.zeroValue27 rfl rfl rfl rfl rfl rfl rfl) rfl ?_
      refine AHead.call (o_appendNil0 (ns := [[I s.day, I s.weight]]) (rs := shws [s]) _ _ Tryz.underlying22 info27 rfl rfl rfl rfl rfl rfl rfl (fun c hc => by simp at hc; subst hc; rfl) (by unfold Tryz.t27; simp) rfl rfl rfl) rfl ?_
      refine AHead.call (o_fieldRef _ rfl fa24_6 rfl rfl) rfl ?_
      refine AHead.nil ?_
      refine AOps.cons (o_store _ _ rfl rfl Tryz.sizeOf22 rfl rfl rfl rfl rfl) ?_
      refine AOps.nil ?_
      refine AWP.seq ?_
      refine AWP.seq ?_
      refine AWP.region ?_
      refine AOps.call (o_loadRef _ rfl rfl Tryz.sizeOf24 Tryz.isAgg24 rfl rfl rfl) ?_
      refine AOps.call (o_call (CheckR_s (addP (⟨c0, c1, c2, c3, c4, c5, []⟩ : Plw) s)) Tryz.call18 rfl rfl) ?_
      refine AOps.call (o_bin _ _ rfl rfl (fun _ => rfl) rfl) ?_
      refine AOps.nil ?_
      refine AWP.cond _ rfl (fun h31 => ?_) (fun h31 => ?_)
      · skip
        have hno2 : logE (addP (⟨c0, c1, c2, c3, c4, c5, []⟩ : Plw) s) ≠ 0 := by simpa using h31
        have hE := addE_arg (s := s) hok hf (okP_no hno2)
        refine AWP.seq ?_
        refine AWP.region ?_
        refine AOps.call (o_build bu24 rfl rfl rfl) ?_
        refine AOps.cons (o_store _ _ rfl rfl Tryz.sizeOf24 rfl rfl rfl rfl rfl) ?_
        refine AOps.call (o_assign _ rfl rfl) ?_
        refine AOps.nil ?_
        refine AWP.ret ?_
        refine postQ.retC1 Tryz.results16 rfl rfl Tryz.sizeOf24 Tryz.isAgg24 rfl rfl ?_
        rw [hE.1, hE.2]
        rfl
      · skip
        have hok2 := okP_of (p := addP (⟨c0, c1, c2, c3, c4, c5, []⟩ : Plw) s) (by simpa using h31)
        have hE := addE_ok (s := s) hok hf hok2
        refine AWP.skip ?_
        refine AWP.seq ?_
        refine AWP.region ?_
        refine AOps.call (o_loadRef _ rfl rfl Tryz.sizeOf24 Tryz.isAgg24 rfl rfl rfl) ?_
        refine AOps.cons (o_store _ _ rfl rfl Tryz.sizeOf24 rfl rfl rfl rfl rfl) ?_
        refine AOps.call (o_assign _ rfl rfl) ?_
        refine AOps.nil ?_
        refine AWP.ret ?_
        refine postQ.retC1 Tryz.results16 rfl rfl Tryz.sizeOf24 Tryz.isAgg24 rfl rfl ?_
        rw [hE.1, hE.2]
        rfl
theorem AddR_s (p : Plw) (s : Shw) : FSpec Tryz.prog 16 [.agg (eP p), .agg (eW s)] (.tup [.agg (eP (addR p s)), I (addE p s)]) none := by
  refine add_conv ?_
  by_cases h : p.log = []
  · obtain ⟨c0, c1, c2, c3, c4, c5, l⟩ := p
    have h2 : l = [] := h
    subst h2
    exact AddR0_s_c c0 c1 c2 c3 c4 c5 s
  · exact AddR0_s_b p s h
end Go.Proofs.YtelenedgaoglaaaGreatDoor
