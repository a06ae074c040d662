/- R28. -/
import Derived.Test.YtelenedgaoglaaaGreatDoorR27
set_option linter.unusedSimpArgs false
set_option linter.unusedVariables false
namespace Go.Proofs.YtelenedgaoglaaaGreatDoor
open Go.Ab
open Go.Pil Go.RowKit
def addP (p : Plw) (s : Shw) : Plw := ⟨p.no, p.cell, p.noise, p.slab, p.jump, p.faults, p.log ++ [s]⟩
def zP : List AV := [I 0, I 0, I 0, I 0, I 0, I 0, .sc (.slice none 0 0)]
def addE (p : Plw) (s : Shw) : Int := if okP p = false then 30 else if p.log.length = 32 then 2 else if okP (addP p s) = false then 1 else 0
theorem shws_app (l : List Shw) (s : Shw) : shws l ++ [[I s.day, I s.weight]] = shws (l ++ [s]) := by simp [shws, eW]
theorem logE_0 {p : Plw} (h : logE p = 0) : okP p = true := by
  unfold logE at h; by_cases h2 : okP p = true
  · exact h2
  · rw [if_neg h2] at h; exact absurd h (by decide)
theorem logE_n {p : Plw} (h : logE p ≠ 0) : okP p = false ∧ logE p = 30 := by
  unfold logE at h ⊢; by_cases h2 : okP p = true
  · rw [if_pos h2] at h; exact absurd rfl h
  · rw [if_neg h2]; exact ⟨by simpa using h2, rfl⟩
def addA (p : Plw) (s : Shw) : List AV := if addE p s = 0 then eP (addP p s) else zP
set_option maxRecDepth 20000 in
theorem Add_s (p : Plw) (s : Shw) : FSpec Tryz.prog 15 [.agg (eP p), .agg (eW s)] (.tup [.agg (addA p s), I (addE p s)]) (none) := by
  refine FSpec.of_body Tryz.func15 rfl (leB rfl) fun w0 M0 => ?_
  have hsl := shws_len p.log
  refine AWP.seq ?_
  refine AWP.region ?_
  refine AOps.call (o_box _ rfl rfl rfl) ?_
  refine AOps.call (o_box _ rfl rfl rfl) ?_
  refine AOps.call (o_alloc ze24 rfl rfl) ?_
  refine AOps.call (o_assign _ rfl rfl) ?_
  refine AOps.nil ?_
  refine AWP.seq ?_
  refine AWP.seq ?_
  refine AWP.region ?_
  refine AOps.call (o_loadRef _ rfl rfl Tryz.sizeOf24 Tryz.isAgg24 rfl rfl rfl) ?_
  refine AOps.call (o_call (Check_s p) Tryz.call17 rfl rfl) ?_
  refine AOps.call (o_assign _ rfl rfl) ?_
  refine AOps.nil ?_
  refine AWP.seq ?_
  refine AWP.region ?_
  refine AOps.call (o_move _ rfl rfl) ?_
  refine AOps.call (o_bin _ _ rfl rfl (fun _ => rfl) rfl) ?_
  refine AOps.nil ?_
  refine AWP.cond _ rfl (fun h8 => ?_) (fun h8 => ?_)
  · skip
    have hno := logE_n (p := p) (by simpa using h8)
    have hE : addE p s = 30 := if_pos hno.1
    have hA : addA p s = zP := if_neg (by rw [hE]; decide)
    refine AWP.seq ?_
    refine AWP.region ?_
    refine AOps.call (o_build bu24 rfl rfl rfl) ?_
    refine AOps.call (o_move _ rfl rfl) ?_
    refine AOps.cons (o_store _ _ rfl rfl Tryz.sizeOf24 rfl rfl rfl rfl rfl) ?_
    refine AOps.call (o_assign _ rfl rfl) ?_
    refine AOps.nil ?_
    refine AWP.ret ?_
    refine postQ.retC1 Tryz.results15 rfl rfl Tryz.sizeOf24 Tryz.isAgg24 rfl rfl ?_
    first
    | (rw [hA, hE, hno.2]; rfl)
    | (rw [hA, hE]; rfl)
  · skip
    have hok := logE_0 (p := p) (by simpa using h8)
    have hp := okP_iff.1 hok
    have h32 := hp.len
    refine AWP.skip ?_
    refine AWP.seq ?_
    refine AWP.seq ?_
    refine AWP.region ?_
    refine AOps.call (o_fieldRef _ rfl fa24_6 rfl rfl) ?_
    refine AOps.call (o_loadRef _ rfl rfl Tryz.sizeOf22 Tryz.isAgg22 rfl rfl rfl) ?_
    refine AOps.call (o_len _ Tryz.underlying22 rfl rfl) ?_
    refine AOps.call (o_bin _ _ rfl rfl (fun _ => rfl) rfl) ?_
    refine AOps.nil ?_
    refine AWP.cond _ rfl (fun h14 => ?_) (fun h14 => ?_)
    · skip
      have hf : p.log.length = 32 := by
        have h : ((shws p.log).length : Int) = 32 := by simpa using h14
        omega
      have hE : addE p s = 2 := (if_neg (by rw [hok]; decide)).trans (if_pos hf)
      have hA : addA p s = zP := if_neg (by rw [hE]; decide)
      refine AWP.seq ?_
      refine AWP.region ?_
      refine AOps.call (o_build bu24 rfl rfl rfl) ?_
      refine AOps.cons (o_store _ _ rfl rfl Tryz.sizeOf24 rfl rfl rfl rfl rfl) ?_
      refine AOps.call (o_assign _ rfl rfl) ?_
      refine AOps.nil ?_
      refine AWP.ret ?_
      refine postQ.retC1 Tryz.results15 rfl rfl Tryz.sizeOf24 Tryz.isAgg24 rfl rfl ?_
      first
      | (rw [hA, hE, hno.2]; rfl)
      | (rw [hA, hE]; rfl)
    · skip
      have hf : ¬ p.log.length = 32 := by
        have h : ¬ ((shws p.log).length : Int) = 32 := by simpa using h14
        omega
      refine AWP.skip ?_
      refine AWP.seq ?_
      refine AWP.region ?_
      refine AOps.call (o_fieldRef _ rfl fa24_6 rfl rfl) ?_
      refine AOps.call (o_loadRef _ rfl rfl Tryz.sizeOf22 Tryz.isAgg22 rfl rfl rfl) ?_
      refine AOps.call (o_len _ Tryz.underlying22 rfl rfl) ?_
      refine AOps.call (o_add _ _ rfl rfl ⟨by (try dsimp only); omega, by (try dsimp only); omega⟩ rfl) ?_
      refine AOps.call (o_make0 _ Tryz.underlying22 info27 rfl rfl rfl rfl rfl rfl (by omega) (by omega) rfl rfl) ?_
      refine AOps.call (o_assign _ rfl rfl) ?_
      refine AOps.nil ?_
      refine AWP.seq ?_
      refine AWP.region ?_
      refine AOps.call (o_move _ rfl rfl) ?_
      refine AOps.call (o_fieldRef _ rfl fa24_6 rfl rfl) ?_
      refine AOps.call (o_loadRef _ rfl rfl Tryz.sizeOf22 Tryz.isAgg22 rfl rfl rfl) ?_
      refine AOps.cons (o_append _ _ Tryz.underlying22 info27 rfl rfl rfl rfl rfl rfl rfl rfl shws_z (fun e he => by cases he) (by rw [hsl]; unfold Tryz.t27; simp only [List.length_nil]; omega) rfl (List.nil_append _) rfl) ?_
      refine AOps.call (o_assign _ rfl rfl) ?_
      refine AOps.nil ?_
      refine AWP.seq ?_
      refine AWP.region ?_
      refine AOps.call (o_move _ rfl rfl) ?_
      refine AOps.call (o_loadRef _ rfl rfl Tryz.sizeOf27 Tryz.isAgg27 rfl rfl rfl) ?_
      refine AOps.call (o_lit Tryz.underlying22 Tryz.sizeOf27 Tryz.zeroValue27 rfl rfl rfl rfl rfl rfl rfl) ?_
      refine AOps.cons (o_append _ _ Tryz.underlying22 info27 rfl rfl rfl rfl rfl rfl rfl rfl (fun c hc => by simp at hc; subst hc; rfl) shws_z (by rw [hsl]; unfold Tryz.t27; simp only [List.length_cons, List.length_nil]; omega) rfl (shws_app p.log s) rfl) ?_
      refine AOps.weak (Weak.mk' (n := 38) (tm := [(2, .ref (2, 0) 0), (4, .ref (4, 0) 0), (31, .sl (shws (p.log ++ [s])))]) (va := [((2, 0), eP p), ((4, 0), zP)]) (gr := []) (gen := [(2, 1), (4, 1)]) rfl ⟨⟨.refl rfl, rfl⟩, ⟨⟨.refl rfl, rfl⟩, ⟨⟨.sl rfl, rfl⟩, trivial⟩⟩⟩ ⟨⟨rfl, rfl, rfl⟩, ⟨⟨rfl, rfl, rfl⟩, trivial⟩⟩ trivial) ?_
      refine AOps.call (o_fieldRef _ rfl fa24_6 rfl rfl) ?_
      refine AOps.cons (o_store _ _ rfl rfl Tryz.sizeOf22 rfl rfl rfl rfl rfl) ?_
      refine AOps.nil ?_
      refine AWP.seq ?_
      refine AWP.seq ?_
      refine AWP.region ?_
      refine AOps.call (o_loadRef _ rfl rfl Tryz.sizeOf24 Tryz.isAgg24 rfl rfl rfl) ?_
      refine AOps.call (o_call (Check_s (addP p s)) Tryz.call17 rfl rfl) ?_
      refine AOps.call (o_bin _ _ rfl rfl (fun _ => rfl) rfl) ?_
      refine AOps.nil ?_
      refine AWP.cond _ rfl (fun h32 => ?_) (fun h32 => ?_)
      · skip
        have hno := logE_n (p := addP p s) (by simpa using h32)
        have hE : addE p s = 1 := (if_neg (by rw [hok]; decide)).trans ((if_neg hf).trans (if_pos hno.1))
        have hA : addA p s = zP := if_neg (by rw [hE]; decide)
        refine AWP.seq ?_
        refine AWP.region ?_
        refine AOps.call (o_build bu24 rfl rfl rfl) ?_
        refine AOps.cons (o_store _ _ rfl rfl Tryz.sizeOf24 rfl rfl rfl rfl rfl) ?_
        refine AOps.call (o_assign _ rfl rfl) ?_
        refine AOps.nil ?_
        refine AWP.ret ?_
        refine postQ.retC1 Tryz.results15 rfl rfl Tryz.sizeOf24 Tryz.isAgg24 rfl rfl ?_
        first
        | (rw [hA, hE, hno.2]; rfl)
        | (rw [hA, hE]; rfl)
      · skip
        have hok2 := logE_0 (p := addP p s) (by simpa using h32)
        have hE : addE p s = 0 := (if_neg (by rw [hok]; decide)).trans ((if_neg hf).trans (if_neg (by rw [hok2]; decide)))
        have hA : addA p s = eP (addP p s) := if_pos hE
        refine AWP.skip ?_
        refine AWP.seq ?_
        refine AWP.region ?_
        refine AOps.call (o_loadRef _ rfl rfl Tryz.sizeOf24 Tryz.isAgg24 rfl rfl rfl) ?_
        refine AOps.cons (o_store _ _ rfl rfl Tryz.sizeOf24 rfl rfl rfl rfl rfl) ?_
        refine AOps.call (o_assign _ rfl rfl) ?_
        refine AOps.nil ?_
        refine AWP.ret ?_
        refine postQ.retC1 Tryz.results15 rfl rfl Tryz.sizeOf24 Tryz.isAgg24 rfl rfl ?_
        first
        | (rw [hA, hE, hno.2]; rfl)
        | (rw [hA, hE]; rfl)
end Go.Proofs.YtelenedgaoglaaaGreatDoor
