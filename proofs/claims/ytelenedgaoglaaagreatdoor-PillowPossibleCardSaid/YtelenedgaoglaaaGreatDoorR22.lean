/- R22. -/
import Derived.Test.YtelenedgaoglaaaGreatDoorR21
set_option linter.unusedSimpArgs false
set_option linter.unusedVariables false
namespace Go.Proofs.YtelenedgaoglaaaGreatDoor
open Go.Ab
open Go.Pil Go.RowKit
def casL (p : Plw) (w : List Sp) : List (List Int) := if 64 < (casesA p w).length then [] else casesA p w
def casE (p : Plw) (w : List Sp) : Int := if 64 < (casesA p w).length then 2 else 0
theorem FSpec.nil2 {P : Program} {f : FuncId} {args : List AV} {y : AV} (h : FSpec P f args (.tup [.sc (.slice none 0 0), y]) none) : FSpec P f args (.tup [.sl [], y]) none := by
  intro w M vals ex hl ha hM
  refine (h w M vals ex hl ha hM).mono fun e w' ⟨v, h1, h2, h3⟩ => ⟨v, h1, h2, ?_⟩
  cases h3 with
  | tup _ vs hl hh =>
    refine .tup _ vs hl fun i c u hc hu => ?_
    rcases i with _ | i
    · have := hh 0 _ u rfl hu
      cases this
      have e := (Option.some.inj hc).symm
      subst e
      exact .sl0 _ _
    · exact hh (i + 1) c u hc hu
theorem casesL_s (p : Plw) (w : List Sp) (hp : OkP p) (hw : okW p w = true) : FSpec Tryz.prog 66 [.agg (eR p w)] (.tup [.sl (css (casL p w)), I (casE p w)]) none := by
  have h := cases_s p w hp hw
  unfold casesR at h
  unfold casL casE
  by_cases hq : 64 < (casesA p w).length
  · rw [if_pos hq] at h ⊢; rw [if_pos hq]
    exact FSpec.nil2 h
  · rw [if_neg hq] at h ⊢; rw [if_neg hq]
    exact h
theorem casL_mem {p : Plw} (hp : OkP p) {w : List Sp} {l : List Int} (h : l ∈ casL p w) : Rem (p.pb w) p.log.length l := by
  unfold casL at h
  split at h
  · cases h
  · exact (mem_lev _ hp.faults.1).1 h
theorem casL_len (p : Plw) (w : List Sp) : (casL p w).length ≤ 64 := by
  unfold casL; split
  · simp
  · omega
theorem casE_ne {p : Plw} {w : List Sp} (h : casE p w ≠ 0) : casL p w = [] ∧ casE p w = 2 := by
  unfold casE casL at *
  split at h
  · rename_i hq; rw [if_pos hq, if_pos hq]; exact ⟨rfl, rfl⟩
  · exact absurd rfl h
def rdE (p : Plw) (w : List Sp) : Int := if okP p = false then 30 else if okW p w = false then 1 else 0
theorem rdE_ok {p w} (h1 : okP p = true) (h2 : okW p w = true) : rdE p w = 0 := by unfold rdE; rw [if_neg (by rw [h1]; decide), if_neg (by rw [h2]; decide)]
theorem rdE_log {p : Plw} {w : List Sp} (h1 : okP p = false) : rdE p w = 30 := by unfold rdE; rw [if_pos h1]
theorem rdE_arg {p w} (h1 : okP p = true) (h2 : okW p w = false) : rdE p w = 1 := by unfold rdE; rw [if_neg (by rw [h1]; decide), if_pos h2]
theorem rdE_0 {p w} (h : rdE p w = 0) : okP p = true ∧ okW p w = true := by
  unfold rdE at h
  split at h
  · omega
  · split at h
    · omega
    · rename_i h1 h2; exact ⟨by simpa using h1, by simpa using h2⟩
def CasL (p : Plw) (w : List Sp) : List (List Int) := if rdE p w = 0 then casL p w else []
def CasE (p : Plw) (w : List Sp) : Int := if rdE p w = 0 then casE p w else rdE p w
set_option maxRecDepth 20000 in
theorem Cases_ok (p : Plw) (w : List Sp) (hw1 : w.length ≤ 9223372036854775807) (he : okP p = true) (hq : okW p w = true) : FSpec Tryz.prog 23 [.agg (eP p), .sl (sps w)] (.tup [.sl (css (casL p w)), I (casE p w)]) (none) := by
  refine FSpec.of_body Tryz.func23 rfl (leB rfl) fun w0 M0 => ?_
  refine AWP.seq ?_
  refine AWP.region ?_
  refine AOps.call (o_box _ rfl rfl rfl) ?_
  refine AOps.call (o_nil (z := 1) (e := 25) rfl) ?_
  refine AOps.call (o_assign _ rfl rfl) ?_
  refine AOps.nil ?_
  refine AWP.seq ?_
  refine AWP.region ?_
  refine AOps.call (o_loadRef _ rfl rfl Tryz.sizeOf24 Tryz.isAgg24 rfl rfl rfl) ?_
  refine AOps.call (o_move _ rfl rfl) ?_
  refine AOps.call (o_call (read_ok p w hw1 he hq) Tryz.call65 rfl rfl) ?_
  refine AOps.call (o_move _ rfl rfl) ?_
  refine AOps.call (o_extract _ rfl rfl rfl rfl) ?_
  refine AOps.call (o_extract _ rfl rfl rfl rfl) ?_
  refine AOps.call (o_alloc ze91 rfl rfl) ?_
  refine AOps.cons (o_store _ _ rfl rfl Tryz.sizeOf91 rfl rfl rfl rfl rfl) ?_
  refine AOps.call (o_assign _ rfl rfl) ?_
  refine AOps.nil ?_
  refine AWP.seq ?_
  refine AWP.seq ?_
  refine AWP.region ?_
  refine AOps.call (o_move _ rfl rfl) ?_
  refine AOps.call (o_bin _ _ rfl rfl (fun _ => rfl) rfl) ?_
  refine AOps.nil ?_
  refine AWP.cond _ rfl (fun h11 => ?_) (fun h11 => ?_)
  · skip
    exfalso
    exact absurd h11 (by decide)
  · skip
    refine AWP.skip ?_
    refine AWP.seq ?_
    refine AWP.region ?_
    refine AOps.call (o_loadRef _ rfl rfl Tryz.sizeOf91 Tryz.isAgg91 rfl rfl rfl) ?_
    refine AOps.call (o_call (casesL_s p w (okP_iff.1 he) hq) Tryz.call66 rfl rfl) ?_
    refine AOps.call (o_extract _ rfl rfl rfl rfl) ?_
    refine AOps.call (o_extract _ rfl rfl rfl rfl) ?_
    refine AOps.call (o_assign _ rfl rfl) ?_
    refine AOps.call (o_assign _ rfl rfl) ?_
    refine AOps.nil ?_
    refine AWP.ret ?_
    exact postQ.ret2 Tryz.results23 rfl rfl rfl
set_option maxRecDepth 20000 in
theorem Cases_log (p : Plw) (w : List Sp) (hw1 : w.length ≤ 9223372036854775807) (he : okP p = false) : FSpec Tryz.prog 23 [.agg (eP p), .sl (sps w)] (.tup [.sl [], I 30]) (none) := by
  refine FSpec.of_body Tryz.func23 rfl (leB rfl) fun w0 M0 => ?_
  refine AWP.seq ?_
  refine AWP.region ?_
  refine AOps.call (o_box _ rfl rfl rfl) ?_
  refine AOps.call (o_nil (z := 1) (e := 25) rfl) ?_
  refine AOps.call (o_assign _ rfl rfl) ?_
  refine AOps.nil ?_
  refine AWP.seq ?_
  refine AWP.region ?_
  refine AOps.call (o_loadRef _ rfl rfl Tryz.sizeOf24 Tryz.isAgg24 rfl rfl rfl) ?_
  refine AOps.call (o_move _ rfl rfl) ?_
  refine AOps.call (o_call (read_log p w hw1 he) Tryz.call65 rfl rfl) ?_
  refine AOps.call (o_move _ rfl rfl) ?_
  refine AOps.call (o_extract _ rfl rfl rfl rfl) ?_
  refine AOps.call (o_extract _ rfl rfl rfl rfl) ?_
  refine AOps.call (o_alloc ze91 rfl rfl) ?_
  refine AOps.cons (o_store _ _ rfl rfl Tryz.sizeOf91 rfl rfl rfl rfl rfl) ?_
  refine AOps.call (o_assign _ rfl rfl) ?_
  refine AOps.nil ?_
  refine AWP.seq ?_
  refine AWP.seq ?_
  refine AWP.region ?_
  refine AOps.call (o_move _ rfl rfl) ?_
  refine AOps.call (o_bin _ _ rfl rfl (fun _ => rfl) rfl) ?_
  refine AOps.nil ?_
  refine AWP.cond _ rfl (fun h11 => ?_) (fun h11 => ?_)
  · skip
    refine AWP.seq ?_
    refine AWP.region ?_
    refine AOps.call (o_move _ rfl rfl) ?_
    refine AOps.call (o_nil (z := 1) (e := 25) rfl) ?_
    refine AOps.call (o_assign _ rfl rfl) ?_
    refine AOps.nil ?_
    refine AWP.ret ?_
    exact postQ.ret2 Tryz.results23 rfl rfl rfl
  · skip
    exfalso
    exact absurd h11 (by decide)
set_option maxRecDepth 20000 in
theorem Cases_arg (p : Plw) (w : List Sp) (hw1 : w.length ≤ 9223372036854775807) (he : okP p = true) (hq : okW p w = false) : FSpec Tryz.prog 23 [.agg (eP p), .sl (sps w)] (.tup [.sl [], I 1]) (none) := by
  refine FSpec.of_body Tryz.func23 rfl (leB rfl) fun w0 M0 => ?_
  refine AWP.seq ?_
  refine AWP.region ?_
  refine AOps.call (o_box _ rfl rfl rfl) ?_
  refine AOps.call (o_nil (z := 1) (e := 25) rfl) ?_
  refine AOps.call (o_assign _ rfl rfl) ?_
  refine AOps.nil ?_
  refine AWP.seq ?_
  refine AWP.region ?_
  refine AOps.call (o_loadRef _ rfl rfl Tryz.sizeOf24 Tryz.isAgg24 rfl rfl rfl) ?_
  refine AOps.call (o_move _ rfl rfl) ?_
  refine AOps.call (o_call (read_arg p w hw1 he hq) Tryz.call65 rfl rfl) ?_
  refine AOps.call (o_move _ rfl rfl) ?_
  refine AOps.call (o_extract _ rfl rfl rfl rfl) ?_
  refine AOps.call (o_extract _ rfl rfl rfl rfl) ?_
  refine AOps.call (o_alloc ze91 rfl rfl) ?_
  refine AOps.cons (o_store _ _ rfl rfl Tryz.sizeOf91 rfl rfl rfl rfl rfl) ?_
  refine AOps.call (o_assign _ rfl rfl) ?_
  refine AOps.nil ?_
  refine AWP.seq ?_
  refine AWP.seq ?_
  refine AWP.region ?_
  refine AOps.call (o_move _ rfl rfl) ?_
  refine AOps.call (o_bin _ _ rfl rfl (fun _ => rfl) rfl) ?_
  refine AOps.nil ?_
  refine AWP.cond _ rfl (fun h11 => ?_) (fun h11 => ?_)
  · skip
    refine AWP.seq ?_
    refine AWP.region ?_
    refine AOps.call (o_move _ rfl rfl) ?_
    refine AOps.call (o_nil (z := 1) (e := 25) rfl) ?_
    refine AOps.call (o_assign _ rfl rfl) ?_
    refine AOps.nil ?_
    refine AWP.ret ?_
    exact postQ.ret2 Tryz.results23 rfl rfl rfl
  · skip
    exfalso
    exact absurd h11 (by decide)
theorem Cases_s (p : Plw) (w : List Sp) (hw1 : w.length ≤ 9223372036854775807) : FSpec Tryz.prog 23 [.agg (eP p), .sl (sps w)] (.tup [.sl (css (CasL p w)), I (CasE p w)]) none := by
  unfold CasL CasE
  by_cases he : okP p = true
  · by_cases hq : okW p w = true
    · rw [rdE_ok he hq]; exact Cases_ok p w hw1 he hq
    · rw [rdE_arg he (by simpa using hq)]; exact Cases_arg p w hw1 he (by simpa using hq)
  · rw [rdE_log (by simpa using he)]; exact Cases_log p w hw1 (by simpa using he)
end Go.Proofs.YtelenedgaoglaaaGreatDoor
