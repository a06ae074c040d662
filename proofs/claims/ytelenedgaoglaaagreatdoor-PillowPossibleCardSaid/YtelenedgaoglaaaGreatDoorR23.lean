/- R23. -/
import Derived.Test.YtelenedgaoglaaaGreatDoorR22
import Derived.Test.YtelenedgaoglaaaGreatDoorR16
set_option linter.unusedSimpArgs false
set_option linter.unusedVariables false
namespace Go.Proofs.YtelenedgaoglaaaGreatDoor
open Go.Ab
open Go.Pil Go.RowKit
def hasB (p : Plw) (n : Int) : Bool := decide (0 ≤ n) && decide (n < p.log.length)
def atE (p : Plw) (w : List Sp) (n : Int) : Int := if rdE p w = 0 then (if hasB p n = true then 0 else 1) else rdE p w
theorem atE_0 {p w n} (h : atE p w n = 0) : okP p = true ∧ okW p w = true ∧ hasB p n = true := by
  unfold atE at h
  split at h
  · rename_i h1
    split at h
    · rename_i h2; exact ⟨(rdE_0 h1).1, (rdE_0 h1).2, h2⟩
    · omega
  · rename_i h1; exact absurd h h1
set_option maxRecDepth 20000 in
theorem casesAt_ok (p : Plw) (w : List Sp) (n : Int) (hw1 : w.length ≤ 9223372036854775807) (he : okP p = true) (hq : okW p w = true) (hh : hasB p n = true) : FSpec Tryz.prog 76 [.agg (eP p), .sl (sps w), I n] (.tup [.agg (eR p w), .sl (css (casL p w)), I (casE p w)]) (none) := by
  refine FSpec.of_body Tryz.func76 rfl (leB rfl) fun w0 M0 => ?_
  refine AWP.seq ?_
  refine AWP.region ?_
  refine AOps.call (o_box _ rfl rfl rfl) ?_
  refine AOps.call (o_alloc ze91 rfl rfl) ?_
  refine AOps.call (o_nil (z := 1) (e := 25) rfl) ?_
  refine AOps.call (o_assign _ rfl rfl) ?_
  refine AOps.nil ?_
  refine AWP.seq ?_
  refine AWP.region ?_
  refine AOps.call (o_loadRef _ rfl rfl Tryz.sizeOf24 Tryz.isAgg24 rfl rfl rfl) ?_
  refine AOps.call (o_move _ rfl rfl) ?_
  refine AOps.call (o_call (read_ok p w hw1 he hq) Tryz.call65 rfl rfl) ?_
  refine AOps.call (o_move _ rfl rfl) ?_
  refine AOps.call (o_extract _ rfl rfl rfl rfl) ?_
  refine AOps.call (o_extract _ rfl rfl rfl rfl) ?_
  refine AOps.call (o_alloc ze91 rfl rfl) ?_
  refine AOps.cons (o_store _ _ rfl rfl Tryz.sizeOf91 rfl rfl rfl rfl rfl) ?_
  refine AOps.call (o_assign _ rfl rfl) ?_
  refine AOps.nil ?_
  refine AWP.seq ?_
  refine AWP.seq ?_
  refine AWP.region ?_
  refine AOps.call (o_move _ rfl rfl) ?_
  refine AOps.call (o_bin _ _ rfl rfl (fun _ => rfl) rfl) ?_
  refine AOps.nil ?_
  refine AWP.cond _ rfl (fun h12 => ?_) (fun h12 => ?_)
  · skip
    exfalso
    exact absurd h12 (by decide)
  · skip
    refine AWP.skip ?_
    refine AWP.seq ?_
    refine AWP.seq ?_
    refine AWP.region ?_
    refine AOps.call (o_fieldRef _ rfl fa91_0 rfl rfl) ?_
    refine AOps.call (o_loadRef _ rfl rfl Tryz.sizeOf83 Tryz.isAgg83 rfl rfl rfl) ?_
    refine AOps.call (o_move _ rfl rfl) ?_
    refine AOps.call (o_call (has_s p n) Tryz.call56 rfl rfl) ?_
    refine AOps.call (o_un _ rfl (fun _ => rfl) rfl) ?_
    refine AOps.nil ?_
    refine AWP.cond _ rfl (fun h18 => ?_) (fun h18 => ?_)
    · skip
      exfalso
      unfold hasB at hh
      rw [hh] at h18
      exact absurd h18 (by decide)
    · skip
      skip
      refine AWP.skip ?_
      refine AWP.seq ?_
      refine AWP.region ?_
      refine AOps.call (o_loadRef _ rfl rfl Tryz.sizeOf91 Tryz.isAgg91 rfl rfl rfl) ?_
      refine AOps.call (o_call (casesL_s p w (okP_iff.1 he) hq) Tryz.call66 rfl rfl) ?_
      refine AOps.call (o_move _ rfl rfl) ?_
      refine AOps.call (o_extract _ rfl rfl rfl rfl) ?_
      refine AOps.call (o_extract _ rfl rfl rfl rfl) ?_
      refine AOps.call (o_assign _ rfl rfl) ?_
      refine AOps.call (o_assign _ rfl rfl) ?_
      refine AOps.nil ?_
      refine AWP.seq ?_
      refine AWP.region ?_
      refine AOps.call (o_loadRef _ rfl rfl Tryz.sizeOf91 Tryz.isAgg91 rfl rfl rfl) ?_
      refine AOps.call (o_move _ rfl rfl) ?_
      refine AOps.call (o_move _ rfl rfl) ?_
      refine AOps.cons (o_store _ _ rfl rfl Tryz.sizeOf91 rfl rfl rfl rfl rfl) ?_
      refine AOps.call (o_assign _ rfl rfl) ?_
      refine AOps.call (o_assign _ rfl rfl) ?_
      refine AOps.nil ?_
      refine AWP.ret ?_
      exact postQ.retC2 Tryz.results76 rfl rfl Tryz.sizeOf91 Tryz.isAgg91 rfl rfl rfl rfl
set_option maxRecDepth 20000 in
theorem casesAt_no (p : Plw) (w : List Sp) (n : Int) (hw1 : w.length ≤ 9223372036854775807) (he : okP p = true) (hq : okW p w = true) (hh : hasB p n = false) : FSpec Tryz.prog 76 [.agg (eP p), .sl (sps w), I n] (.tup [.agg zR, .sl [], I 1]) (none) := by
  refine FSpec.of_body Tryz.func76 rfl (leB rfl) fun w0 M0 => ?_
  refine AWP.seq ?_
  refine AWP.region ?_
  refine AOps.call (o_box _ rfl rfl rfl) ?_
  refine AOps.call (o_alloc ze91 rfl rfl) ?_
  refine AOps.call (o_nil (z := 1) (e := 25) rfl) ?_
  refine AOps.call (o_assign _ rfl rfl) ?_
  refine AOps.nil ?_
  refine AWP.seq ?_
  refine AWP.region ?_
  refine AOps.call (o_loadRef _ rfl rfl Tryz.sizeOf24 Tryz.isAgg24 rfl rfl rfl) ?_
  refine AOps.call (o_move _ rfl rfl) ?_
  refine AOps.call (o_call (read_ok p w hw1 he hq) Tryz.call65 rfl rfl) ?_
  refine AOps.call (o_move _ rfl rfl) ?_
  refine AOps.call (o_extract _ rfl rfl rfl rfl) ?_
  refine AOps.call (o_extract _ rfl rfl rfl rfl) ?_
  refine AOps.call (o_alloc ze91 rfl rfl) ?_
  refine AOps.cons (o_store _ _ rfl rfl Tryz.sizeOf91 rfl rfl rfl rfl rfl) ?_
  refine AOps.call (o_assign _ rfl rfl) ?_
  refine AOps.nil ?_
  refine AWP.seq ?_
  refine AWP.seq ?_
  refine AWP.region ?_
  refine AOps.call (o_move _ rfl rfl) ?_
  refine AOps.call (o_bin _ _ rfl rfl (fun _ => rfl) rfl) ?_
  refine AOps.nil ?_
  refine AWP.cond _ rfl (fun h12 => ?_) (fun h12 => ?_)
  · skip
    exfalso
    exact absurd h12 (by decide)
  · skip
    refine AWP.skip ?_
    refine AWP.seq ?_
    refine AWP.seq ?_
    refine AWP.region ?_
    refine AOps.call (o_fieldRef _ rfl fa91_0 rfl rfl) ?_
    refine AOps.call (o_loadRef _ rfl rfl Tryz.sizeOf83 Tryz.isAgg83 rfl rfl rfl) ?_
    refine AOps.call (o_move _ rfl rfl) ?_
    refine AOps.call (o_call (has_s p n) Tryz.call56 rfl rfl) ?_
    refine AOps.call (o_un _ rfl (fun _ => rfl) rfl) ?_
    refine AOps.nil ?_
    refine AWP.cond _ rfl (fun h18 => ?_) (fun h18 => ?_)
    · skip
      skip
      refine AWP.seq ?_
      refine AWP.region ?_
      refine AOps.call (o_build bu91 rfl rfl rfl) ?_
      refine AOps.cons (o_store _ _ rfl rfl Tryz.sizeOf91 rfl rfl rfl rfl rfl) ?_
      refine AOps.call (o_nil (z := 1) (e := 25) rfl) ?_
      refine AOps.call (o_assign _ rfl rfl) ?_
      refine AOps.nil ?_
      refine AWP.ret ?_
      exact postQ.retC2 Tryz.results76 rfl rfl Tryz.sizeOf91 Tryz.isAgg91 rfl rfl rfl rfl
    · skip
      exfalso
      unfold hasB at hh
      rw [hh] at h18
      exact absurd h18 (by decide)
set_option maxRecDepth 20000 in
theorem casesAt_log (p : Plw) (w : List Sp) (n : Int) (hw1 : w.length ≤ 9223372036854775807) (he : okP p = false) : FSpec Tryz.prog 76 [.agg (eP p), .sl (sps w), I n] (.tup [.agg zR, .sl [], I 30]) (none) := by
  refine FSpec.of_body Tryz.func76 rfl (leB rfl) fun w0 M0 => ?_
  refine AWP.seq ?_
  refine AWP.region ?_
  refine AOps.call (o_box _ rfl rfl rfl) ?_
  refine AOps.call (o_alloc ze91 rfl rfl) ?_
  refine AOps.call (o_nil (z := 1) (e := 25) rfl) ?_
  refine AOps.call (o_assign _ rfl rfl) ?_
  refine AOps.nil ?_
  refine AWP.seq ?_
  refine AWP.region ?_
  refine AOps.call (o_loadRef _ rfl rfl Tryz.sizeOf24 Tryz.isAgg24 rfl rfl rfl) ?_
  refine AOps.call (o_move _ rfl rfl) ?_
  refine AOps.call (o_call (read_log p w hw1 he) Tryz.call65 rfl rfl) ?_
  refine AOps.call (o_move _ rfl rfl) ?_
  refine AOps.call (o_extract _ rfl rfl rfl rfl) ?_
  refine AOps.call (o_extract _ rfl rfl rfl rfl) ?_
  refine AOps.call (o_alloc ze91 rfl rfl) ?_
  refine AOps.cons (o_store _ _ rfl rfl Tryz.sizeOf91 rfl rfl rfl rfl rfl) ?_
  refine AOps.call (o_assign _ rfl rfl) ?_
  refine AOps.nil ?_
  refine AWP.seq ?_
  refine AWP.seq ?_
  refine AWP.region ?_
  refine AOps.call (o_move _ rfl rfl) ?_
  refine AOps.call (o_bin _ _ rfl rfl (fun _ => rfl) rfl) ?_
  refine AOps.nil ?_
  refine AWP.cond _ rfl (fun h12 => ?_) (fun h12 => ?_)
  · skip
    refine AWP.seq ?_
    refine AWP.region ?_
    refine AOps.call (o_build bu91 rfl rfl rfl) ?_
    refine AOps.call (o_move _ rfl rfl) ?_
    refine AOps.cons (o_store _ _ rfl rfl Tryz.sizeOf91 rfl rfl rfl rfl rfl) ?_
    refine AOps.call (o_nil (z := 1) (e := 25) rfl) ?_
    refine AOps.call (o_assign _ rfl rfl) ?_
    refine AOps.nil ?_
    refine AWP.ret ?_
    exact postQ.retC2 Tryz.results76 rfl rfl Tryz.sizeOf91 Tryz.isAgg91 rfl rfl rfl rfl
  · skip
    exfalso
    exact absurd h12 (by decide)
set_option maxRecDepth 20000 in
theorem casesAt_arg (p : Plw) (w : List Sp) (n : Int) (hw1 : w.length ≤ 9223372036854775807) (he : okP p = true) (hq : okW p w = false) : FSpec Tryz.prog 76 [.agg (eP p), .sl (sps w), I n] (.tup [.agg zR, .sl [], I 1]) (none) := by
  refine FSpec.of_body Tryz.func76 rfl (leB rfl) fun w0 M0 => ?_
  refine AWP.seq ?_
  refine AWP.region ?_
  refine AOps.call (o_box _ rfl rfl rfl) ?_
  refine AOps.call (o_alloc ze91 rfl rfl) ?_
  refine AOps.call (o_nil (z := 1) (e := 25) rfl) ?_
  refine AOps.call (o_assign _ rfl rfl) ?_
  refine AOps.nil ?_
  refine AWP.seq ?_
  refine AWP.region ?_
  refine AOps.call (o_loadRef _ rfl rfl Tryz.sizeOf24 Tryz.isAgg24 rfl rfl rfl) ?_
  refine AOps.call (o_move _ rfl rfl) ?_
  refine AOps.call (o_call (read_arg p w hw1 he hq) Tryz.call65 rfl rfl) ?_
  refine AOps.call (o_move _ rfl rfl) ?_
  refine AOps.call (o_extract _ rfl rfl rfl rfl) ?_
  refine AOps.call (o_extract _ rfl rfl rfl rfl) ?_
  refine AOps.call (o_alloc ze91 rfl rfl) ?_
  refine AOps.cons (o_store _ _ rfl rfl Tryz.sizeOf91 rfl rfl rfl rfl rfl) ?_
  refine AOps.call (o_assign _ rfl rfl) ?_
  refine AOps.nil ?_
  refine AWP.seq ?_
  refine AWP.seq ?_
  refine AWP.region ?_
  refine AOps.call (o_move _ rfl rfl) ?_
  refine AOps.call (o_bin _ _ rfl rfl (fun _ => rfl) rfl) ?_
  refine AOps.nil ?_
  refine AWP.cond _ rfl (fun h12 => ?_) (fun h12 => ?_)
  · skip
    refine AWP.seq ?_
    refine AWP.region ?_
    refine AOps.call (o_build bu91 rfl rfl rfl) ?_
    refine AOps.call (o_move _ rfl rfl) ?_
    refine AOps.cons (o_store _ _ rfl rfl Tryz.sizeOf91 rfl rfl rfl rfl rfl) ?_
    refine AOps.call (o_nil (z := 1) (e := 25) rfl) ?_
    refine AOps.call (o_assign _ rfl rfl) ?_
    refine AOps.nil ?_
    refine AWP.ret ?_
    exact postQ.retC2 Tryz.results76 rfl rfl Tryz.sizeOf91 Tryz.isAgg91 rfl rfl rfl rfl
  · skip
    exfalso
    exact absurd h12 (by decide)
theorem casesAt_bad (p : Plw) (w : List Sp) (n : Int) (hw1 : w.length ≤ 9223372036854775807) (h : atE p w n ≠ 0) : FSpec Tryz.prog 76 [.agg (eP p), .sl (sps w), I n] (.tup [.agg zR, .sl [], I (atE p w n)]) none := by
  by_cases he : okP p = true
  · by_cases hq : okW p w = true
    · have hh : hasB p n = false := by
        unfold atE at h
        rw [if_pos (rdE_ok he hq)] at h
        by_cases h2 : hasB p n = true
        · rw [if_pos h2] at h; exact absurd rfl h
        · simpa using h2
      have e : atE p w n = 1 := by unfold atE; rw [if_pos (rdE_ok he hq), if_neg (by rw [hh]; decide)]
      rw [e]; exact casesAt_no p w n hw1 he hq hh
    · have e : atE p w n = 1 := by unfold atE; rw [rdE_arg he (by simpa using hq)]; rfl
      rw [e]; exact casesAt_arg p w n hw1 he (by simpa using hq)
  · have e : atE p w n = 30 := by unfold atE; rw [rdE_log (by simpa using he)]; rfl
    rw [e]; exact casesAt_log p w n hw1 (by simpa using he)
def posS (p : Plw) (w : List Sp) (n : Int) (l : List Int) : Sp := En ((p.pb w).a l) (p.pb w).w p.log.length n.toNat
theorem ends_at {p : Plw} {w : List Sp} {n : Int} {l : List Int} (hl : l.length = p.log.length) (hh : hasB p n = true) : (sps (endsP p w l))[n.toNat]? = some (eN (posS p w n l)) := by
  unfold hasB at hh
  simp only [Bool.and_eq_true, decide_eq_true_eq] at hh
  have h1 : n.toNat < l.length := by omega
  simp [sps, endsP, h1, endP, posS, hl]
  exact ⟨n.toNat, by rw [List.getElem?_range (by omega)], rfl⟩
theorem posS_ne {p : Plw} {w : List Sp} {n : Int} {l : List Int} (hw : okW p w = true) (hr : Rem (p.pb w) p.log.length l) (hh : hasB p n = true) : (posS p w n l).Ne := by
  unfold hasB at hh
  simp only [Bool.and_eq_true, decide_eq_true_eq] at hh
  exact En_ne (fun k _ => (okW_WB hw k).2.2) hr.2.2 (by omega)
theorem posS_bd {p : Plw} (hp : OkP p) {w : List Sp} {n : Int} {l : List Int} (hw : okW p w = true) (hr : Rem (p.pb w) p.log.length l) (hh : hasB p n = true) : BdS (posS p w n l) := by
  have h1 := posS_ne hw hr hh
  have h2 : (posS p w n l).In _ := En_in
  have h3 := allow_InB hp w n.toNat (l.getD n.toNat 0)
  have h4 : 0 ≤ ((p.pb w).a l n.toNat).lo ∧ ((p.pb w).a l n.toNat).hi ≤ 65536 := h3
  simp only [Sp.In] at h2
  simp only [Sp.Ne] at h1
  unfold BdS
  omega
def posL (p : Plw) (w : List Sp) (n : Int) : List Sp := uni ((casL p w).map (posS p w n))
abbrev accP (p : Plw) (w : List Sp) (n : Int) (i : Nat) : List Sp := ((casL p w).take i).map (posS p w n)
theorem alive_of {p : Plw} {w : List Sp} {l : List Int} (hr : Rem (p.pb w) p.log.length l) : aliveP p w l := by
  unfold aliveP; rw [hr.1]; exact hr.2.2
theorem loads_c (p : Plw) (w : List Sp) (l : List Int) (hp : OkP p) (hw : okW p w = true) (hr : Rem (p.pb w) p.log.length l) : FSpec Tryz.prog 70 [.agg (eR p w), .sl (ints l)] (.tup [.sl (sps (endsP p w l)), B true]) (none) := by
  have h := loads_s p w l hp hw hr.1
  rw [if_pos (alive_of hr), decide_eq_true (alive_of hr)] at h
  exact h
set_option maxRecDepth 20000 in
theorem Possible_ok (p : Plw) (w : List Sp) (n : Int) (hw1 : w.length ≤ 9223372036854775807) (he : okP p = true) (hq : okW p w = true) (hh : hasB p n = true) : FSpec Tryz.prog 39 [.agg (eP p), .sl (sps w), I n] (.tup [.sl (sps (posL p w n)), I (casE p w)]) none := by
  refine FSpec.of_bodyJ Tryz.func39 rfl (leB rfl) fun F0 w0 M0 => ?_
  have hp := okP_iff.1 he
  have h32 := hp.len
  have hcl := casL_len p w
  have hgl := css_len (casL p w)
  refine AWPJ.seq ?_
  refine AWPJ.lift (fun u N => ?_)
  refine AWP.region ?_
  refine AOps.call (o_box _ rfl rfl rfl) ?_
  refine AOps.call (o_nil (z := 2) (e := 54) rfl) ?_
  refine AOps.call (o_assign _ rfl rfl) ?_
  refine AOps.nil ?_
  refine AWPJ.seq ?_
  refine AWPJ.lift (fun u N => ?_)
  refine AWP.region ?_
  refine AOps.call (o_loadRef _ rfl rfl Tryz.sizeOf24 Tryz.isAgg24 rfl rfl rfl) ?_
  refine AOps.call (o_move _ rfl rfl) ?_
  refine AOps.call (o_move _ rfl rfl) ?_
  refine AOps.call (o_call (casesAt_ok p w n hw1 he hq hh) Tryz.call76 rfl rfl) ?_
  refine AOps.call (o_move _ rfl rfl) ?_
  refine AOps.call (o_extract _ rfl rfl rfl rfl) ?_
  refine AOps.call (o_extract _ rfl rfl rfl rfl) ?_
  refine AOps.call (o_extract _ rfl rfl rfl rfl) ?_
  refine AOps.call (o_alloc ze91 rfl rfl) ?_
  refine AOps.cons (o_store _ _ rfl rfl Tryz.sizeOf91 rfl rfl rfl rfl rfl) ?_
  refine AOps.call (o_assign _ rfl rfl) ?_
  refine AOps.call (o_assign _ rfl rfl) ?_
  refine AOps.nil ?_
  refine AWPJ.seq ?_
  refine AWPJ.seq ?_
  refine AWPJ.lift (fun u N => ?_)
  refine AWP.region ?_
  refine AOps.call (o_move _ rfl rfl) ?_
  refine AOps.call (o_bin _ _ rfl rfl (fun _ => rfl) rfl) ?_
  refine AOps.nil ?_
  refine AWPJ.cond _ rfl (fun h13 => ?_) (fun h13 => ?_)
  · skip
    have hne : casE p w ≠ 0 := by simpa using h13
    obtain ⟨hnil, _⟩ := casE_ne hne
    refine AWPJ.seq ?_
    refine AWPJ.lift (fun u N => ?_)
    refine AWP.region ?_
    refine AOps.call (o_move _ rfl rfl) ?_
    refine AOps.call (o_nil (z := 2) (e := 54) rfl) ?_
    refine AOps.call (o_assign _ rfl rfl) ?_
    refine AOps.nil ?_
    refine AWPJ.ret ?_
    try dsimp only [seqQJ, blockQJ, roundQJ]
    try rw [show Nat.beq 0 0 = true from rfl, cond_true]
    refine postQJ.ret2 Tryz.results39 rfl rfl rfl ?_
    first
    | (rw [show posL p w n = [] by unfold posL; rw [hnil]; simp [uni]; rfl]; rfl)
    | (rw [hz]; unfold posL; rw [hacc]; rfl)
  · skip
    have hz : casE p w = 0 := by simpa using h13
    refine AWPJ.skip ?_
    refine AWPJ.seq ?_
    refine AWPJ.lift (fun u N => ?_)
    refine AWP.region ?_
    refine AOps.call (o_assignK rfl) ?_
    refine AOps.nil ?_
    refine AWPJ.seq ?_
    refine AWPJ.seq ?_
    refine AWPJ.lift (fun u N => ?_)
    refine AWP.region ?_
    refine AOps.call (o_move _ rfl rfl) ?_
    refine AOps.call (o_len _ Tryz.underlying40 rfl rfl) ?_
    refine AOps.call (o_move _ rfl rfl) ?_
    refine AOps.nil ?_
    refine AWPJ.block ?_
    refine AWPJ.loop (ι := Nat × Option Addr × Nat) (fun i => JR i.2.1 i.2.2 (accP p w n i.1)) (fun i => AS.mk' 50 [(2, I n), (8, .ref (8, 0) 0), (11, .sc (.slice i.2.1 (accP p w n i.1).length i.2.2)), (27, .sl (css (casL p w))), (28, I (css (casL p w)).length), (29, I i.1)] [((8, 0), eR p w)] [] [(8, 1)]) (fun i => i.1 ≤ (casL p w).length) (fun i => (casL p w).length - i.1) (0, none, 0) (WeakJ.trans WeakJ.nilRow0 (Weak.toJ (Weak.mk' rfl ⟨⟨.refl rfl, rfl⟩, ⟨⟨.refl rfl, rfl⟩, ⟨⟨.refl rfl, rfl⟩, ⟨⟨.refl rfl, rfl⟩, ⟨⟨.refl rfl, rfl⟩, ⟨⟨.refl rfl, rfl⟩, trivial⟩⟩⟩⟩⟩⟩ ⟨⟨rfl, rfl, rfl⟩, trivial⟩ trivial))) (Nat.zero_le _) ?_
    rintro ⟨k, a1, cap1⟩ hk
    try dsimp only at *
    refine AWPJ.seq ?_
    refine AWPJ.lift (fun u N => ?_)
    refine AWP.region ?_
    refine AOps.call (o_bin _ _ rfl rfl (fun _ => rfl) rfl) ?_
    refine AOps.nil ?_
    refine AWPJ.seq ?_
    refine AWPJ.cond _ rfl (fun h19 => ?_) (fun h19 => ?_)
    · skip
      have hlt : k < (casL p w).length := by have := of_decide_eq_true h19; omega
      have hel := css_at hlt
      have hrm := casL_mem hp (List.getElem_mem hlt)
      have hen := ends_at (w := w) hrm.1 hh
      have hnn : 0 ≤ n := by unfold hasB at hh; simp only [Bool.and_eq_true, decide_eq_true_eq] at hh; exact hh.1
      have hal : (accP p w n k).length ≤ k := by simp [accP]; omega
      have hsuc : accP p w n (k + 1) = accP p w n k ++ [posS p w n (casL p w)[k]] := by unfold accP; rw [List.take_succ_eq_append_getElem hlt, List.map_append]; rfl
      refine AWPJ.skip ?_
      refine AWPJ.seq ?_
      refine AWPJ.block ?_
      refine AWPJ.seq ?_
      refine AWPJ.lift (fun u N => ?_)
      refine AWP.region ?_
      refine AOps.call (o_index _ _ Tryz.underlying40 Tryz.sizeOf25 rfl rfl (by omega) (by assumption) rfl rfl) ?_
      refine AOps.call (o_loadRd _ rfl Tryz.sizeOf25 Tryz.isAgg25 rfl rfl rfl) ?_
      refine AOps.call (o_assign _ rfl rfl) ?_
      refine AOps.nil ?_
      refine AWPJ.seq ?_
      refine AWPJ.lift (fun u N => ?_)
      refine AWP.region ?_
      refine AOps.call (o_loadRef _ rfl rfl Tryz.sizeOf91 Tryz.isAgg91 rfl rfl rfl) ?_
      refine AOps.call (o_move _ rfl rfl) ?_
      refine AOps.call (o_call (loads_c p w (casL p w)[k] hp hq hrm) Tryz.call70 rfl rfl) ?_
      refine AOps.call (o_move _ rfl rfl) ?_
      refine AOps.call (o_extract _ rfl rfl rfl rfl) ?_
      refine AOps.call (o_extract _ rfl rfl rfl rfl) ?_
      refine AOps.call (o_assign _ rfl rfl) ?_
      refine AOps.call (o_assign _ rfl rfl) ?_
      refine AOps.nil ?_
      refine AWPJ.seq ?_
      refine AWPJ.lift (fun u N => ?_)
      refine AWP.region ?_
      refine AOps.call (o_move _ rfl rfl) ?_
      refine AOps.nil ?_
      refine AWPJ.cond _ rfl (fun h26 => ?_) (fun h26 => ?_)
      · skip
        skip
        refine AWPJ.region ?_
        refine AOpsJ.call (fun u N => o_move _ rfl rfl) ?_
        refine AOpsJ.call (fun u N => o_move _ rfl rfl) ?_
        refine AOpsJ.call (fun u N => o_move _ rfl rfl) ?_
        refine AOpsJ.call (fun u N => o_index _ _ Tryz.underlying38 Tryz.sizeOf54 rfl rfl hnn hen rfl rfl) ?_
        refine AOpsJ.call (fun u N => o_loadRd _ rfl Tryz.sizeOf54 Tryz.isAgg54 rfl rfl rfl) ?_
        refine AOpsJ.call (fun u N => o_lit Tryz.underlying38 Tryz.sizeOf54 Tryz.zeroValue54 rfl rfl rfl rfl rfl rfl rfl) ?_
        refine AOpsJ.op (o_appendRow (n := (accP p w n k).length) (cs := (sps (accP p w n k)).flatten) (ns := [[I (posS p w n (casL p w)[k]).lo, I (posS p w n (casL p w)[k]).hi]]) _ _ Tryz.underlying38 info54 rfl rfl rfl rfl rfl rfl rfl (fun c hc => by simp at hc; subst hc; rfl) (by unfold Tryz.t54; simp only [List.length_cons, List.length_nil]; omega) rfl (by simp) (.inl fun c hc => by simp [I] at hc; rcases hc with rfl | rfl <;> exact ⟨_, rfl⟩) rfl) ?_
        rintro _ _ ⟨_, ⟨a2, cap2, rfl, rfl⟩, rfl⟩
        refine AOpsJ.call (fun u N => o_assign _ rfl rfl) ?_
        refine AOpsJ.nil ?_
        refine AWPJ.lift (fun u N => ?_)
        refine AWP.region ?_
        refine AOps.call (o_add _ _ rfl rfl ⟨by (try dsimp only); omega, by (try dsimp only); omega⟩ rfl) ?_
        refine AOps.call (o_move _ rfl rfl) ?_
        refine AOps.nil ?_
        refine ⟨(k + 1, some a2, cap2), ⟨(by (try dsimp only); omega), by (try dsimp only); omega⟩, WeakJ.cast (by rw [sps_app1, show (accP p w n k).length + [[I (posS p w n (casL p w)[k]).lo, I (posS p w n (casL p w)[k]).hi]].length = (accP p w n k ++ [posS p w n (casL p w)[k]]).length by simp, ← hsuc]) (Weak.toJ (Weak.mk' rfl ⟨⟨.refl rfl, rfl⟩, ⟨⟨.refl rfl, rfl⟩, ⟨⟨.refl (by rw [hsuc, List.length_append]; rfl), rfl⟩, ⟨⟨.refl rfl, rfl⟩, ⟨⟨.refl rfl, rfl⟩, ⟨⟨.refl rfl, rfl⟩, trivial⟩⟩⟩⟩⟩⟩ ⟨⟨rfl, rfl, rfl⟩, trivial⟩ trivial))⟩
      · skip
        exfalso
        exact absurd h26 (by decide)
    · skip
      have hkl : k = (casL p w).length := by have := of_decide_eq_false h19; omega
      have hacc : accP p w n k = (casL p w).map (posS p w n) := by unfold accP; rw [hkl, List.take_length]
      refine AWPJ.exit ?_
      refine AWPJ.seq ?_
      refine AWPJ.region ?_
      refine AOpsJ.call (fun u N => o_move _ rfl rfl) ?_
      refine AOpsJ.op (o_callJ (union_s (accP p w n k) a1 cap1 (by rw [hacc, List.length_map]; omega) (fun s hs => by rw [hacc] at hs; obtain ⟨l, hl, rfl⟩ := List.mem_map.1 hs; exact posS_bd hp hq (casL_mem hp hl) hh) (fun s hs => by rw [hacc] at hs; obtain ⟨l, hl, rfl⟩ := List.mem_map.1 hs; exact posS_ne hq (casL_mem hp hl) hh)) Tryz.call77 rfl (.inl rfl) rfl) ?_
      rintro _ _ ⟨_, ⟨rfl, rfl⟩, rfl⟩
      refine AOpsJ.call (fun u N => o_assign _ rfl rfl) ?_
      refine AOpsJ.call (fun u N => o_assign _ rfl rfl) ?_
      refine AOpsJ.nil ?_
      refine AWPJ.ret ?_
      try dsimp only [seqQJ, blockQJ, roundQJ]
      try rw [show Nat.beq 0 0 = true from rfl, cond_true]
      refine postQJ.ret2 Tryz.results39 rfl rfl rfl ?_
      first
      | (rw [show posL p w n = [] by unfold posL; rw [hnil]; simp [uni]; rfl]; rfl)
      | (rw [hz]; unfold posL; rw [hacc]; rfl)
set_option maxRecDepth 20000 in
theorem Possible_bad (p : Plw) (w : List Sp) (n : Int) (hw1 : w.length ≤ 9223372036854775807) (h : atE p w n ≠ 0) : FSpec Tryz.prog 39 [.agg (eP p), .sl (sps w), I n] (.tup [.sl [], I (atE p w n)]) (none) := by
  refine FSpec.of_body Tryz.func39 rfl (leB rfl) fun w0 M0 => ?_
  refine AWP.seq ?_
  refine AWP.region ?_
  refine AOps.call (o_box _ rfl rfl rfl) ?_
  refine AOps.call (o_nil (z := 2) (e := 54) rfl) ?_
  refine AOps.call (o_assign _ rfl rfl) ?_
  refine AOps.nil ?_
  refine AWP.seq ?_
  refine AWP.region ?_
  refine AOps.call (o_loadRef _ rfl rfl Tryz.sizeOf24 Tryz.isAgg24 rfl rfl rfl) ?_
  refine AOps.call (o_move _ rfl rfl) ?_
  refine AOps.call (o_move _ rfl rfl) ?_
  refine AOps.call (o_call (casesAt_bad p w n hw1 h) Tryz.call76 rfl rfl) ?_
  refine AOps.call (o_move _ rfl rfl) ?_
  refine AOps.call (o_extract _ rfl rfl rfl rfl) ?_
  refine AOps.call (o_extract _ rfl rfl rfl rfl) ?_
  refine AOps.call (o_extract _ rfl rfl rfl rfl) ?_
  refine AOps.call (o_alloc ze91 rfl rfl) ?_
  refine AOps.cons (o_store _ _ rfl rfl Tryz.sizeOf91 rfl rfl rfl rfl rfl) ?_
  refine AOps.call (o_assign _ rfl rfl) ?_
  refine AOps.call (o_assign _ rfl rfl) ?_
  refine AOps.nil ?_
  refine AWP.seq ?_
  refine AWP.seq ?_
  refine AWP.region ?_
  refine AOps.call (o_move _ rfl rfl) ?_
  refine AOps.call (o_bin _ _ rfl rfl (fun _ => rfl) rfl) ?_
  refine AOps.nil ?_
  refine AWP.cond _ rfl (fun h13 => ?_) (fun h13 => ?_)
  · skip
    refine AWP.seq ?_
    refine AWP.region ?_
    refine AOps.call (o_move _ rfl rfl) ?_
    refine AOps.call (o_nil (z := 2) (e := 54) rfl) ?_
    refine AOps.call (o_assign _ rfl rfl) ?_
    refine AOps.nil ?_
    refine AWP.ret ?_
    exact postQ.ret2 Tryz.results39 rfl rfl rfl
  · skip
    exfalso
    simp at h13
    exact h h13
def PosL (p : Plw) (w : List Sp) (n : Int) : List Sp := if atE p w n = 0 then posL p w n else []
def PosE (p : Plw) (w : List Sp) (n : Int) : Int := if atE p w n = 0 then casE p w else atE p w n
theorem Possible_s (p : Plw) (w : List Sp) (n : Int) (hw1 : w.length ≤ 9223372036854775807) : FSpec Tryz.prog 39 [.agg (eP p), .sl (sps w), I n] (.tup [.sl (sps (PosL p w n)), I (PosE p w n)]) none := by
  unfold PosL PosE
  by_cases h : atE p w n = 0
  · obtain ⟨h1, h2, h3⟩ := atE_0 h
    rw [if_pos h, if_pos h]; exact Possible_ok p w n hw1 h1 h2 h3
  · rw [if_neg h, if_neg h]; exact Possible_bad p w n hw1 h
end Go.Proofs.YtelenedgaoglaaaGreatDoor
