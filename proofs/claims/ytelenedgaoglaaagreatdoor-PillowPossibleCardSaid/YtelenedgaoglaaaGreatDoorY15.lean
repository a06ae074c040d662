/- Y15. -/
import Derived.Test.YtelenedgaoglaaaGreatDoorY11
import Derived.Test.YtelenedgaoglaaaGreatDoorR23
import Derived.Test.YtelenedgaoglaaaGreatDoorAdB
set_option linter.unusedSimpArgs false
set_option linter.unusedVariables false
namespace Go.Proofs.YtelenedgaoglaaaGreatDoor
open Go.Ab
open Go.Pil Go.RowKit
def atL (p : Plw) (w : List Sp) (n : Int) : List (List Int) := if atE p w n = 0 then casL p w else []
theorem askN0 (p : Plw) (w : List Sp) (n : Int) : askE p w (max n (-2)) [] = if rdE p w ≠ 0 then rdE p w else if inB n (-1) ((p.log.length : Int) - 1) = true then 0 else 1 := by
  rw [← ask0 p w]
  cases h : okP p with
  | false => rw [askE_log h, askE_log h]; rfl
  | true =>
    cases h2 : okW p w with
    | false => rw [askE_arg h h2, askE_arg h h2]; rfl
    | true =>
      have e1 : (if inB (-1) (-1) ((p.log.length : Int) - 1) = true then (0 : Int) else 1) = 0 := if_pos (inB_iff.2 ⟨by omega, by omega⟩)
      rw [askE_end h h2 rfl, askE_end h h2 rfl, e1, if_neg (show ¬ ((0 : Int) ≠ 0) by decide)]
      by_cases h4 : inB n (-1) ((p.log.length : Int) - 1) = true
      · have h5 : inB (max n (-2)) (-1) ((p.log.length : Int) - 1) = true := by rw [inB_iff] at *; omega
        rw [if_pos h4, if_pos h5]
      · have h5 : ¬ inB (max n (-2)) (-1) ((p.log.length : Int) - 1) = true := by rw [inB_iff] at *; omega
        rw [if_neg h4, if_neg h5]
theorem atE_rd {p : Plw} {w : List Sp} {n : Int} (h : rdE p w ≠ 0) : atE p w n = rdE p w := if_neg h
theorem atE_no {p : Plw} {w : List Sp} {n : Int} (h : rdE p w = 0) (h2 : ¬ (0 ≤ n ∧ n < p.log.length)) : atE p w n = 1 := (if_pos h).trans (if_neg (by unfold hasB; simpa using h2))
theorem atE_ok {p : Plw} {w : List Sp} {n : Int} (h : rdE p w = 0) (h2 : 0 ≤ n ∧ n < p.log.length) : atE p w n = 0 := (if_pos h).trans (if_pos (by unfold hasB; simpa using h2))
theorem at_bad {p : Plw} {w : List Sp} {n : Int} (h : atE p w n ≠ 0) : atL p w n = [] ∧ PosE p w n = atE p w n := ⟨if_neg h, if_neg h⟩
set_option maxHeartbeats 4000000 in
set_option maxRecDepth 20000 in
theorem atR_s (p : Plw) (w : List Sp) (n : Int) (hw1 : w.length ≤ 9223372036854775807) (hf : Few p) : FSpec Tryz.prog 78 [.agg (eP p), .sl (sps w), I n] (.tup [.sl (css (atL p w n)), I (PosE p w n)]) (none) := by
  refine FSpec.of_body Tryz.func78 rfl (leB rfl) fun w0 M0 => ?_
  have hA := asked_s p w (max n (-2)) [] hw1 (by simp) (fun m hm => by cases hm)
  have hN := askN0 p w n
  generalize hg : askE p w (max n (-2)) [] = g at hA hN
  have hC := CasesR_s p w hw1 hf
  refine AWP.seq ?_
  refine AWP.region ?_
  refine AOps.call (o_box _ rfl rfl rfl) ?_
  refine AOps.call (o_nil (z := 1) (e := 25) rfl) ?_
  refine AOps.call (o_assign _ rfl rfl) ?_
  refine AOps.nil ?_
  refine AWP.seq ?_
  refine AWP.region ?_
  refine AOps.call (o_loadRef _ rfl rfl Tryz.sizeOf24 Tryz.isAgg24 rfl rfl rfl) ?_
  refine AOps.call (o_move _ rfl rfl) ?_
  refine AOps.call (o_move _ rfl rfl) ?_
  refine AOps.call (o_maxZ _ _ rfl rfl rfl) ?_
  refine AOps.call (o_call hA Tryz.call67 rfl rfl) ?_
  refine AOps.call (o_assign _ rfl rfl) ?_
  refine AOps.nil ?_
  refine AWP.seq ?_
  refine AWP.seq ?_
  refine AWP.region ?_
  refine AOps.call (o_move _ rfl rfl) ?_
  refine AOps.call (o_bin _ _ rfl rfl (fun _ => rfl) rfl) ?_
  refine AOps.call (o_move _ rfl rfl) ?_
  refine AOps.split rfl rfl rfl (fun h10 => ?_) (fun h10 => ?_)
  · skip
    have hg0 : g = 0 := by simpa using h10
    refine AOps.go rfl rfl rfl h10 (o_move _ rfl rfl) ?_
    refine AOps.go rfl rfl rfl h10 (o_bin _ _ rfl rfl (fun _ => rfl) rfl) ?_
    refine AOps.call (o_pickT _ _ _ rfl h10 rfl rfl) ?_
    refine AOps.nil ?_
    refine AWP.cond _ rfl (fun h13 => ?_) (fun h13 => ?_)
    · skip
      skip
      · skip
        have hn0 : n < 0 := by have := of_decide_eq_true h13; omega
        have hE : atE p w n = 1 := by
          by_cases hr : rdE p w ≠ 0
          · rw [if_pos hr] at hN; omega
          · exact atE_no (by omega) (by omega)
        have hV := at_bad (by rw [hE]; decide : atE p w n ≠ 0)
        refine AWP.region ?_
        refine AOps.call (o_assign _ rfl rfl) ?_
        refine AOps.nil ?_
        refine AWP.seq ?_
        refine AWP.seq ?_
        refine AWP.region ?_
        refine AOps.call (o_move _ rfl rfl) ?_
        refine AOps.call (o_bin _ _ rfl rfl (fun _ => rfl) rfl) ?_
        refine AOps.nil ?_
        refine AWP.cond _ rfl (fun h16 => ?_) (fun h16 => ?_)
        · skip
          skip
          refine AWP.seq ?_
          refine AWP.region ?_
          refine AOps.call (o_move _ rfl rfl) ?_
          refine AOps.call (o_nil (z := 1) (e := 25) rfl) ?_
          refine AOps.call (o_assign _ rfl rfl) ?_
          refine AOps.nil ?_
          refine AWP.ret ?_
          refine postQ.ret2 Tryz.results78 rfl rfl ?_
          first
          | (rw [hV.1, hV.2, hE]; rfl)
          | (rw [hV.1, hV.2]; rfl)
        · skip
          exfalso
          exact absurd h16 (by decide)
    · skip
      have hn0 : g = 0 → 0 ≤ n := fun _ => by have := of_decide_eq_false h13; omega
      refine AWP.skip ?_
      refine AWP.seq ?_
      refine AWP.seq ?_
      refine AWP.region ?_
      refine AOps.call (o_move _ rfl rfl) ?_
      refine AOps.call (o_bin _ _ rfl rfl (fun _ => rfl) rfl) ?_
      refine AOps.nil ?_
      refine AWP.cond _ rfl (fun h19 => ?_) (fun h19 => ?_)
      · skip
        have hg1 : g ≠ 0 := by simpa using h19
        have hE : atE p w n = g := by
          by_cases hr : rdE p w ≠ 0
          · rw [if_pos hr] at hN; rw [atE_rd hr, hN]
          · rw [if_neg hr] at hN
            split at hN
            · omega
            · rename_i h3; rw [inB_iff] at h3; rw [atE_no (by omega) (by omega), hN]
        have hV := at_bad (by rw [hE]; exact hg1 : atE p w n ≠ 0)
        refine AWP.seq ?_
        refine AWP.region ?_
        refine AOps.call (o_move _ rfl rfl) ?_
        refine AOps.call (o_nil (z := 1) (e := 25) rfl) ?_
        refine AOps.call (o_assign _ rfl rfl) ?_
        refine AOps.nil ?_
        refine AWP.ret ?_
        refine postQ.ret2 Tryz.results78 rfl rfl ?_
        first
        | (rw [hV.1, hV.2, hE]; rfl)
        | (rw [hV.1, hV.2]; rfl)
      · skip
        have hg1 : g = 0 := by simpa using h19
        have hz : rdE p w = 0 := by
          by_cases hr : rdE p w ≠ 0
          · rw [if_pos hr] at hN; omega
          · omega
        have hr2 : 0 ≤ n ∧ n < p.log.length := by
          rw [if_neg (by rw [hz]; decide)] at hN
          split at hN
          · rename_i h3; rw [inB_iff] at h3; have := hn0 hg1; omega
          · omega
        have hE := atE_ok (w := w) hz hr2
        have hV : atL p w n = CasL p w ∧ PosE p w n = CasE p w := ⟨(if_pos hE).trans (if_pos hz).symm, (if_pos hE).trans (if_pos hz).symm⟩
        refine AWP.skip ?_
        refine AWP.seq ?_
        refine AWP.region ?_
        refine AOps.call (o_loadRef _ rfl rfl Tryz.sizeOf24 Tryz.isAgg24 rfl rfl rfl) ?_
        refine AOps.call (o_move _ rfl rfl) ?_
        refine AOps.call (o_call hC Tryz.call24 rfl rfl) ?_
        refine AOps.call (o_extract _ rfl rfl rfl rfl) ?_
        refine AOps.call (o_extract _ rfl rfl rfl rfl) ?_
        refine AOps.call (o_assign _ rfl rfl) ?_
        refine AOps.call (o_assign _ rfl rfl) ?_
        refine AOps.nil ?_
        refine AWP.ret ?_
        refine postQ.ret2 Tryz.results78 rfl rfl ?_
        first
        | (rw [hV.1, hV.2, hE]; rfl)
        | (rw [hV.1, hV.2]; rfl)
  · skip
    have hg0 : g ≠ 0 := by simpa using h10
    refine AOps.pass rfl rfl rfl h10 rfl ?_
    refine AOps.pass rfl rfl rfl h10 rfl ?_
    refine AOps.call (o_pickF _ _ _ rfl h10 rfl rfl) ?_
    refine AOps.nil ?_
    refine AWP.condF rfl ?_
    have hn0 : g = 0 → 0 ≤ n := fun h => absurd h hg0
    refine AWP.skip ?_
    refine AWP.seq ?_
    refine AWP.seq ?_
    refine AWP.region ?_
    refine AOps.call (o_move _ rfl rfl) ?_
    refine AOps.call (o_bin _ _ rfl rfl (fun _ => rfl) rfl) ?_
    refine AOps.nil ?_
    refine AWP.cond _ rfl (fun h27 => ?_) (fun h27 => ?_)
    · skip
      have hg1 : g ≠ 0 := by simpa using h27
      have hE : atE p w n = g := by
        by_cases hr : rdE p w ≠ 0
        · rw [if_pos hr] at hN; rw [atE_rd hr, hN]
        · rw [if_neg hr] at hN
          split at hN
          · omega
          · rename_i h3; rw [inB_iff] at h3; rw [atE_no (by omega) (by omega), hN]
      have hV := at_bad (by rw [hE]; exact hg1 : atE p w n ≠ 0)
      refine AWP.seq ?_
      refine AWP.region ?_
      refine AOps.call (o_move _ rfl rfl) ?_
      refine AOps.call (o_nil (z := 1) (e := 25) rfl) ?_
      refine AOps.call (o_assign _ rfl rfl) ?_
      refine AOps.nil ?_
      refine AWP.ret ?_
      refine postQ.ret2 Tryz.results78 rfl rfl ?_
      first
      | (rw [hV.1, hV.2, hE]; rfl)
      | (rw [hV.1, hV.2]; rfl)
    · skip
      have hg1 : g = 0 := by simpa using h27
      have hz : rdE p w = 0 := by
        by_cases hr : rdE p w ≠ 0
        · rw [if_pos hr] at hN; omega
        · omega
      have hr2 : 0 ≤ n ∧ n < p.log.length := by
        rw [if_neg (by rw [hz]; decide)] at hN
        split at hN
        · rename_i h3; rw [inB_iff] at h3; have := hn0 hg1; omega
        · omega
      have hE := atE_ok (w := w) hz hr2
      have hV : atL p w n = CasL p w ∧ PosE p w n = CasE p w := ⟨(if_pos hE).trans (if_pos hz).symm, (if_pos hE).trans (if_pos hz).symm⟩
      refine AWP.skip ?_
      refine AWP.seq ?_
      refine AWP.region ?_
      refine AOps.call (o_loadRef _ rfl rfl Tryz.sizeOf24 Tryz.isAgg24 rfl rfl rfl) ?_
      refine AOps.call (o_move _ rfl rfl) ?_
      refine AOps.call (o_call hC Tryz.call24 rfl rfl) ?_
      refine AOps.call (o_extract _ rfl rfl rfl rfl) ?_
      refine AOps.call (o_extract _ rfl rfl rfl rfl) ?_
      refine AOps.call (o_assign _ rfl rfl) ?_
      refine AOps.call (o_assign _ rfl rfl) ?_
      refine AOps.nil ?_
      refine AWP.ret ?_
      refine postQ.ret2 Tryz.results78 rfl rfl ?_
      first
      | (rw [hV.1, hV.2, hE]; rfl)
      | (rw [hV.1, hV.2]; rfl)
def pfA (A : List Sp) (i : Nat) : List Sp := (A.take i).foldl stp []
theorem pfA_succ {A : List Sp} {i : Nat} (h : i < A.length) : pfA A (i + 1) = stp (pfA A i) A[i] := by
  unfold pfA; rw [List.take_succ_eq_append_getElem h, List.foldl_append]; rfl
theorem pfA_bd {A : List Sp} (h : ∀ s ∈ A, BdS s) (i : Nat) : ∀ s ∈ pfA A i, BdS s := fold_bd _ _ (fun s hs => h s (List.mem_of_mem_take hs)) (fun t ht => by cases ht)
theorem pfA_len (A : List Sp) (i : Nat) : (pfA A i).length ≤ i := by
  have := fold_len (A.take i) []
  unfold pfA
  simp only [List.length_nil, List.length_take] at this
  omega
theorem pfA_all {l A : List Sp} (hne : ∀ s ∈ l, s.Ne) (hp : l.Perm A) (hs : A.Pairwise fun a b => a.lo ≤ b.lo) : pfA A A.length = uni l := by
  unfold pfA; rw [List.take_length, fold_joined]; exact uni_eq hne hp hs
def insAt (A : List Sp) (x : Sp) (j : Nat) : List Sp := A.take j ++ x :: A.drop j
theorem insAt_len (A x j) : (insAt A x j).length = A.length + 1 := by
  unfold insAt; simp only [List.length_append, List.length_cons, List.length_take, List.length_drop]; omega
theorem insAt_x {A : List Sp} {x : Sp} {j : Nat} (h : j ≤ A.length) : (insAt A x j)[j]'(by rw [insAt_len]; omega) = x := by
  unfold insAt
  rw [List.getElem_append_right (by rw [List.length_take]; omega)]
  simp only [List.length_take, Nat.min_eq_left h, Nat.sub_self]; rfl
theorem insAt_lt {A : List Sp} {x : Sp} {j k : Nat} (h : k < j) (hj : j ≤ A.length) : (insAt A x j)[k]'(by rw [insAt_len]; omega) = A[k]'(by omega) := by
  unfold insAt
  rw [List.getElem_append_left (by rw [List.length_take]; omega), List.getElem_take]
theorem insAt_swap {A : List Sp} {x : Sp} {j : Nat} (h : j < A.length) : ((insAt A x (j + 1)).set (j + 1) A[j]).set j x = insAt A x j := by
  have e1 : insAt A x (j + 1) = A.take j ++ A[j] :: x :: A.drop (j + 1) := by
    unfold insAt; rw [List.take_succ_eq_append_getElem h, List.append_assoc]; rfl
  have e2 : insAt A x j = A.take j ++ x :: A[j] :: A.drop (j + 1) := by
    unfold insAt; rw [← List.drop_eq_getElem_cons h]
  have hl : (A.take j).length = j := by rw [List.length_take]; omega
  rw [e1, e2, List.set_append_right _ _ (by omega), List.set_append_right _ _ (by omega), hl, show j + 1 - j = 1 by omega, Nat.sub_self]
  rfl
theorem insAt_end (A : List Sp) (x : Sp) : insAt A x A.length = A ++ [x] := by unfold insAt; rw [List.take_length, List.drop_length]
theorem spl_sps {L : List Sp} {k : Nat} {s : Sp} (h : k < L.length) : spl (sps L).flatten ([Value.int .i64 s.lo, Value.int .i64 s.hi].map AV.sc) (k * 2) = (sps (L.set k s)).flatten := sps_set h
set_option maxHeartbeats 4000000 in
set_option maxRecDepth 20000 in
theorem PossibleR_ok (p : Plw) (w : List Sp) (n : Int) (hw1 : w.length ≤ 9223372036854775807) (hf : Few p) (he : okP p = true) (hq : okW p w = true) (hh : hasB p n = true) (h0 : atE p w n = 0) (hc0 : casE p w = 0) : FSpec Tryz.prog 40 [.agg (eP p), .sl (sps w), I n] (.tup [.sl (sps (posL p w n)), I 0]) none := by
  refine FSpec.of_bodyJ Tryz.func40 rfl (leB rfl) fun F0 w0 M0 => ?_
  have hp := okP_iff.1 he
  have h32 := hp.len
  have h8 := hf.le hp
  have hcl := casL_len p w
  have hgl := css_len (casL p w)
  have hcE : casE p w = 0 := hc0
  have hat := atR_s p w n hw1 hf
  rw [show atL p w n = casL p w from if_pos h0, show PosE p w n = 0 from (if_pos h0).trans hc0] at hat
  have hnn : 0 ≤ n := by unfold hasB at hh; simp only [Bool.and_eq_true, decide_eq_true_eq] at hh; exact hh.1
  have hbdA : ∀ s ∈ (casL p w).map (posS p w n), BdS s ∧ s.Ne := fun s hs => by
    obtain ⟨l, hl, rfl⟩ := List.mem_map.1 hs
    exact ⟨posS_bd hp hq (casL_mem hp hl) hh, posS_ne hq (casL_mem hp hl) hh⟩
  refine AWPJ.seq ?_
  refine AWPJ.lift (fun u N => ?_)
  refine AWP.region ?_
  refine AOps.call (o_box _ rfl rfl rfl) ?_
  refine AOps.call (o_nil (z := 2) (e := 54) rfl) ?_
  refine AOps.call (o_assign _ rfl rfl) ?_
  refine AOps.nil ?_
  refine AWPJ.seq ?_
  refine AWPJ.lift (fun u N => ?_)
  refine AWP.region ?_
  refine AOps.call (o_loadRef _ rfl rfl Tryz.sizeOf24 Tryz.isAgg24 rfl rfl rfl) ?_
  refine AOps.call (o_move _ rfl rfl) ?_
  refine AOps.call (o_move _ rfl rfl) ?_
  refine AOps.call (o_call hat Tryz.call78 rfl rfl) ?_
  refine AOps.call (o_move _ rfl rfl) ?_
  refine AOps.call (o_extract _ rfl rfl rfl rfl) ?_
  refine AOps.call (o_extract _ rfl rfl rfl rfl) ?_
  refine AOps.call (o_assign _ rfl rfl) ?_
  refine AOps.call (o_assign _ rfl rfl) ?_
  refine AOps.nil ?_
  refine AWPJ.seq ?_
  refine AWPJ.seq ?_
  refine AWPJ.lift (fun u N => ?_)
  refine AWP.region ?_
  refine AOps.call (o_move _ rfl rfl) ?_
  refine AOps.call (o_bin _ _ rfl rfl (fun _ => rfl) rfl) ?_
  refine AOps.nil ?_
  refine AWPJ.cond _ rfl (fun h11 => ?_) (fun h11 => ?_)
  · skip
    exfalso
    exact absurd h11 (by decide)
  · skip
    refine AWPJ.skip ?_
    refine AWPJ.seq ?_
    refine AWPJ.lift (fun u N => ?_)
    refine AWP.region ?_
    refine AOps.call (o_assignK rfl) ?_
    refine AOps.nil ?_
    refine AWPJ.seq ?_
    refine AWPJ.seq ?_
    refine AWPJ.lift (fun u N => ?_)
    refine AWP.region ?_
    refine AOps.call (o_assign _ rfl rfl) ?_
    refine AOps.nil ?_
    refine AWPJ.block ?_
    refine AWPJ.loop (ι := Nat × Option Addr × Nat × List Sp) (fun i => (JR i.2.1 i.2.2.1 i.2.2.2).sep J0) (fun i => AS.mk' 140 [(1, .sl (sps w)), (2, I n), (3, .ref (3, 0) 0), (8, .sl (css (casL p w))), (10, .sc (.slice i.2.1 i.2.2.2.length i.2.2.1)), (11, I i.1)] [((3, 0), eP p)] [] [(3, 1)]) (fun i => i.1 ≤ (casL p w).length ∧ i.2.2.2.length = i.1 ∧ (((casL p w).take i.1).map (posS p w n)).Perm i.2.2.2 ∧ i.2.2.2.Pairwise (fun a b => a.lo ≤ b.lo)) (fun i => (casL p w).length - i.1) (0, none, 0, []) (WeakJ.trans WeakJ.nilRow (WeakJ.trans (WeakJ.comm J0_ok Jrow_ok) (Weak.toJ (Weak.mk' rfl ⟨⟨.refl rfl, rfl⟩, ⟨⟨.refl rfl, rfl⟩, ⟨⟨.refl rfl, rfl⟩, ⟨⟨.refl rfl, rfl⟩, ⟨⟨.refl rfl, rfl⟩, ⟨⟨.refl rfl, rfl⟩, trivial⟩⟩⟩⟩⟩⟩ ⟨⟨rfl, rfl, rfl⟩, trivial⟩ trivial)))) (⟨Nat.zero_le _, rfl, List.Perm.refl _, List.Pairwise.nil⟩) ?_
    rintro ⟨k, a0, cap0, A⟩ ⟨hk, hAl, hAp, hAs⟩
    try dsimp only at *
    refine AWPJ.seq ?_
    refine AWPJ.seq ?_
    refine AWPJ.lift (fun u N => ?_)
    refine AWP.region ?_
    refine AOps.call (o_move _ rfl rfl) ?_
    refine AOps.call (o_move _ rfl rfl) ?_
    refine AOps.call (o_len _ Tryz.underlying40 rfl rfl) ?_
    refine AOps.call (o_bin _ _ rfl rfl (fun _ => rfl) rfl) ?_
    refine AOps.nil ?_
    refine AWPJ.cond _ rfl (fun h16 => ?_) (fun h16 => ?_)
    · skip
      have hlt : k < (casL p w).length := by have := of_decide_eq_true h16; omega
      have hel := css_at hlt
      have hrm := casL_mem hp (List.getElem_mem hlt)
      have hen := ends_at (w := w) hrm.1 hh
      have hen0 := ends_s p w (casL p w)[k] hp hq hrm.1
      rw [if_pos (alive_of hrm)] at hen0
      refine AWPJ.skip ?_
      refine AWPJ.seq ?_
      refine AWPJ.block ?_
      refine AWPJ.seq ?_
      refine AWPJ.lift (fun u N => ?_)
      refine AWP.drawn 12 mixed (by kernel_rfl) ?_
      refine AHead.call (o_loadRef _ rfl rfl Tryz.sizeOf24 Tryz.isAgg24 rfl rfl rfl) rfl ?_
      refine AHead.call (o_move _ rfl rfl) rfl ?_
      refine AHead.call (o_move _ rfl rfl) rfl ?_
      refine AHead.call (o_move _ rfl rfl) rfl ?_
      refine AHead.call (o_index _ _ Tryz.underlying40 Tryz.sizeOf25 rfl rfl (by omega) hel rfl rfl) rfl ?_
      refine AHead.call (o_loadRd _ rfl Tryz.sizeOf25 Tryz.isAgg25 rfl rfl rfl) rfl ?_
      refine AHead.call (o_call hen0 Tryz.call71 rfl rfl) rfl ?_
      refine AHead.call (o_move _ rfl rfl) rfl ?_
      refine AHead.call (o_extract _ rfl rfl rfl rfl) rfl ?_
      refine AHead.call (o_extract _ rfl rfl rfl rfl) rfl ?_
      refine AHead.call (o_assign _ rfl rfl) rfl ?_
      refine AHead.call (o_assign _ rfl rfl) rfl ?_
      refine AHead.nil ?_
      refine AOps.nil ?_
      refine AWPJ.seq ?_
      refine AWPJ.region ?_
      refine AOpsJ.call (fun u N => o_move _ rfl rfl) ?_
      refine AOpsJ.call (fun u N => o_move _ rfl rfl) ?_
      refine AOpsJ.call (fun u N => o_move _ rfl rfl) ?_
      refine AOpsJ.call (fun u N => o_index _ _ Tryz.underlying38 Tryz.sizeOf54 rfl rfl hnn hen rfl rfl) ?_
      refine AOpsJ.call (fun u N => o_loadRd _ rfl Tryz.sizeOf54 Tryz.isAgg54 rfl rfl rfl) ?_
      refine AOpsJ.call (fun u N => o_lit Tryz.underlying38 Tryz.sizeOf54 Tryz.zeroValue54 rfl rfl rfl rfl rfl rfl rfl) ?_
      refine AOpsJ.op (OpJ.frame Jrow_ok J0_ok (fun E u N => o_appendRow (n := A.length) (cs := (sps A).flatten) (ns := [[I (posS p w n (casL p w)[k]).lo, I (posS p w n (casL p w)[k]).hi]]) _ _ Tryz.underlying38 info54 rfl rfl rfl rfl rfl rfl rfl (fun c hc => by simp at hc; subst hc; rfl) (by unfold Tryz.t54; simp only [List.length_cons, List.length_nil]; omega) rfl (by simp) (.inl fun c hc => by simp [I] at hc; rcases hc with rfl | rfl <;> exact ⟨_, rfl⟩) rfl)) ?_
      rintro _ _ ⟨_, ⟨_, ⟨a2, cap2, rfl, rfl⟩, rfl⟩, rfl⟩
      refine AOpsJ.pure (φ := ∃ g, a2 = ⟨g, 0, none⟩) (fun T F w M h => by obtain ⟨_, _, h2⟩ := Sec.sep_l h; obtain ⟨g, hg⟩ := Jrow_shape1 (by simp) h2; exact ⟨g, Option.some.inj hg⟩) (fun hsh2 => ?_)
      obtain ⟨g2, rfl⟩ := hsh2
      rw [show A.length + ([[I (posS p w n (casL p w)[k]).lo, I (posS p w n (casL p w)[k]).hi]] : List (List AV)).length = A.length + 1 from rfl]
      refine AOpsJ.call (fun u N => o_assign _ rfl rfl) ?_
      refine AOpsJ.nil ?_
      refine AWPJ.seq ?_
      refine AWPJ.lift (fun u N => ?_)
      refine AWP.region ?_
      refine AOps.call (o_move _ rfl rfl) ?_
      refine AOps.call (o_lenX _ Tryz.underlying38 rfl rfl) ?_
      refine AOps.call (o_sub _ _ rfl rfl ⟨by (try dsimp only); omega, by (try dsimp only); omega⟩ rfl) ?_
      refine AOps.call (o_assign _ rfl rfl) ?_
      refine AOps.nil ?_
      refine AWPJ.block ?_
      refine AWPJ.loop (ι := Nat) (fun i => (Jrow 54 2 (.slice (some ⟨g2, 0, none⟩) (A.length + 1) cap2) (A.length + 1) (sps (insAt A (posS p w n (casL p w)[k]) i)).flatten).sep J0) (fun i => AS.mk' 140 [(1, .sl (sps w)), (2, I n), (3, .ref (3, 0) 0), (8, .sl (css (casL p w))), (10, .sc (.slice (some ⟨g2, 0, none⟩) (A.length + 1) cap2)), (11, I k), (14, I i)] [((3, 0), eP p)] [] [(3, 1)]) (fun i => i ≤ A.length ∧ ∀ t ∈ A.drop i, (posS p w n (casL p w)[k]).lo ≤ t.lo) (fun i => i) (A.length) (WeakJ.cast (by rw [sps_app1, ← insAt_end]; rfl) (Weak.toJ (Weak.mk' rfl ⟨⟨.refl rfl, rfl⟩, ⟨⟨.refl rfl, rfl⟩, ⟨⟨.refl rfl, rfl⟩, ⟨⟨.refl rfl, rfl⟩, ⟨⟨.refl (by rfl), rfl⟩, ⟨⟨.refl rfl, rfl⟩, ⟨⟨.refl (congrArg I (by (try dsimp only); omega)), rfl⟩, trivial⟩⟩⟩⟩⟩⟩⟩ ⟨⟨rfl, rfl, rfl⟩, trivial⟩ trivial))) (⟨Nat.le_refl _, fun t ht => by rw [List.drop_length] at ht; cases ht⟩) ?_
      rintro j ⟨hj, hge⟩
      try dsimp only at *
      refine AWPJ.seq ?_
      refine AWPJ.seq ?_
      refine AWPJ.drawnK 16 mixed (by kernel_rfl) ?_
      refine AHeadK.call (fun u N => o_move _ rfl rfl) rfl ?_
      refine AHeadK.call (fun u N => o_bin _ _ rfl rfl (fun _ => rfl) rfl) rfl ?_
      refine AHeadK.call (fun u N => o_move _ rfl rfl) rfl ?_
      refine AHeadK.split rfl rfl rfl (fun h32 => ?_) (fun h32 => ?_)
      · skip
        have hj0 : 0 < j := by have := of_decide_eq_true h32; omega
        have hlo1 := sps_lo (L := insAt A (posS p w n (casL p w)[k]) j) (k := j - 1) (by rw [insAt_len]; omega)
        rw [insAt_lt (by omega) hj] at hlo1
        have hlo2 := sps_lo (L := insAt A (posS p w n (casL p w)[k]) j) (k := j) (by rw [insAt_len]; omega)
        rw [insAt_x hj] at hlo2
        refine AHeadK.go rfl rfl rfl h32 (fun u N => o_move _ rfl rfl) rfl ?_
        refine AHeadK.go rfl rfl rfl h32 (fun u N => o_move _ rfl rfl) rfl ?_
        refine AHeadK.go rfl rfl rfl h32 (fun u N => o_sub _ _ rfl rfl ⟨by (try dsimp only); omega, by (try dsimp only); omega⟩ rfl) rfl ?_
        refine AHeadK.go rfl rfl rfl h32 (fun u N => o_indexX (o := (j - 1) * 2) _ _ Tryz.underlying38 Tryz.sizeOf54 rfl rfl (by omega) (by omega) (by omega) rfl) rfl ?_
        refine AHeadK.go rfl rfl rfl h32 (fun u N => o_fieldX (o' := (j - 1) * 2) _ rfl fa54_0 rfl rfl) rfl ?_
        refine AHeadK.goLook rfl rfl rfl h32 (o_look (cs := (sps (insAt A (posS p w n (casL p w)[k]) j)).flatten.drop ((j - 1) * 2)) (r := I A[j - 1].lo) _ rfl Tryz.sizeOf3 Tryz.isAgg3 (fun T F w M h => by obtain ⟨_, _, h2⟩ := Sec.sep_l h; exact Jrow_cells h2 ((j - 1) * 2)) hlo1 rfl) rfl ?_
        refine AHeadK.go rfl rfl rfl h32 (fun u N => o_move _ rfl rfl) rfl ?_
        refine AHeadK.go rfl rfl rfl h32 (fun u N => o_move _ rfl rfl) rfl ?_
        refine AHeadK.go rfl rfl rfl h32 (fun u N => o_indexX (o := j * 2) _ _ Tryz.underlying38 Tryz.sizeOf54 rfl rfl (by omega) (by omega) (by omega) rfl) rfl ?_
        refine AHeadK.go rfl rfl rfl h32 (fun u N => o_fieldX (o' := j * 2) _ rfl fa54_0 rfl rfl) rfl ?_
        refine AHeadK.goLook rfl rfl rfl h32 (o_look (cs := (sps (insAt A (posS p w n (casL p w)[k]) j)).flatten.drop (j * 2)) (r := I (posS p w n (casL p w)[k]).lo) _ rfl Tryz.sizeOf3 Tryz.isAgg3 (fun T F w M h => by obtain ⟨_, _, h2⟩ := Sec.sep_l h; exact Jrow_cells h2 (j * 2)) hlo2 rfl) rfl ?_
        refine AHeadK.go rfl rfl rfl h32 (fun u N => o_bin _ _ rfl rfl (fun _ => rfl) rfl) rfl ?_
        refine AHeadK.call (fun u N => o_pickT _ _ _ rfl h32 rfl rfl) rfl ?_
        refine AHeadK.nil ?_
        refine AOpsJ.nil ?_
        refine AWPJ.cond _ rfl (fun h41 => ?_) (fun h41 => ?_)
        · skip
          have hgt : (posS p w n (casL p w)[k]).lo < A[j - 1].lo := by have := of_decide_eq_true h41; omega
          have hpx := sps_part (L := insAt A (posS p w n (casL p w)[k]) j) (k := j) (by rw [insAt_len]; omega)
          rw [insAt_x hj] at hpx
          have hpa := sps_part (L := insAt A (posS p w n (casL p w)[k]) j) (k := j - 1) (by rw [insAt_len]; omega)
          rw [insAt_lt (by omega) hj] at hpa
          have hswap : ((insAt A (posS p w n (casL p w)[k]) j).set j A[j - 1]).set (j - 1) (posS p w n (casL p w)[k]) = insAt A (posS p w n (casL p w)[k]) (j - 1) := by
            obtain ⟨jj, rfl⟩ : ∃ jj, j = jj + 1 := ⟨j - 1, by omega⟩
            exact insAt_swap (by omega)
          refine AWPJ.skip ?_
          refine AWPJ.seq ?_
          refine AWPJ.block ?_
          refine AWPJ.seq ?_
          refine AWPJ.region ?_
          refine AOpsJ.call (fun u N => o_move _ rfl rfl) ?_
          refine AOpsJ.call (fun u N => o_move _ rfl rfl) ?_
          refine AOpsJ.call (fun u N => o_indexX (o := j * 2) _ _ Tryz.underlying38 Tryz.sizeOf54 rfl rfl (by omega) (by omega) (by omega) rfl) ?_
          refine AOpsJ.op (OpAnyJ.op (o_look (cs := (sps (insAt A (posS p w n (casL p w)[k]) j)).flatten.drop (j * 2)) (r := .agg (eN (posS p w n (casL p w)[k]))) _ rfl Tryz.sizeOf54 Tryz.isAgg54 (fun T F w M h => by obtain ⟨_, _, h2⟩ := Sec.sep_l h; exact Jrow_cells h2 (j * 2)) hpx rfl)) ?_
          rintro _ _ ⟨rfl, rfl⟩
          refine AOpsJ.call (fun u N => o_alloc ze54 rfl rfl) ?_
          refine AOpsJ.cons (fun u N => o_store _ _ rfl rfl Tryz.sizeOf54 rfl rfl rfl rfl rfl) ?_
          refine AOpsJ.nil ?_
          refine AWPJ.seq ?_
          refine AWPJ.region ?_
          refine AOpsJ.call (fun u N => o_move _ rfl rfl) ?_
          refine AOpsJ.call (fun u N => o_move _ rfl rfl) ?_
          refine AOpsJ.call (fun u N => o_move _ rfl rfl) ?_
          refine AOpsJ.call (fun u N => o_move _ rfl rfl) ?_
          refine AOpsJ.call (fun u N => o_sub _ _ rfl rfl ⟨by (try dsimp only); omega, by (try dsimp only); omega⟩ rfl) ?_
          refine AOpsJ.call (fun u N => o_indexX (o := (j - 1) * 2) _ _ Tryz.underlying38 Tryz.sizeOf54 rfl rfl (by omega) (by omega) (by omega) rfl) ?_
          refine AOpsJ.op (OpAnyJ.op (o_look (cs := (sps (insAt A (posS p w n (casL p w)[k]) j)).flatten.drop ((j - 1) * 2)) (r := .agg (eN A[j - 1])) _ rfl Tryz.sizeOf54 Tryz.isAgg54 (fun T F w M h => by obtain ⟨_, _, h2⟩ := Sec.sep_l h; exact Jrow_cells h2 ((j - 1) * 2)) hpa rfl)) ?_
          rintro _ _ ⟨rfl, rfl⟩
          refine AOpsJ.call (fun u N => o_indexX (o := j * 2) _ _ Tryz.underlying38 Tryz.sizeOf54 rfl rfl (by omega) (by omega) (by omega) rfl) ?_
          refine AOpsJ.op (OpJ.frame Jrow_ok J0_ok (fun E u N => o_storeRowN (n := A.length + 1) (cs := (sps (insAt A (posS p w n (casL p w)[k]) j)).flatten) (o := j * 2) (vals := [.int .i64 A[j - 1].lo, .int .i64 A[j - 1].hi]) _ _ rfl rfl rfl Tryz.sizeOf54 (fun v hv => by simp at hv; rcases hv with rfl | rfl <;> rfl) (by rw [sps_flen, insAt_len]; simp; omega) (spl_sps (L := insAt A (posS p w n (casL p w)[k]) j) (k := j) (s := A[j - 1]) (by rw [insAt_len]; omega)) rfl)) ?_
          rintro _ _ ⟨_, ⟨rfl, rfl⟩, rfl⟩
          refine AOpsJ.nil ?_
          refine AWPJ.region ?_
          refine AOpsJ.call (fun u N => o_move _ rfl rfl) ?_
          refine AOpsJ.call (fun u N => o_move _ rfl rfl) ?_
          refine AOpsJ.call (fun u N => o_sub _ _ rfl rfl ⟨by (try dsimp only); omega, by (try dsimp only); omega⟩ rfl) ?_
          refine AOpsJ.call (fun u N => o_loadRef _ rfl rfl Tryz.sizeOf54 Tryz.isAgg54 rfl rfl rfl) ?_
          refine AOpsJ.call (fun u N => o_indexX (o := (j - 1) * 2) _ _ Tryz.underlying38 Tryz.sizeOf54 rfl rfl (by omega) (by omega) (by omega) rfl) ?_
          refine AOpsJ.op (OpJ.frame Jrow_ok J0_ok (fun E u N => o_storeRowN (n := A.length + 1) (cs := (sps ((insAt A (posS p w n (casL p w)[k]) j).set j A[j - 1])).flatten) (o := (j - 1) * 2) (vals := [.int .i64 (posS p w n (casL p w)[k]).lo, .int .i64 (posS p w n (casL p w)[k]).hi]) _ _ rfl rfl rfl Tryz.sizeOf54 (fun v hv => by simp at hv; rcases hv with rfl | rfl <;> rfl) (by rw [sps_flen, List.length_set, insAt_len]; simp; omega) ((spl_sps (L := (insAt A (posS p w n (casL p w)[k]) j).set j A[j - 1]) (k := j - 1) (s := (posS p w n (casL p w)[k])) (by rw [List.length_set, insAt_len]; omega)).trans (by rw [hswap])) rfl)) ?_
          rintro _ _ ⟨_, ⟨rfl, rfl⟩, rfl⟩
          refine AOpsJ.nil ?_
          refine AWPJ.lift (fun u N => ?_)
          refine AWP.region ?_
          refine AOps.call (o_move _ rfl rfl) ?_
          refine AOps.call (o_sub _ _ rfl rfl ⟨by (try dsimp only); omega, by (try dsimp only); omega⟩ rfl) ?_
          refine AOps.call (o_assign _ rfl rfl) ?_
          refine AOps.nil ?_
          refine ⟨(j - 1), ?_, Weak.toJ (Weak.mk' rfl ⟨⟨.refl rfl, rfl⟩, ⟨⟨.refl rfl, rfl⟩, ⟨⟨.refl rfl, rfl⟩, ⟨⟨.refl rfl, rfl⟩, ⟨⟨.refl rfl, rfl⟩, ⟨⟨.refl rfl, rfl⟩, ⟨⟨.refl (congrArg I (by (try dsimp only); omega)), rfl⟩, trivial⟩⟩⟩⟩⟩⟩⟩ ⟨⟨rfl, rfl, rfl⟩, trivial⟩ trivial)⟩
          refine ⟨⟨by (try dsimp only); omega, ?_⟩, by (try dsimp only); omega⟩
          intro t ht
          rw [List.drop_eq_getElem_cons (show j - 1 < A.length by omega), show j - 1 + 1 = j by omega] at ht
          rcases List.mem_cons.1 ht with rfl | ht
          · omega
          · exact hge t ht
        · skip
          have hbelow : ∀ t ∈ A.take j, t.lo ≤ (posS p w n (casL p w)[k]).lo := by
            have hle : A[j - 1].lo ≤ (posS p w n (casL p w)[k]).lo := by have := of_decide_eq_false h41; omega
            have h := sorted_below hAs (show j - 1 < A.length by omega) hle
            rw [show j - 1 + 1 = j by omega] at h; exact h
          refine AWPJ.exit ?_
          refine AWPJ.lift (fun u N => ?_)
          refine AWP.region ?_
          refine AOps.call (o_move _ rfl rfl) ?_
          refine AOps.call (o_add _ _ rfl rfl ⟨by (try dsimp only); omega, by (try dsimp only); omega⟩ rfl) ?_
          refine AOps.call (o_assign _ rfl rfl) ?_
          refine AOps.nil ?_
          refine ⟨(k + 1, some ⟨g2, 0, none⟩, cap2, insAt A (posS p w n (casL p w)[k]) j), ⟨⟨by (try dsimp only); omega, ?_, ?_, ?_⟩, by (try dsimp only); omega⟩, WeakJ.cast (by dsimp only [JR]; rw [insAt_len]) (Weak.toJ (Weak.mk' rfl ⟨⟨.refl rfl, rfl⟩, ⟨⟨.refl rfl, rfl⟩, ⟨⟨.refl rfl, rfl⟩, ⟨⟨.refl rfl, rfl⟩, ⟨⟨.refl (by (try dsimp only); rw [insAt_len]; rfl), rfl⟩, ⟨⟨.refl rfl, rfl⟩, trivial⟩⟩⟩⟩⟩⟩ ⟨⟨rfl, rfl, rfl⟩, trivial⟩ trivial))⟩
          · show (insAt A (posS p w n (casL p w)[k]) j).length = k + 1
            rw [insAt_len, hAl]
          · show (((casL p w).take (k + 1)).map (posS p w n)).Perm (insAt A (posS p w n (casL p w)[k]) j)
            rw [List.take_succ_eq_append_getElem hlt, List.map_append]
            exact (hAp.append_right _).trans (ins_perm A (posS p w n (casL p w)[k]) j).symm
          · exact ins_sorted (by omega) hAs hge hbelow
      · skip
        have hj0 : j = 0 := by have := of_decide_eq_false h32; omega
        refine AHeadK.pass rfl rfl rfl h32 rfl ?_
        refine AHeadK.pass rfl rfl rfl h32 rfl ?_
        refine AHeadK.pass rfl rfl rfl h32 rfl ?_
        refine AHeadK.pass rfl rfl rfl h32 rfl ?_
        refine AHeadK.pass rfl rfl rfl h32 rfl ?_
        refine AHeadK.pass rfl rfl rfl h32 rfl ?_
        refine AHeadK.pass rfl rfl rfl h32 rfl ?_
        refine AHeadK.pass rfl rfl rfl h32 rfl ?_
        refine AHeadK.pass rfl rfl rfl h32 rfl ?_
        refine AHeadK.pass rfl rfl rfl h32 rfl ?_
        refine AHeadK.pass rfl rfl rfl h32 rfl ?_
        refine AHeadK.pass rfl rfl rfl h32 rfl ?_
        refine AHeadK.call (fun u N => o_pickF _ _ _ rfl h32 rfl rfl) rfl ?_
        refine AHeadK.nil ?_
        refine AOpsJ.nil ?_
        refine AWPJ.condF rfl ?_
        have hbelow : ∀ t ∈ A.take j, t.lo ≤ (posS p w n (casL p w)[k]).lo := fun t ht => by rw [hj0] at ht; cases ht
        refine AWPJ.exit ?_
        refine AWPJ.lift (fun u N => ?_)
        refine AWP.region ?_
        refine AOps.call (o_move _ rfl rfl) ?_
        refine AOps.call (o_add _ _ rfl rfl ⟨by (try dsimp only); omega, by (try dsimp only); omega⟩ rfl) ?_
        refine AOps.call (o_assign _ rfl rfl) ?_
        refine AOps.nil ?_
        refine ⟨(k + 1, some ⟨g2, 0, none⟩, cap2, insAt A (posS p w n (casL p w)[k]) j), ⟨⟨by (try dsimp only); omega, ?_, ?_, ?_⟩, by (try dsimp only); omega⟩, WeakJ.cast (by dsimp only [JR]; rw [insAt_len]) (Weak.toJ (Weak.mk' rfl ⟨⟨.refl rfl, rfl⟩, ⟨⟨.refl rfl, rfl⟩, ⟨⟨.refl rfl, rfl⟩, ⟨⟨.refl rfl, rfl⟩, ⟨⟨.refl (by (try dsimp only); rw [insAt_len]; rfl), rfl⟩, ⟨⟨.refl rfl, rfl⟩, trivial⟩⟩⟩⟩⟩⟩ ⟨⟨rfl, rfl, rfl⟩, trivial⟩ trivial))⟩
        · show (insAt A (posS p w n (casL p w)[k]) j).length = k + 1
          rw [insAt_len, hAl]
        · show (((casL p w).take (k + 1)).map (posS p w n)).Perm (insAt A (posS p w n (casL p w)[k]) j)
          rw [List.take_succ_eq_append_getElem hlt, List.map_append]
          exact (hAp.append_right _).trans (ins_perm A (posS p w n (casL p w)[k]) j).symm
        · exact ins_sorted (by omega) hAs hge hbelow
    · skip
      have hkl : k = (casL p w).length := by have := of_decide_eq_false h16; omega
      have hAp2 : ((casL p w).map (posS p w n)).Perm A := by rw [hkl, List.take_length] at hAp; exact hAp
      have hfin := pfA_all (fun s hs => (hbdA s hs).2) hAp2 hAs
      have hAb : ∀ s ∈ A, BdS s := fun s hs => (hbdA s (hAp2.mem_iff.2 hs)).1
      refine AWPJ.weak (WeakJ.freeze (es := sps A) 10 rfl rfl sps_z (sps_len _) J0_ok) ?_
      have hsA := sps_len A
      refine AWPJ.exit ?_
      refine AWPJ.seq ?_
      refine AWPJ.lift (fun u N => ?_)
      refine AWP.region ?_
      refine AOps.call (o_assignK rfl) ?_
      refine AOps.nil ?_
      refine AWPJ.seq ?_
      refine AWPJ.seq ?_
      refine AWPJ.lift (fun u N => ?_)
      refine AWP.region ?_
      refine AOps.call (o_assign _ rfl rfl) ?_
      refine AOps.nil ?_
      refine AWPJ.block ?_
      refine AWPJ.loop (ι := Nat × Option Addr × Nat × List Sp) (fun i => (JR i.2.1 i.2.2.1 i.2.2.2).sep J0) (fun i => AS.mk' 140 [(10, .sl (sps A)), (16, .sc (.slice i.2.1 i.2.2.2.length i.2.2.1)), (17, I i.1)] [] [] []) (fun i => i.1 ≤ A.length ∧ i.2.2.2 = pfA A i.1) (fun i => A.length - i.1) (0, none, 0, []) (WeakJ.trans WeakJ.nilRow (WeakJ.trans (WeakJ.comm J0_ok Jrow_ok) (Weak.toJ (Weak.mk' rfl ⟨⟨.refl rfl, rfl⟩, ⟨⟨.refl rfl, rfl⟩, ⟨⟨.refl rfl, rfl⟩, trivial⟩⟩⟩ trivial trivial)))) (⟨Nat.zero_le _, rfl⟩) ?_
      rintro ⟨m, a1, cap1, acc⟩ ⟨hm, hacc⟩
      try dsimp only at *
      refine AWPJ.seq ?_
      refine AWPJ.seq ?_
      refine AWPJ.lift (fun u N => ?_)
      refine AWP.region ?_
      refine AOps.call (o_move _ rfl rfl) ?_
      refine AOps.call (o_move _ rfl rfl) ?_
      refine AOps.call (o_len _ Tryz.underlying38 rfl rfl) ?_
      refine AOps.call (o_bin _ _ rfl rfl (fun _ => rfl) rfl) ?_
      refine AOps.nil ?_
      refine AWPJ.cond _ rfl (fun h59 => ?_) (fun h59 => ?_)
      · skip
        have hmt : m < A.length := by have := of_decide_eq_true h59; omega
        have hpl := sps_at hmt
        refine AWPJ.pure (φ := 0 < acc.length → ∃ g, a1 = some ⟨g, 0, none⟩) (fun T F w M h hp => by obtain ⟨_, _, h2⟩ := Sec.sep_l h; exact Jrow_shape1 hp h2) (fun hsh1 => ?_)
        have hal : acc.length ≤ m := by rw [hacc]; exact pfA_len A m
        have hbd : ∀ s ∈ acc, BdS s := by rw [hacc]; exact pfA_bd hAb m
        refine AWPJ.skip ?_
        refine AWPJ.seq ?_
        refine AWPJ.block ?_
        refine AWPJ.seq ?_
        refine AWPJ.lift (fun u N => ?_)
        refine AWP.region ?_
        refine AOps.call (o_move _ rfl rfl) ?_
        refine AOps.call (o_lenX _ Tryz.underlying38 rfl rfl) ?_
        refine AOps.call (o_assign _ rfl rfl) ?_
        refine AOps.nil ?_
        refine AWPJ.seq ?_
        refine AWPJ.drawnK 17 mixed (by kernel_rfl) ?_
        refine AHeadK.call (fun u N => o_move _ rfl rfl) rfl ?_
        refine AHeadK.call (fun u N => o_bin _ _ rfl rfl (fun _ => rfl) rfl) rfl ?_
        refine AHeadK.call (fun u N => o_move _ rfl rfl) rfl ?_
        refine AHeadK.split rfl rfl rfl (fun h62 => ?_) (fun h62 => ?_)
        · skip
          have hpos : 0 < acc.length := by have := of_decide_eq_true h62; omega
          obtain ⟨g1, rfl⟩ := hsh1 hpos
          have hbl := hbd _ (List.getElem_mem (show acc.length - 1 < acc.length by omega))
          unfold BdS at hbl
          refine AHeadK.go rfl rfl rfl h62 (fun u N => o_move _ rfl rfl) rfl ?_
          refine AHeadK.go rfl rfl rfl h62 (fun u N => o_move _ rfl rfl) rfl ?_
          refine AHeadK.go rfl rfl rfl h62 (fun u N => o_index _ _ Tryz.underlying38 Tryz.sizeOf54 rfl rfl (by omega) hpl rfl rfl) rfl ?_
          refine AHeadK.go rfl rfl rfl h62 (fun u N => o_fieldRd _ rfl fa54_0 rfl) rfl ?_
          refine AHeadK.go rfl rfl rfl h62 (fun u N => o_loadRd _ rfl Tryz.sizeOf3 Tryz.isAgg3 rfl rfl rfl) rfl ?_
          refine AHeadK.go rfl rfl rfl h62 (fun u N => o_move _ rfl rfl) rfl ?_
          refine AHeadK.go rfl rfl rfl h62 (fun u N => o_move _ rfl rfl) rfl ?_
          refine AHeadK.go rfl rfl rfl h62 (fun u N => o_sub _ _ rfl rfl ⟨by (try dsimp only); omega, by (try dsimp only); omega⟩ rfl) rfl ?_
          refine AHeadK.go rfl rfl rfl h62 (fun u N => o_indexX (o := (acc.length - 1) * 2) _ _ Tryz.underlying38 Tryz.sizeOf54 rfl rfl (by omega) (by omega) (by omega) rfl) rfl ?_
          refine AHeadK.go rfl rfl rfl h62 (fun u N => o_fieldX (o' := (acc.length - 1) * 2 + 1) _ rfl fa54_1 rfl rfl) rfl ?_
          refine AHeadK.goLook rfl rfl rfl h62 (o_look (cs := (sps acc).flatten.drop ((acc.length - 1) * 2 + 1)) (r := I acc[acc.length - 1].hi) _ rfl Tryz.sizeOf3 Tryz.isAgg3 (fun T F w M h => by obtain ⟨_, _, h2⟩ := Sec.sep_l h; exact Jrow_cells h2 ((acc.length - 1) * 2 + 1)) (part_hi (by omega)) rfl) rfl ?_
          refine AHeadK.go rfl rfl rfl h62 (fun u N => o_add _ _ rfl rfl ⟨by (try dsimp only); omega, by (try dsimp only); omega⟩ rfl) rfl ?_
          refine AHeadK.go rfl rfl rfl h62 (fun u N => o_bin _ _ rfl rfl (fun _ => rfl) rfl) rfl ?_
          refine AHeadK.call (fun u N => o_pickT _ _ _ rfl h62 rfl rfl) rfl ?_
          refine AHeadK.nil ?_
          refine AOpsJ.nil ?_
          refine AWPJ.cond _ rfl (fun h72 => ?_) (fun h72 => ?_)
          · skip
            have hap : ¬ (acc.length = 0 ∨ (acc.getD (acc.length - 1) ⟨0, 0⟩).hi + 1 < A[m].lo) := by
              rintro (h | h)
              · omega
              · have := of_decide_eq_true h72
                rw [getD_at (by omega)] at h
                omega
            have hset := sps_setHi (acc := acc) (k := acc.length - 1) (by omega) (max acc[acc.length - 1].hi A[m].hi)
            refine AWPJ.drawnK 17 mixed (by kernel_rfl) ?_
            refine AHeadK.call (fun u N => o_move _ rfl rfl) rfl ?_
            refine AHeadK.call (fun u N => o_move _ rfl rfl) rfl ?_
            refine AHeadK.call (fun u N => o_sub _ _ rfl rfl ⟨by (try dsimp only); omega, by (try dsimp only); omega⟩ rfl) rfl ?_
            refine AHeadK.call (fun u N => o_move _ rfl rfl) rfl ?_
            refine AHeadK.call (fun u N => o_move _ rfl rfl) rfl ?_
            refine AHeadK.call (fun u N => o_sub _ _ rfl rfl ⟨by (try dsimp only); omega, by (try dsimp only); omega⟩ rfl) rfl ?_
            refine AHeadK.call (fun u N => o_indexX (o := (acc.length - 1) * 2) _ _ Tryz.underlying38 Tryz.sizeOf54 rfl rfl (by omega) (by omega) (by omega) rfl) rfl ?_
            refine AHeadK.call (fun u N => o_fieldX (o' := (acc.length - 1) * 2 + 1) _ rfl fa54_1 rfl rfl) rfl ?_
            refine AHeadK.look (o_look (cs := (sps acc).flatten.drop ((acc.length - 1) * 2 + 1)) (r := I acc[acc.length - 1].hi) _ rfl Tryz.sizeOf3 Tryz.isAgg3 (fun T F w M h => by obtain ⟨_, _, h2⟩ := Sec.sep_l h; exact Jrow_cells h2 ((acc.length - 1) * 2 + 1)) (part_hi (by omega)) rfl) rfl ?_
            refine AHeadK.call (fun u N => o_move _ rfl rfl) rfl ?_
            refine AHeadK.call (fun u N => o_move _ rfl rfl) rfl ?_
            refine AHeadK.call (fun u N => o_index _ _ Tryz.underlying38 Tryz.sizeOf54 rfl rfl (by omega) hpl rfl rfl) rfl ?_
            refine AHeadK.call (fun u N => o_fieldRd _ rfl fa54_1 rfl) rfl ?_
            refine AHeadK.call (fun u N => o_loadRd _ rfl Tryz.sizeOf3 Tryz.isAgg3 rfl rfl rfl) rfl ?_
            refine AHeadK.call (fun u N => o_maxZ _ _ rfl rfl rfl) rfl ?_
            refine AHeadK.call (fun u N => o_indexX (o := (acc.length - 1) * 2) _ _ Tryz.underlying38 Tryz.sizeOf54 rfl rfl (by omega) (by omega) (by omega) rfl) rfl ?_
            refine AHeadK.call (fun u N => o_fieldX (o' := (acc.length - 1) * 2 + 1) _ rfl fa54_1 rfl rfl) rfl ?_
            refine AHeadK.nil ?_
            refine AOpsJ.op (OpJ.frame Jrow_ok J0_ok (fun E u N => o_storeRow (cs := (sps acc).flatten) (o := (acc.length - 1) * 2 + 1) _ _ rfl rfl Tryz.sizeOf3 rfl (by rw [sps_flen]; omega) hset rfl)) ?_
            rintro _ _ ⟨_, ⟨rfl, rfl⟩, rfl⟩
            refine AOpsJ.nil ?_
            refine AWPJ.lift (fun u N => ?_)
            refine AWP.region ?_
            refine AOps.call (o_move _ rfl rfl) ?_
            refine AOps.call (o_add _ _ rfl rfl ⟨by (try dsimp only); omega, by (try dsimp only); omega⟩ rfl) ?_
            refine AOps.call (o_assign _ rfl rfl) ?_
            refine AOps.nil ?_
            first
            | refine ⟨(m + 1, some a3, cap3, acc ++ [A[m]]), ⟨⟨by (try dsimp only); omega, ?_⟩, by (try dsimp only); omega⟩, WeakJ.cast (by rw [sps_app1, show acc.length + [[I A[m].lo, I A[m].hi]].length = (acc ++ [A[m]]).length by simp]; rfl) (Weak.toJ (Weak.mk' rfl ⟨⟨.refl rfl, rfl⟩, ⟨⟨.refl (by simp; rfl), rfl⟩, ⟨⟨.refl rfl, rfl⟩, trivial⟩⟩⟩ trivial trivial))⟩
            | refine ⟨(m + 1, some ⟨g1, 0, none⟩, cap1, acc.set (acc.length - 1) ⟨acc[acc.length - 1].lo, max acc[acc.length - 1].hi A[m].hi⟩), ⟨⟨by (try dsimp only); omega, ?_⟩, by (try dsimp only); omega⟩, WeakJ.cast (by dsimp only [JR]; rw [List.length_set]) (Weak.toJ (Weak.mk' rfl ⟨⟨.refl rfl, rfl⟩, ⟨⟨.refl (by simp; rfl), rfl⟩, ⟨⟨.refl rfl, rfl⟩, trivial⟩⟩⟩ trivial trivial))⟩
            rw [pfA_succ (by omega), ← hacc]
            unfold stp
            first
            | (rw [if_pos hap]; done)
            | (rw [if_neg hap, getD_at (by omega)]; done)
          · skip
            have hap : acc.length = 0 ∨ (acc.getD (acc.length - 1) ⟨0, 0⟩).hi + 1 < A[m].lo := .inr (by have := of_decide_eq_false h72; rw [getD_at (by omega)]; omega)
            refine AWPJ.region ?_
            refine AOpsJ.call (fun u N => o_move _ rfl rfl) ?_
            refine AOpsJ.call (fun u N => o_move _ rfl rfl) ?_
            refine AOpsJ.call (fun u N => o_move _ rfl rfl) ?_
            refine AOpsJ.call (fun u N => o_index _ _ Tryz.underlying38 Tryz.sizeOf54 rfl rfl (by omega) hpl rfl rfl) ?_
            refine AOpsJ.call (fun u N => o_loadRd _ rfl Tryz.sizeOf54 Tryz.isAgg54 rfl rfl rfl) ?_
            refine AOpsJ.call (fun u N => o_lit Tryz.underlying38 Tryz.sizeOf54 Tryz.zeroValue54 rfl rfl rfl rfl rfl rfl rfl) ?_
            refine AOpsJ.op (OpJ.frame Jrow_ok J0_ok (fun E u N => o_appendRow (n := acc.length) (cs := (sps acc).flatten) (ns := [[I A[m].lo, I A[m].hi]]) _ _ Tryz.underlying38 info54 rfl rfl rfl rfl rfl rfl rfl (fun c hc => by simp at hc; subst hc; rfl) (by unfold Tryz.t54; simp only [List.length_cons, List.length_nil]; omega) rfl (by simp) (.inl fun c hc => by simp [I] at hc; rcases hc with rfl | rfl <;> exact ⟨_, rfl⟩) rfl)) ?_
            rintro _ _ ⟨_, ⟨_, ⟨a3, cap3, rfl, rfl⟩, rfl⟩, rfl⟩
            refine AOpsJ.call (fun u N => o_assign _ rfl rfl) ?_
            refine AOpsJ.nil ?_
            refine AWPJ.lift (fun u N => ?_)
            refine AWP.region ?_
            refine AOps.call (o_move _ rfl rfl) ?_
            refine AOps.call (o_add _ _ rfl rfl ⟨by (try dsimp only); omega, by (try dsimp only); omega⟩ rfl) ?_
            refine AOps.call (o_assign _ rfl rfl) ?_
            refine AOps.nil ?_
            first
            | refine ⟨(m + 1, some a3, cap3, acc ++ [A[m]]), ⟨⟨by (try dsimp only); omega, ?_⟩, by (try dsimp only); omega⟩, WeakJ.cast (by rw [sps_app1, show acc.length + [[I A[m].lo, I A[m].hi]].length = (acc ++ [A[m]]).length by simp]; rfl) (Weak.toJ (Weak.mk' rfl ⟨⟨.refl rfl, rfl⟩, ⟨⟨.refl (by simp; rfl), rfl⟩, ⟨⟨.refl rfl, rfl⟩, trivial⟩⟩⟩ trivial trivial))⟩
            | refine ⟨(m + 1, some ⟨g1, 0, none⟩, cap1, acc.set (acc.length - 1) ⟨acc[acc.length - 1].lo, max acc[acc.length - 1].hi A[m].hi⟩), ⟨⟨by (try dsimp only); omega, ?_⟩, by (try dsimp only); omega⟩, WeakJ.cast (by dsimp only [JR]; rw [List.length_set]) (Weak.toJ (Weak.mk' rfl ⟨⟨.refl rfl, rfl⟩, ⟨⟨.refl (by simp; rfl), rfl⟩, ⟨⟨.refl rfl, rfl⟩, trivial⟩⟩⟩ trivial trivial))⟩
            rw [pfA_succ (by omega), ← hacc]
            unfold stp
            first
            | (rw [if_pos hap]; done)
            | (rw [if_neg hap, getD_at (by omega)]; done)
        · skip
          have hz2 : acc.length = 0 := by have := of_decide_eq_false h62; omega
          refine AHeadK.pass rfl rfl rfl h62 rfl ?_
          refine AHeadK.pass rfl rfl rfl h62 rfl ?_
          refine AHeadK.pass rfl rfl rfl h62 rfl ?_
          refine AHeadK.pass rfl rfl rfl h62 rfl ?_
          refine AHeadK.pass rfl rfl rfl h62 rfl ?_
          refine AHeadK.pass rfl rfl rfl h62 rfl ?_
          refine AHeadK.pass rfl rfl rfl h62 rfl ?_
          refine AHeadK.pass rfl rfl rfl h62 rfl ?_
          refine AHeadK.pass rfl rfl rfl h62 rfl ?_
          refine AHeadK.pass rfl rfl rfl h62 rfl ?_
          refine AHeadK.pass rfl rfl rfl h62 rfl ?_
          refine AHeadK.pass rfl rfl rfl h62 rfl ?_
          refine AHeadK.pass rfl rfl rfl h62 rfl ?_
          refine AHeadK.call (fun u N => o_pickF _ _ _ rfl h62 rfl rfl) rfl ?_
          refine AHeadK.nil ?_
          refine AOpsJ.nil ?_
          refine AWPJ.condF rfl ?_
          have hap : acc.length = 0 ∨ (acc.getD (acc.length - 1) ⟨0, 0⟩).hi + 1 < A[m].lo := .inl hz2
          refine AWPJ.region ?_
          refine AOpsJ.call (fun u N => o_move _ rfl rfl) ?_
          refine AOpsJ.call (fun u N => o_move _ rfl rfl) ?_
          refine AOpsJ.call (fun u N => o_move _ rfl rfl) ?_
          refine AOpsJ.call (fun u N => o_index _ _ Tryz.underlying38 Tryz.sizeOf54 rfl rfl (by omega) hpl rfl rfl) ?_
          refine AOpsJ.call (fun u N => o_loadRd _ rfl Tryz.sizeOf54 Tryz.isAgg54 rfl rfl rfl) ?_
          refine AOpsJ.call (fun u N => o_lit Tryz.underlying38 Tryz.sizeOf54 Tryz.zeroValue54 rfl rfl rfl rfl rfl rfl rfl) ?_
          refine AOpsJ.op (OpJ.frame Jrow_ok J0_ok (fun E u N => o_appendRow (n := acc.length) (cs := (sps acc).flatten) (ns := [[I A[m].lo, I A[m].hi]]) _ _ Tryz.underlying38 info54 rfl rfl rfl rfl rfl rfl rfl (fun c hc => by simp at hc; subst hc; rfl) (by unfold Tryz.t54; simp only [List.length_cons, List.length_nil]; omega) rfl (by simp) (.inl fun c hc => by simp [I] at hc; rcases hc with rfl | rfl <;> exact ⟨_, rfl⟩) rfl)) ?_
          rintro _ _ ⟨_, ⟨_, ⟨a3, cap3, rfl, rfl⟩, rfl⟩, rfl⟩
          refine AOpsJ.call (fun u N => o_assign _ rfl rfl) ?_
          refine AOpsJ.nil ?_
          refine AWPJ.lift (fun u N => ?_)
          refine AWP.region ?_
          refine AOps.call (o_move _ rfl rfl) ?_
          refine AOps.call (o_add _ _ rfl rfl ⟨by (try dsimp only); omega, by (try dsimp only); omega⟩ rfl) ?_
          refine AOps.call (o_assign _ rfl rfl) ?_
          refine AOps.nil ?_
          first
          | refine ⟨(m + 1, some a3, cap3, acc ++ [A[m]]), ⟨⟨by (try dsimp only); omega, ?_⟩, by (try dsimp only); omega⟩, WeakJ.cast (by rw [sps_app1, show acc.length + [[I A[m].lo, I A[m].hi]].length = (acc ++ [A[m]]).length by simp]; rfl) (Weak.toJ (Weak.mk' rfl ⟨⟨.refl rfl, rfl⟩, ⟨⟨.refl (by simp; rfl), rfl⟩, ⟨⟨.refl rfl, rfl⟩, trivial⟩⟩⟩ trivial trivial))⟩
          | refine ⟨(m + 1, some ⟨g1, 0, none⟩, cap1, acc.set (acc.length - 1) ⟨acc[acc.length - 1].lo, max acc[acc.length - 1].hi A[m].hi⟩), ⟨⟨by (try dsimp only); omega, ?_⟩, by (try dsimp only); omega⟩, WeakJ.cast (by dsimp only [JR]; rw [List.length_set]) (Weak.toJ (Weak.mk' rfl ⟨⟨.refl rfl, rfl⟩, ⟨⟨.refl (by simp; rfl), rfl⟩, ⟨⟨.refl rfl, rfl⟩, trivial⟩⟩⟩ trivial trivial))⟩
          rw [pfA_succ (by omega), ← hacc]
          unfold stp
          first
          | (rw [if_pos hap]; done)
          | (rw [if_neg hap, getD_at (by omega)]; done)
      · skip
        have hml : m = A.length := by have := of_decide_eq_false h59; omega
        have hres : acc = posL p w n := by rw [hacc, hml]; exact hfin
        refine AWPJ.weak (WeakJ.freeze (es := sps acc) 16 rfl rfl sps_z (sps_len _) J0_ok) ?_
        refine AWPJ.exit ?_
        refine AWPJ.seq ?_
        refine AWPJ.lift (fun u N => ?_)
        refine AWP.region ?_
        refine AOps.call (o_move _ rfl rfl) ?_
        refine AOps.call (o_assign _ rfl rfl) ?_
        refine AOps.call (o_assign _ rfl rfl) ?_
        refine AOps.nil ?_
        refine AWPJ.ret ?_
        try dsimp only [seqQJ, blockQJ, roundQJ]
        try rw [show Nat.beq 0 0 = true from rfl, cond_true]
        refine postQJ.ret2 Tryz.results40 rfl rfl rfl ?_
        rw [hres]; rfl
end Go.Proofs.YtelenedgaoglaaaGreatDoor
