/- Y11. -/
import Derived.Test.YtelenedgaoglaaaGreatDoorY10
import Derived.Test.YtelenedgaoglaaaGreatDoorR29
import Derived.Test.YtelenedgaoglaaaGreatDoorR22
set_option linter.unusedSimpArgs false
set_option linter.unusedVariables false
namespace Go.Proofs.YtelenedgaoglaaaGreatDoor
open Go.Ab
open Go.Pil Go.RowKit
def Few (p : Plw) : Prop := p.log.length ≤ 8 ∨ 32 < p.log.length
theorem Few.le {p : Plw} (h : Few p) (hp : OkP p) : p.log.length ≤ 8 := by have := hp.len; unfold Few at h; omega
theorem ask0 (p : Plw) (w : List Sp) : askE p w (-1) [] = rdE p w := by
  unfold rdE
  cases h : okP p with
  | false => rw [askE_log h]; rfl
  | true =>
    cases h2 : okW p w with
    | false => rw [askE_arg h h2]; rfl
    | true => rw [askE_end h h2 rfl, if_pos (inB_iff.2 ⟨by omega, by omega⟩)]; rfl
theorem asked0_s (p : Plw) (w : List Sp) (hw1 : w.length ≤ 9223372036854775807) : FSpec Tryz.prog 67 [.agg (eP p), .sl (sps w), I (-1), .sl []] (I (rdE p w)) none := by
  rw [← ask0]
  exact asked_s p w (-1) [] hw1 (by simp) (fun m hm => by cases hm)
theorem lvl_cut {p : Plw} {w : List Sp} {i : Nat} (h : i < p.log.length) : casesA (p.cut (i + 1)) (w.take i) = lvl p w (i + 1) := by
  unfold casesA
  rw [cut_len (by omega)]
  exact lev_cut' (p := p) (w := w) (n := i + 1) (d := i + 1) (Nat.le_refl _)
set_option maxHeartbeats 4000000 in
set_option maxRecDepth 20000 in
theorem TreeR_s (p : Plw) (w : List Sp) (hw1 : w.length ≤ 9223372036854775807) (hf : Few p) : FSpec Tryz.prog 46 [.agg (eP p), .sl (sps w)] (.tup [.sl (ints (TreeL p w)), I (TreeE p w)]) (none) := by
  refine FSpec.of_body Tryz.func46 rfl (leB rfl) fun w0 M0 => ?_
  have hpl := shws_len p.log
  have hsl := sps_len w
  refine AWP.seq ?_
  refine AWP.region ?_
  refine AOps.call (o_box _ rfl rfl rfl) ?_
  refine AOps.call (o_nil (z := 1) (e := 3) rfl) ?_
  refine AOps.call (o_assign _ rfl rfl) ?_
  refine AOps.nil ?_
  refine AWP.seq ?_
  refine AWP.region ?_
  refine AOps.call (o_loadRef _ rfl rfl Tryz.sizeOf24 Tryz.isAgg24 rfl rfl rfl) ?_
  refine AOps.call (o_move _ rfl rfl) ?_
  refine AOps.call (o_call (asked0_s p w hw1) Tryz.call67 rfl rfl) ?_
  refine AOps.call (o_assign _ rfl rfl) ?_
  refine AOps.nil ?_
  refine AWP.seq ?_
  refine AWP.seq ?_
  refine AWP.region ?_
  refine AOps.call (o_move _ rfl rfl) ?_
  refine AOps.call (o_bin _ _ rfl rfl (fun _ => rfl) rfl) ?_
  refine AOps.nil ?_
  refine AWP.cond _ rfl (fun h8 => ?_) (fun h8 => ?_)
  · skip
    have hne : rdE p w ≠ 0 := by simpa using h8
    have hL : TreeL p w = [] := if_neg hne
    have hE : TreeE p w = rdE p w := if_neg hne
    refine AWP.seq ?_
    refine AWP.region ?_
    refine AOps.call (o_move _ rfl rfl) ?_
    refine AOps.call (o_nil (z := 1) (e := 3) rfl) ?_
    refine AOps.call (o_assign _ rfl rfl) ?_
    refine AOps.nil ?_
    refine AWP.ret ?_
    refine postQ.ret2 Tryz.results46 rfl rfl ?_
    rw [hL, hE]
    rfl
  · skip
    have hz : rdE p w = 0 := by simpa using h8
    obtain ⟨he, hq⟩ := rdE_0 hz
    have hp := okP_iff.1 he
    have h8 := hf.le hp
    have hL0 : TreeL p w = treeL p w := if_pos hz
    have hE0 : TreeE p w = treeE p w := if_pos hz
    have hwl : w.length = p.log.length - 1 := (okW_iff.1 hq).1
    refine AWP.skip ?_
    refine AWP.seq ?_
    refine AWP.region ?_
    refine AOps.call (o_nil (z := 1) (e := 3) rfl) ?_
    refine AOps.nil ?_
    refine AWP.seq ?_
    refine AWP.seq ?_
    refine AWP.region ?_
    refine AOps.call (o_assign _ rfl rfl) ?_
    refine AOps.nil ?_
    refine AWP.block ?_
    refine AWP.loop (ι := Nat) (fun i => AS.mk' 44 [(1, .sl (sps w)), (2, .ref (2, 0) 0), (7, .own (7, 0) (ints (cnts p w i))), (8, I ((i : Int) + 1))] [((2, 0), eP p)] [((7, 0), ((ints (cnts p w i)).length, 1, 3))] [(2, 1), (7, 1)]) (fun i => i ≤ p.log.length ∧ ∀ j, j < i → (lvl p w (j + 1)).length ≤ 64) (fun i => p.log.length - i) (0) (Weak.mk' rfl ⟨⟨.refl rfl, rfl⟩, ⟨⟨.refl rfl, rfl⟩, ⟨⟨.refl rfl, rfl⟩, ⟨⟨.refl (congrArg I (by (try dsimp only); omega)), rfl⟩, trivial⟩⟩⟩⟩ ⟨⟨rfl, rfl, rfl⟩, trivial⟩ ⟨⟨rfl, rfl⟩, trivial⟩) (⟨Nat.zero_le _, fun j h => absurd h (Nat.not_lt_zero _)⟩) ?_
    rintro m ⟨hm, hsm⟩
    try dsimp only at *
    refine AWP.seq ?_
    refine AWP.seq ?_
    refine AWP.region ?_
    refine AOps.call (o_move _ rfl rfl) ?_
    refine AOps.call (o_fieldRef _ rfl fa24_6 rfl rfl) ?_
    refine AOps.call (o_loadRef _ rfl rfl Tryz.sizeOf22 Tryz.isAgg22 rfl rfl rfl) ?_
    refine AOps.call (o_len _ Tryz.underlying22 rfl rfl) ?_
    refine AOps.call (o_bin _ _ rfl rfl (fun _ => rfl) rfl) ?_
    refine AOps.nil ?_
    refine AWP.cond _ rfl (fun h16 => ?_) (fun h16 => ?_)
    · skip
      have hmt : m < p.log.length := by have := of_decide_eq_true h16; omega
      have htl : ((shws p.log).drop 0).take (((m : Int) + 1).toNat - 0) = shws (p.log.take (m + 1)) := by rw [show ((m : Int) + 1).toNat - 0 = m + 1 by omega]; simp [shws, List.map_take]
      have hts : ((sps w).drop 0).take (m - 0) = sps (w.take m) := by rw [Nat.sub_zero]; simp [sps, List.map_take]
      have hR := remaining_s (p.cut (m + 1)) (w.take m) (cut_ok hp _) (okW_cut hq hmt) (by rw [cut_len (by omega)]; omega)
      rw [lvl_cut hmt] at hR
      have hgl := css_len (lvl p w (m + 1))
      refine AWP.skip ?_
      refine AWP.seq ?_
      refine AWP.block ?_
      refine AWP.seq ?_
      refine AWP.region ?_
      refine AOps.call (o_loadRef _ rfl rfl Tryz.sizeOf24 Tryz.isAgg24 rfl rfl rfl) ?_
      refine AOps.call (o_alloc ze24 rfl rfl) ?_
      refine AOps.cons (o_store _ _ rfl rfl Tryz.sizeOf24 rfl rfl rfl rfl rfl) ?_
      refine AOps.nil ?_
      refine AWP.seq ?_
      refine AWP.region ?_
      refine AOps.call (o_fieldRef _ rfl fa24_6 rfl rfl) ?_
      refine AOps.call (o_loadRef _ rfl rfl Tryz.sizeOf22 Tryz.isAgg22 rfl rfl rfl) ?_
      refine AOps.call (o_move _ rfl rfl) ?_
      refine AOps.call (o_sliceE (rs := shws (p.log.take (m + 1))) _ _ _ Tryz.underlying22 Tryz.sizeOf27 rfl rfl rfl (by omega) (by omega) shws_z htl rfl) ?_
      refine AOps.call (o_fieldRef _ rfl fa24_6 rfl rfl) ?_
      refine AOps.cons (o_store _ _ rfl rfl Tryz.sizeOf22 rfl rfl rfl rfl rfl) ?_
      refine AOps.nil ?_
      refine AWP.seq ?_
      refine AWP.drawn 8 mixed (by kernel_rfl) ?_
      refine AHead.call (o_loadRef _ rfl rfl Tryz.sizeOf24 Tryz.isAgg24 rfl rfl rfl) rfl ?_
      refine AHead.call (o_move _ rfl rfl) rfl ?_
      refine AHead.call (o_move _ rfl rfl) rfl ?_
      refine AHead.call (o_sub _ _ rfl rfl ⟨by (try dsimp only); omega, by (try dsimp only); omega⟩ rfl) rfl ?_
      refine AHead.call (o_sliceE (rs := sps (w.take m)) _ _ _ Tryz.underlying38 Tryz.sizeOf54 rfl rfl (boundA_some rfl (by omega) (show ((m : Int) + 1 - 1).toNat = m by omega)) (by omega) (by omega) sps_z hts rfl) rfl ?_
      refine AHead.call (o_call hR Tryz.call68 rfl rfl) rfl ?_
      refine AHead.call (o_len _ Tryz.underlying40 rfl rfl) rfl ?_
      refine AHead.call (o_assign _ rfl rfl) rfl ?_
      refine AHead.nil ?_
      refine AOps.nil ?_
      refine AWP.seq ?_
      refine AWP.seq ?_
      refine AWP.region ?_
      refine AOps.call (o_move _ rfl rfl) ?_
      refine AOps.call (o_bin _ _ rfl rfl (fun _ => rfl) rfl) ?_
      refine AOps.nil ?_
      refine AWP.cond _ rfl (fun h30 => ?_) (fun h30 => ?_)
      · skip
        have hbg := big_yes (w := w) hmt (by have := of_decide_eq_true h30; omega)
        have hL : TreeL p w = [] := hL0.trans (if_pos hbg)
        have hE : TreeE p w = 2 := hE0.trans (if_pos hbg)
        refine AWP.seq ?_
        refine AWP.region ?_
        refine AOps.call (o_nil (z := 1) (e := 3) rfl) ?_
        refine AOps.call (o_assign _ rfl rfl) ?_
        refine AOps.nil ?_
        refine AWP.ret ?_
        refine postQ.ret2 Tryz.results46 rfl rfl ?_
        rw [hL, hE]
        rfl
      · skip
        have hfit : (lvl p w (m + 1)).length ≤ 64 := by have := of_decide_eq_false h30; omega
        refine AWP.skip ?_
        refine AWP.region ?_
        refine AOps.call (o_move _ rfl rfl) ?_
        refine AOps.call (o_move _ rfl rfl) ?_
        refine AOps.call (o_lit Tryz.underlying25 Tryz.sizeOf3 Tryz.zeroValue3 rfl rfl rfl rfl rfl rfl rfl) ?_
        refine AOps.cons (o_append _ _ Tryz.underlying25 info3 rfl rfl rfl rfl rfl rfl rfl rfl (fun c hc => by simp at hc; subst hc; rfl) ints_z (by rw [ints_len, cnts_len]; unfold Tryz.t3; simp only [List.length_cons, List.length_nil]; omega) rfl (show ints (cnts p w m) ++ [[I (((css (lvl p w (m + 1))).length : Nat) : Int)]] = ints (cnts p w (m + 1)) by rw [css_len]; exact cnts_snoc p w m) rfl) ?_
        refine AOps.call (o_assign _ rfl rfl) ?_
        refine AOps.nil ?_
        refine AWP.region ?_
        refine AOps.call (o_move _ rfl rfl) ?_
        refine AOps.call (o_add _ _ rfl rfl ⟨by (try dsimp only); omega, by (try dsimp only); omega⟩ rfl) ?_
        refine AOps.call (o_assign _ rfl rfl) ?_
        refine AOps.nil ?_
        refine ⟨m + 1, ?_, (Weak.mk' rfl ⟨⟨.refl rfl, rfl⟩, ⟨⟨.refl rfl, rfl⟩, ⟨⟨.refl rfl, rfl⟩, ⟨⟨.refl (congrArg I (by (try dsimp only); omega)), rfl⟩, trivial⟩⟩⟩⟩ ⟨⟨rfl, rfl, rfl⟩, trivial⟩ ⟨⟨rfl, rfl⟩, trivial⟩)⟩
        refine ⟨⟨by omega, fun j hj => ?_⟩, by omega⟩
        by_cases e : j = m
        · subst e; exact hfit
        · exact hsm j (by omega)
    · skip
      have hml : m = p.log.length := by have := of_decide_eq_false h16; omega
      subst hml
      have hbn := big_no hsm
      have hL : TreeL p w = cnts p w p.log.length := hL0.trans (if_neg (by rw [hbn]; decide))
      have hE : TreeE p w = 0 := hE0.trans (if_neg (by rw [hbn]; decide))
      refine AWP.exit ?_
      refine AWP.seq ?_
      refine AWP.region ?_
      refine AOps.call (o_move _ rfl rfl) ?_
      refine AOps.call (o_assign _ rfl rfl) ?_
      refine AOps.call (o_assign _ rfl rfl) ?_
      refine AOps.nil ?_
      refine AWP.ret ?_
      refine postQ.ret2 Tryz.results46 rfl rfl ?_
      rw [hL, hE]
      rfl
def fneL (a b : List Int) : Option Nat := (List.range a.length).find? fun j => decide (a.getD j 0 ≠ b.getD j 0)
theorem fneL_some {a b : List Int} {k : Nat} (hk : k < a.length) (h : a.getD k 0 ≠ b.getD k 0) (hb : ∀ j, j < k → a.getD j 0 = b.getD j 0) : fneL a b = some k := by
  unfold fneL
  refine find_first (lt := (· < ·)) List.pairwise_lt_range (List.mem_range.2 hk) (decide_eq_true h) fun j _ hj => ?_
  exact decide_eq_false (fun hn => hn (hb j hj))
theorem fneL_none {a b : List Int} (hb : ∀ j, j < a.length → a.getD j 0 = b.getD j 0) : fneL a b = none := by
  unfold fneL
  rw [List.find?_eq_none]
  intro j hj
  simpa using hb j (List.mem_range.1 hj)
def prtE (p : Plw) (a b : List Int) : Int := if caseE p a ≠ 0 then caseE p a else caseE p b
def prtN (p : Plw) (a b : List Int) : Int := if prtE p a b ≠ 0 then 0 else match fneL a b with | some i => i | none => 0
def prtB (p : Plw) (a b : List Int) : Bool := if prtE p a b ≠ 0 then false else (fneL a b).isSome
theorem prt_bad {p a b} (h : prtE p a b ≠ 0) : prtN p a b = 0 ∧ prtB p a b = false := ⟨if_pos h, if_pos h⟩
theorem prt_some {p a b} {k : Nat} (h : prtE p a b = 0) (h2 : fneL a b = some k) : prtN p a b = k ∧ prtB p a b = true := by
  unfold prtN prtB; rw [if_neg (by omega), if_neg (by omega), h2]; exact ⟨rfl, rfl⟩
theorem prt_none {p a b} (h : prtE p a b = 0) (h2 : fneL a b = none) : prtN p a b = 0 ∧ prtB p a b = false := by
  unfold prtN prtB; rw [if_neg (by omega), if_neg (by omega), h2]; exact ⟨rfl, rfl⟩
theorem prtE_l {p a b} (h : caseE p a ≠ 0) : prtE p a b = caseE p a := if_pos h
theorem prtE_r {p a b} (h : caseE p a = 0) : prtE p a b = caseE p b := if_neg (by rw [h]; decide)
set_option maxHeartbeats 4000000 in
set_option maxRecDepth 20000 in
theorem PartedR_s (p : Plw) (a b : List Int) (ha1 : a.length ≤ 9223372036854775807) (hb1 : b.length ≤ 9223372036854775807) : FSpec Tryz.prog 48 [.agg (eP p), .sl (ints a), .sl (ints b)] (.tup [I (prtN p a b), B (prtB p a b), I (prtE p a b)]) (none) := by
  refine FSpec.of_body Tryz.func48 rfl (leB rfl) fun w0 M0 => ?_
  have hia := ints_len a
  have hib := ints_len b
  refine AWP.seq ?_
  refine AWP.region ?_
  refine AOps.call (o_box _ rfl rfl rfl) ?_
  refine AOps.call (o_assign _ rfl rfl) ?_
  refine AOps.call (o_assign _ rfl rfl) ?_
  refine AOps.call (o_assign _ rfl rfl) ?_
  refine AOps.nil ?_
  refine AWP.seq ?_
  refine AWP.seq ?_
  refine AWP.region ?_
  refine AOps.call (o_loadRef _ rfl rfl Tryz.sizeOf24 Tryz.isAgg24 rfl rfl rfl) ?_
  refine AOps.call (o_call (CheckR_s p) Tryz.call18 rfl rfl) ?_
  refine AOps.call (o_bin _ _ rfl rfl (fun _ => rfl) rfl) ?_
  refine AOps.nil ?_
  refine AWP.cond _ rfl (fun h7 => ?_) (fun h7 => ?_)
  · skip
    have hE : prtE p a b = 30 := by
      have h1 : caseE p a = 30 := if_pos (okP_no (by simpa using h7))
      unfold prtE; rw [h1]; rfl
    have hV := prt_bad (p := p) (a := a) (b := b) (by rw [hE]; decide)
    refine AWP.seq ?_
    refine AWP.region ?_
    refine AOps.call (o_assign _ rfl rfl) ?_
    refine AOps.call (o_assign _ rfl rfl) ?_
    refine AOps.call (o_assign _ rfl rfl) ?_
    refine AOps.nil ?_
    refine AWP.ret ?_
    refine postQ.ret3 Tryz.results48 rfl rfl rfl ?_
    rw [hV.1, hV.2, hE]
    rfl
  · skip
    have he := okP_of (by simpa using h7)
    have hp := okP_iff.1 he
    have h32 := hp.len
    have hca : caseE p a = if rgt p a = true then 0 else 31 := by
      unfold caseE rgt; rw [if_neg (by rw [he]; decide)]; simp only [decide_eq_true_eq]
    have hcb : caseE p b = if rgt p b = true then 0 else 31 := by
      unfold caseE rgt; rw [if_neg (by rw [he]; decide)]; simp only [decide_eq_true_eq]
    refine AWP.skip ?_
    refine AWP.seq ?_
    refine AWP.seq ?_
    refine AWP.region ?_
    refine AOps.call (o_loadRef _ rfl rfl Tryz.sizeOf24 Tryz.isAgg24 rfl rfl rfl) ?_
    refine AOps.call (o_move _ rfl rfl) ?_
    refine AOps.call (o_call (right_s p a hp ha1) Tryz.call64 rfl rfl) ?_
    refine AOps.call (o_un _ rfl (fun _ => rfl) rfl) ?_
    refine AOps.call (o_move _ rfl rfl) ?_
    refine AOps.split rfl rfl rfl (fun h14 => ?_) (fun h14 => ?_)
    · skip
      have hra : rgt p a = true := by simpa using h14
      refine AOps.go rfl rfl rfl h14 (o_loadRef _ rfl rfl Tryz.sizeOf24 Tryz.isAgg24 rfl rfl rfl) ?_
      refine AOps.go rfl rfl rfl h14 (o_move _ rfl rfl) ?_
      refine AOps.go rfl rfl rfl h14 (o_call (right_s p b hp hb1) Tryz.call64 rfl rfl) ?_
      refine AOps.go rfl rfl rfl h14 (o_un _ rfl (fun _ => rfl) rfl) ?_
      refine AOps.call (o_pickF _ _ _ rfl h14 rfl rfl) ?_
      refine AOps.nil ?_
      refine AWP.cond _ rfl (fun h19 => ?_) (fun h19 => ?_)
      · skip
        have hrb : rgt p b = false := by simpa using h19
        have hcb2 : caseE p b = 31 := hcb.trans (if_neg (by rw [hrb]; decide))
        have hE : prtE p a b = 31 := (prtE_r (hca.trans (if_pos hra))).trans hcb2
        have hV := prt_bad (p := p) (a := a) (b := b) (by rw [hE]; decide)
        refine AWP.seq ?_
        refine AWP.region ?_
        refine AOps.call (o_assign _ rfl rfl) ?_
        refine AOps.call (o_assign _ rfl rfl) ?_
        refine AOps.call (o_assign _ rfl rfl) ?_
        refine AOps.nil ?_
        refine AWP.ret ?_
        refine postQ.ret3 Tryz.results48 rfl rfl rfl ?_
        rw [hV.1, hV.2, hE]
        rfl
      · skip
        have hrb : rgt p b = true := by simpa using h19
        have hE : prtE p a b = 0 := (prtE_r (hca.trans (if_pos hra))).trans (hcb.trans (if_pos hrb))
        have hla := (rgt_iff.1 hra).1
        have hlb := (rgt_iff.1 hrb).1
        refine AWP.skip ?_
        refine AWP.seq ?_
        refine AWP.seq ?_
        refine AWP.region ?_
        refine AOps.call (o_assign _ rfl rfl) ?_
        refine AOps.nil ?_
        refine AWP.block ?_
        refine AWP.loop (ι := Nat) (fun i => AS.mk' 39 [(1, .sl (ints a)), (2, .sl (ints b)), (9, I i)] [] [] []) (fun i => i ≤ a.length ∧ ∀ j, j < i → a.getD j 0 = b.getD j 0) (fun i => a.length - i) (0) (Weak.mk' rfl ⟨⟨.refl rfl, rfl⟩, ⟨⟨.refl rfl, rfl⟩, ⟨⟨.refl rfl, rfl⟩, trivial⟩⟩⟩ trivial trivial) (⟨Nat.zero_le _, fun j h => absurd h (Nat.not_lt_zero _)⟩) ?_
        rintro k ⟨hk, hall⟩
        try dsimp only at *
        refine AWP.seq ?_
        refine AWP.seq ?_
        refine AWP.region ?_
        refine AOps.call (o_move _ rfl rfl) ?_
        refine AOps.call (o_move _ rfl rfl) ?_
        refine AOps.call (o_len _ Tryz.underlying25 rfl rfl) ?_
        refine AOps.call (o_bin _ _ rfl rfl (fun _ => rfl) rfl) ?_
        refine AOps.nil ?_
        refine AWP.cond _ rfl (fun h26 => ?_) (fun h26 => ?_)
        · skip
          have hlt : k < a.length := by have := of_decide_eq_true h26; omega
          have hea := ints_gY hlt
          have heb := ints_gY (l := b) (k := k) (by omega)
          refine AWP.skip ?_
          refine AWP.seq ?_
          refine AWP.block ?_
          refine AWP.seq ?_
          refine AWP.drawn 9 mixed (by kernel_rfl) ?_
          refine AHead.call (o_move _ rfl rfl) rfl ?_
          refine AHead.call (o_move _ rfl rfl) rfl ?_
          refine AHead.call (o_index _ _ Tryz.underlying25 Tryz.sizeOf3 rfl rfl (by omega) hea rfl rfl) rfl ?_
          refine AHead.call (o_loadRd _ rfl Tryz.sizeOf3 Tryz.isAgg3 rfl rfl rfl) rfl ?_
          refine AHead.call (o_move _ rfl rfl) rfl ?_
          refine AHead.call (o_move _ rfl rfl) rfl ?_
          refine AHead.call (o_index _ _ Tryz.underlying25 Tryz.sizeOf3 rfl rfl (by omega) heb rfl rfl) rfl ?_
          refine AHead.call (o_loadRd _ rfl Tryz.sizeOf3 Tryz.isAgg3 rfl rfl rfl) rfl ?_
          refine AHead.call (o_bin _ _ rfl rfl (fun _ => rfl) rfl) rfl ?_
          refine AHead.nil ?_
          refine AOps.nil ?_
          refine AWP.cond _ rfl (fun h34 => ?_) (fun h34 => ?_)
          · skip
            have hdiff : a.getD k 0 ≠ b.getD k 0 := by simpa using h34
            have hV := prt_some hE (fneL_some hlt hdiff hall)
            refine AWP.seq ?_
            refine AWP.region ?_
            refine AOps.call (o_move _ rfl rfl) ?_
            refine AOps.call (o_assign _ rfl rfl) ?_
            refine AOps.call (o_assign _ rfl rfl) ?_
            refine AOps.call (o_assign _ rfl rfl) ?_
            refine AOps.nil ?_
            refine AWP.ret ?_
            refine postQ.ret3 Tryz.results48 rfl rfl rfl ?_
            rw [hV.1, hV.2, hE]
            rfl
          · skip
            have hsame : a.getD k 0 = b.getD k 0 := by simpa using h34
            refine AWP.skip ?_
            refine AWP.region ?_
            refine AOps.call (o_move _ rfl rfl) ?_
            refine AOps.call (o_add _ _ rfl rfl ⟨by (try dsimp only); omega, by (try dsimp only); omega⟩ rfl) ?_
            refine AOps.call (o_assign _ rfl rfl) ?_
            refine AOps.nil ?_
            refine ⟨k + 1, ?_, (Weak.mk' rfl ⟨⟨.refl rfl, rfl⟩, ⟨⟨.refl rfl, rfl⟩, ⟨⟨.refl rfl, rfl⟩, trivial⟩⟩⟩ trivial trivial)⟩
            refine ⟨⟨by omega, fun j hj => ?_⟩, by omega⟩
            by_cases e : j = k
            · subst e; exact hsame
            · exact hall j (by omega)
        · skip
          have hkl : k = a.length := by have := of_decide_eq_false h26; omega
          have hV := prt_none hE (fneL_none (a := a) (b := b) (fun j hj => hall j (by omega)))
          refine AWP.exit ?_
          refine AWP.seq ?_
          refine AWP.region ?_
          refine AOps.call (o_assign _ rfl rfl) ?_
          refine AOps.call (o_assign _ rfl rfl) ?_
          refine AOps.call (o_assign _ rfl rfl) ?_
          refine AOps.nil ?_
          refine AWP.ret ?_
          refine postQ.ret3 Tryz.results48 rfl rfl rfl ?_
          rw [hV.1, hV.2, hE]
          rfl
    · skip
      have hra : rgt p a = false := by simpa using h14
      refine AOps.pass rfl rfl rfl h14 rfl ?_
      refine AOps.pass rfl rfl rfl h14 rfl ?_
      refine AOps.pass rfl rfl rfl h14 rfl ?_
      refine AOps.pass rfl rfl rfl h14 rfl ?_
      refine AOps.call (o_pickT _ _ _ rfl h14 rfl rfl) ?_
      refine AOps.nil ?_
      refine AWP.condT rfl ?_
      have hca2 : caseE p a = 31 := hca.trans (if_neg (by rw [hra]; decide))
      have hE : prtE p a b = 31 := (prtE_l (by rw [hca2]; decide)).trans hca2
      have hV := prt_bad (p := p) (a := a) (b := b) (by rw [hE]; decide)
      refine AWP.seq ?_
      refine AWP.region ?_
      refine AOps.call (o_assign _ rfl rfl) ?_
      refine AOps.call (o_assign _ rfl rfl) ?_
      refine AOps.call (o_assign _ rfl rfl) ?_
      refine AOps.nil ?_
      refine AWP.ret ?_
      refine postQ.ret3 Tryz.results48 rfl rfl rfl ?_
      rw [hV.1, hV.2, hE]
      rfl
set_option maxHeartbeats 4000000 in
set_option maxRecDepth 20000 in
theorem PartedP_s (p : Plw) (a b : List Int) (ha1 : a.length ≤ 9223372036854775807) (hb1 : b.length ≤ 9223372036854775807) : FSpec Tryz.prog 47 [.agg (eP p), .sl (ints a), .sl (ints b)] (.tup [I (prtN p a b), B (prtB p a b), I (prtE p a b)]) (none) := by
  refine FSpec.of_body Tryz.func47 rfl (leB rfl) fun w0 M0 => ?_
  have hia := ints_len a
  have hib := ints_len b
  refine AWP.seq ?_
  refine AWP.region ?_
  refine AOps.call (o_box _ rfl rfl rfl) ?_
  refine AOps.call (o_assign _ rfl rfl) ?_
  refine AOps.call (o_assign _ rfl rfl) ?_
  refine AOps.call (o_assign _ rfl rfl) ?_
  refine AOps.nil ?_
  refine AWP.seq ?_
  refine AWP.seq ?_
  refine AWP.region ?_
  refine AOps.call (o_move _ rfl rfl) ?_
  refine AOps.call (o_move _ rfl rfl) ?_
  refine AOps.call (o_lit Tryz.underlying40 Tryz.sizeOf25 Tryz.zeroValue25 rfl rfl rfl rfl rfl rfl rfl) ?_
  refine AOps.call (o_len _ Tryz.underlying40 rfl rfl) ?_
  refine AOps.call (o_move _ rfl rfl) ?_
  refine AOps.nil ?_
  refine AWP.block ?_
  refine AWP.loop (ι := Nat) (fun i => AS.mk' 44 [(1, .sl (ints a)), (2, .sl (ints b)), (3, .ref (3, 0) 0), (16, .sl (css [a, b])), (17, I 2), (18, I i)] [((3, 0), eP p)] [] [(3, 1)]) (fun i => i ≤ 2 ∧ (0 < i → caseE p a = 0) ∧ (1 < i → caseE p b = 0)) (fun i => 2 - i) (0) (Weak.mk' rfl ⟨⟨.refl rfl, rfl⟩, ⟨⟨.refl rfl, rfl⟩, ⟨⟨.refl rfl, rfl⟩, ⟨⟨.sl rfl, rfl⟩, ⟨⟨.refl rfl, rfl⟩, ⟨⟨.refl rfl, rfl⟩, trivial⟩⟩⟩⟩⟩⟩ ⟨⟨rfl, rfl, rfl⟩, trivial⟩ trivial) (⟨by omega, fun h => absurd h (by omega), fun h => absurd h (by omega)⟩) ?_
  rintro m ⟨hm, hm1, hm2⟩
  try dsimp only at *
  refine AWP.seq ?_
  refine AWP.region ?_
  refine AOps.call (o_bin _ _ rfl rfl (fun _ => rfl) rfl) ?_
  refine AOps.nil ?_
  refine AWP.seq ?_
  refine AWP.cond _ rfl (fun h10 => ?_) (fun h10 => ?_)
  · skip
    have hmt : m < 2 := by have := of_decide_eq_true h10; omega
    have hel : (css [a, b])[((m : Nat) : Int).toNat]? = some [.sl (ints ([a, b].getD m []))] := css_gD (L := [a, b]) hmt
    have hc1 : ([a, b].getD m []).length ≤ 9223372036854775807 := by
      match m, hmt with
      | 0, _ => exact ha1
      | 1, _ => exact hb1
    refine AWP.skip ?_
    refine AWP.seq ?_
    refine AWP.block ?_
    refine AWP.seq ?_
    refine AWP.region ?_
    refine AOps.call (o_index _ _ Tryz.underlying40 Tryz.sizeOf25 rfl rfl (by omega) hel rfl rfl) ?_
    refine AOps.call (o_loadRd _ rfl Tryz.sizeOf25 Tryz.isAgg25 rfl rfl rfl) ?_
    refine AOps.call (o_assign _ rfl rfl) ?_
    refine AOps.nil ?_
    refine AWP.seq ?_
    refine AWP.region ?_
    refine AOps.call (o_loadRef _ rfl rfl Tryz.sizeOf24 Tryz.isAgg24 rfl rfl rfl) ?_
    refine AOps.call (o_move _ rfl rfl) ?_
    refine AOps.call (o_call (CheckCase_s p ([a, b].getD m []) hc1) Tryz.call19 rfl rfl) ?_
    refine AOps.call (o_assign _ rfl rfl) ?_
    refine AOps.nil ?_
    refine AWP.seq ?_
    refine AWP.region ?_
    refine AOps.call (o_move _ rfl rfl) ?_
    refine AOps.call (o_bin _ _ rfl rfl (fun _ => rfl) rfl) ?_
    refine AOps.nil ?_
    refine AWP.cond _ rfl (fun h16 => ?_) (fun h16 => ?_)
    · skip
      have hbad : caseE p ([a, b].getD m []) ≠ 0 := by simpa using h16
      have hE : prtE p a b = caseE p ([a, b].getD m []) := by
        match m, hmt with
        | 0, _ => exact if_pos hbad
        | 1, _ => exact if_neg (by rw [hm1 (by omega)]; decide)
      have hV := prt_bad (p := p) (a := a) (b := b) (by rw [hE]; exact hbad)
      refine AWP.seq ?_
      refine AWP.region ?_
      refine AOps.call (o_move _ rfl rfl) ?_
      refine AOps.call (o_assign _ rfl rfl) ?_
      refine AOps.call (o_assign _ rfl rfl) ?_
      refine AOps.call (o_assign _ rfl rfl) ?_
      refine AOps.nil ?_
      refine AWP.ret ?_
      refine postQ.ret3 Tryz.results47 rfl rfl rfl ?_
      rw [hV.1, hV.2, hE]
      rfl
    · skip
      have hgood : caseE p ([a, b].getD m []) = 0 := by simpa using h16
      have hma : m = 0 → caseE p a = 0 := fun e => by subst e; exact hgood
      have hmb : m = 1 → caseE p b = 0 := fun e => by subst e; exact hgood
      refine AWP.skip ?_
      refine AWP.region ?_
      refine AOps.call (o_add _ _ rfl rfl ⟨by (try dsimp only); omega, by (try dsimp only); omega⟩ rfl) ?_
      refine AOps.call (o_move _ rfl rfl) ?_
      refine AOps.nil ?_
      refine ⟨m + 1, ?_, (Weak.mk' rfl ⟨⟨.refl rfl, rfl⟩, ⟨⟨.refl rfl, rfl⟩, ⟨⟨.refl rfl, rfl⟩, ⟨⟨.refl rfl, rfl⟩, ⟨⟨.refl rfl, rfl⟩, ⟨⟨.refl rfl, rfl⟩, trivial⟩⟩⟩⟩⟩⟩ ⟨⟨rfl, rfl, rfl⟩, trivial⟩ trivial)⟩
      exact ⟨⟨by omega, fun h => by
        by_cases e : m = 0
        · exact hma e
        · exact hm1 (by omega), fun h => hmb (by omega)⟩, by omega⟩
  · skip
    have hm2e : m = 2 := by have := of_decide_eq_false h10; omega
    have hca := hm1 (by omega)
    have hcb := hm2 (by omega)
    have hE : prtE p a b = 0 := by unfold prtE; rw [hca, hcb]; rfl
    obtain ⟨hp, hla, _⟩ := caseE_0 hca
    obtain ⟨_, hlb, _⟩ := caseE_0 hcb
    have h32 := hp.len
    refine AWP.exit ?_
    refine AWP.seq ?_
    refine AWP.seq ?_
    refine AWP.region ?_
    refine AOps.call (o_move _ rfl rfl) ?_
    refine AOps.call (o_len _ Tryz.underlying25 rfl rfl) ?_
    refine AOps.call (o_move _ rfl rfl) ?_
    refine AOps.nil ?_
    refine AWP.block ?_
    refine AWP.loop (ι := Nat) (fun i => AS.mk' 44 [(2, .sl (ints b)), (29, .sl (ints a)), (30, I (ints a).length), (31, I i)] [] [] []) (fun i => i ≤ a.length ∧ ∀ j, j < i → a.getD j 0 = b.getD j 0) (fun i => a.length - i) (0) (Weak.mk' rfl ⟨⟨.refl rfl, rfl⟩, ⟨⟨.refl rfl, rfl⟩, ⟨⟨.refl rfl, rfl⟩, ⟨⟨.refl rfl, rfl⟩, trivial⟩⟩⟩⟩ trivial trivial) (⟨Nat.zero_le _, fun j h => absurd h (Nat.not_lt_zero _)⟩) ?_
    rintro k ⟨hk, hall⟩
    try dsimp only at *
    refine AWP.seq ?_
    refine AWP.region ?_
    refine AOps.call (o_bin _ _ rfl rfl (fun _ => rfl) rfl) ?_
    refine AOps.nil ?_
    refine AWP.seq ?_
    refine AWP.cond _ rfl (fun h23 => ?_) (fun h23 => ?_)
    · skip
      have hlt : k < a.length := by have := of_decide_eq_true h23; omega
      have hea := ints_gY hlt
      have heb := ints_gY (l := b) (k := k) (by omega)
      refine AWP.skip ?_
      refine AWP.seq ?_
      refine AWP.block ?_
      refine AWP.seq ?_
      refine AWP.region ?_
      refine AOps.call (o_move _ rfl rfl) ?_
      refine AOps.call (o_index _ _ Tryz.underlying25 Tryz.sizeOf3 rfl rfl (by omega) hea rfl rfl) ?_
      refine AOps.call (o_loadRd _ rfl Tryz.sizeOf3 Tryz.isAgg3 rfl rfl rfl) ?_
      refine AOps.call (o_assign _ rfl rfl) ?_
      refine AOps.call (o_assign _ rfl rfl) ?_
      refine AOps.nil ?_
      refine AWP.seq ?_
      refine AWP.region ?_
      refine AOps.call (o_move _ rfl rfl) ?_
      refine AOps.call (o_move _ rfl rfl) ?_
      refine AOps.call (o_move _ rfl rfl) ?_
      refine AOps.call (o_index _ _ Tryz.underlying25 Tryz.sizeOf3 rfl rfl (by omega) heb rfl rfl) ?_
      refine AOps.call (o_loadRd _ rfl Tryz.sizeOf3 Tryz.isAgg3 rfl rfl rfl) ?_
      refine AOps.call (o_bin _ _ rfl rfl (fun _ => rfl) rfl) ?_
      refine AOps.nil ?_
      refine AWP.cond _ rfl (fun h30 => ?_) (fun h30 => ?_)
      · skip
        have hdiff : a.getD k 0 ≠ b.getD k 0 := by simpa using h30
        have hV := prt_some hE (fneL_some hlt hdiff hall)
        refine AWP.seq ?_
        refine AWP.region ?_
        refine AOps.call (o_move _ rfl rfl) ?_
        refine AOps.call (o_assign _ rfl rfl) ?_
        refine AOps.call (o_assign _ rfl rfl) ?_
        refine AOps.call (o_assign _ rfl rfl) ?_
        refine AOps.nil ?_
        refine AWP.ret ?_
        refine postQ.ret3 Tryz.results47 rfl rfl rfl ?_
        rw [hV.1, hV.2, hE]
        rfl
      · skip
        have hsame : a.getD k 0 = b.getD k 0 := by simpa using h30
        refine AWP.skip ?_
        refine AWP.region ?_
        refine AOps.call (o_add _ _ rfl rfl ⟨by (try dsimp only); omega, by (try dsimp only); omega⟩ rfl) ?_
        refine AOps.call (o_move _ rfl rfl) ?_
        refine AOps.nil ?_
        refine ⟨k + 1, ?_, (Weak.mk' rfl ⟨⟨.refl rfl, rfl⟩, ⟨⟨.refl rfl, rfl⟩, ⟨⟨.refl rfl, rfl⟩, ⟨⟨.refl rfl, rfl⟩, trivial⟩⟩⟩⟩ trivial trivial)⟩
        refine ⟨⟨by omega, fun j hj => ?_⟩, by omega⟩
        by_cases e : j = k
        · subst e; exact hsame
        · exact hall j (by omega)
    · skip
      have hkl : k = a.length := by have := of_decide_eq_false h23; omega
      have hV := prt_none hE (fneL_none (a := a) (b := b) (fun j hj => hall j (by omega)))
      refine AWP.exit ?_
      refine AWP.seq ?_
      refine AWP.region ?_
      refine AOps.call (o_assign _ rfl rfl) ?_
      refine AOps.call (o_assign _ rfl rfl) ?_
      refine AOps.call (o_assign _ rfl rfl) ?_
      refine AOps.nil ?_
      refine AWP.ret ?_
      refine postQ.ret3 Tryz.results47 rfl rfl rfl ?_
      rw [hV.1, hV.2, hE]
      rfl
end Go.Proofs.YtelenedgaoglaaaGreatDoor
