/- R29. -/
import Derived.Test.YtelenedgaoglaaaGreatDoorR27
set_option linter.unusedSimpArgs false
set_option linter.unusedVariables false
namespace Go.Proofs.YtelenedgaoglaaaGreatDoor
open Go.Ab
open Go.Pil Go.RowKit
abbrev lvl (p : Plw) (w : List Sp) (i : Nat) : List (List Int) := lev (nx (p.pb w)) i []
def cnts (p : Plw) (w : List Sp) (i : Nat) : List Int := (List.range i).map fun j => ((lvl p w (j + 1)).length : Int)
def accT (p : Plw) (w : List Sp) (i k : Nat) : List (List Int) := ((lvl p w i).take k).flatMap (nx (p.pb w))
def treeBig (p : Plw) (w : List Sp) : Bool := (List.range p.log.length).any fun j => decide (64 < (lvl p w (j + 1)).length)
def treeL (p : Plw) (w : List Sp) : List Int := if treeBig p w = true then [] else cnts p w p.log.length
def treeE (p : Plw) (w : List Sp) : Int := if treeBig p w = true then 2 else 0
theorem cnts_snoc (p w) (i : Nat) : ints (cnts p w i) ++ [[I ((lvl p w (i + 1)).length : Int)]] = ints (cnts p w (i + 1)) := by
  unfold cnts ints; rw [List.range_succ]; simp
theorem cnts_len (p w) (i : Nat) : (cnts p w i).length = i := by simp [cnts]
theorem accT_succ {p w} {i k : Nat} (h : k < (lvl p w i).length) : accT p w i (k + 1) = accT p w i k ++ nx (p.pb w) (lvl p w i)[k] := by
  unfold accT; rw [List.take_succ_eq_append_getElem h, List.flatMap_append]; simp
theorem accT_all (p w) (i : Nat) : accT p w i (lvl p w i).length = lvl p w (i + 1) := by
  unfold accT lvl; rw [List.take_length]; exact (lev_succ i []).symm
theorem accT_len (p w) (i k : Nat) : (accT p w i k).length ≤ 3 * k := by
  unfold accT
  have : ∀ l : List (List Int), (l.flatMap (nx (p.pb w))).length ≤ 3 * l.length := by
    intro l
    induction l with
    | nil => simp
    | cons a l ih => have := nx_len p w a; simp only [List.flatMap_cons, List.length_append, List.length_cons]; omega
  have h := this ((lvl p w i).take k)
  rw [List.length_take] at h; omega
theorem bgs_app (p w) (a b : List (List Int)) : bgs p w a ++ bgs p w b = bgs p w (a ++ b) := by simp [bgs]
theorem big_yes {p w} {k : Nat} (h : k < p.log.length) (h2 : 64 < (lvl p w (k + 1)).length) : treeBig p w = true := List.any_eq_true.2 ⟨k, List.mem_range.2 h, decide_eq_true h2⟩
theorem big_no {p w} (h : ∀ j, j < p.log.length → (lvl p w (j + 1)).length ≤ 64) : treeBig p w = false := by
  unfold treeBig
  rw [List.any_eq_false]
  intro j hj
  have := h j (List.mem_range.1 hj)
  simp; omega
theorem lvl_rem {p : Plw} (hp : OkP p) {w i b} (h : b ∈ lvl p w i) : Rem (p.pb w) i b := (mem_lev _ hp.faults.1).1 h
set_option maxRecDepth 20000 in
theorem Tree_ok (p : Plw) (w : List Sp) (hw1 : w.length ≤ 9223372036854775807) (he : okP p = true) (hq : okW p w = true) : FSpec Tryz.prog 45 [.agg (eP p), .sl (sps w)] (.tup [.sl (ints (treeL p w)), I (treeE p w)]) (none) := by
  refine FSpec.of_body Tryz.func45 rfl (leB rfl) fun w0 M0 => ?_
  have hp := okP_iff.1 he
  have h32 := hp.len
  have hll := shws_len p.log
  refine AWP.seq ?_
  refine AWP.region ?_
  refine AOps.call (o_box _ rfl rfl rfl) ?_
  refine AOps.call (o_nil (z := 1) (e := 3) rfl) ?_
  refine AOps.call (o_assign _ rfl rfl) ?_
  refine AOps.nil ?_
  refine AWP.seq ?_
  refine AWP.region ?_
  refine AOps.call (o_loadRef _ rfl rfl Tryz.sizeOf24 Tryz.isAgg24 rfl rfl rfl) ?_
  refine AOps.call (o_move _ rfl rfl) ?_
  refine AOps.call (o_call (read_ok p w hw1 he hq) Tryz.call65 rfl rfl) ?_
  refine AOps.call (o_move _ rfl rfl) ?_
  refine AOps.call (o_extract _ rfl rfl rfl rfl) ?_
  refine AOps.call (o_extract _ rfl rfl rfl rfl) ?_
  refine AOps.call (o_alloc ze91 rfl rfl) ?_
  refine AOps.cons (o_store _ _ rfl rfl Tryz.sizeOf91 rfl rfl rfl rfl rfl) ?_
  refine AOps.call (o_assign _ rfl rfl) ?_
  refine AOps.nil ?_
  refine AWP.seq ?_
  refine AWP.seq ?_
  refine AWP.region ?_
  refine AOps.call (o_move _ rfl rfl) ?_
  refine AOps.call (o_bin _ _ rfl rfl (fun _ => rfl) rfl) ?_
  refine AOps.nil ?_
  refine AWP.cond _ rfl (fun h11 => ?_) (fun h11 => ?_)
  · skip
    exfalso
    exact absurd h11 (by decide)
  · skip
    refine AWP.skip ?_
    refine AWP.seq ?_
    refine AWP.region ?_
    refine AOps.call (o_nil (z := 1) (e := 3) rfl) ?_
    refine AOps.nil ?_
    refine AWP.seq ?_
    refine AWP.region ?_
    refine AOps.call (o_loadRef _ rfl rfl Tryz.sizeOf91 Tryz.isAgg91 rfl rfl rfl) ?_
    refine AOps.call (o_call (begin_eB p w) Tryz.call79 rfl rfl) ?_
    refine AOps.call (o_lit Tryz.underlying114 Tryz.sizeOf112 Tryz.zeroValue112 rfl rfl rfl rfl rfl rfl rfl) ?_
    refine AOps.call (o_assign _ rfl rfl) ?_
    refine AOps.nil ?_
    refine AWP.seq ?_
    refine AWP.seq ?_
    refine AWP.region ?_
    refine AOps.call (o_fieldRef _ rfl fa24_6 rfl rfl) ?_
    refine AOps.call (o_loadRef _ rfl rfl Tryz.sizeOf22 Tryz.isAgg22 rfl rfl rfl) ?_
    refine AOps.call (o_len _ Tryz.underlying22 rfl rfl) ?_
    refine AOps.call (o_move _ rfl rfl) ?_
    refine AOps.nil ?_
    refine AWP.block ?_
    refine AWP.loop (ι := Nat) (fun i => AS.mk' 53 [(6, .ref (6, 0) 0), (8, .own (8, 0) (ints (cnts p w i))), (9, .sl (bgs p w (lvl p w i))), (27, I (shws p.log).length), (28, I i)] [((6, 0), eR p w)] [((8, 0), ((ints (cnts p w i)).length, 1, 3))] [(6, 1), (8, 1)]) (fun i => i ≤ p.log.length ∧ ∀ j, j < i → (lvl p w (j + 1)).length ≤ 64) (fun i => p.log.length - i) (0) (Weak.mk' rfl ⟨⟨.refl rfl, rfl⟩, ⟨⟨.refl rfl, rfl⟩, ⟨⟨.sl rfl, rfl⟩, ⟨⟨.refl rfl, rfl⟩, ⟨⟨.refl rfl, rfl⟩, trivial⟩⟩⟩⟩⟩ ⟨⟨rfl, rfl, rfl⟩, trivial⟩ ⟨⟨rfl, rfl⟩, trivial⟩) (⟨Nat.zero_le _, fun j h => absurd h (Nat.not_lt_zero _)⟩) ?_
    rintro m ⟨hm, hsm⟩
    try dsimp only at *
    refine AWP.seq ?_
    refine AWP.region ?_
    refine AOps.call (o_bin _ _ rfl rfl (fun _ => rfl) rfl) ?_
    refine AOps.nil ?_
    refine AWP.seq ?_
    refine AWP.cond _ rfl (fun h21 => ?_) (fun h21 => ?_)
    · skip
      have hmt : m < p.log.length := by have := of_decide_eq_true h21; omega
      have hlv : (lvl p w m).length ≤ 64 := by
        by_cases h0 : m = 0
        · subst h0; show ([[]] : List (List Int)).length ≤ 64; simp
        · have h := hsm (m - 1) (by omega)
          have e : m - 1 + 1 = m := by omega
          rw [e] at h; exact h
      have hgl := bgs_len p w (lvl p w m)
      refine AWP.skip ?_
      refine AWP.seq ?_
      refine AWP.block ?_
      refine AWP.seq ?_
      refine AWP.region ?_
      refine AOps.call (o_nil (z := 6) (e := 112) rfl) ?_
      refine AOps.nil ?_
      refine AWP.seq ?_
      refine AWP.seq ?_
      refine AWP.region ?_
      refine AOps.call (o_move _ rfl rfl) ?_
      refine AOps.call (o_len _ Tryz.underlying114 rfl rfl) ?_
      refine AOps.call (o_move _ rfl rfl) ?_
      refine AOps.nil ?_
      refine AWP.block ?_
      refine AWP.loop (ι := Nat) (fun i => AS.mk' 53 [(6, .ref (6, 0) 0), (8, .own (8, 0) (ints (cnts p w m))), (10, .own (10, 0) (bgs p w (accT p w m i))), (27, I (shws p.log).length), (28, I m), (30, .sl (bgs p w (lvl p w m))), (31, I (bgs p w (lvl p w m)).length), (32, I i)] [((6, 0), eR p w)] [((8, 0), ((ints (cnts p w m)).length, 1, 3)), ((10, 0), ((bgs p w (accT p w m i)).length, 6, 112))] [(6, 1), (8, 1), (10, 1)]) (fun i => i ≤ (lvl p w m).length) (fun i => (lvl p w m).length - i) (0) (Weak.mk' rfl ⟨⟨.refl rfl, rfl⟩, ⟨⟨.refl rfl, rfl⟩, ⟨⟨.refl rfl, rfl⟩, ⟨⟨.refl rfl, rfl⟩, ⟨⟨.refl rfl, rfl⟩, ⟨⟨.refl rfl, rfl⟩, ⟨⟨.refl rfl, rfl⟩, ⟨⟨.refl rfl, rfl⟩, trivial⟩⟩⟩⟩⟩⟩⟩⟩ ⟨⟨rfl, rfl, rfl⟩, trivial⟩ ⟨⟨rfl, rfl⟩, ⟨⟨rfl, rfl⟩, trivial⟩⟩) (Nat.zero_le _) ?_
      rintro k hk
      try dsimp only at *
      refine AWP.seq ?_
      refine AWP.region ?_
      refine AOps.call (o_bin _ _ rfl rfl (fun _ => rfl) rfl) ?_
      refine AOps.nil ?_
      refine AWP.seq ?_
      refine AWP.cond _ rfl (fun h26 => ?_) (fun h26 => ?_)
      · skip
        have hlt : k < (lvl p w m).length := by have := of_decide_eq_true h26; omega
        have hrm := lvl_rem hp (List.getElem_mem hlt)
        have hel := bgs_at (p := p) (w := w) hlt
        by_cases hb : (lvl p w m)[k] = []
        · skip
          rw [eB_n hb] at hel
          refine AWP.skip ?_
          refine AWP.seq ?_
          refine AWP.block ?_
          refine AWP.seq ?_
          refine AWP.region ?_
          refine AOps.call (o_index _ _ Tryz.underlying114 Tryz.sizeOf112 rfl rfl (by omega) (by assumption) rfl rfl) ?_
          refine AOps.call (o_loadRd _ rfl Tryz.sizeOf112 Tryz.isAgg112 rfl rfl rfl) ?_
          refine AOps.call (o_alloc ze112 rfl rfl) ?_
          refine AOps.cons (o_store _ _ rfl rfl Tryz.sizeOf112 rfl rfl rfl rfl rfl) ?_
          refine AOps.nil ?_
          refine AWP.region ?_
          refine AOps.call (o_move _ rfl rfl) ?_
          refine AOps.call (o_loadRef _ rfl rfl Tryz.sizeOf91 Tryz.isAgg91 rfl rfl rfl) ?_
          refine AOps.call (o_loadRef _ rfl rfl Tryz.sizeOf112 Tryz.isAgg112 rfl rfl rfl) ?_
          refine AOps.call (o_call (further_n p w (lvl p w m)[k] hp hq (by rw [hrm.1]; exact hmt) hrm.2.1 (rem_ld hrm) hb) Tryz.call80 rfl rfl) ?_
          refine AOps.cons (o_append _ _ Tryz.underlying114 info112 rfl rfl rfl rfl rfl rfl rfl rfl bgs_z bgs_z (by
              have h1 := accT_len p w m k
              have h2 := nx_len p w (lvl p w m)[k]
              rw [bgs_len, bgs_len]; unfold Tryz.t112; simp only []; omega) rfl (by rw [bgs_app, ← accT_succ hlt]) rfl) ?_
          refine AOps.call (o_assign _ rfl rfl) ?_
          refine AOps.nil ?_
          refine AWP.region ?_
          refine AOps.call (o_add _ _ rfl rfl ⟨by (try dsimp only); omega, by (try dsimp only); omega⟩ rfl) ?_
          refine AOps.call (o_move _ rfl rfl) ?_
          refine AOps.nil ?_
          refine ⟨k + 1, ?_, (Weak.mk' rfl ⟨⟨.refl rfl, rfl⟩, ⟨⟨.refl rfl, rfl⟩, ⟨⟨.refl rfl, rfl⟩, ⟨⟨.refl rfl, rfl⟩, ⟨⟨.refl rfl, rfl⟩, ⟨⟨.refl rfl, rfl⟩, ⟨⟨.refl rfl, rfl⟩, ⟨⟨.refl rfl, rfl⟩, trivial⟩⟩⟩⟩⟩⟩⟩⟩ ⟨⟨rfl, rfl, rfl⟩, trivial⟩ ⟨⟨rfl, rfl⟩, ⟨⟨rfl, rfl⟩, trivial⟩⟩)⟩
          exact ⟨by omega, by omega⟩
        · skip
          rw [eB_c hb] at hel
          refine AWP.skip ?_
          refine AWP.seq ?_
          refine AWP.block ?_
          refine AWP.seq ?_
          refine AWP.region ?_
          refine AOps.call (o_index _ _ Tryz.underlying114 Tryz.sizeOf112 rfl rfl (by omega) (by assumption) rfl rfl) ?_
          refine AOps.call (o_loadRd _ rfl Tryz.sizeOf112 Tryz.isAgg112 rfl rfl rfl) ?_
          refine AOps.call (o_alloc ze112 rfl rfl) ?_
          refine AOps.cons (o_store _ _ rfl rfl Tryz.sizeOf112 rfl rfl rfl rfl rfl) ?_
          refine AOps.nil ?_
          refine AWP.region ?_
          refine AOps.call (o_move _ rfl rfl) ?_
          refine AOps.call (o_loadRef _ rfl rfl Tryz.sizeOf91 Tryz.isAgg91 rfl rfl rfl) ?_
          refine AOps.call (o_loadRef _ rfl rfl Tryz.sizeOf112 Tryz.isAgg112 rfl rfl rfl) ?_
          refine AOps.call (o_call (further_c p w (lvl p w m)[k] hp hq (by rw [hrm.1]; exact hmt) hrm.2.1 (rem_ld hrm) hb) Tryz.call80 rfl rfl) ?_
          refine AOps.cons (o_append _ _ Tryz.underlying114 info112 rfl rfl rfl rfl rfl rfl rfl rfl bgs_z bgs_z (by
              have h1 := accT_len p w m k
              have h2 := nx_len p w (lvl p w m)[k]
              rw [bgs_len, bgs_len]; unfold Tryz.t112; simp only []; omega) rfl (by rw [bgs_app, ← accT_succ hlt]) rfl) ?_
          refine AOps.call (o_assign _ rfl rfl) ?_
          refine AOps.nil ?_
          refine AWP.region ?_
          refine AOps.call (o_add _ _ rfl rfl ⟨by (try dsimp only); omega, by (try dsimp only); omega⟩ rfl) ?_
          refine AOps.call (o_move _ rfl rfl) ?_
          refine AOps.nil ?_
          refine ⟨k + 1, ?_, (Weak.mk' rfl ⟨⟨.refl rfl, rfl⟩, ⟨⟨.refl rfl, rfl⟩, ⟨⟨.refl rfl, rfl⟩, ⟨⟨.refl rfl, rfl⟩, ⟨⟨.refl rfl, rfl⟩, ⟨⟨.refl rfl, rfl⟩, ⟨⟨.refl rfl, rfl⟩, ⟨⟨.refl rfl, rfl⟩, trivial⟩⟩⟩⟩⟩⟩⟩⟩ ⟨⟨rfl, rfl, rfl⟩, trivial⟩ ⟨⟨rfl, rfl⟩, ⟨⟨rfl, rfl⟩, trivial⟩⟩)⟩
          exact ⟨by omega, by omega⟩
      · skip
        have hkl : k = (lvl p w m).length := by have := of_decide_eq_false h26; omega
        have hacc : accT p w m k = lvl p w (m + 1) := by rw [hkl]; exact accT_all p w m
        rw [hacc]
        have hg2 := bgs_len p w (lvl p w (m + 1))
        refine AWP.exit ?_
        refine AWP.seq ?_
        refine AWP.seq ?_
        refine AWP.region ?_
        refine AOps.call (o_move _ rfl rfl) ?_
        refine AOps.call (o_len _ Tryz.underlying114 rfl rfl) ?_
        refine AOps.call (o_bin _ _ rfl rfl (fun _ => rfl) rfl) ?_
        refine AOps.nil ?_
        refine AWP.cond _ rfl (fun h45 => ?_) (fun h45 => ?_)
        · skip
          have hbg := big_yes (w := w) hmt (by have := of_decide_eq_true h45; omega)
          have hL : treeL p w = [] := if_pos hbg
          have hE : treeE p w = 2 := if_pos hbg
          refine AWP.seq ?_
          refine AWP.region ?_
          refine AOps.call (o_nil (z := 1) (e := 3) rfl) ?_
          refine AOps.call (o_assign _ rfl rfl) ?_
          refine AOps.nil ?_
          refine AWP.ret ?_
          refine postQ.ret2 Tryz.results45 rfl rfl ?_
          rw [hL, hE]
          rfl
        · skip
          have hfit : (lvl p w (m + 1)).length ≤ 64 := by have := of_decide_eq_false h45; omega
          refine AWP.skip ?_
          refine AWP.seq ?_
          refine AWP.region ?_
          refine AOps.call (o_move _ rfl rfl) ?_
          refine AOps.call (o_move _ rfl rfl) ?_
          refine AOps.call (o_len _ Tryz.underlying114 rfl rfl) ?_
          refine AOps.call (o_lit Tryz.underlying25 Tryz.sizeOf3 Tryz.zeroValue3 rfl rfl rfl rfl rfl rfl rfl) ?_
          refine AOps.cons (o_append _ _ Tryz.underlying25 info3 rfl rfl rfl rfl rfl rfl rfl rfl (fun c hc => by simp at hc; subst hc; rfl) ints_z (by rw [ints_len, cnts_len]; unfold Tryz.t3; simp only [List.length_cons, List.length_nil]; omega) rfl (show ints (cnts p w m) ++ [[I (((bgs p w (lvl p w (m + 1))).length : Nat) : Int)]] = ints (cnts p w (m + 1)) by rw [bgs_len]; exact cnts_snoc p w m) rfl) ?_
          refine AOps.call (o_assign _ rfl rfl) ?_
          refine AOps.nil ?_
          refine AWP.region ?_
          refine AOps.call (o_move _ rfl rfl) ?_
          refine AOps.call (o_assign _ rfl rfl) ?_
          refine AOps.nil ?_
          refine AWP.region ?_
          refine AOps.call (o_add _ _ rfl rfl ⟨by (try dsimp only); omega, by (try dsimp only); omega⟩ rfl) ?_
          refine AOps.call (o_move _ rfl rfl) ?_
          refine AOps.nil ?_
          refine ⟨m + 1, ?_, (Weak.mk' rfl ⟨⟨.refl rfl, rfl⟩, ⟨⟨.refl rfl, rfl⟩, ⟨⟨.sl rfl, rfl⟩, ⟨⟨.refl rfl, rfl⟩, ⟨⟨.refl rfl, rfl⟩, trivial⟩⟩⟩⟩⟩ ⟨⟨rfl, rfl, rfl⟩, trivial⟩ ⟨⟨rfl, rfl⟩, trivial⟩)⟩
          refine ⟨⟨by omega, fun j hj => ?_⟩, by omega⟩
          by_cases e : j = m
          · subst e; exact hfit
          · exact hsm j (by omega)
    · skip
      have hml : m = p.log.length := by have := of_decide_eq_false h21; omega
      subst hml
      have hbn := big_no hsm
      have hL : treeL p w = cnts p w p.log.length := if_neg (by rw [hbn]; decide)
      have hE : treeE p w = 0 := if_neg (by rw [hbn]; decide)
      refine AWP.exit ?_
      refine AWP.seq ?_
      refine AWP.region ?_
      refine AOps.call (o_move _ rfl rfl) ?_
      refine AOps.call (o_assign _ rfl rfl) ?_
      refine AOps.call (o_assign _ rfl rfl) ?_
      refine AOps.nil ?_
      refine AWP.ret ?_
      refine postQ.ret2 Tryz.results45 rfl rfl ?_
      rw [hL, hE]
      rfl
set_option maxRecDepth 20000 in
theorem Tree_log (p : Plw) (w : List Sp) (hw1 : w.length ≤ 9223372036854775807) (he : okP p = false) : FSpec Tryz.prog 45 [.agg (eP p), .sl (sps w)] (.tup [.sl [], I 30]) (none) := by
  refine FSpec.of_body Tryz.func45 rfl (leB rfl) fun w0 M0 => ?_
  refine AWP.seq ?_
  refine AWP.region ?_
  refine AOps.call (o_box _ rfl rfl rfl) ?_
  refine AOps.call (o_nil (z := 1) (e := 3) rfl) ?_
  refine AOps.call (o_assign _ rfl rfl) ?_
  refine AOps.nil ?_
  refine AWP.seq ?_
  refine AWP.region ?_
  refine AOps.call (o_loadRef _ rfl rfl Tryz.sizeOf24 Tryz.isAgg24 rfl rfl rfl) ?_
  refine AOps.call (o_move _ rfl rfl) ?_
  refine AOps.call (o_call (read_log p w hw1 he) Tryz.call65 rfl rfl) ?_
  refine AOps.call (o_move _ rfl rfl) ?_
  refine AOps.call (o_extract _ rfl rfl rfl rfl) ?_
  refine AOps.call (o_extract _ rfl rfl rfl rfl) ?_
  refine AOps.call (o_alloc ze91 rfl rfl) ?_
  refine AOps.cons (o_store _ _ rfl rfl Tryz.sizeOf91 rfl rfl rfl rfl rfl) ?_
  refine AOps.call (o_assign _ rfl rfl) ?_
  refine AOps.nil ?_
  refine AWP.seq ?_
  refine AWP.seq ?_
  refine AWP.region ?_
  refine AOps.call (o_move _ rfl rfl) ?_
  refine AOps.call (o_bin _ _ rfl rfl (fun _ => rfl) rfl) ?_
  refine AOps.nil ?_
  refine AWP.cond _ rfl (fun h11 => ?_) (fun h11 => ?_)
  · skip
    refine AWP.seq ?_
    refine AWP.region ?_
    refine AOps.call (o_move _ rfl rfl) ?_
    refine AOps.call (o_nil (z := 1) (e := 3) rfl) ?_
    refine AOps.call (o_assign _ rfl rfl) ?_
    refine AOps.nil ?_
    refine AWP.ret ?_
    exact postQ.ret2 Tryz.results45 rfl rfl rfl
  · skip
    exfalso
    exact absurd h11 (by decide)
set_option maxRecDepth 20000 in
theorem Tree_arg (p : Plw) (w : List Sp) (hw1 : w.length ≤ 9223372036854775807) (he : okP p = true) (hq : okW p w = false) : FSpec Tryz.prog 45 [.agg (eP p), .sl (sps w)] (.tup [.sl [], I 1]) (none) := by
  refine FSpec.of_body Tryz.func45 rfl (leB rfl) fun w0 M0 => ?_
  refine AWP.seq ?_
  refine AWP.region ?_
  refine AOps.call (o_box _ rfl rfl rfl) ?_
  refine AOps.call (o_nil (z := 1) (e := 3) rfl) ?_
  refine AOps.call (o_assign _ rfl rfl) ?_
  refine AOps.nil ?_
  refine AWP.seq ?_
  refine AWP.region ?_
  refine AOps.call (o_loadRef _ rfl rfl Tryz.sizeOf24 Tryz.isAgg24 rfl rfl rfl) ?_
  refine AOps.call (o_move _ rfl rfl) ?_
  refine AOps.call (o_call (read_arg p w hw1 he hq) Tryz.call65 rfl rfl) ?_
  refine AOps.call (o_move _ rfl rfl) ?_
  refine AOps.call (o_extract _ rfl rfl rfl rfl) ?_
  refine AOps.call (o_extract _ rfl rfl rfl rfl) ?_
  refine AOps.call (o_alloc ze91 rfl rfl) ?_
  refine AOps.cons (o_store _ _ rfl rfl Tryz.sizeOf91 rfl rfl rfl rfl rfl) ?_
  refine AOps.call (o_assign _ rfl rfl) ?_
  refine AOps.nil ?_
  refine AWP.seq ?_
  refine AWP.seq ?_
  refine AWP.region ?_
  refine AOps.call (o_move _ rfl rfl) ?_
  refine AOps.call (o_bin _ _ rfl rfl (fun _ => rfl) rfl) ?_
  refine AOps.nil ?_
  refine AWP.cond _ rfl (fun h11 => ?_) (fun h11 => ?_)
  · skip
    refine AWP.seq ?_
    refine AWP.region ?_
    refine AOps.call (o_move _ rfl rfl) ?_
    refine AOps.call (o_nil (z := 1) (e := 3) rfl) ?_
    refine AOps.call (o_assign _ rfl rfl) ?_
    refine AOps.nil ?_
    refine AWP.ret ?_
    exact postQ.ret2 Tryz.results45 rfl rfl rfl
  · skip
    exfalso
    exact absurd h11 (by decide)
def TreeL (p : Plw) (w : List Sp) : List Int := if rdE p w = 0 then treeL p w else []
def TreeE (p : Plw) (w : List Sp) : Int := if rdE p w = 0 then treeE p w else rdE p w
theorem Tree_s (p : Plw) (w : List Sp) (hw1 : w.length ≤ 9223372036854775807) : FSpec Tryz.prog 45 [.agg (eP p), .sl (sps w)] (.tup [.sl (ints (TreeL p w)), I (TreeE p w)]) none := by
  unfold TreeL TreeE
  by_cases he : okP p = true
  · by_cases hq : okW p w = true
    · rw [rdE_ok he hq]; exact Tree_ok p w hw1 he hq
    · rw [rdE_arg he (by simpa using hq)]; exact Tree_arg p w hw1 he (by simpa using hq)
  · rw [rdE_log (by simpa using he)]; exact Tree_log p w hw1 (by simpa using he)
end Go.Proofs.YtelenedgaoglaaaGreatDoor
