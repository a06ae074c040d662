/- R15. -/
import Derived.Test.YtelenedgaoglaaaGreatDoorR14
import Derived.Test.YtelenedgaoglaaaGreatDoorAdA
set_option linter.unusedSimpArgs false
set_option linter.unusedVariables false
namespace Go.Proofs.YtelenedgaoglaaaGreatDoor
open Go.Ab
open Go.Pil
theorem ints_scs (l : List Int) : ∀ x ∈ (ints l).flatten, ∃ v, x = .sc v := by
  intro x hx
  obtain ⟨c, hc, hx⟩ := List.mem_flatten.1 hx
  obtain ⟨k, _, rfl⟩ := List.mem_map.1 hc
  simp only [I, List.mem_cons, List.not_mem_nil, or_false] at hx
  exact ⟨_, hx⟩
theorem ints_flat (l : List Int) : (ints l).flatten = l.map I := by
  induction l with
  | nil => rfl
  | cons a l ih => show [I a] ++ (ints l).flatten = _; rw [ih]; rfl
set_option maxRecDepth 20000 in
theorem Clone_v (l : List Int) (hl : l.length ≤ 1000000) (h0 : 0 < l.length) : FSpecV Tryz.prog 108 [.sl (ints l)] (ints l).flatten (ints l).length := by
  refine FSpecV.of_body Tryz.func108 rfl (leB rfl) fun w0 M0 => ?_
  have hll := ints_len l
  refine AWP.seq ?_
  refine AWP.region ?_
  refine AOps.call (o_nil (z := 1) (e := 3) rfl) ?_
  refine AOps.nil ?_
  refine AWP.seq ?_
  refine AWP.seq ?_
  refine AWP.region ?_
  refine AOps.call (o_move _ rfl rfl) ?_
  refine AOps.nilq _ Tryz.underlying25 rfl rfl ?_
  intro bq hbq
  refine AOps.nil ?_
  refine AWP.cond _ rfl (fun h4 => ?_) (fun h4 => ?_)
  · skip
    exfalso
    have hnil := hbq h4
    rw [hnil] at hll
    simp at hll
    omega
  · skip
    refine AWP.skip ?_
    refine AWP.seq ?_
    refine AWP.region ?_
    refine AOps.call (o_lit Tryz.underlying25 Tryz.sizeOf3 Tryz.zeroValue3 rfl rfl rfl rfl rfl rfl rfl) ?_
    refine AOps.call (o_move _ rfl rfl) ?_
    refine AOps.appArr _ _ Tryz.underlying25 info3 rfl rfl rfl rfl rfl rfl rfl rfl ints_z (by omega) (by rw [hll]; unfold Tryz.t3; simp only []; omega) rfl rfl ?_
    refine AOps.call (o_assign _ rfl rfl) ?_
    refine AOps.nil ?_
    refine AWP.ret ?_
    exact postQV.ret Tryz.results108 rfl (closeL_self _ (sc_self (ints_scs l)))
set_option maxRecDepth 20000 in
theorem Clone_nil  : FSpec Tryz.prog 108 [.sc (.slice none 0 0)] (.sc (.slice none 0 0)) (none) := by
  refine FSpec.of_body Tryz.func108 rfl (leB rfl) fun w0 M0 => ?_
  refine AWP.seq ?_
  refine AWP.region ?_
  refine AOps.call (o_assignK rfl) ?_
  refine AOps.nil ?_
  refine AWP.seq ?_
  refine AWP.seq ?_
  refine AWP.region ?_
  refine AOps.call (o_move _ rfl rfl) ?_
  refine AOps.call (o_eqNilK _ Tryz.underlying25 rfl rfl) ?_
  refine AOps.nil ?_
  refine AWP.cond _ rfl (fun h4 => ?_) (fun h4 => ?_)
  · skip
    refine AWP.seq ?_
    refine AWP.region ?_
    refine AOps.call (o_assignK rfl) ?_
    refine AOps.nil ?_
    refine AWP.ret ?_
    exact postQ.ret1 Tryz.results108 rfl rfl
  · skip
    exfalso
    exact absurd h4 (by decide)
def ldB (p : Plw) (w : List Sp) (l : List Int) : Sp := if l = [] then ⟨0, 0⟩ else Fp p w l (l.length - 1)
def stV : List Int → AV
  | [] => .sc (.slice none 0 0)
  | x :: l => .sl (ints (x :: l))
def eB (p : Plw) (w : List Sp) (l : List Int) : List AV := eL (pl (p.pb w) l) ++ [stV l] ++ eN (ldB p w l)
def bgs (p : Plw) (w : List Sp) (ls : List (List Int)) : List (List AV) := ls.map (eB p w)
theorem bgs_len (p w ls) : (bgs p w ls).length = ls.length := by simp [bgs]
theorem bgs_z {p w ls} : ∀ e ∈ bgs p w ls, e.length = 6 := by
  intro e he; obtain ⟨_, _, rfl⟩ := List.mem_map.1 he; rfl
theorem bgs_at {p w ls} {k : Nat} (h : k < ls.length) : (bgs p w ls)[((k : Nat) : Int).toNat]? = some (eB p w ls[k]) := by simp [bgs, h]
theorem stV_ne {l : List Int} (h : l ≠ []) : stV l = .sl (ints l) := by cases l with | nil => exact absurd rfl h | cons => rfl
theorem eB_ne {p w l} (h : l ≠ []) : eB p w l = [I (pl (p.pb w) l).entry, I (pl (p.pb w) l).state, I (pl (p.pb w) l).faults, .sl (ints l), I (ldB p w l).lo, I (ldB p w l).hi] := by unfold eB; rw [stV_ne h]; rfl
def eBc (p : Plw) (w : List Sp) (l : List Int) : List AV := eL (pl (p.pb w) l) ++ [.sl (ints l)] ++ eN (ldB p w l)
def eBn (p : Plw) (w : List Sp) (l : List Int) : List AV := eL (pl (p.pb w) l) ++ [.sc (.slice none 0 0)] ++ eN (ldB p w l)
theorem eB_c {p w l} (h : l ≠ []) : eB p w l = eBc p w l := by unfold eB eBc; rw [stV_ne h]
theorem eB_n {p w l} (h : l = []) : eB p w l = eBn p w l := by subst h; rfl
theorem eB_nil (p w) : eB p w [] = [I (pl (p.pb w) []).entry, I (pl (p.pb w) []).state, I (pl (p.pb w) []).faults, .sc (.slice none 0 0), I (ldB p w []).lo, I (ldB p w []).hi] := rfl
def accB (p : Plw) (w : List Sp) (l : List Int) (k : Nat) : List (List Int) := ((((pl (p.pb w) l).next (p.pb w)).take k).map fun r => l ++ [r.state]).filter fun m => decide (F ((p.pb w).a m) (p.pb w).w l.length).Ne
theorem accB_succ {p w l} {k : Nat} (h : k < ((pl (p.pb w) l).next (p.pb w)).length) : accB p w l (k + 1) = accB p w l k ++ (if (Fp p w (l ++ [((pl (p.pb w) l).next (p.pb w))[k].state]) l.length).Ne then [l ++ [((pl (p.pb w) l).next (p.pb w))[k].state]] else []) := by
  unfold accB
  rw [List.take_succ_eq_append_getElem h, List.map_append, List.filter_append]
  congr 1
  simp only [List.map_cons, List.map_nil, List.filter_cons, List.filter_nil]
  generalize l ++ [((pl (p.pb w) l).next (p.pb w))[k].state] = m
  by_cases hh : (F ((p.pb w).a m) (p.pb w).w l.length).Ne
  · rw [if_pos (decide_eq_true hh), if_pos (show (Fp p w m l.length).Ne from hh)]
  · rw [if_neg (by simpa using hh), if_neg (show ¬ (Fp p w m l.length).Ne from hh)]
theorem accB_len (p w l) (k : Nat) : (accB p w l k).length ≤ ((pl (p.pb w) l).next (p.pb w)).length := by
  unfold accB
  refine Nat.le_trans (List.length_filter_le ..) ?_
  rw [List.length_map, List.length_take]; omega
theorem accB_all (p w l) : accB p w l ((pl (p.pb w) l).next (p.pb w)).length = nx (p.pb w) l := by
  unfold accB nx
  rw [List.take_length, pl_next, List.map_map]
  congr 1
  apply List.map_congr_left
  intro s _
  show l ++ [(pl (p.pb w) (l ++ [s])).state] = l ++ [s]
  unfold pl
  simp
theorem ints_single {l : List Int} (h : l = []) (s : Int) : ints (l ++ [s]) = [[I s]] := by subst h; rfl
theorem next_len (q : Pb) (r : Pl) : (r.next q).length ≤ 3 := by
  unfold Pl.next
  refine Nat.le_trans (List.length_filter_le ..) ?_
  rw [List.length_map]; exact sts_len _ _
theorem getD_snoc' (l : List Int) (s : Int) : (l ++ [s]).getD l.length 0 = s := by simp [List.getD_eq_getElem?_getD]
theorem reach_B {p w} (l : List Int) (s : Int) : reachP p w (l.length : Nat) s (ldB p w l) = Fp p w (l ++ [s]) l.length := by
  have hs : (p.pb w).a (l ++ [s]) l.length = p.allow l.length s := by show p.allow l.length ((l ++ [s]).getD l.length 0) = _; rw [getD_snoc']
  unfold reachP ldB Fp
  cases l with
  | nil => simp at hs ⊢; exact hs.symm
  | cons x l =>
    rw [if_neg (by simp; omega), if_neg (by simp)]
    have e : (x :: l).length = l.length + 1 := rfl
    rw [e] at hs ⊢
    show _ = ((p.pb w).a (x :: l ++ [s]) (l.length + 1)).meet _
    rw [hs, Nat.add_sub_cancel]
    have hF : Fp p w (x :: l) l.length = F ((p.pb w).a (x :: l ++ [s])) (p.pb w).w l.length := F_congr (fun i hi => (a_snoc _ (by simp; omega)).symm) (fun _ _ => rfl)
    show _ = (p.allow (l.length + 1) s).meet ((F ((p.pb w).a (x :: l ++ [s])) (p.pb w).w l.length).plus ((p.pb w).w l.length))
    rw [← hF]
    rfl
theorem ldB_snoc {p w} (l : List Int) (s : Int) : ldB p w (l ++ [s]) = Fp p w (l ++ [s]) l.length := by
  unfold ldB; rw [if_neg (by simp)]; simp
theorem next_entry {p : Plw} {w : List Sp} {l : List Int} {k : Nat} (h : k < ((pl (p.pb w) l).next (p.pb w)).length) : ((pl (p.pb w) l).next (p.pb w))[k].entry = (l.length : Nat) := by
  rw [next_at _ (List.getElem_mem h)]; simp [pl]
theorem reach_N {p : Plw} {w : List Sp} {l : List Int} {k : Nat} (h : k < ((pl (p.pb w) l).next (p.pb w)).length) : reachP p w ((pl (p.pb w) l).next (p.pb w))[k].entry ((pl (p.pb w) l).next (p.pb w))[k].state (ldB p w l) = Fp p w (l ++ [((pl (p.pb w) l).next (p.pb w))[k].state]) l.length := by
  rw [next_entry h]; exact reach_B l _
theorem bgs_snoc {p w l} {acc : List (List Int)} {k : Nat} (h : k < ((pl (p.pb w) l).next (p.pb w)).length) : bgs p w acc ++ [[I ((pl (p.pb w) l).next (p.pb w))[k].entry, I ((pl (p.pb w) l).next (p.pb w))[k].state, I ((pl (p.pb w) l).next (p.pb w))[k].faults, .sl (ints (l ++ [((pl (p.pb w) l).next (p.pb w))[k].state])), I (reachP p w ((pl (p.pb w) l).next (p.pb w))[k].entry ((pl (p.pb w) l).next (p.pb w))[k].state (ldB p w l)).lo, I (reachP p w ((pl (p.pb w) l).next (p.pb w))[k].entry ((pl (p.pb w) l).next (p.pb w))[k].state (ldB p w l)).hi]] = bgs p w (acc ++ [l ++ [((pl (p.pb w) l).next (p.pb w))[k].state]]) := by
  have hn : ((pl (p.pb w) l).next (p.pb w))[k] = pl (p.pb w) (l ++ [((pl (p.pb w) l).next (p.pb w))[k].state]) := next_at _ (List.getElem_mem h)
  have hr := reach_N h
  generalize ((pl (p.pb w) l).next (p.pb w))[k] = r at hn hr ⊢
  unfold bgs
  rw [List.map_append]
  congr 1
  simp only [List.map_cons, List.map_nil, List.cons.injEq, and_true]
  rw [eB_ne (by simp), ldB_snoc, ← hr, ← hn]
theorem ldB_small {p : Plw} (hp : OkP p) (w) (l) (hn : l ≠ [] → (Fp p w l (l.length - 1)).Ne) : -9000000000 ≤ (ldB p w l).lo ∧ (ldB p w l).lo ≤ 9000000000 ∧ -9000000000 ≤ (ldB p w l).hi ∧ (ldB p w l).hi ≤ 9000000000 := by
  unfold ldB
  by_cases h : l = []
  · rw [if_pos h]; simp
  · rw [if_neg h]
    have h1 := pbF_small hp w l (l.length - 1)
    have h2 := hn h
    simp only [Sp.Ne] at h2
    omega
set_option maxRecDepth 20000 in
theorem further_c (p : Plw) (w : List Sp) (l : List Int) (hp : OkP p) (hw : okW p w = true) (hln : l.length < p.log.length) (hrt : Rt (p.pb []) l) (hld : l ≠ [] → (Fp p w l (l.length - 1)).Ne) (hl0 : l ≠ []) : FSpec Tryz.prog 80 [.agg (eR p w), .agg (eBc p w l)] (.sl (bgs p w (nx (p.pb w) l))) (none) := by
  refine FSpec.of_body Tryz.func80 rfl (leB rfl) fun w0 M0 => ?_
  have hl := shws_len p.log
  have h32 := hp.len
  have hnl := next_len (p.pb w) (pl (p.pb w) l)
  have hpl := pls_len ((pl (p.pb w) l).next (p.pb w))
  have hf0 : 0 ≤ (pl (p.pb w) l).faults ∧ (pl (p.pb w) l).faults ≤ 32 := by
    have h1 := flt_nonneg l; have h2 := hp.faults
    have h3 : flt l ≤ p.faults := hrt.2.2.2
    show 0 ≤ p.faults - flt l ∧ p.faults - flt l ≤ 32; omega
  have hen : (pl (p.pb w) l).entry + 1 < p.log.length := by show ((l.length : Int) - 1) + 1 < _; omega
  have hen2 : -1 ≤ (pl (p.pb w) l).entry := by show -1 ≤ ((l.length : Int) - 1); omega
  have hll := ints_len l
  have hlp : 0 < l.length := List.length_pos_iff.2 hl0
  have hst := stV_ne hl0
  refine AWP.seq ?_
  refine AWP.region ?_
  refine AOps.call (o_box _ rfl rfl rfl) ?_
  refine AOps.call (o_box _ rfl rfl rfl) ?_
  refine AOps.call (o_nil (z := 6) (e := 112) rfl) ?_
  refine AOps.nil ?_
  refine AWP.seq ?_
  refine AWP.region ?_
  refine AOps.call (o_nil (z := 6) (e := 112) rfl) ?_
  refine AOps.nil ?_
  refine AWP.seq ?_
  refine AWP.seq ?_
  refine AWP.region ?_
  refine AOps.call (o_fieldRef _ rfl fa91_0 rfl rfl) ?_
  refine AOps.call (o_loadRef _ rfl rfl Tryz.sizeOf83 Tryz.isAgg83 rfl rfl rfl) ?_
  refine AOps.call (o_fieldRef _ rfl fa112_0 rfl rfl) ?_
  refine AOps.call (o_loadRef _ rfl rfl Tryz.sizeOf110 Tryz.isAgg110 rfl rfl rfl) ?_
  refine AOps.call (o_call (next_s p hp (pl (p.pb w) l) hen hen2 hf0) Tryz.call88 rfl rfl) ?_
  refine AOps.call (o_len _ Tryz.underlying125 rfl rfl) ?_
  refine AOps.call (o_move _ rfl rfl) ?_
  refine AOps.nil ?_
  refine AWP.block ?_
  refine AWP.loop (ι := Nat × List (List Int)) (fun i => AS.mk' 45 [(2, .ref (2, 0) 0), (3, .ref (3, 0) 0), (5, .own (5, 0) (bgs p w i.2)), (13, .sl (pls ((pl (p.pb w) l).next (p.pb w)))), (14, I (pls ((pl (p.pb w) l).next (p.pb w))).length), (15, I i.1)] [((2, 0), eR p w), ((3, 0), eBc p w l)] [((5, 0), ((bgs p w i.2).length, 6, 112))] [(2, 1), (3, 1), (5, 1)]) (fun i => i.1 ≤ ((pl (p.pb w) l).next (p.pb w)).length ∧ i.2 = accB p w l i.1) (fun i => ((pl (p.pb w) l).next (p.pb w)).length - i.1) (0, []) (Weak.mk' rfl ⟨⟨.refl rfl, rfl⟩, ⟨⟨.refl rfl, rfl⟩, ⟨⟨.refl rfl, rfl⟩, ⟨⟨.refl rfl, rfl⟩, ⟨⟨.refl rfl, rfl⟩, ⟨⟨.refl rfl, rfl⟩, trivial⟩⟩⟩⟩⟩⟩ ⟨⟨rfl, rfl, rfl⟩, ⟨⟨rfl, rfl, rfl⟩, trivial⟩⟩ ⟨⟨rfl, rfl⟩, trivial⟩) (⟨Nat.zero_le _, rfl⟩) ?_
  rintro ⟨k, acc⟩ ⟨hk, hacc⟩
  try dsimp only at *
  refine AWP.seq ?_
  refine AWP.region ?_
  refine AOps.call (o_bin _ _ rfl rfl (fun _ => rfl) rfl) ?_
  refine AOps.nil ?_
  refine AWP.seq ?_
  refine AWP.cond _ rfl (fun h13 => ?_) (fun h13 => ?_)
  · skip
    have hlt : k < ((pl (p.pb w) l).next (p.pb w)).length := by have := of_decide_eq_true h13; omega
    have hel := pls_at hlt
    have hent := next_entry hlt
    refine AWP.skip ?_
    refine AWP.seq ?_
    refine AWP.block ?_
    refine AWP.seq ?_
    refine AWP.region ?_
    refine AOps.call (o_index _ _ Tryz.underlying125 Tryz.sizeOf110 rfl rfl (by omega) (by assumption) rfl rfl) ?_
    refine AOps.call (o_loadRd _ rfl Tryz.sizeOf110 Tryz.isAgg110 rfl rfl rfl) ?_
    refine AOps.call (o_alloc ze110 rfl rfl) ?_
    refine AOps.cons (o_store _ _ rfl rfl Tryz.sizeOf110 rfl rfl rfl rfl rfl) ?_
    refine AOps.nil ?_
    refine AWP.seq ?_
    refine AWP.region ?_
    refine AOps.call (o_loadRef _ rfl rfl Tryz.sizeOf91 Tryz.isAgg91 rfl rfl rfl) ?_
    refine AOps.call (o_fieldRef _ rfl fa110_0 rfl rfl) ?_
    refine AOps.call (o_loadRef _ rfl rfl Tryz.sizeOf3 Tryz.isAgg3 rfl rfl rfl) ?_
    refine AOps.call (o_fieldRef _ rfl fa110_1 rfl rfl) ?_
    refine AOps.call (o_loadRef _ rfl rfl Tryz.sizeOf3 Tryz.isAgg3 rfl rfl rfl) ?_
    refine AOps.call (o_fieldRef _ rfl fa112_2 rfl rfl) ?_
    refine AOps.call (o_loadRef _ rfl rfl Tryz.sizeOf54 Tryz.isAgg54 rfl rfl rfl) ?_
    refine AOps.call (o_call (reached_s p w hp hw ((pl (p.pb w) l).next (p.pb w))[k].entry ((pl (p.pb w) l).next (p.pb w))[k].state (ldB p w l) (by omega) (by omega) (fun _ => ldB_small hp w l hld)) Tryz.call94 rfl rfl) ?_
    refine AOps.call (o_alloc ze54 rfl rfl) ?_
    refine AOps.cons (o_store _ _ rfl rfl Tryz.sizeOf54 rfl rfl rfl rfl rfl) ?_
    refine AOps.nil ?_
    refine AWP.seq ?_
    refine AWP.region ?_
    refine AOps.call (o_loadRef _ rfl rfl Tryz.sizeOf54 Tryz.isAgg54 rfl rfl rfl) ?_
    refine AOps.call (o_call (isEmpty_s (reachP p w ((pl (p.pb w) l).next (p.pb w))[k].entry ((pl (p.pb w) l).next (p.pb w))[k].state (ldB p w l))) Tryz.call95 rfl rfl) ?_
    refine AOps.call (o_un _ rfl (fun _ => rfl) rfl) ?_
    refine AOps.nil ?_
    refine AWP.cond _ rfl (fun h29 => ?_) (fun h29 => ?_)
    · skip
      have hne2 : (Fp p w (l ++ [((pl (p.pb w) l).next (p.pb w))[k].state]) l.length).Ne := by
        rw [← reach_N hlt]
        simp only [Sp.Ne]
        simpa using h29
      refine AWP.drawnP 12 [(8, (34, 0))] mixed (by kernel_rfl) (by kernel_rfl) ?_
      refine AHeadP.call (o_move _ rfl rfl) rfl rfl rfl ?_
      refine AHeadP.call (o_loadRef _ rfl rfl Tryz.sizeOf110 Tryz.isAgg110 rfl rfl rfl) rfl rfl rfl ?_
      refine AHeadP.call (o_fieldRef _ rfl fa112_1 rfl rfl) rfl rfl rfl ?_
      refine AHeadP.call (o_loadRef _ rfl rfl Tryz.sizeOf25 Tryz.isAgg25 rfl rfl rfl) rfl rfl rfl ?_
      refine AHeadP.call (o_callVar (Clone_v l (by omega) hlp) Tryz.call108 rfl rfl) rfl rfl rfl ?_
      refine AHeadP.call (o_fieldRef _ rfl fa110_1 rfl rfl) rfl rfl rfl ?_
      refine AHeadP.call (o_loadRef _ rfl rfl Tryz.sizeOf3 Tryz.isAgg3 rfl rfl rfl) rfl rfl rfl ?_
      refine AHeadP.call (o_lit Tryz.underlying25 Tryz.sizeOf3 Tryz.zeroValue3 rfl rfl rfl rfl rfl rfl rfl) rfl rfl rfl ?_
      refine AHeadP.spend (o_appendS (cs := (ints l).flatten) (rs := ints (l ++ [((pl (p.pb w) l).next (p.pb w))[k].state])) _ _ Tryz.underlying25 info3 rfl rfl rfl rfl rfl (by exact closeL_self _ (sc_self (ints_scs l))) (by rw [ints_flat]; simp [ints]) rfl (fun e he => by simp at he; subst he; rfl) (by unfold Tryz.t3; simp only [List.length_cons, List.length_nil]; omega) rfl (by simp) (by rw [ints_flat]; simp [ints, I]) rfl) rfl rfl ?_
      refine AHeadP.call (o_loadRef _ rfl rfl Tryz.sizeOf54 Tryz.isAgg54 rfl rfl rfl) rfl rfl rfl ?_
      refine AHeadP.call (o_build bu112 rfl rfl rfl) rfl rfl rfl ?_
      refine AHeadP.call (o_lit Tryz.underlying114 Tryz.sizeOf112 Tryz.zeroValue112 rfl rfl rfl rfl rfl rfl rfl) rfl rfl rfl ?_
      refine AHeadP.nil ?_
      refine AOps.cons (o_append _ _ Tryz.underlying114 info112 rfl rfl rfl rfl rfl rfl rfl rfl (fun c hc => by simp at hc; subst hc; rfl) bgs_z (by
          have hal := accB_len p w l k
          rw [← hacc] at hal
          unfold Tryz.t112; simp only [bgs_len, List.length_cons, List.length_nil]; omega) rfl (bgs_snoc hlt) rfl) ?_
      refine AOps.call (o_assign _ rfl rfl) ?_
      refine AOps.nil ?_
      refine AWP.region ?_
      refine AOps.call (o_add _ _ rfl rfl ⟨by (try dsimp only); omega, by (try dsimp only); omega⟩ rfl) ?_
      refine AOps.call (o_move _ rfl rfl) ?_
      refine AOps.nil ?_
      refine ⟨(k + 1, _), ?_, (Weak.mk' rfl ⟨⟨.refl rfl, rfl⟩, ⟨⟨.refl rfl, rfl⟩, ⟨⟨.refl rfl, rfl⟩, ⟨⟨.refl rfl, rfl⟩, ⟨⟨.refl rfl, rfl⟩, ⟨⟨.refl rfl, rfl⟩, trivial⟩⟩⟩⟩⟩⟩ ⟨⟨rfl, rfl, rfl⟩, ⟨⟨rfl, rfl, rfl⟩, trivial⟩⟩ ⟨⟨rfl, rfl⟩, trivial⟩)⟩
      refine ⟨⟨by omega, ?_⟩, by omega⟩
      rw [accB_succ hlt, ← hacc]
      first
      | (rw [if_pos hne2]; done)
      | (rw [if_neg hne2, List.append_nil]; done)
    · skip
      have hne2 : ¬ (Fp p w (l ++ [((pl (p.pb w) l).next (p.pb w))[k].state]) l.length).Ne := by
        rw [← reach_N hlt]
        simp only [Sp.Ne]
        simpa using h29
      refine AWP.skip ?_
      refine AWP.region ?_
      refine AOps.call (o_add _ _ rfl rfl ⟨by (try dsimp only); omega, by (try dsimp only); omega⟩ rfl) ?_
      refine AOps.call (o_move _ rfl rfl) ?_
      refine AOps.nil ?_
      refine ⟨(k + 1, _), ?_, (Weak.mk' rfl ⟨⟨.refl rfl, rfl⟩, ⟨⟨.refl rfl, rfl⟩, ⟨⟨.refl rfl, rfl⟩, ⟨⟨.refl rfl, rfl⟩, ⟨⟨.refl rfl, rfl⟩, ⟨⟨.refl rfl, rfl⟩, trivial⟩⟩⟩⟩⟩⟩ ⟨⟨rfl, rfl, rfl⟩, ⟨⟨rfl, rfl, rfl⟩, trivial⟩⟩ ⟨⟨rfl, rfl⟩, trivial⟩)⟩
      refine ⟨⟨by omega, ?_⟩, by omega⟩
      rw [accB_succ hlt, ← hacc]
      first
      | (rw [if_pos hne2]; done)
      | (rw [if_neg hne2, List.append_nil]; done)
  · skip
    have hkl : k = ((pl (p.pb w) l).next (p.pb w)).length := by have := of_decide_eq_false h13; omega
    subst hkl
    refine AWP.exit ?_
    refine AWP.seq ?_
    refine AWP.region ?_
    refine AOps.call (o_move _ rfl rfl) ?_
    refine AOps.call (o_assign _ rfl rfl) ?_
    refine AOps.nil ?_
    refine AWP.ret ?_
    refine postQ.ret1 Tryz.results80 rfl ?_
    rw [hacc, accB_all]
    rfl
set_option maxRecDepth 20000 in
theorem further_n (p : Plw) (w : List Sp) (l : List Int) (hp : OkP p) (hw : okW p w = true) (hln : l.length < p.log.length) (hrt : Rt (p.pb []) l) (hld : l ≠ [] → (Fp p w l (l.length - 1)).Ne) (hl0 : l = []) : FSpec Tryz.prog 80 [.agg (eR p w), .agg (eBn p w l)] (.sl (bgs p w (nx (p.pb w) l))) (none) := by
  refine FSpec.of_body Tryz.func80 rfl (leB rfl) fun w0 M0 => ?_
  have hl := shws_len p.log
  have h32 := hp.len
  have hnl := next_len (p.pb w) (pl (p.pb w) l)
  have hpl := pls_len ((pl (p.pb w) l).next (p.pb w))
  have hf0 : 0 ≤ (pl (p.pb w) l).faults ∧ (pl (p.pb w) l).faults ≤ 32 := by
    have h1 := flt_nonneg l; have h2 := hp.faults
    have h3 : flt l ≤ p.faults := hrt.2.2.2
    show 0 ≤ p.faults - flt l ∧ p.faults - flt l ≤ 32; omega
  have hen : (pl (p.pb w) l).entry + 1 < p.log.length := by show ((l.length : Int) - 1) + 1 < _; omega
  have hen2 : -1 ≤ (pl (p.pb w) l).entry := by show -1 ≤ ((l.length : Int) - 1); omega
  refine AWP.seq ?_
  refine AWP.region ?_
  refine AOps.call (o_box _ rfl rfl rfl) ?_
  refine AOps.call (o_box _ rfl rfl rfl) ?_
  refine AOps.call (o_nil (z := 6) (e := 112) rfl) ?_
  refine AOps.nil ?_
  refine AWP.seq ?_
  refine AWP.region ?_
  refine AOps.call (o_nil (z := 6) (e := 112) rfl) ?_
  refine AOps.nil ?_
  refine AWP.seq ?_
  refine AWP.seq ?_
  refine AWP.region ?_
  refine AOps.call (o_fieldRef _ rfl fa91_0 rfl rfl) ?_
  refine AOps.call (o_loadRef _ rfl rfl Tryz.sizeOf83 Tryz.isAgg83 rfl rfl rfl) ?_
  refine AOps.call (o_fieldRef _ rfl fa112_0 rfl rfl) ?_
  refine AOps.call (o_loadRef _ rfl rfl Tryz.sizeOf110 Tryz.isAgg110 rfl rfl rfl) ?_
  refine AOps.call (o_call (next_s p hp (pl (p.pb w) l) hen hen2 hf0) Tryz.call88 rfl rfl) ?_
  refine AOps.call (o_len _ Tryz.underlying125 rfl rfl) ?_
  refine AOps.call (o_move _ rfl rfl) ?_
  refine AOps.nil ?_
  refine AWP.block ?_
  refine AWP.loop (ι := Nat × List (List Int)) (fun i => AS.mk' 45 [(2, .ref (2, 0) 0), (3, .ref (3, 0) 0), (5, .own (5, 0) (bgs p w i.2)), (13, .sl (pls ((pl (p.pb w) l).next (p.pb w)))), (14, I (pls ((pl (p.pb w) l).next (p.pb w))).length), (15, I i.1)] [((2, 0), eR p w), ((3, 0), eBn p w l)] [((5, 0), ((bgs p w i.2).length, 6, 112))] [(2, 1), (3, 1), (5, 1)]) (fun i => i.1 ≤ ((pl (p.pb w) l).next (p.pb w)).length ∧ i.2 = accB p w l i.1) (fun i => ((pl (p.pb w) l).next (p.pb w)).length - i.1) (0, []) (Weak.mk' rfl ⟨⟨.refl rfl, rfl⟩, ⟨⟨.refl rfl, rfl⟩, ⟨⟨.refl rfl, rfl⟩, ⟨⟨.refl rfl, rfl⟩, ⟨⟨.refl rfl, rfl⟩, ⟨⟨.refl rfl, rfl⟩, trivial⟩⟩⟩⟩⟩⟩ ⟨⟨rfl, rfl, rfl⟩, ⟨⟨rfl, rfl, rfl⟩, trivial⟩⟩ ⟨⟨rfl, rfl⟩, trivial⟩) (⟨Nat.zero_le _, rfl⟩) ?_
  rintro ⟨k, acc⟩ ⟨hk, hacc⟩
  try dsimp only at *
  refine AWP.seq ?_
  refine AWP.region ?_
  refine AOps.call (o_bin _ _ rfl rfl (fun _ => rfl) rfl) ?_
  refine AOps.nil ?_
  refine AWP.seq ?_
  refine AWP.cond _ rfl (fun h13 => ?_) (fun h13 => ?_)
  · skip
    have hlt : k < ((pl (p.pb w) l).next (p.pb w)).length := by have := of_decide_eq_true h13; omega
    have hel := pls_at hlt
    have hent := next_entry hlt
    refine AWP.skip ?_
    refine AWP.seq ?_
    refine AWP.block ?_
    refine AWP.seq ?_
    refine AWP.region ?_
    refine AOps.call (o_index _ _ Tryz.underlying125 Tryz.sizeOf110 rfl rfl (by omega) (by assumption) rfl rfl) ?_
    refine AOps.call (o_loadRd _ rfl Tryz.sizeOf110 Tryz.isAgg110 rfl rfl rfl) ?_
    refine AOps.call (o_alloc ze110 rfl rfl) ?_
    refine AOps.cons (o_store _ _ rfl rfl Tryz.sizeOf110 rfl rfl rfl rfl rfl) ?_
    refine AOps.nil ?_
    refine AWP.seq ?_
    refine AWP.region ?_
    refine AOps.call (o_loadRef _ rfl rfl Tryz.sizeOf91 Tryz.isAgg91 rfl rfl rfl) ?_
    refine AOps.call (o_fieldRef _ rfl fa110_0 rfl rfl) ?_
    refine AOps.call (o_loadRef _ rfl rfl Tryz.sizeOf3 Tryz.isAgg3 rfl rfl rfl) ?_
    refine AOps.call (o_fieldRef _ rfl fa110_1 rfl rfl) ?_
    refine AOps.call (o_loadRef _ rfl rfl Tryz.sizeOf3 Tryz.isAgg3 rfl rfl rfl) ?_
    refine AOps.call (o_fieldRef _ rfl fa112_2 rfl rfl) ?_
    refine AOps.call (o_loadRef _ rfl rfl Tryz.sizeOf54 Tryz.isAgg54 rfl rfl rfl) ?_
    refine AOps.call (o_call (reached_s p w hp hw ((pl (p.pb w) l).next (p.pb w))[k].entry ((pl (p.pb w) l).next (p.pb w))[k].state (ldB p w l) (by omega) (by omega) (fun _ => ldB_small hp w l hld)) Tryz.call94 rfl rfl) ?_
    refine AOps.call (o_alloc ze54 rfl rfl) ?_
    refine AOps.cons (o_store _ _ rfl rfl Tryz.sizeOf54 rfl rfl rfl rfl rfl) ?_
    refine AOps.nil ?_
    refine AWP.seq ?_
    refine AWP.region ?_
    refine AOps.call (o_loadRef _ rfl rfl Tryz.sizeOf54 Tryz.isAgg54 rfl rfl rfl) ?_
    refine AOps.call (o_call (isEmpty_s (reachP p w ((pl (p.pb w) l).next (p.pb w))[k].entry ((pl (p.pb w) l).next (p.pb w))[k].state (ldB p w l))) Tryz.call95 rfl rfl) ?_
    refine AOps.call (o_un _ rfl (fun _ => rfl) rfl) ?_
    refine AOps.nil ?_
    refine AWP.cond _ rfl (fun h29 => ?_) (fun h29 => ?_)
    · skip
      have hne2 : (Fp p w (l ++ [((pl (p.pb w) l).next (p.pb w))[k].state]) l.length).Ne := by
        rw [← reach_N hlt]
        simp only [Sp.Ne]
        simpa using h29
      refine AWP.drawn 12 mixed (by kernel_rfl) ?_
      refine AHead.call (o_move _ rfl rfl) rfl ?_
      refine AHead.call (o_loadRef _ rfl rfl Tryz.sizeOf110 Tryz.isAgg110 rfl rfl rfl) rfl ?_
      refine AHead.call (o_fieldRef _ rfl fa112_1 rfl rfl) rfl ?_
      refine AHead.call (o_loadRef _ rfl rfl Tryz.sizeOf25 Tryz.isAgg25 rfl rfl rfl) rfl ?_
      refine AHead.call (o_call (Clone_nil) Tryz.call108 rfl rfl) rfl ?_
      refine AHead.call (o_fieldRef _ rfl fa110_1 rfl rfl) rfl ?_
      refine AHead.call (o_loadRef _ rfl rfl Tryz.sizeOf3 Tryz.isAgg3 rfl rfl rfl) rfl ?_
      refine AHead.call (o_lit Tryz.underlying25 Tryz.sizeOf3 Tryz.zeroValue3 rfl rfl rfl rfl rfl rfl rfl) rfl ?_
      refine AHead.call (o_appendNil (ns := [[I ((pl (p.pb w) l).next (p.pb w))[k].state]]) (rs := ints (l ++ [((pl (p.pb w) l).next (p.pb w))[k].state])) _ _ Tryz.underlying25 info3 rfl rfl rfl rfl rfl rfl (fun e he => by simp at he; subst he; rfl) (by unfold Tryz.t3; simp) rfl (by simp) (ints_single hl0 _).symm rfl) rfl ?_
      refine AHead.call (o_loadRef _ rfl rfl Tryz.sizeOf54 Tryz.isAgg54 rfl rfl rfl) rfl ?_
      refine AHead.call (o_build bu112 rfl rfl rfl) rfl ?_
      refine AHead.call (o_lit Tryz.underlying114 Tryz.sizeOf112 Tryz.zeroValue112 rfl rfl rfl rfl rfl rfl rfl) rfl ?_
      refine AHead.nil ?_
      refine AOps.cons (o_append _ _ Tryz.underlying114 info112 rfl rfl rfl rfl rfl rfl rfl rfl (fun c hc => by simp at hc; subst hc; rfl) bgs_z (by
          have hal := accB_len p w l k
          rw [← hacc] at hal
          unfold Tryz.t112; simp only [bgs_len, List.length_cons, List.length_nil]; omega) rfl (bgs_snoc hlt) rfl) ?_
      refine AOps.call (o_assign _ rfl rfl) ?_
      refine AOps.nil ?_
      refine AWP.region ?_
      refine AOps.call (o_add _ _ rfl rfl ⟨by (try dsimp only); omega, by (try dsimp only); omega⟩ rfl) ?_
      refine AOps.call (o_move _ rfl rfl) ?_
      refine AOps.nil ?_
      refine ⟨(k + 1, _), ?_, (Weak.mk' rfl ⟨⟨.refl rfl, rfl⟩, ⟨⟨.refl rfl, rfl⟩, ⟨⟨.refl rfl, rfl⟩, ⟨⟨.refl rfl, rfl⟩, ⟨⟨.refl rfl, rfl⟩, ⟨⟨.refl rfl, rfl⟩, trivial⟩⟩⟩⟩⟩⟩ ⟨⟨rfl, rfl, rfl⟩, ⟨⟨rfl, rfl, rfl⟩, trivial⟩⟩ ⟨⟨rfl, rfl⟩, trivial⟩)⟩
      refine ⟨⟨by omega, ?_⟩, by omega⟩
      rw [accB_succ hlt, ← hacc]
      first
      | (rw [if_pos hne2]; done)
      | (rw [if_neg hne2, List.append_nil]; done)
    · skip
      have hne2 : ¬ (Fp p w (l ++ [((pl (p.pb w) l).next (p.pb w))[k].state]) l.length).Ne := by
        rw [← reach_N hlt]
        simp only [Sp.Ne]
        simpa using h29
      refine AWP.skip ?_
      refine AWP.region ?_
      refine AOps.call (o_add _ _ rfl rfl ⟨by (try dsimp only); omega, by (try dsimp only); omega⟩ rfl) ?_
      refine AOps.call (o_move _ rfl rfl) ?_
      refine AOps.nil ?_
      refine ⟨(k + 1, _), ?_, (Weak.mk' rfl ⟨⟨.refl rfl, rfl⟩, ⟨⟨.refl rfl, rfl⟩, ⟨⟨.refl rfl, rfl⟩, ⟨⟨.refl rfl, rfl⟩, ⟨⟨.refl rfl, rfl⟩, ⟨⟨.refl rfl, rfl⟩, trivial⟩⟩⟩⟩⟩⟩ ⟨⟨rfl, rfl, rfl⟩, ⟨⟨rfl, rfl, rfl⟩, trivial⟩⟩ ⟨⟨rfl, rfl⟩, trivial⟩)⟩
      refine ⟨⟨by omega, ?_⟩, by omega⟩
      rw [accB_succ hlt, ← hacc]
      first
      | (rw [if_pos hne2]; done)
      | (rw [if_neg hne2, List.append_nil]; done)
  · skip
    have hkl : k = ((pl (p.pb w) l).next (p.pb w)).length := by have := of_decide_eq_false h13; omega
    subst hkl
    refine AWP.exit ?_
    refine AWP.seq ?_
    refine AWP.region ?_
    refine AOps.call (o_move _ rfl rfl) ?_
    refine AOps.call (o_assign _ rfl rfl) ?_
    refine AOps.nil ?_
    refine AWP.ret ?_
    refine postQ.ret1 Tryz.results80 rfl ?_
    rw [hacc, accB_all]
    rfl
end Go.Proofs.YtelenedgaoglaaaGreatDoor
