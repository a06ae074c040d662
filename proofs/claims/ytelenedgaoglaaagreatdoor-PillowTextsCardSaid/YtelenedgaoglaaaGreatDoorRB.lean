/- R12. -/
import Derived.Test.YtelenedgaoglaaaGreatDoorRA
import Derived.Test.YtelenedgaoglaaaGreatDoorAdA
set_option linter.unusedSimpArgs false
set_option linter.unusedVariables false
namespace Go.Proofs.YtelenedgaoglaaaGreatDoor
open Go.Ab
open Go.Pil
theorem splice_mid' {a b c new : List AV} (h : b.length = new.length) : splice (a ++ b ++ c) new a.length = a ++ new ++ c := by
  have h1 : (a ++ b ++ c).take a.length = a := by rw [List.append_assoc, List.take_left']; rfl
  have h2 : (a ++ b ++ c).drop (a.length + new.length) = c := by rw [List.drop_left']; simp [h]
  unfold splice; rw [h1, h2]
theorem sc_self {l : List AV} (h : ∀ x ∈ l, ∃ v, x = .sc v) : ∀ x ∈ l, x.close = some x := by
  intro x hx; obtain ⟨v, rfl⟩ := h x hx; rfl
theorem flat_lenM {α : Type} {e : α → List AV} {z : Nat} (he : ∀ x, (e x).length = z) (l : List α) : (l.map e).flatten.length = l.length * z := by
  rw [flat_len (l.map e) (fun x hx => by obtain ⟨_, _, rfl⟩ := List.mem_map.1 hx; exact he _), List.length_map]
theorem flat_set {α : Type} {e : α → List AV} {z o : Nat} (he : ∀ x, (e x).length = z) {P R : List α} {x y : α} (ho : P.length * z = o) :
    splice ((P ++ x :: R).map e).flatten (e y) o = ((P ++ y :: R).map e).flatten := by
  subst ho
  have h1 : ∀ w, ((P ++ w :: R).map e).flatten = (P.map e).flatten ++ e w ++ (R.map e).flatten := fun w => by simp
  rw [h1, h1, ← flat_lenM he P, splice_mid' (by rw [he, he])]
def Fp (p : Plw) (w : List Sp) (l : List Int) (k : Nat) : Sp := F ((p.pb w).a l) (p.pb w).w k
def fsp (p : Plw) (w : List Sp) (l : List Int) (i : Nat) : List Sp := (List.range l.length).map fun k => if k < i then Fp p w l k else ⟨0, 0⟩
def gsp (p : Plw) (w : List Sp) (l : List Int) (m : Nat) : List Sp := (List.range l.length).map fun k => if l.length ≤ k + m then endP p w l k else Fp p w l k
theorem fsp_len (p w l i) : (fsp p w l i).length = l.length := by simp [fsp]
theorem gsp_len (p w l i) : (gsp p w l i).length = l.length := by simp [gsp]
theorem sps_flen (l : List Sp) : (sps l).flatten.length = l.length * 2 := by rw [flat_len _ sps_z, sps_len]
theorem sps_set {L : List Sp} {k : Nat} {s : Sp} (h : k < L.length) : splice (sps L).flatten (eN s) (k * 2) = (sps (L.set k s)).flatten := by
  have e : L = L.take k ++ L[k] :: L.drop (k + 1) := by rw [← List.drop_eq_getElem_cons h, List.take_append_drop]
  have e2 : L.set k s = L.take k ++ s :: L.drop (k + 1) := List.set_eq_take_append_cons_drop.trans (if_pos h)
  rw [e2]
  conv => lhs; rw [e]
  exact flat_set (e := eN) (z := 2) (fun _ => rfl) (by rw [List.length_take]; omega)
theorem sps_part {L : List Sp} {k : Nat} (h : k < L.length) : partA true 2 ((sps L).flatten.drop (k * 2)) = some (.agg (eN L[k])) := by
  rw [flat_drop _ _ sps_z, show (sps L).drop k = eN L[k] :: (sps L).drop (k + 1) by rw [List.drop_eq_getElem_cons (by rw [sps_len]; exact h)]; simp [sps]]
  rfl
theorem sps_scs (l : List Sp) : ∀ x ∈ (sps l).flatten, ∃ v, x = .sc v := by
  intro x hx
  obtain ⟨e, he, hxe⟩ := List.mem_flatten.1 hx
  obtain ⟨s, _, rfl⟩ := List.mem_map.1 he
  simp [eN, I] at hxe
  rcases hxe with rfl | rfl <;> exact ⟨_, rfl⟩
theorem fsp_zero (p w l) : (List.replicate l.length ([Value.int .i64 0, .int .i64 0].map AV.sc)).flatten = (sps (fsp p w l 0)).flatten := by
  congr 1
  unfold fsp sps
  apply List.ext_getElem
  · simp
  · intro k h1 h2
    simp [eN, I]
theorem fsp_step {p w l} {i : Nat} (h : i < l.length) : (fsp p w l i).set i (Fp p w l i) = fsp p w l (i + 1) := by
  apply List.ext_getElem
  · simp [fsp]
  · intro k h1 h2
    simp only [fsp, List.getElem_set, List.getElem_map, List.getElem_range]
    by_cases e : i = k
    · subst e; simp
    · rw [if_neg e]
      by_cases h3 : k < i
      · rw [if_pos h3, if_pos (by omega)]
      · rw [if_neg h3, if_neg (by omega)]
theorem fsp_gsp (p w l) : fsp p w l l.length = gsp p w l 1 := by
  apply List.ext_getElem
  · simp [fsp, gsp]
  · intro k h1 h2
    have hk : k < l.length := by simpa [fsp] using h1
    simp only [fsp, gsp, List.getElem_map, List.getElem_range]
    rw [if_pos hk]
    by_cases e : l.length ≤ k + 1
    · rw [if_pos e]; exact (En_last (by omega)).symm
    · rw [if_neg e]
theorem gsp_step {p w l} {k m : Nat} (h : k + m + 1 = l.length) : (gsp p w l m).set k (endP p w l k) = gsp p w l (m + 1) := by
  apply List.ext_getElem
  · simp [gsp]
  · intro i h1 h2
    have hi : i < l.length := by simpa [gsp] using h1
    simp only [gsp, List.getElem_set, List.getElem_map, List.getElem_range]
    by_cases e : k = i
    · subst e; rw [if_pos rfl, if_pos (by omega)]
    · rw [if_neg e]
      by_cases h3 : l.length ≤ i + m
      · rw [if_pos h3, if_pos (by omega)]
      · rw [if_neg h3, if_neg (by omega)]
theorem gsp_all {p w l} {m : Nat} (h : l.length ≤ m) : gsp p w l m = endsP p w l := by
  unfold gsp endsP
  apply List.map_congr_left
  intro k hk
  rw [if_pos (by omega)]
theorem gsp_at {p w l} {k m : Nat} (h : k < l.length) : (gsp p w l m)[k]'(by rw [gsp_len]; exact h) = if l.length ≤ k + m then endP p w l k else Fp p w l k := by simp [gsp]
def hereF (p : Plw) (w : List Sp) (l : List Int) (i : Nat) : Sp := if i = 0 then ⟨0, 0⟩ else Fp p w l (i - 1)
theorem hereF_succ (p w l) (i : Nat) : hereF p w l (i + 1) = Fp p w l i := by simp [hereF]
theorem pbF_small {p : Plw} (hp : OkP p) (w l) (k : Nat) : 0 ≤ (Fp p w l k).lo ∧ (Fp p w l k).hi ≤ 65536 := F_small (fun i => hp.allow_in i _) k
theorem reach_F {p w l} {i : Nat} (h : i < l.length) : reachP p w i (l[i]) (hereF p w l i) = Fp p w l i := by
  have hs : (p.pb w).a l i = p.allow i l[i] := by show p.allow i (l.getD i 0) = _; rw [List.getD_eq_getElem?_getD, List.getElem?_eq_getElem h]; rfl
  unfold reachP hereF Fp
  cases i with
  | zero => simp; exact hs.symm
  | succ i =>
    rw [if_neg (by omega), if_neg (by omega)]
    show _ = ((p.pb w).a l (i + 1)).meet _
    rw [hs]
    rfl
set_option maxRecDepth 20000 in
theorem loads_s (p : Plw) (w : List Sp) (l : List Int) (hp : OkP p) (hw : okW p w = true) (hll : l.length = p.log.length) : FSpec Tryz.prog 70 [.agg (eR p w), .sl (ints l)] (.tup [.sl (sps (if aliveP p w l then endsP p w l else [])), B (decide (aliveP p w l))]) (none) := by
  refine FSpec.of_body Tryz.func70 rfl (leB rfl) fun w0 M0 => ?_
  have hil := ints_len l
  have h32 := hp.len
  have hsl := sps_len w
  have hb := okW_WB hw
  have hwl : w.length = p.log.length - 1 := by simp only [okW, Bool.and_eq_true, decide_eq_true_eq] at hw; exact hw.1
  refine AWP.seq ?_
  refine AWP.region ?_
  refine AOps.call (o_box _ rfl rfl rfl) ?_
  refine AOps.call (o_nil (z := 2) (e := 54) rfl) ?_
  refine AOps.call (o_assign _ rfl rfl) ?_
  refine AOps.nil ?_
  refine AWP.seq ?_
  refine AWP.region ?_
  refine AOps.call (o_move _ rfl rfl) ?_
  refine AOps.call (o_len _ Tryz.underlying25 rfl rfl) ?_
  refine AOps.mkarr (n := l.length) (zs := [.int .i64 0, .int .i64 0]) (cs := (sps (fsp p w l 0)).flatten) _ _ Tryz.underlying38 info54 rfl rfl rfl rfl rfl rfl rfl rfl rfl (by rw [hil]) (by omega) rfl rfl (fsp_zero p w l) ?_
  refine AOps.call (o_assign _ rfl rfl) ?_
  refine AOps.nil ?_
  refine AWP.seq ?_
  refine AWP.region ?_
  refine AOps.call (o_alloc ze54 rfl rfl) ?_
  refine AOps.nil ?_
  refine AWP.seq ?_
  refine AWP.seq ?_
  refine AWP.region ?_
  refine AOps.call (o_move _ rfl rfl) ?_
  refine AOps.call (o_len _ Tryz.underlying25 rfl rfl) ?_
  refine AOps.call (o_move _ rfl rfl) ?_
  refine AOps.nil ?_
  refine AWP.block ?_
  refine AWP.loop (ι := Nat) (fun i => AS.mk' 61 [(1, .sl (ints l)), (2, .ref (2, 0) 0), (6, .arr (13, 0) 0 l.length l.length), (7, .ref (7, 0) 0), (14, .sl (ints l)), (15, I (ints l).length), (16, I i)] [((2, 0), eR p w), ((7, 0), eN (hereF p w l i)), ((13, 0), (sps (fsp p w l i)).flatten)] [] [(2, 1), (7, 1), (13, 1)]) (fun i => i ≤ l.length ∧ ∀ k, k < i → (Fp p w l k).Ne) (fun i => l.length - i) (0) (Weak.mk' rfl ⟨⟨.refl rfl, rfl⟩, ⟨⟨.refl rfl, rfl⟩, ⟨⟨.refl rfl, rfl⟩, ⟨⟨.refl rfl, rfl⟩, ⟨⟨.refl rfl, rfl⟩, ⟨⟨.refl rfl, rfl⟩, ⟨⟨.refl rfl, rfl⟩, trivial⟩⟩⟩⟩⟩⟩⟩ ⟨⟨rfl, rfl, rfl⟩, ⟨⟨rfl, rfl, rfl⟩, ⟨⟨rfl, lowL_sc _ _ (sps_scs _), rfl⟩, trivial⟩⟩⟩ trivial) (⟨Nat.zero_le _, fun k hk => absurd hk (Nat.not_lt_zero _)⟩) ?_
  rintro k ⟨hk, hne⟩
  try dsimp only at *
  refine AWP.seq ?_
  refine AWP.region ?_
  refine AOps.call (o_bin _ _ rfl rfl (fun _ => rfl) rfl) ?_
  refine AOps.nil ?_
  refine AWP.seq ?_
  refine AWP.cond _ rfl (fun h11 => ?_) (fun h11 => ?_)
  · skip
    have hlt : k < l.length := by simpa [ints] using h11
    have hel := ints_at hlt
    have hrb : (k : Int) ≠ 0 → -9000000000 ≤ (hereF p w l k).lo ∧ (hereF p w l k).lo ≤ 9000000000 ∧ -9000000000 ≤ (hereF p w l k).hi ∧ (hereF p w l k).hi ≤ 9000000000 := fun h0 => by
      unfold hereF
      rw [if_neg (by omega)]
      have h1 := pbF_small hp w l (k - 1)
      have h2 := hne (k - 1) (by omega)
      simp only [Sp.Ne] at h2
      omega
    refine AWP.skip ?_
    refine AWP.seq ?_
    refine AWP.block ?_
    refine AWP.seq ?_
    refine AWP.region ?_
    refine AOps.call (o_move _ rfl rfl) ?_
    refine AOps.call (o_index _ _ Tryz.underlying25 Tryz.sizeOf3 rfl rfl (by omega) (by assumption) rfl rfl) ?_
    refine AOps.call (o_loadRd _ rfl Tryz.sizeOf3 Tryz.isAgg3 rfl rfl rfl) ?_
    refine AOps.call (o_assign _ rfl rfl) ?_
    refine AOps.call (o_assign _ rfl rfl) ?_
    refine AOps.nil ?_
    refine AWP.seq ?_
    refine AWP.region ?_
    refine AOps.call (o_loadRef _ rfl rfl Tryz.sizeOf91 Tryz.isAgg91 rfl rfl rfl) ?_
    refine AOps.call (o_move _ rfl rfl) ?_
    refine AOps.call (o_move _ rfl rfl) ?_
    refine AOps.call (o_loadRef _ rfl rfl Tryz.sizeOf54 Tryz.isAgg54 rfl rfl rfl) ?_
    refine AOps.call (o_call (reached_s p w hp hw k l[k] (hereF p w l k) (by omega) (by omega) hrb) Tryz.call94 rfl rfl) ?_
    refine AOps.cons (o_store _ _ rfl rfl Tryz.sizeOf54 rfl rfl rfl rfl rfl) ?_
    refine AOps.nil ?_
    refine AWP.seq ?_
    refine AWP.seq ?_
    refine AWP.region ?_
    refine AOps.call (o_loadRef _ rfl rfl Tryz.sizeOf54 Tryz.isAgg54 rfl rfl rfl) ?_
    refine AOps.call (o_call (isEmpty_s (reachP p w k l[k] (hereF p w l k))) Tryz.call95 rfl rfl) ?_
    refine AOps.nil ?_
    refine AWP.cond _ rfl (fun h19 => ?_) (fun h19 => ?_)
    · skip
      have hE : ¬ aliveP p w l := fun ha => by
        have h1 := ha k hlt
        have h2 := of_decide_eq_true h19
        rw [reach_F hlt] at h2
        simp only [Sp.Ne] at h1
        unfold Fp at h2
        omega
      refine AWP.seq ?_
      refine AWP.region ?_
      refine AOps.call (o_nil (z := 2) (e := 54) rfl) ?_
      refine AOps.call (o_assign _ rfl rfl) ?_
      refine AOps.nil ?_
      refine AWP.ret ?_
      refine postQ.ret2 Tryz.results70 rfl rfl ?_
      first
      | (rw [if_neg hE, decide_eq_false hE]; rfl)
      | (rw [if_pos hal, decide_eq_true hal]; rfl)
    · skip
      have hnk : (Fp p w l k).Ne := by
        have h2 := of_decide_eq_false h19
        rw [reach_F hlt] at h2
        simp only [Sp.Ne]
        omega
      refine AWP.skip ?_
      refine AWP.region ?_
      refine AOps.call (o_move _ rfl rfl) ?_
      refine AOps.call (o_move _ rfl rfl) ?_
      refine AOps.call (o_loadRef _ rfl rfl Tryz.sizeOf54 Tryz.isAgg54 rfl rfl rfl) ?_
      refine AOps.call (o_indexArr (o := k * 2) _ _ Tryz.underlying38 Tryz.sizeOf54 rfl rfl (by omega) (by omega) (by omega) rfl) ?_
      refine AOps.cons (o_storeE _ _ rfl rfl Tryz.sizeOf54 rfl rfl (by rw [sps_flen, fsp_len]; omega) ((sps_set (by rw [fsp_len]; exact hlt)).trans (by rw [reach_F hlt, fsp_step hlt])) rfl) ?_
      refine AOps.nil ?_
      refine AWP.region ?_
      refine AOps.call (o_add _ _ rfl rfl ⟨by (try dsimp only); omega, by (try dsimp only); omega⟩ rfl) ?_
      refine AOps.call (o_move _ rfl rfl) ?_
      refine AOps.nil ?_
      refine ⟨k + 1, ?_, (Weak.mk' rfl ⟨⟨.refl rfl, rfl⟩, ⟨⟨.refl rfl, rfl⟩, ⟨⟨.refl rfl, rfl⟩, ⟨⟨.refl rfl, rfl⟩, ⟨⟨.refl rfl, rfl⟩, ⟨⟨.refl rfl, rfl⟩, ⟨⟨.refl rfl, rfl⟩, trivial⟩⟩⟩⟩⟩⟩⟩ ⟨⟨rfl, rfl, rfl⟩, ⟨⟨(by rw [hereF_succ, ← reach_F hlt]; rfl), rfl, rfl⟩, ⟨⟨rfl, lowL_sc _ _ (sps_scs _), rfl⟩, trivial⟩⟩⟩ trivial)⟩
      refine ⟨⟨by omega, fun j hj => ?_⟩, by omega⟩
      by_cases e : j = k
      · subst e; exact hnk
      · exact hne j (by omega)
  · skip
    have hkl : k = l.length := by have := of_decide_eq_false h11; omega
    subst hkl
    have hal : aliveP p w l := fun j hj => hne j hj
    refine AWP.exit ?_
    refine AWP.seq ?_
    refine AWP.seq ?_
    refine AWP.region ?_
    refine AOps.call (o_move _ rfl rfl) ?_
    refine AOps.call (o_len _ Tryz.underlying25 rfl rfl) ?_
    refine AOps.call (o_sub _ _ rfl rfl ⟨by (try dsimp only); omega, by (try dsimp only); omega⟩ rfl) ?_
    refine AOps.call (o_assign _ rfl rfl) ?_
    refine AOps.nil ?_
    refine AWP.block ?_
    refine AWP.loop (ι := Nat) (fun i => AS.mk' 61 [(1, .sl (ints l)), (2, .ref (2, 0) 0), (6, .arr (13, 0) 0 l.length l.length), (10, I ((l.length : Int) - 2 - i))] [((2, 0), eR p w), ((13, 0), (sps (gsp p w l (i + 1))).flatten)] [] [(2, 1), (13, 1)]) (fun i => i ≤ l.length) (fun i => l.length - i) (0) (Weak.mk' rfl ⟨⟨.refl rfl, rfl⟩, ⟨⟨.refl rfl, rfl⟩, ⟨⟨.refl rfl, rfl⟩, ⟨⟨.refl (congrArg I (by (try dsimp only); omega)), rfl⟩, trivial⟩⟩⟩⟩ ⟨⟨rfl, rfl, rfl⟩, ⟨⟨(by rw [fsp_gsp]; rfl), lowL_sc _ _ (sps_scs _), rfl⟩, trivial⟩⟩ trivial) (Nat.zero_le _) ?_
    rintro k hk
    try dsimp only at *
    refine AWP.seq ?_
    refine AWP.seq ?_
    refine AWP.region ?_
    refine AOps.call (o_move _ rfl rfl) ?_
    refine AOps.call (o_bin _ _ rfl rfl (fun _ => rfl) rfl) ?_
    refine AOps.nil ?_
    refine AWP.cond _ rfl (fun h28 => ?_) (fun h28 => ?_)
    · skip
      have hk0 : (0 : Int) ≤ (l.length : Int) - 2 - k := of_decide_eq_true h28
      obtain ⟨kk, hkk⟩ : ∃ kk : Nat, (kk : Int) = (l.length : Int) - 2 - k := ⟨((l.length : Int) - 2 - k).toNat, by omega⟩
      have hp1 : partA true 2 ((sps (gsp p w l (k + 1))).flatten.drop (kk * 2)) = some (.agg (eN (Fp p w l kk))) := by
        rw [sps_part (by rw [gsp_len]; omega), gsp_at (by omega), if_neg (by omega)]
      have hp2 : partA true 2 ((sps (gsp p w l (k + 1))).flatten.drop ((kk + 1) * 2)) = some (.agg (eN (endP p w l (kk + 1)))) := by
        rw [sps_part (by rw [gsp_len]; omega), gsp_at (by omega), if_pos (by omega)]
      have hEk : endP p w l kk = (Fp p w l kk).meet ((endP p w l (kk + 1)).minus (wf w kk)) := En_succ (by omega)
      have hst : splice (sps (gsp p w l (k + 1))).flatten (eN ((Fp p w l kk).meet ((endP p w l (kk + 1)).minus (wf w kk)))) (kk * 2) = (sps (gsp p w l (k + 1 + 1))).flatten := by
        rw [sps_set (by rw [gsp_len]; omega), ← hEk, gsp_step (by omega)]
      have hmi : inI64 ((endP p w l (kk + 1)).lo - (wf w kk).hi) ∧ inI64 ((endP p w l (kk + 1)).hi - (wf w kk).lo) := by
        have h1 : (endP p w l (kk + 1)).In ((p.pb w).a l (kk + 1)) := En_in
        have h2 : 0 ≤ ((p.pb w).a l (kk + 1)).lo ∧ ((p.pb w).a l (kk + 1)).hi ≤ 65536 := hp.allow_in _ _
        have h3 : (endP p w l (kk + 1)).Ne := En_ne (fun j _ => (hb j).2.2) hal (by omega)
        have h4 := hb kk
        simp only [Sp.In, Sp.Ne] at h1 h3
        simp only [okRange]
        omega
      refine AWP.skip ?_
      refine AWP.seq ?_
      refine AWP.block ?_
      refine AWP.drawn 20 mixed (by kernel_rfl) ?_
      refine AHead.call (o_move _ rfl rfl) rfl ?_
      refine AHead.call (o_move _ rfl rfl) rfl ?_
      refine AHead.call (o_move _ rfl rfl) rfl ?_
      refine AHead.call (o_move _ rfl rfl) rfl ?_
      refine AHead.call (o_indexArr (o := kk * 2) _ _ Tryz.underlying38 Tryz.sizeOf54 rfl rfl (by omega) (by omega) (by omega) rfl) rfl ?_
      refine AHead.call (o_loadRefE (v := .agg (eN (Fp p w l kk))) _ rfl rfl Tryz.sizeOf54 Tryz.isAgg54 hp1 rfl) rfl ?_
      refine AHead.call (o_move _ rfl rfl) rfl ?_
      refine AHead.call (o_move _ rfl rfl) rfl ?_
      refine AHead.call (o_add _ _ rfl rfl ⟨by (try dsimp only); omega, by (try dsimp only); omega⟩ rfl) rfl ?_
      refine AHead.call (o_indexArr (o := (kk + 1) * 2) _ _ Tryz.underlying38 Tryz.sizeOf54 rfl rfl (by omega) (by omega) (by omega) rfl) rfl ?_
      refine AHead.call (o_loadRefE (v := .agg (eN (endP p w l (kk + 1)))) _ rfl rfl Tryz.sizeOf54 Tryz.isAgg54 hp2 rfl) rfl ?_
      refine AHead.call (o_fieldRef _ rfl fa91_1 rfl rfl) rfl ?_
      refine AHead.call (o_loadRef _ rfl rfl Tryz.sizeOf89 Tryz.isAgg89 rfl rfl rfl) rfl ?_
      refine AHead.call (o_move _ rfl rfl) rfl ?_
      refine AHead.call (o_move _ rfl rfl) rfl ?_
      refine AHead.call (o_add _ _ rfl rfl ⟨by (try dsimp only); omega, by (try dsimp only); omega⟩ rfl) rfl ?_
      refine AHead.call (o_call (between1_s w kk _ _ (by omega) (by omega) (by omega) hb (by omega)) Tryz.call98 rfl rfl) rfl ?_
      refine AHead.call (o_call (minus_s (endP p w l (kk + 1)) (wf w kk) hmi) Tryz.call97 rfl rfl) rfl ?_
      refine AHead.call (o_call (meet_s (Fp p w l kk) ((endP p w l (kk + 1)).minus (wf w kk))) Tryz.call96 rfl rfl) rfl ?_
      refine AHead.call (o_indexArr (o := kk * 2) _ _ Tryz.underlying38 Tryz.sizeOf54 rfl rfl (by omega) (by omega) (by omega) rfl) rfl ?_
      refine AHead.nil ?_
      refine AOps.cons (o_storeE _ _ rfl rfl Tryz.sizeOf54 rfl rfl (by rw [sps_flen, gsp_len]; omega) hst rfl) ?_
      refine AOps.nil ?_
      refine AWP.region ?_
      refine AOps.call (o_move _ rfl rfl) ?_
      refine AOps.call (o_sub _ _ rfl rfl ⟨by (try dsimp only); omega, by (try dsimp only); omega⟩ rfl) ?_
      refine AOps.call (o_assign _ rfl rfl) ?_
      refine AOps.nil ?_
      refine ⟨k + 1, ?_, (Weak.mk' rfl ⟨⟨.refl rfl, rfl⟩, ⟨⟨.refl rfl, rfl⟩, ⟨⟨.refl rfl, rfl⟩, ⟨⟨.refl (congrArg I (by (try dsimp only); omega)), rfl⟩, trivial⟩⟩⟩⟩ ⟨⟨rfl, rfl, rfl⟩, ⟨⟨rfl, lowL_sc _ _ (sps_scs _), rfl⟩, trivial⟩⟩ trivial)⟩
      exact ⟨by omega, by omega⟩
    · skip
      have hk0 : ¬ (0 : Int) ≤ (l.length : Int) - 2 - k := of_decide_eq_false h28
      refine AWP.weak (Weak.frz (id := (13, 0)) (t := 6) (z := 2) (es := sps (endsP p w l)) (cs' := (sps (endsP p w l)).flatten) rfl rfl (by rw [gsp_all (by omega)]; exact closeL_self _ (sc_self (sps_scs _))) rfl sps_z (by rw [sps_len]; simp [endsP])) ?_
      refine AWP.exit ?_
      refine AWP.seq ?_
      refine AWP.region ?_
      refine AOps.call (o_move _ rfl rfl) ?_
      refine AOps.call (o_assign _ rfl rfl) ?_
      refine AOps.call (o_assign _ rfl rfl) ?_
      refine AOps.nil ?_
      refine AWP.ret ?_
      refine postQ.ret2 Tryz.results70 rfl rfl ?_
      first
      | (rw [if_neg hE, decide_eq_false hE]; rfl)
      | (rw [if_pos hal, decide_eq_true hal]; rfl)
end Go.Proofs.YtelenedgaoglaaaGreatDoor
set_option linter.unusedSimpArgs false
set_option linter.unusedVariables false
namespace Go.Proofs.YtelenedgaoglaaaGreatDoor
open Go.Ab
open Go.Pil
def rcE (p : Plw) (w : List Sp) (l : List Int) : Int := if okP p = false then 30 else if okW p w = false then 1 else caseE p l
theorem rcE_0 {p w l} : rcE p w l = 0 ↔ okP p = true ∧ okW p w = true ∧ l.length = p.log.length ∧ Rt (p.pb []) l := by
  unfold rcE caseE
  cases h1 : okP p <;> cases h2 : okW p w <;> simp
theorem caseE_0 {p l} (h : caseE p l = 0) : OkP p ∧ l.length = p.log.length ∧ Rt (p.pb []) l := by
  unfold caseE at h
  cases h1 : okP p with
  | false => simp [h1] at h
  | true =>
    simp only [h1, Bool.true_eq_false, if_false] at h
    by_cases h2 : l.length = p.log.length ∧ Rt (p.pb []) l
    · exact ⟨okP_iff.1 h1, h2⟩
    · rw [if_neg h2] at h; omega
theorem find_first {α : Type} {lt : α → α → Prop} {q : α → Bool} : ∀ {l : List α} {x : α}, l.Pairwise lt → x ∈ l → q x = true → (∀ y ∈ l, lt y x → q y = false) → l.find? q = some x := by
  intro l
  induction l with
  | nil => intro x _ h; cases h
  | cons y l ih =>
    intro x hp hx hq hno
    obtain ⟨h1, h2⟩ := List.pairwise_cons.1 hp
    by_cases e : y = x
    · subst e; exact List.find?_cons_of_pos hq
    · have hx' : x ∈ l := by
        rcases List.mem_cons.1 hx with h | h
        · exact absurd h.symm e
        · exact h
      rw [List.find?_cons_of_neg (by rw [hno y List.mem_cons_self (h1 x hx')]; decide)]
      exact ih h2 hx' hq fun z hz => hno z (List.mem_cons_of_mem _ hz)
def lexP (a b : Nat × Nat) : Prop := a.1 < b.1 ∨ a.1 = b.1 ∧ a.2 < b.2
theorem pairs_lex (n : Nat) : (pairs n).Pairwise lexP := by
  unfold pairs
  rw [List.pairwise_flatMap]
  refine ⟨fun i _ => ?_, ?_⟩
  · rw [List.pairwise_map]
    exact (List.pairwise_lt_range.filter _).imp fun {a b} h => .inr ⟨rfl, h⟩
  · refine List.pairwise_lt_range.imp fun {a b} h x hx y hy => ?_
    obtain ⟨k, _, rfl⟩ := List.mem_map.1 hx
    obtain ⟨j, _, rfl⟩ := List.mem_map.1 hy
    exact .inl h
theorem refute_first {p w l} {i k : Nat} (h1 : i < k) (h2 : k < l.length) (h : againstP p w l i k) (hno : ∀ a b, a < b → b < l.length → lexP (a, b) (i, k) → ¬ againstP p w l a b) : refuteP p w l = some (i, k) := by
  unfold refuteP
  refine find_first (lt := lexP) (pairs_lex _) (mem_pairs.2 ⟨h1, h2⟩) (decide_eq_true h) fun y hy hl => ?_
  obtain ⟨g1, g2⟩ := mem_pairs.1 hy
  exact decide_eq_false (hno y.1 y.2 g1 g2 hl)
theorem refute_none' {p w l} (hno : ∀ a b, a < b → b < l.length → ¬ againstP p w l a b) : refuteP p w l = none := by
  unfold refuteP
  rw [List.find?_eq_none]
  intro y hy
  obtain ⟨g1, g2⟩ := mem_pairs.1 hy
  simpa using hno y.1 y.2 g1 g2
def refA (x : Option (Nat × Nat)) : AV := match x with | none => .agg [I 0, I 0] | some (i, k) => .agg [I i, I k]
set_option maxRecDepth 20000 in
theorem Alive_ok (p : Plw) (w : List Sp) (l : List Int) (hw1 : w.length ≤ 9223372036854775807) (hl1 : l.length ≤ 9223372036854775807) (he : okP p = true) (hq : okW p w = true) : FSpec Tryz.prog 25 [.agg (eP p), .sl (sps w), .sl (ints l)] (.tup [B (decide (caseE p l = 0 ∧ aliveP p w l)), I (caseE p l)]) (none) := by
  refine FSpec.of_body Tryz.func25 rfl (leB rfl) fun w0 M0 => ?_
  refine AWP.seq ?_
  refine AWP.region ?_
  refine AOps.call (o_box _ rfl rfl rfl) ?_
  refine AOps.call (o_assign _ rfl rfl) ?_
  refine AOps.call (o_assign _ rfl rfl) ?_
  refine AOps.nil ?_
  refine AWP.seq ?_
  refine AWP.region ?_
  refine AOps.call (o_loadRef _ rfl rfl Tryz.sizeOf24 Tryz.isAgg24 rfl rfl rfl) ?_
  refine AOps.call (o_move _ rfl rfl) ?_
  refine AOps.call (o_move _ rfl rfl) ?_
  refine AOps.call (o_call (readCase_ok p w l hw1 hl1 he hq) Tryz.call69 rfl rfl) ?_
  refine AOps.call (o_move _ rfl rfl) ?_
  refine AOps.call (o_extract _ rfl rfl rfl rfl) ?_
  refine AOps.call (o_extract _ rfl rfl rfl rfl) ?_
  refine AOps.call (o_alloc ze91 rfl rfl) ?_
  refine AOps.cons (o_store _ _ rfl rfl Tryz.sizeOf91 rfl rfl rfl rfl rfl) ?_
  refine AOps.call (o_assign _ rfl rfl) ?_
  refine AOps.nil ?_
  refine AWP.seq ?_
  refine AWP.seq ?_
  refine AWP.region ?_
  refine AOps.call (o_move _ rfl rfl) ?_
  refine AOps.call (o_bin _ _ rfl rfl (fun _ => rfl) rfl) ?_
  refine AOps.nil ?_
  refine AWP.cond _ rfl (fun h11 => ?_) (fun h11 => ?_)
  · skip
    have hne : caseE p l ≠ 0 := by simpa using h11
    refine AWP.seq ?_
    refine AWP.region ?_
    refine AOps.call (o_move _ rfl rfl) ?_
    refine AOps.call (o_assign _ rfl rfl) ?_
    refine AOps.call (o_assign _ rfl rfl) ?_
    refine AOps.nil ?_
    refine AWP.ret ?_
    refine postQ.ret2 Tryz.results25 rfl rfl ?_
    first
    | (rw [decide_eq_false (fun h => hne h.1)]; rfl)
    | (simp only [hz, true_and]; rfl)
  · skip
    have hz : caseE p l = 0 := by simpa using h11
    obtain ⟨hp, hll, hrt⟩ := caseE_0 hz
    refine AWP.skip ?_
    refine AWP.seq ?_
    refine AWP.region ?_
    refine AOps.call (o_loadRef _ rfl rfl Tryz.sizeOf91 Tryz.isAgg91 rfl rfl rfl) ?_
    refine AOps.call (o_move _ rfl rfl) ?_
    refine AOps.call (o_call (loads_s p w l hp hq hll) Tryz.call70 rfl rfl) ?_
    refine AOps.call (o_move _ rfl rfl) ?_
    refine AOps.call (o_extract _ rfl rfl rfl rfl) ?_
    refine AOps.call (o_extract _ rfl rfl rfl rfl) ?_
    refine AOps.call (o_assign _ rfl rfl) ?_
    refine AOps.call (o_assign _ rfl rfl) ?_
    refine AOps.nil ?_
    refine AWP.seq ?_
    refine AWP.region ?_
    refine AOps.call (o_move _ rfl rfl) ?_
    refine AOps.call (o_assign _ rfl rfl) ?_
    refine AOps.call (o_assign _ rfl rfl) ?_
    refine AOps.nil ?_
    refine AWP.ret ?_
    refine postQ.ret2 Tryz.results25 rfl rfl ?_
    first
    | (rw [decide_eq_false (fun h => hne h.1)]; rfl)
    | (simp only [hz, true_and]; rfl)
set_option maxRecDepth 20000 in
theorem Alive_log (p : Plw) (w : List Sp) (l : List Int) (hw1 : w.length ≤ 9223372036854775807) (hl1 : l.length ≤ 9223372036854775807) (he : okP p = false) : FSpec Tryz.prog 25 [.agg (eP p), .sl (sps w), .sl (ints l)] (.tup [B false, I 30]) (none) := by
  refine FSpec.of_body Tryz.func25 rfl (leB rfl) fun w0 M0 => ?_
  refine AWP.seq ?_
  refine AWP.region ?_
  refine AOps.call (o_box _ rfl rfl rfl) ?_
  refine AOps.call (o_assign _ rfl rfl) ?_
  refine AOps.call (o_assign _ rfl rfl) ?_
  refine AOps.nil ?_
  refine AWP.seq ?_
  refine AWP.region ?_
  refine AOps.call (o_loadRef _ rfl rfl Tryz.sizeOf24 Tryz.isAgg24 rfl rfl rfl) ?_
  refine AOps.call (o_move _ rfl rfl) ?_
  refine AOps.call (o_move _ rfl rfl) ?_
  refine AOps.call (o_call (readCase_log p w l hw1 hl1 he) Tryz.call69 rfl rfl) ?_
  refine AOps.call (o_move _ rfl rfl) ?_
  refine AOps.call (o_extract _ rfl rfl rfl rfl) ?_
  refine AOps.call (o_extract _ rfl rfl rfl rfl) ?_
  refine AOps.call (o_alloc ze91 rfl rfl) ?_
  refine AOps.cons (o_store _ _ rfl rfl Tryz.sizeOf91 rfl rfl rfl rfl rfl) ?_
  refine AOps.call (o_assign _ rfl rfl) ?_
  refine AOps.nil ?_
  refine AWP.seq ?_
  refine AWP.seq ?_
  refine AWP.region ?_
  refine AOps.call (o_move _ rfl rfl) ?_
  refine AOps.call (o_bin _ _ rfl rfl (fun _ => rfl) rfl) ?_
  refine AOps.nil ?_
  refine AWP.cond _ rfl (fun h11 => ?_) (fun h11 => ?_)
  · skip
    refine AWP.seq ?_
    refine AWP.region ?_
    refine AOps.call (o_move _ rfl rfl) ?_
    refine AOps.call (o_assign _ rfl rfl) ?_
    refine AOps.call (o_assign _ rfl rfl) ?_
    refine AOps.nil ?_
    refine AWP.ret ?_
    exact postQ.ret2 Tryz.results25 rfl rfl rfl
  · skip
    exfalso
    exact absurd h11 (by decide)
set_option maxRecDepth 20000 in
theorem Alive_arg (p : Plw) (w : List Sp) (l : List Int) (hw1 : w.length ≤ 9223372036854775807) (hl1 : l.length ≤ 9223372036854775807) (he : okP p = true) (hq : okW p w = false) : FSpec Tryz.prog 25 [.agg (eP p), .sl (sps w), .sl (ints l)] (.tup [B false, I 1]) (none) := by
  refine FSpec.of_body Tryz.func25 rfl (leB rfl) fun w0 M0 => ?_
  refine AWP.seq ?_
  refine AWP.region ?_
  refine AOps.call (o_box _ rfl rfl rfl) ?_
  refine AOps.call (o_assign _ rfl rfl) ?_
  refine AOps.call (o_assign _ rfl rfl) ?_
  refine AOps.nil ?_
  refine AWP.seq ?_
  refine AWP.region ?_
  refine AOps.call (o_loadRef _ rfl rfl Tryz.sizeOf24 Tryz.isAgg24 rfl rfl rfl) ?_
  refine AOps.call (o_move _ rfl rfl) ?_
  refine AOps.call (o_move _ rfl rfl) ?_
  refine AOps.call (o_call (readCase_arg p w l hw1 hl1 he hq) Tryz.call69 rfl rfl) ?_
  refine AOps.call (o_move _ rfl rfl) ?_
  refine AOps.call (o_extract _ rfl rfl rfl rfl) ?_
  refine AOps.call (o_extract _ rfl rfl rfl rfl) ?_
  refine AOps.call (o_alloc ze91 rfl rfl) ?_
  refine AOps.cons (o_store _ _ rfl rfl Tryz.sizeOf91 rfl rfl rfl rfl rfl) ?_
  refine AOps.call (o_assign _ rfl rfl) ?_
  refine AOps.nil ?_
  refine AWP.seq ?_
  refine AWP.seq ?_
  refine AWP.region ?_
  refine AOps.call (o_move _ rfl rfl) ?_
  refine AOps.call (o_bin _ _ rfl rfl (fun _ => rfl) rfl) ?_
  refine AOps.nil ?_
  refine AWP.cond _ rfl (fun h11 => ?_) (fun h11 => ?_)
  · skip
    refine AWP.seq ?_
    refine AWP.region ?_
    refine AOps.call (o_move _ rfl rfl) ?_
    refine AOps.call (o_assign _ rfl rfl) ?_
    refine AOps.call (o_assign _ rfl rfl) ?_
    refine AOps.nil ?_
    refine AWP.ret ?_
    exact postQ.ret2 Tryz.results25 rfl rfl rfl
  · skip
    exfalso
    exact absurd h11 (by decide)
theorem Alive_s (p : Plw) (w : List Sp) (l : List Int) (hw1 : w.length ≤ 9223372036854775807) (hl1 : l.length ≤ 9223372036854775807) : FSpec Tryz.prog 25 [.agg (eP p), .sl (sps w), .sl (ints l)] (.tup [B (decide (rcE p w l = 0 ∧ aliveP p w l)), I (rcE p w l)]) none := by
  by_cases he : okP p = true
  · by_cases hq : okW p w = true
    · have h := Alive_ok p w l hw1 hl1 he hq
      have e : rcE p w l = caseE p l := by unfold rcE; rw [if_neg (by rw [he]; decide), if_neg (by rw [hq]; decide)]
      rw [e]; exact h
    · have h := Alive_arg p w l hw1 hl1 he (by simpa using hq)
      have e : rcE p w l = 1 := by unfold rcE; rw [if_neg (by rw [he]; decide), if_pos (by simpa using hq)]
      rw [e]; rw [decide_eq_false (fun h => absurd h.1 (by decide))]; exact h
  · have h := Alive_log p w l hw1 hl1 (by simpa using he)
    have e : rcE p w l = 30 := by unfold rcE; rw [if_pos (by simpa using he)]
    rw [e]; rw [decide_eq_false (fun h => absurd h.1 (by decide))]; exact h
def ldE (p : Plw) (w : List Sp) (l : List Int) (e : Int) : Int := if e = 0 ∧ ¬ aliveP p w l then 33 else e
def ldL (p : Plw) (w : List Sp) (l : List Int) (e : Int) : List Sp := if e = 0 ∧ aliveP p w l then endsP p w l else []
set_option maxRecDepth 20000 in
theorem Loads_ok (p : Plw) (w : List Sp) (l : List Int) (hw1 : w.length ≤ 9223372036854775807) (hl1 : l.length ≤ 9223372036854775807) (he : okP p = true) (hq : okW p w = true) : FSpec Tryz.prog 27 [.agg (eP p), .sl (sps w), .sl (ints l)] (.tup [.sl (sps (ldL p w l (caseE p l))), I (ldE p w l (caseE p l))]) (none) := by
  refine FSpec.of_body Tryz.func27 rfl (leB rfl) fun w0 M0 => ?_
  refine AWP.seq ?_
  refine AWP.region ?_
  refine AOps.call (o_box _ rfl rfl rfl) ?_
  refine AOps.call (o_nil (z := 2) (e := 54) rfl) ?_
  refine AOps.call (o_assign _ rfl rfl) ?_
  refine AOps.nil ?_
  refine AWP.seq ?_
  refine AWP.region ?_
  refine AOps.call (o_loadRef _ rfl rfl Tryz.sizeOf24 Tryz.isAgg24 rfl rfl rfl) ?_
  refine AOps.call (o_move _ rfl rfl) ?_
  refine AOps.call (o_move _ rfl rfl) ?_
  refine AOps.call (o_call (readCase_ok p w l hw1 hl1 he hq) Tryz.call69 rfl rfl) ?_
  refine AOps.call (o_move _ rfl rfl) ?_
  refine AOps.call (o_extract _ rfl rfl rfl rfl) ?_
  refine AOps.call (o_extract _ rfl rfl rfl rfl) ?_
  refine AOps.call (o_alloc ze91 rfl rfl) ?_
  refine AOps.cons (o_store _ _ rfl rfl Tryz.sizeOf91 rfl rfl rfl rfl rfl) ?_
  refine AOps.call (o_assign _ rfl rfl) ?_
  refine AOps.nil ?_
  refine AWP.seq ?_
  refine AWP.seq ?_
  refine AWP.region ?_
  refine AOps.call (o_move _ rfl rfl) ?_
  refine AOps.call (o_bin _ _ rfl rfl (fun _ => rfl) rfl) ?_
  refine AOps.nil ?_
  refine AWP.cond _ rfl (fun h12 => ?_) (fun h12 => ?_)
  · skip
    have hne : caseE p l ≠ 0 := by simpa using h12
    refine AWP.seq ?_
    refine AWP.region ?_
    refine AOps.call (o_move _ rfl rfl) ?_
    refine AOps.call (o_nil (z := 2) (e := 54) rfl) ?_
    refine AOps.call (o_assign _ rfl rfl) ?_
    refine AOps.nil ?_
    refine AWP.ret ?_
    refine postQ.ret2 Tryz.results27 rfl rfl ?_
    first
    | (rw [show ldL p w l (caseE p l) = [] from if_neg (fun h => hne h.1), show ldE p w l (caseE p l) = caseE p l from if_neg (fun h => hne h.1)]; rfl)
    | (rw [show ldL p w l (caseE p l) = [] from if_neg (fun h => hna h.2), show ldE p w l (caseE p l) = 33 from if_pos ⟨hz, hna⟩]; rfl)
    | (rw [show ldL p w l (caseE p l) = endsP p w l from if_pos ⟨hz, hna⟩, show ldE p w l (caseE p l) = 0 from (if_neg (fun h => h.2 hna)).trans hz, if_pos hna]; rfl)
  · skip
    have hz : caseE p l = 0 := by simpa using h12
    obtain ⟨hp, hll, hrt⟩ := caseE_0 hz
    refine AWP.skip ?_
    refine AWP.seq ?_
    refine AWP.region ?_
    refine AOps.call (o_loadRef _ rfl rfl Tryz.sizeOf91 Tryz.isAgg91 rfl rfl rfl) ?_
    refine AOps.call (o_move _ rfl rfl) ?_
    refine AOps.call (o_call (loads_s p w l hp hq hll) Tryz.call70 rfl rfl) ?_
    refine AOps.call (o_move _ rfl rfl) ?_
    refine AOps.call (o_extract _ rfl rfl rfl rfl) ?_
    refine AOps.call (o_extract _ rfl rfl rfl rfl) ?_
    refine AOps.call (o_assign _ rfl rfl) ?_
    refine AOps.call (o_assign _ rfl rfl) ?_
    refine AOps.nil ?_
    refine AWP.seq ?_
    refine AWP.seq ?_
    refine AWP.region ?_
    refine AOps.call (o_move _ rfl rfl) ?_
    refine AOps.call (o_un _ rfl (fun _ => rfl) rfl) ?_
    refine AOps.nil ?_
    refine AWP.cond _ rfl (fun h20 => ?_) (fun h20 => ?_)
    · skip
      have hna : ¬ aliveP p w l := by simpa using h20
      refine AWP.seq ?_
      refine AWP.region ?_
      refine AOps.call (o_nil (z := 2) (e := 54) rfl) ?_
      refine AOps.call (o_assign _ rfl rfl) ?_
      refine AOps.nil ?_
      refine AWP.ret ?_
      refine postQ.ret2 Tryz.results27 rfl rfl ?_
      first
      | (rw [show ldL p w l (caseE p l) = [] from if_neg (fun h => hne h.1), show ldE p w l (caseE p l) = caseE p l from if_neg (fun h => hne h.1)]; rfl)
      | (rw [show ldL p w l (caseE p l) = [] from if_neg (fun h => hna h.2), show ldE p w l (caseE p l) = 33 from if_pos ⟨hz, hna⟩]; rfl)
      | (rw [show ldL p w l (caseE p l) = endsP p w l from if_pos ⟨hz, hna⟩, show ldE p w l (caseE p l) = 0 from (if_neg (fun h => h.2 hna)).trans hz, if_pos hna]; rfl)
    · skip
      have hna : aliveP p w l := by simpa using h20
      refine AWP.skip ?_
      refine AWP.seq ?_
      refine AWP.region ?_
      refine AOps.call (o_move _ rfl rfl) ?_
      refine AOps.call (o_assign _ rfl rfl) ?_
      refine AOps.call (o_assign _ rfl rfl) ?_
      refine AOps.nil ?_
      refine AWP.ret ?_
      refine postQ.ret2 Tryz.results27 rfl rfl ?_
      first
      | (rw [show ldL p w l (caseE p l) = [] from if_neg (fun h => hne h.1), show ldE p w l (caseE p l) = caseE p l from if_neg (fun h => hne h.1)]; rfl)
      | (rw [show ldL p w l (caseE p l) = [] from if_neg (fun h => hna h.2), show ldE p w l (caseE p l) = 33 from if_pos ⟨hz, hna⟩]; rfl)
      | (rw [show ldL p w l (caseE p l) = endsP p w l from if_pos ⟨hz, hna⟩, show ldE p w l (caseE p l) = 0 from (if_neg (fun h => h.2 hna)).trans hz, if_pos hna]; rfl)
set_option maxRecDepth 20000 in
theorem Loads_log (p : Plw) (w : List Sp) (l : List Int) (hw1 : w.length ≤ 9223372036854775807) (hl1 : l.length ≤ 9223372036854775807) (he : okP p = false) : FSpec Tryz.prog 27 [.agg (eP p), .sl (sps w), .sl (ints l)] (.tup [.sl [], I 30]) (none) := by
  refine FSpec.of_body Tryz.func27 rfl (leB rfl) fun w0 M0 => ?_
  refine AWP.seq ?_
  refine AWP.region ?_
  refine AOps.call (o_box _ rfl rfl rfl) ?_
  refine AOps.call (o_nil (z := 2) (e := 54) rfl) ?_
  refine AOps.call (o_assign _ rfl rfl) ?_
  refine AOps.nil ?_
  refine AWP.seq ?_
  refine AWP.region ?_
  refine AOps.call (o_loadRef _ rfl rfl Tryz.sizeOf24 Tryz.isAgg24 rfl rfl rfl) ?_
  refine AOps.call (o_move _ rfl rfl) ?_
  refine AOps.call (o_move _ rfl rfl) ?_
  refine AOps.call (o_call (readCase_log p w l hw1 hl1 he) Tryz.call69 rfl rfl) ?_
  refine AOps.call (o_move _ rfl rfl) ?_
  refine AOps.call (o_extract _ rfl rfl rfl rfl) ?_
  refine AOps.call (o_extract _ rfl rfl rfl rfl) ?_
  refine AOps.call (o_alloc ze91 rfl rfl) ?_
  refine AOps.cons (o_store _ _ rfl rfl Tryz.sizeOf91 rfl rfl rfl rfl rfl) ?_
  refine AOps.call (o_assign _ rfl rfl) ?_
  refine AOps.nil ?_
  refine AWP.seq ?_
  refine AWP.seq ?_
  refine AWP.region ?_
  refine AOps.call (o_move _ rfl rfl) ?_
  refine AOps.call (o_bin _ _ rfl rfl (fun _ => rfl) rfl) ?_
  refine AOps.nil ?_
  refine AWP.cond _ rfl (fun h12 => ?_) (fun h12 => ?_)
  · skip
    refine AWP.seq ?_
    refine AWP.region ?_
    refine AOps.call (o_move _ rfl rfl) ?_
    refine AOps.call (o_nil (z := 2) (e := 54) rfl) ?_
    refine AOps.call (o_assign _ rfl rfl) ?_
    refine AOps.nil ?_
    refine AWP.ret ?_
    exact postQ.ret2 Tryz.results27 rfl rfl rfl
  · skip
    exfalso
    exact absurd h12 (by decide)
set_option maxRecDepth 20000 in
theorem Loads_arg (p : Plw) (w : List Sp) (l : List Int) (hw1 : w.length ≤ 9223372036854775807) (hl1 : l.length ≤ 9223372036854775807) (he : okP p = true) (hq : okW p w = false) : FSpec Tryz.prog 27 [.agg (eP p), .sl (sps w), .sl (ints l)] (.tup [.sl [], I 1]) (none) := by
  refine FSpec.of_body Tryz.func27 rfl (leB rfl) fun w0 M0 => ?_
  refine AWP.seq ?_
  refine AWP.region ?_
  refine AOps.call (o_box _ rfl rfl rfl) ?_
  refine AOps.call (o_nil (z := 2) (e := 54) rfl) ?_
  refine AOps.call (o_assign _ rfl rfl) ?_
  refine AOps.nil ?_
  refine AWP.seq ?_
  refine AWP.region ?_
  refine AOps.call (o_loadRef _ rfl rfl Tryz.sizeOf24 Tryz.isAgg24 rfl rfl rfl) ?_
  refine AOps.call (o_move _ rfl rfl) ?_
  refine AOps.call (o_move _ rfl rfl) ?_
  refine AOps.call (o_call (readCase_arg p w l hw1 hl1 he hq) Tryz.call69 rfl rfl) ?_
  refine AOps.call (o_move _ rfl rfl) ?_
  refine AOps.call (o_extract _ rfl rfl rfl rfl) ?_
  refine AOps.call (o_extract _ rfl rfl rfl rfl) ?_
  refine AOps.call (o_alloc ze91 rfl rfl) ?_
  refine AOps.cons (o_store _ _ rfl rfl Tryz.sizeOf91 rfl rfl rfl rfl rfl) ?_
  refine AOps.call (o_assign _ rfl rfl) ?_
  refine AOps.nil ?_
  refine AWP.seq ?_
  refine AWP.seq ?_
  refine AWP.region ?_
  refine AOps.call (o_move _ rfl rfl) ?_
  refine AOps.call (o_bin _ _ rfl rfl (fun _ => rfl) rfl) ?_
  refine AOps.nil ?_
  refine AWP.cond _ rfl (fun h12 => ?_) (fun h12 => ?_)
  · skip
    refine AWP.seq ?_
    refine AWP.region ?_
    refine AOps.call (o_move _ rfl rfl) ?_
    refine AOps.call (o_nil (z := 2) (e := 54) rfl) ?_
    refine AOps.call (o_assign _ rfl rfl) ?_
    refine AOps.nil ?_
    refine AWP.ret ?_
    exact postQ.ret2 Tryz.results27 rfl rfl rfl
  · skip
    exfalso
    exact absurd h12 (by decide)
theorem Loads_s (p : Plw) (w : List Sp) (l : List Int) (hw1 : w.length ≤ 9223372036854775807) (hl1 : l.length ≤ 9223372036854775807) : FSpec Tryz.prog 27 [.agg (eP p), .sl (sps w), .sl (ints l)] (.tup [.sl (sps (ldL p w l (rcE p w l))), I (ldE p w l (rcE p w l))]) none := by
  by_cases he : okP p = true
  · by_cases hq : okW p w = true
    · have h := Loads_ok p w l hw1 hl1 he hq
      have e : rcE p w l = caseE p l := by unfold rcE; rw [if_neg (by rw [he]; decide), if_neg (by rw [hq]; decide)]
      rw [e]; exact h
    · have h := Loads_arg p w l hw1 hl1 he (by simpa using hq)
      have e : rcE p w l = 1 := by unfold rcE; rw [if_neg (by rw [he]; decide), if_pos (by simpa using hq)]
      rw [e]; unfold ldL ldE; rw [if_neg (fun h => absurd h.1 (by decide)), if_neg (fun h => absurd h.1 (by decide))]; exact h
  · have h := Loads_log p w l hw1 hl1 (by simpa using he)
    have e : rcE p w l = 30 := by unfold rcE; rw [if_pos (by simpa using he)]
    rw [e]; unfold ldL ldE; rw [if_neg (fun h => absurd h.1 (by decide)), if_neg (fun h => absurd h.1 (by decide))]; exact h
set_option maxRecDepth 20000 in
theorem Refute_ok (p : Plw) (w : List Sp) (l : List Int) (hw1 : w.length ≤ 9223372036854775807) (hl1 : l.length ≤ 9223372036854775807) (he : okP p = true) (hq : okW p w = true) : FSpec Tryz.prog 35 [.agg (eP p), .sl (sps w), .sl (ints l)] (.tup [refA (if caseE p l = 0 then refuteP p w l else none), B (decide (caseE p l = 0) && (refuteP p w l).isSome), I (caseE p l)]) (none) := by
  refine FSpec.of_body Tryz.func35 rfl (leB rfl) fun w0 M0 => ?_
  have hil := ints_len l
  refine AWP.seq ?_
  refine AWP.region ?_
  refine AOps.call (o_box _ rfl rfl rfl) ?_
  refine AOps.call (o_alloc ze56 rfl rfl) ?_
  refine AOps.call (o_assign _ rfl rfl) ?_
  refine AOps.call (o_assign _ rfl rfl) ?_
  refine AOps.nil ?_
  refine AWP.seq ?_
  refine AWP.region ?_
  refine AOps.call (o_loadRef _ rfl rfl Tryz.sizeOf24 Tryz.isAgg24 rfl rfl rfl) ?_
  refine AOps.call (o_move _ rfl rfl) ?_
  refine AOps.call (o_move _ rfl rfl) ?_
  refine AOps.call (o_call (readCase_ok p w l hw1 hl1 he hq) Tryz.call69 rfl rfl) ?_
  refine AOps.call (o_move _ rfl rfl) ?_
  refine AOps.call (o_extract _ rfl rfl rfl rfl) ?_
  refine AOps.call (o_extract _ rfl rfl rfl rfl) ?_
  refine AOps.call (o_alloc ze91 rfl rfl) ?_
  refine AOps.cons (o_store _ _ rfl rfl Tryz.sizeOf91 rfl rfl rfl rfl rfl) ?_
  refine AOps.call (o_assign _ rfl rfl) ?_
  refine AOps.nil ?_
  refine AWP.seq ?_
  refine AWP.seq ?_
  refine AWP.region ?_
  refine AOps.call (o_move _ rfl rfl) ?_
  refine AOps.call (o_bin _ _ rfl rfl (fun _ => rfl) rfl) ?_
  refine AOps.nil ?_
  refine AWP.cond _ rfl (fun h12 => ?_) (fun h12 => ?_)
  · skip
    have hne : caseE p l ≠ 0 := by simpa using h12
    refine AWP.seq ?_
    refine AWP.region ?_
    refine AOps.call (o_build bu56 rfl rfl rfl) ?_
    refine AOps.call (o_move _ rfl rfl) ?_
    refine AOps.cons (o_store _ _ rfl rfl Tryz.sizeOf56 rfl rfl rfl rfl rfl) ?_
    refine AOps.call (o_assign _ rfl rfl) ?_
    refine AOps.call (o_assign _ rfl rfl) ?_
    refine AOps.nil ?_
    refine AWP.ret ?_
    refine postQ.retC2 Tryz.results35 rfl rfl Tryz.sizeOf56 Tryz.isAgg56 rfl rfl rfl ?_
    first
    | (rw [if_neg hne, decide_eq_false hne]; rfl)
    | (rw [if_pos hz, decide_eq_true hz, hsome, hz]; rfl)
    | (rw [if_pos hz, decide_eq_true hz, hnone, hz]; rfl)
  · skip
    have hz : caseE p l = 0 := by simpa using h12
    obtain ⟨hp, hll, hrt⟩ := caseE_0 hz
    have h32 := hp.len
    refine AWP.skip ?_
    refine AWP.seq ?_
    refine AWP.region ?_
    refine AOps.call (o_loadRef _ rfl rfl Tryz.sizeOf91 Tryz.isAgg91 rfl rfl rfl) ?_
    refine AOps.call (o_move _ rfl rfl) ?_
    refine AOps.call (o_call (contradiction_s p w l) Tryz.call74 rfl rfl) ?_
    refine AOps.call (o_assign _ rfl rfl) ?_
    refine AOps.nil ?_
    refine AWP.seq ?_
    refine AWP.seq ?_
    refine AWP.region ?_
    refine AOps.call (o_move _ rfl rfl) ?_
    refine AOps.call (o_len _ Tryz.underlying25 rfl rfl) ?_
    refine AOps.call (o_move _ rfl rfl) ?_
    refine AOps.nil ?_
    refine AWP.block ?_
    refine AWP.loop (ι := Nat) (fun i => AS.mk' 50 [(2, .sl (ints l)), (6, .ref (6, 0) 0), (11, .clo 104 [.rd [.clo 102 [.rd (eR p w), .rd [.sl (ints l)]]], .rd (eR p w)]), (29, I (ints l).length), (30, I i)] [((6, 0), [I 0, I 0])] [] [(6, 1)]) (fun i => i ≤ l.length ∧ ∀ a b, a < i → a < b → b < l.length → ¬ againstP p w l a b) (fun i => l.length - i) (0) (Weak.mk' rfl ⟨⟨.refl rfl, rfl⟩, ⟨⟨.refl rfl, rfl⟩, ⟨⟨.refl rfl, rfl⟩, ⟨⟨.refl rfl, rfl⟩, ⟨⟨.refl rfl, rfl⟩, trivial⟩⟩⟩⟩⟩ ⟨⟨rfl, rfl, rfl⟩, trivial⟩ trivial) (⟨Nat.zero_le _, fun a b h => absurd h (Nat.not_lt_zero _)⟩) ?_
    rintro k ⟨hk, hno⟩
    try dsimp only at *
    refine AWP.seq ?_
    refine AWP.region ?_
    refine AOps.call (o_bin _ _ rfl rfl (fun _ => rfl) rfl) ?_
    refine AOps.nil ?_
    refine AWP.seq ?_
    refine AWP.cond _ rfl (fun h21 => ?_) (fun h21 => ?_)
    · skip
      have hlt : k < l.length := by have := of_decide_eq_true h21; omega
      refine AWP.skip ?_
      refine AWP.seq ?_
      refine AWP.block ?_
      refine AWP.seq ?_
      refine AWP.region ?_
      refine AOps.call (o_move _ rfl rfl) ?_
      refine AOps.call (o_assign _ rfl rfl) ?_
      refine AOps.nil ?_
      refine AWP.seq ?_
      refine AWP.region ?_
      refine AOps.call (o_move _ rfl rfl) ?_
      refine AOps.call (o_add _ _ rfl rfl ⟨by (try dsimp only); omega, by (try dsimp only); omega⟩ rfl) ?_
      refine AOps.call (o_assign _ rfl rfl) ?_
      refine AOps.nil ?_
      refine AWP.block ?_
      refine AWP.loop (ι := Nat) (fun i => AS.mk' 50 [(2, .sl (ints l)), (6, .ref (6, 0) 0), (11, .clo 104 [.rd [.clo 102 [.rd (eR p w), .rd [.sl (ints l)]]], .rd (eR p w)]), (12, I k), (13, I i), (29, I (ints l).length), (30, I k)] [((6, 0), [I 0, I 0])] [] [(6, 1)]) (fun i => k < i ∧ i ≤ l.length ∧ ∀ b, k < b → b < i → ¬ againstP p w l k b) (fun i => l.length - i) (k + 1) (Weak.mk' rfl ⟨⟨.refl rfl, rfl⟩, ⟨⟨.refl rfl, rfl⟩, ⟨⟨.refl rfl, rfl⟩, ⟨⟨.refl rfl, rfl⟩, ⟨⟨.refl (congrArg I (by (try dsimp only); omega)), rfl⟩, ⟨⟨.refl rfl, rfl⟩, ⟨⟨.refl rfl, rfl⟩, trivial⟩⟩⟩⟩⟩⟩⟩ ⟨⟨rfl, rfl, rfl⟩, trivial⟩ trivial) (⟨by omega, by omega, fun b h1 h2 => by omega⟩) ?_
      rintro m ⟨hm0, hm, hno2⟩
      try dsimp only at *
      refine AWP.seq ?_
      refine AWP.seq ?_
      refine AWP.region ?_
      refine AOps.call (o_move _ rfl rfl) ?_
      refine AOps.call (o_move _ rfl rfl) ?_
      refine AOps.call (o_len _ Tryz.underlying25 rfl rfl) ?_
      refine AOps.call (o_bin _ _ rfl rfl (fun _ => rfl) rfl) ?_
      refine AOps.nil ?_
      refine AWP.cond _ rfl (fun h26 => ?_) (fun h26 => ?_)
      · skip
        have hmt : m < l.length := by have := of_decide_eq_true h26; omega
        refine AWP.skip ?_
        refine AWP.seq ?_
        refine AWP.block ?_
        refine AWP.seq ?_
        refine AWP.region ?_
        refine AOps.call (o_move _ rfl rfl) ?_
        refine AOps.call (o_move _ rfl rfl) ?_
        refine AOps.call (o_move _ rfl rfl) ?_
        refine AOps.call (o_callV (cl := [I k, I m]) (ccl := [.rd [.clo 102 [.rd (eR p w), .rd [.sl (ints l)]]], .rd (eR p w)]) _ rfl (contr2_s p w l hp hq hll k m (by omega) (by omega)) Tryz.call104 rfl rfl rfl) ?_
        refine AOps.nil ?_
        refine AWP.cond _ rfl (fun h28 => ?_) (fun h28 => ?_)
        · skip
          have hag : againstP p w l k m := of_decide_eq_true h28
          have hsome : refuteP p w l = some (k, m) := refute_first hm0 hmt hag fun a b h1 h2 h3 => by
            rcases h3 with h3 | ⟨h3, h4⟩
            · exact hno a b h3 h1 h2
            · have h5 : a = k := h3
              subst h5
              exact hno2 b h1 h4
          refine AWP.seq ?_
          refine AWP.region ?_
          refine AOps.call (o_move _ rfl rfl) ?_
          refine AOps.call (o_move _ rfl rfl) ?_
          refine AOps.call (o_build bu56 rfl rfl rfl) ?_
          refine AOps.cons (o_store _ _ rfl rfl Tryz.sizeOf56 rfl rfl rfl rfl rfl) ?_
          refine AOps.call (o_assign _ rfl rfl) ?_
          refine AOps.call (o_assign _ rfl rfl) ?_
          refine AOps.nil ?_
          refine AWP.ret ?_
          refine postQ.retC2 Tryz.results35 rfl rfl Tryz.sizeOf56 Tryz.isAgg56 rfl rfl rfl ?_
          first
          | (rw [if_neg hne, decide_eq_false hne]; rfl)
          | (rw [if_pos hz, decide_eq_true hz, hsome, hz]; rfl)
          | (rw [if_pos hz, decide_eq_true hz, hnone, hz]; rfl)
        · skip
          have hnk : ¬ againstP p w l k m := of_decide_eq_false h28
          refine AWP.skip ?_
          refine AWP.region ?_
          refine AOps.call (o_move _ rfl rfl) ?_
          refine AOps.call (o_add _ _ rfl rfl ⟨by (try dsimp only); omega, by (try dsimp only); omega⟩ rfl) ?_
          refine AOps.call (o_assign _ rfl rfl) ?_
          refine AOps.nil ?_
          refine ⟨m + 1, ?_, (Weak.mk' rfl ⟨⟨.refl rfl, rfl⟩, ⟨⟨.refl rfl, rfl⟩, ⟨⟨.refl rfl, rfl⟩, ⟨⟨.refl rfl, rfl⟩, ⟨⟨.refl (congrArg I (by (try dsimp only); omega)), rfl⟩, ⟨⟨.refl rfl, rfl⟩, ⟨⟨.refl rfl, rfl⟩, trivial⟩⟩⟩⟩⟩⟩⟩ ⟨⟨rfl, rfl, rfl⟩, trivial⟩ trivial)⟩
          refine ⟨⟨by omega, by omega, fun b h1 h2 => ?_⟩, by omega⟩
          by_cases e : b = m
          · subst e; exact hnk
          · exact hno2 b h1 (by omega)
      · skip
        have hmm : m = l.length := by have := of_decide_eq_false h26; omega
        refine AWP.exit ?_
        refine AWP.region ?_
        refine AOps.call (o_add _ _ rfl rfl ⟨by (try dsimp only); omega, by (try dsimp only); omega⟩ rfl) ?_
        refine AOps.call (o_move _ rfl rfl) ?_
        refine AOps.nil ?_
        refine ⟨k + 1, ?_, (Weak.mk' rfl ⟨⟨.refl rfl, rfl⟩, ⟨⟨.refl rfl, rfl⟩, ⟨⟨.refl rfl, rfl⟩, ⟨⟨.refl rfl, rfl⟩, ⟨⟨.refl rfl, rfl⟩, trivial⟩⟩⟩⟩⟩ ⟨⟨rfl, rfl, rfl⟩, trivial⟩ trivial)⟩
        exact ⟨⟨by omega, fun a b h1 h2 h3 => by
          by_cases e : a = k
          · subst e; exact hno2 b h2 (by omega) 
          · exact hno a b (by omega) h2 h3⟩, by omega⟩
    · skip
      have hnone : refuteP p w l = none := refute_none' fun a b h1 h2 => hno a b (by have := of_decide_eq_false h21; omega) h1 h2
      refine AWP.exit ?_
      refine AWP.seq ?_
      refine AWP.region ?_
      refine AOps.call (o_build bu56 rfl rfl rfl) ?_
      refine AOps.cons (o_store _ _ rfl rfl Tryz.sizeOf56 rfl rfl rfl rfl rfl) ?_
      refine AOps.call (o_assign _ rfl rfl) ?_
      refine AOps.call (o_assign _ rfl rfl) ?_
      refine AOps.nil ?_
      refine AWP.ret ?_
      refine postQ.retC2 Tryz.results35 rfl rfl Tryz.sizeOf56 Tryz.isAgg56 rfl rfl rfl ?_
      first
      | (rw [if_neg hne, decide_eq_false hne]; rfl)
      | (rw [if_pos hz, decide_eq_true hz, hsome, hz]; rfl)
      | (rw [if_pos hz, decide_eq_true hz, hnone, hz]; rfl)
set_option maxRecDepth 20000 in
theorem Refute_log (p : Plw) (w : List Sp) (l : List Int) (hw1 : w.length ≤ 9223372036854775807) (hl1 : l.length ≤ 9223372036854775807) (he : okP p = false) : FSpec Tryz.prog 35 [.agg (eP p), .sl (sps w), .sl (ints l)] (.tup [.agg [I 0, I 0], B false, I 30]) (none) := by
  refine FSpec.of_body Tryz.func35 rfl (leB rfl) fun w0 M0 => ?_
  refine AWP.seq ?_
  refine AWP.region ?_
  refine AOps.call (o_box _ rfl rfl rfl) ?_
  refine AOps.call (o_alloc ze56 rfl rfl) ?_
  refine AOps.call (o_assign _ rfl rfl) ?_
  refine AOps.call (o_assign _ rfl rfl) ?_
  refine AOps.nil ?_
  refine AWP.seq ?_
  refine AWP.region ?_
  refine AOps.call (o_loadRef _ rfl rfl Tryz.sizeOf24 Tryz.isAgg24 rfl rfl rfl) ?_
  refine AOps.call (o_move _ rfl rfl) ?_
  refine AOps.call (o_move _ rfl rfl) ?_
  refine AOps.call (o_call (readCase_log p w l hw1 hl1 he) Tryz.call69 rfl rfl) ?_
  refine AOps.call (o_move _ rfl rfl) ?_
  refine AOps.call (o_extract _ rfl rfl rfl rfl) ?_
  refine AOps.call (o_extract _ rfl rfl rfl rfl) ?_
  refine AOps.call (o_alloc ze91 rfl rfl) ?_
  refine AOps.cons (o_store _ _ rfl rfl Tryz.sizeOf91 rfl rfl rfl rfl rfl) ?_
  refine AOps.call (o_assign _ rfl rfl) ?_
  refine AOps.nil ?_
  refine AWP.seq ?_
  refine AWP.seq ?_
  refine AWP.region ?_
  refine AOps.call (o_move _ rfl rfl) ?_
  refine AOps.call (o_bin _ _ rfl rfl (fun _ => rfl) rfl) ?_
  refine AOps.nil ?_
  refine AWP.cond _ rfl (fun h12 => ?_) (fun h12 => ?_)
  · skip
    refine AWP.seq ?_
    refine AWP.region ?_
    refine AOps.call (o_build bu56 rfl rfl rfl) ?_
    refine AOps.call (o_move _ rfl rfl) ?_
    refine AOps.cons (o_store _ _ rfl rfl Tryz.sizeOf56 rfl rfl rfl rfl rfl) ?_
    refine AOps.call (o_assign _ rfl rfl) ?_
    refine AOps.call (o_assign _ rfl rfl) ?_
    refine AOps.nil ?_
    refine AWP.ret ?_
    exact postQ.retC2 Tryz.results35 rfl rfl Tryz.sizeOf56 Tryz.isAgg56 rfl rfl rfl rfl
  · skip
    exfalso
    exact absurd h12 (by decide)
set_option maxRecDepth 20000 in
theorem Refute_arg (p : Plw) (w : List Sp) (l : List Int) (hw1 : w.length ≤ 9223372036854775807) (hl1 : l.length ≤ 9223372036854775807) (he : okP p = true) (hq : okW p w = false) : FSpec Tryz.prog 35 [.agg (eP p), .sl (sps w), .sl (ints l)] (.tup [.agg [I 0, I 0], B false, I 1]) (none) := by
  refine FSpec.of_body Tryz.func35 rfl (leB rfl) fun w0 M0 => ?_
  refine AWP.seq ?_
  refine AWP.region ?_
  refine AOps.call (o_box _ rfl rfl rfl) ?_
  refine AOps.call (o_alloc ze56 rfl rfl) ?_
  refine AOps.call (o_assign _ rfl rfl) ?_
  refine AOps.call (o_assign _ rfl rfl) ?_
  refine AOps.nil ?_
  refine AWP.seq ?_
  refine AWP.region ?_
  refine AOps.call (o_loadRef _ rfl rfl Tryz.sizeOf24 Tryz.isAgg24 rfl rfl rfl) ?_
  refine AOps.call (o_move _ rfl rfl) ?_
  refine AOps.call (o_move _ rfl rfl) ?_
  refine AOps.call (o_call (readCase_arg p w l hw1 hl1 he hq) Tryz.call69 rfl rfl) ?_
  refine AOps.call (o_move _ rfl rfl) ?_
  refine AOps.call (o_extract _ rfl rfl rfl rfl) ?_
  refine AOps.call (o_extract _ rfl rfl rfl rfl) ?_
  refine AOps.call (o_alloc ze91 rfl rfl) ?_
  refine AOps.cons (o_store _ _ rfl rfl Tryz.sizeOf91 rfl rfl rfl rfl rfl) ?_
  refine AOps.call (o_assign _ rfl rfl) ?_
  refine AOps.nil ?_
  refine AWP.seq ?_
  refine AWP.seq ?_
  refine AWP.region ?_
  refine AOps.call (o_move _ rfl rfl) ?_
  refine AOps.call (o_bin _ _ rfl rfl (fun _ => rfl) rfl) ?_
  refine AOps.nil ?_
  refine AWP.cond _ rfl (fun h12 => ?_) (fun h12 => ?_)
  · skip
    refine AWP.seq ?_
    refine AWP.region ?_
    refine AOps.call (o_build bu56 rfl rfl rfl) ?_
    refine AOps.call (o_move _ rfl rfl) ?_
    refine AOps.cons (o_store _ _ rfl rfl Tryz.sizeOf56 rfl rfl rfl rfl rfl) ?_
    refine AOps.call (o_assign _ rfl rfl) ?_
    refine AOps.call (o_assign _ rfl rfl) ?_
    refine AOps.nil ?_
    refine AWP.ret ?_
    exact postQ.retC2 Tryz.results35 rfl rfl Tryz.sizeOf56 Tryz.isAgg56 rfl rfl rfl rfl
  · skip
    exfalso
    exact absurd h12 (by decide)
theorem Refute_s (p : Plw) (w : List Sp) (l : List Int) (hw1 : w.length ≤ 9223372036854775807) (hl1 : l.length ≤ 9223372036854775807) : FSpec Tryz.prog 35 [.agg (eP p), .sl (sps w), .sl (ints l)] (.tup [refA (if rcE p w l = 0 then refuteP p w l else none), B (decide (rcE p w l = 0) && (refuteP p w l).isSome), I (rcE p w l)]) none := by
  by_cases he : okP p = true
  · by_cases hq : okW p w = true
    · have h := Refute_ok p w l hw1 hl1 he hq
      have e : rcE p w l = caseE p l := by unfold rcE; rw [if_neg (by rw [he]; decide), if_neg (by rw [hq]; decide)]
      rw [e]; exact h
    · have h := Refute_arg p w l hw1 hl1 he (by simpa using hq)
      have e : rcE p w l = 1 := by unfold rcE; rw [if_neg (by rw [he]; decide), if_pos (by simpa using hq)]
      rw [e]; rw [if_neg (by decide), decide_eq_false (by decide)]; exact h
  · have h := Refute_log p w l hw1 hl1 (by simpa using he)
    have e : rcE p w l = 30 := by unfold rcE; rw [if_pos (by simpa using he)]
    rw [e]; rw [if_neg (by decide), decide_eq_false (by decide)]; exact h
end Go.Proofs.YtelenedgaoglaaaGreatDoor
set_option linter.unusedSimpArgs false
set_option linter.unusedVariables false
namespace Go.Proofs.YtelenedgaoglaaaGreatDoor
open Go.Ab
open Go.Pil
def refOk (p : Plw) (w : List Sp) (l : List Int) (x y : Int) : Prop := 0 ≤ x ∧ x < y ∧ y < l.length ∧ againstP p w l x.toNat y.toNat
instance (p w l x y) : Decidable (refOk p w l x y) := inferInstanceAs (Decidable (_ ∧ _ ∧ _ ∧ _))
end Go.Proofs.YtelenedgaoglaaaGreatDoor
set_option linter.unusedSimpArgs false
set_option linter.unusedVariables false
namespace Go.Proofs.YtelenedgaoglaaaGreatDoor
open Go.Ab
open Go.Pil
theorem ints_scs (l : List Int) : ∀ x ∈ (ints l).flatten, ∃ v, x = .sc v := by
  intro x hx
  obtain ⟨c, hc, hx⟩ := List.mem_flatten.1 hx
  obtain ⟨k, _, rfl⟩ := List.mem_map.1 hc
  simp only [I, List.mem_cons, List.not_mem_nil, or_false] at hx
  exact ⟨_, hx⟩
theorem ints_flat (l : List Int) : (ints l).flatten = l.map I := by
  induction l with
  | nil => rfl
  | cons a l ih => show [I a] ++ (ints l).flatten = _; rw [ih]; rfl
set_option maxRecDepth 20000 in
theorem Clone_v (l : List Int) (hl : l.length ≤ 1000000) (h0 : 0 < l.length) : FSpecV Tryz.prog 108 [.sl (ints l)] (ints l).flatten (ints l).length := by
  refine FSpecV.of_body Tryz.func108 rfl (leB rfl) fun w0 M0 => ?_
  have hll := ints_len l
  refine AWP.seq ?_
  refine AWP.region ?_
  refine AOps.call (o_nil (z := 1) (e := 3) rfl) ?_
  refine AOps.nil ?_
  refine AWP.seq ?_
  refine AWP.seq ?_
  refine AWP.region ?_
  refine AOps.call (o_move _ rfl rfl) ?_
  refine AOps.nilq _ Tryz.underlying25 rfl rfl ?_
  intro bq hbq
  refine AOps.nil ?_
  refine AWP.cond _ rfl (fun h4 => ?_) (fun h4 => ?_)
  · skip
    exfalso
    have hnil := hbq h4
    rw [hnil] at hll
    simp at hll
    omega
  · skip
    refine AWP.skip ?_
    refine AWP.seq ?_
    refine AWP.region ?_
    refine AOps.call (o_lit Tryz.underlying25 Tryz.sizeOf3 Tryz.zeroValue3 rfl rfl rfl rfl rfl rfl rfl) ?_
    refine AOps.call (o_move _ rfl rfl) ?_
    refine AOps.appArr _ _ Tryz.underlying25 info3 rfl rfl rfl rfl rfl rfl rfl rfl ints_z (by omega) (by rw [hll]; unfold Tryz.t3; simp only []; omega) rfl rfl ?_
    refine AOps.call (o_assign _ rfl rfl) ?_
    refine AOps.nil ?_
    refine AWP.ret ?_
    exact postQV.ret Tryz.results108 rfl (closeL_self _ (sc_self (ints_scs l)))
set_option maxRecDepth 20000 in
theorem Clone_nil  : FSpec Tryz.prog 108 [.sc (.slice none 0 0)] (.sc (.slice none 0 0)) (none) := by
  refine FSpec.of_body Tryz.func108 rfl (leB rfl) fun w0 M0 => ?_
  refine AWP.seq ?_
  refine AWP.region ?_
  refine AOps.call (o_assignK rfl) ?_
  refine AOps.nil ?_
  refine AWP.seq ?_
  refine AWP.seq ?_
  refine AWP.region ?_
  refine AOps.call (o_move _ rfl rfl) ?_
  refine AOps.call (o_eqNilK _ Tryz.underlying25 rfl rfl) ?_
  refine AOps.nil ?_
  refine AWP.cond _ rfl (fun h4 => ?_) (fun h4 => ?_)
  · skip
    refine AWP.seq ?_
    refine AWP.region ?_
    refine AOps.call (o_assignK rfl) ?_
    refine AOps.nil ?_
    refine AWP.ret ?_
    exact postQ.ret1 Tryz.results108 rfl rfl
  · skip
    exfalso
    exact absurd h4 (by decide)
def ldB (p : Plw) (w : List Sp) (l : List Int) : Sp := if l = [] then ⟨0, 0⟩ else Fp p w l (l.length - 1)
def stV : List Int → AV
  | [] => .sc (.slice none 0 0)
  | x :: l => .sl (ints (x :: l))
def eB (p : Plw) (w : List Sp) (l : List Int) : List AV := eL (pl (p.pb w) l) ++ [stV l] ++ eN (ldB p w l)
def bgs (p : Plw) (w : List Sp) (ls : List (List Int)) : List (List AV) := ls.map (eB p w)
theorem bgs_len (p w ls) : (bgs p w ls).length = ls.length := by simp [bgs]
theorem bgs_z {p w ls} : ∀ e ∈ bgs p w ls, e.length = 6 := by
  intro e he; obtain ⟨_, _, rfl⟩ := List.mem_map.1 he; rfl
theorem bgs_at {p w ls} {k : Nat} (h : k < ls.length) : (bgs p w ls)[((k : Nat) : Int).toNat]? = some (eB p w ls[k]) := by simp [bgs, h]
theorem stV_ne {l : List Int} (h : l ≠ []) : stV l = .sl (ints l) := by cases l with | nil => exact absurd rfl h | cons => rfl
theorem eB_ne {p w l} (h : l ≠ []) : eB p w l = [I (pl (p.pb w) l).entry, I (pl (p.pb w) l).state, I (pl (p.pb w) l).faults, .sl (ints l), I (ldB p w l).lo, I (ldB p w l).hi] := by unfold eB; rw [stV_ne h]; rfl
def eBc (p : Plw) (w : List Sp) (l : List Int) : List AV := eL (pl (p.pb w) l) ++ [.sl (ints l)] ++ eN (ldB p w l)
def eBn (p : Plw) (w : List Sp) (l : List Int) : List AV := eL (pl (p.pb w) l) ++ [.sc (.slice none 0 0)] ++ eN (ldB p w l)
theorem eB_c {p w l} (h : l ≠ []) : eB p w l = eBc p w l := by unfold eB eBc; rw [stV_ne h]
theorem eB_n {p w l} (h : l = []) : eB p w l = eBn p w l := by subst h; rfl
theorem eB_nil (p w) : eB p w [] = [I (pl (p.pb w) []).entry, I (pl (p.pb w) []).state, I (pl (p.pb w) []).faults, .sc (.slice none 0 0), I (ldB p w []).lo, I (ldB p w []).hi] := rfl
def accB (p : Plw) (w : List Sp) (l : List Int) (k : Nat) : List (List Int) := ((((pl (p.pb w) l).next (p.pb w)).take k).map fun r => l ++ [r.state]).filter fun m => decide (F ((p.pb w).a m) (p.pb w).w l.length).Ne
theorem accB_succ {p w l} {k : Nat} (h : k < ((pl (p.pb w) l).next (p.pb w)).length) : accB p w l (k + 1) = accB p w l k ++ (if (Fp p w (l ++ [((pl (p.pb w) l).next (p.pb w))[k].state]) l.length).Ne then [l ++ [((pl (p.pb w) l).next (p.pb w))[k].state]] else []) := by
  unfold accB
  rw [List.take_succ_eq_append_getElem h, List.map_append, List.filter_append]
  congr 1
  simp only [List.map_cons, List.map_nil, List.filter_cons, List.filter_nil]
  generalize l ++ [((pl (p.pb w) l).next (p.pb w))[k].state] = m
  by_cases hh : (F ((p.pb w).a m) (p.pb w).w l.length).Ne
  · rw [if_pos (decide_eq_true hh), if_pos (show (Fp p w m l.length).Ne from hh)]
  · rw [if_neg (by simpa using hh), if_neg (show ¬ (Fp p w m l.length).Ne from hh)]
theorem accB_len (p w l) (k : Nat) : (accB p w l k).length ≤ ((pl (p.pb w) l).next (p.pb w)).length := by
  unfold accB
  refine Nat.le_trans (List.length_filter_le ..) ?_
  rw [List.length_map, List.length_take]; omega
theorem accB_all (p w l) : accB p w l ((pl (p.pb w) l).next (p.pb w)).length = nx (p.pb w) l := by
  unfold accB nx
  rw [List.take_length, pl_next, List.map_map]
  congr 1
  apply List.map_congr_left
  intro s _
  show l ++ [(pl (p.pb w) (l ++ [s])).state] = l ++ [s]
  unfold pl
  simp
theorem ints_single {l : List Int} (h : l = []) (s : Int) : ints (l ++ [s]) = [[I s]] := by subst h; rfl
theorem next_len (q : Pb) (r : Pl) : (r.next q).length ≤ 3 := by
  unfold Pl.next
  refine Nat.le_trans (List.length_filter_le ..) ?_
  rw [List.length_map]; exact sts_len _ _
theorem getD_snoc' (l : List Int) (s : Int) : (l ++ [s]).getD l.length 0 = s := by simp [List.getD_eq_getElem?_getD]
theorem reach_B {p w} (l : List Int) (s : Int) : reachP p w (l.length : Nat) s (ldB p w l) = Fp p w (l ++ [s]) l.length := by
  have hs : (p.pb w).a (l ++ [s]) l.length = p.allow l.length s := by show p.allow l.length ((l ++ [s]).getD l.length 0) = _; rw [getD_snoc']
  unfold reachP ldB Fp
  cases l with
  | nil => simp at hs ⊢; exact hs.symm
  | cons x l =>
    rw [if_neg (by simp; omega), if_neg (by simp)]
    have e : (x :: l).length = l.length + 1 := rfl
    rw [e] at hs ⊢
    show _ = ((p.pb w).a (x :: l ++ [s]) (l.length + 1)).meet _
    rw [hs, Nat.add_sub_cancel]
    have hF : Fp p w (x :: l) l.length = F ((p.pb w).a (x :: l ++ [s])) (p.pb w).w l.length := F_congr (fun i hi => (a_snoc _ (by simp; omega)).symm) (fun _ _ => rfl)
    show _ = (p.allow (l.length + 1) s).meet ((F ((p.pb w).a (x :: l ++ [s])) (p.pb w).w l.length).plus ((p.pb w).w l.length))
    rw [← hF]
    rfl
theorem ldB_snoc {p w} (l : List Int) (s : Int) : ldB p w (l ++ [s]) = Fp p w (l ++ [s]) l.length := by
  unfold ldB; rw [if_neg (by simp)]; simp
theorem next_entry {p : Plw} {w : List Sp} {l : List Int} {k : Nat} (h : k < ((pl (p.pb w) l).next (p.pb w)).length) : ((pl (p.pb w) l).next (p.pb w))[k].entry = (l.length : Nat) := by
  rw [next_at _ (List.getElem_mem h)]; simp [pl]
theorem reach_N {p : Plw} {w : List Sp} {l : List Int} {k : Nat} (h : k < ((pl (p.pb w) l).next (p.pb w)).length) : reachP p w ((pl (p.pb w) l).next (p.pb w))[k].entry ((pl (p.pb w) l).next (p.pb w))[k].state (ldB p w l) = Fp p w (l ++ [((pl (p.pb w) l).next (p.pb w))[k].state]) l.length := by
  rw [next_entry h]; exact reach_B l _
theorem bgs_snoc {p w l} {acc : List (List Int)} {k : Nat} (h : k < ((pl (p.pb w) l).next (p.pb w)).length) : bgs p w acc ++ [[I ((pl (p.pb w) l).next (p.pb w))[k].entry, I ((pl (p.pb w) l).next (p.pb w))[k].state, I ((pl (p.pb w) l).next (p.pb w))[k].faults, .sl (ints (l ++ [((pl (p.pb w) l).next (p.pb w))[k].state])), I (reachP p w ((pl (p.pb w) l).next (p.pb w))[k].entry ((pl (p.pb w) l).next (p.pb w))[k].state (ldB p w l)).lo, I (reachP p w ((pl (p.pb w) l).next (p.pb w))[k].entry ((pl (p.pb w) l).next (p.pb w))[k].state (ldB p w l)).hi]] = bgs p w (acc ++ [l ++ [((pl (p.pb w) l).next (p.pb w))[k].state]]) := by
  have hn : ((pl (p.pb w) l).next (p.pb w))[k] = pl (p.pb w) (l ++ [((pl (p.pb w) l).next (p.pb w))[k].state]) := next_at _ (List.getElem_mem h)
  have hr := reach_N h
  generalize ((pl (p.pb w) l).next (p.pb w))[k] = r at hn hr ⊢
  unfold bgs
  rw [List.map_append]
  congr 1
  simp only [List.map_cons, List.map_nil, List.cons.injEq, and_true]
  rw [eB_ne (by simp), ldB_snoc, ← hr, ← hn]
theorem ldB_small {p : Plw} (hp : OkP p) (w) (l) (hn : l ≠ [] → (Fp p w l (l.length - 1)).Ne) : -9000000000 ≤ (ldB p w l).lo ∧ (ldB p w l).lo ≤ 9000000000 ∧ -9000000000 ≤ (ldB p w l).hi ∧ (ldB p w l).hi ≤ 9000000000 := by
  unfold ldB
  by_cases h : l = []
  · rw [if_pos h]; simp
  · rw [if_neg h]
    have h1 := pbF_small hp w l (l.length - 1)
    have h2 := hn h
    simp only [Sp.Ne] at h2
    omega
set_option maxRecDepth 20000 in
theorem further_c (p : Plw) (w : List Sp) (l : List Int) (hp : OkP p) (hw : okW p w = true) (hln : l.length < p.log.length) (hrt : Rt (p.pb []) l) (hld : l ≠ [] → (Fp p w l (l.length - 1)).Ne) (hl0 : l ≠ []) : FSpec Tryz.prog 80 [.agg (eR p w), .agg (eBc p w l)] (.sl (bgs p w (nx (p.pb w) l))) (none) := by
  refine FSpec.of_body Tryz.func80 rfl (leB rfl) fun w0 M0 => ?_
  have hl := shws_len p.log
  have h32 := hp.len
  have hnl := next_len (p.pb w) (pl (p.pb w) l)
  have hpl := pls_len ((pl (p.pb w) l).next (p.pb w))
  have hf0 : 0 ≤ (pl (p.pb w) l).faults ∧ (pl (p.pb w) l).faults ≤ 32 := by
    have h1 := flt_nonneg l; have h2 := hp.faults
    have h3 : flt l ≤ p.faults := hrt.2.2.2
    show 0 ≤ p.faults - flt l ∧ p.faults - flt l ≤ 32; omega
  have hen : (pl (p.pb w) l).entry + 1 < p.log.length := by show ((l.length : Int) - 1) + 1 < _; omega
  have hen2 : -1 ≤ (pl (p.pb w) l).entry := by show -1 ≤ ((l.length : Int) - 1); omega
  have hll := ints_len l
  have hlp : 0 < l.length := List.length_pos_iff.2 hl0
  have hst := stV_ne hl0
  refine AWP.seq ?_
  refine AWP.region ?_
  refine AOps.call (o_box _ rfl rfl rfl) ?_
  refine AOps.call (o_box _ rfl rfl rfl) ?_
  refine AOps.call (o_nil (z := 6) (e := 112) rfl) ?_
  refine AOps.nil ?_
  refine AWP.seq ?_
  refine AWP.region ?_
  refine AOps.call (o_nil (z := 6) (e := 112) rfl) ?_
  refine AOps.nil ?_
  refine AWP.seq ?_
  refine AWP.seq ?_
  refine AWP.region ?_
  refine AOps.call (o_fieldRef _ rfl fa91_0 rfl rfl) ?_
  refine AOps.call (o_loadRef _ rfl rfl Tryz.sizeOf83 Tryz.isAgg83 rfl rfl rfl) ?_
  refine AOps.call (o_fieldRef _ rfl fa112_0 rfl rfl) ?_
  refine AOps.call (o_loadRef _ rfl rfl Tryz.sizeOf110 Tryz.isAgg110 rfl rfl rfl) ?_
  refine AOps.call (o_call (next_s p hp (pl (p.pb w) l) hen hen2 hf0) Tryz.call88 rfl rfl) ?_
  refine AOps.call (o_len _ Tryz.underlying125 rfl rfl) ?_
  refine AOps.call (o_move _ rfl rfl) ?_
  refine AOps.nil ?_
  refine AWP.block ?_
  refine AWP.loop (ι := Nat × List (List Int)) (fun i => AS.mk' 45 [(2, .ref (2, 0) 0), (3, .ref (3, 0) 0), (5, .own (5, 0) (bgs p w i.2)), (13, .sl (pls ((pl (p.pb w) l).next (p.pb w)))), (14, I (pls ((pl (p.pb w) l).next (p.pb w))).length), (15, I i.1)] [((2, 0), eR p w), ((3, 0), eBc p w l)] [((5, 0), ((bgs p w i.2).length, 6, 112))] [(2, 1), (3, 1), (5, 1)]) (fun i => i.1 ≤ ((pl (p.pb w) l).next (p.pb w)).length ∧ i.2 = accB p w l i.1) (fun i => ((pl (p.pb w) l).next (p.pb w)).length - i.1) (0, []) (Weak.mk' rfl ⟨⟨.refl rfl, rfl⟩, ⟨⟨.refl rfl, rfl⟩, ⟨⟨.refl rfl, rfl⟩, ⟨⟨.refl rfl, rfl⟩, ⟨⟨.refl rfl, rfl⟩, ⟨⟨.refl rfl, rfl⟩, trivial⟩⟩⟩⟩⟩⟩ ⟨⟨rfl, rfl, rfl⟩, ⟨⟨rfl, rfl, rfl⟩, trivial⟩⟩ ⟨⟨rfl, rfl⟩, trivial⟩) (⟨Nat.zero_le _, rfl⟩) ?_
  rintro ⟨k, acc⟩ ⟨hk, hacc⟩
  try dsimp only at *
  refine AWP.seq ?_
  refine AWP.region ?_
  refine AOps.call (o_bin _ _ rfl rfl (fun _ => rfl) rfl) ?_
  refine AOps.nil ?_
  refine AWP.seq ?_
  refine AWP.cond _ rfl (fun h13 => ?_) (fun h13 => ?_)
  · skip
    have hlt : k < ((pl (p.pb w) l).next (p.pb w)).length := by have := of_decide_eq_true h13; omega
    have hel := pls_at hlt
    have hent := next_entry hlt
    refine AWP.skip ?_
    refine AWP.seq ?_
    refine AWP.block ?_
    refine AWP.seq ?_
    refine AWP.region ?_
    refine AOps.call (o_index _ _ Tryz.underlying125 Tryz.sizeOf110 rfl rfl (by omega) (by assumption) rfl rfl) ?_
    refine AOps.call (o_loadRd _ rfl Tryz.sizeOf110 Tryz.isAgg110 rfl rfl rfl) ?_
    refine AOps.call (o_alloc ze110 rfl rfl) ?_
    refine AOps.cons (o_store _ _ rfl rfl Tryz.sizeOf110 rfl rfl rfl rfl rfl) ?_
    refine AOps.nil ?_
    refine AWP.seq ?_
    refine AWP.region ?_
    refine AOps.call (o_loadRef _ rfl rfl Tryz.sizeOf91 Tryz.isAgg91 rfl rfl rfl) ?_
    refine AOps.call (o_fieldRef _ rfl fa110_0 rfl rfl) ?_
    refine AOps.call (o_loadRef _ rfl rfl Tryz.sizeOf3 Tryz.isAgg3 rfl rfl rfl) ?_
    refine AOps.call (o_fieldRef _ rfl fa110_1 rfl rfl) ?_
    refine AOps.call (o_loadRef _ rfl rfl Tryz.sizeOf3 Tryz.isAgg3 rfl rfl rfl) ?_
    refine AOps.call (o_fieldRef _ rfl fa112_2 rfl rfl) ?_
    refine AOps.call (o_loadRef _ rfl rfl Tryz.sizeOf54 Tryz.isAgg54 rfl rfl rfl) ?_
    refine AOps.call (o_call (reached_s p w hp hw ((pl (p.pb w) l).next (p.pb w))[k].entry ((pl (p.pb w) l).next (p.pb w))[k].state (ldB p w l) (by omega) (by omega) (fun _ => ldB_small hp w l hld)) Tryz.call94 rfl rfl) ?_
    refine AOps.call (o_alloc ze54 rfl rfl) ?_
    refine AOps.cons (o_store _ _ rfl rfl Tryz.sizeOf54 rfl rfl rfl rfl rfl) ?_
    refine AOps.nil ?_
    refine AWP.seq ?_
    refine AWP.region ?_
    refine AOps.call (o_loadRef _ rfl rfl Tryz.sizeOf54 Tryz.isAgg54 rfl rfl rfl) ?_
    refine AOps.call (o_call (isEmpty_s (reachP p w ((pl (p.pb w) l).next (p.pb w))[k].entry ((pl (p.pb w) l).next (p.pb w))[k].state (ldB p w l))) Tryz.call95 rfl rfl) ?_
    refine AOps.call (o_un _ rfl (fun _ => rfl) rfl) ?_
    refine AOps.nil ?_
    refine AWP.cond _ rfl (fun h29 => ?_) (fun h29 => ?_)
    · skip
      have hne2 : (Fp p w (l ++ [((pl (p.pb w) l).next (p.pb w))[k].state]) l.length).Ne := by
        rw [← reach_N hlt]
        simp only [Sp.Ne]
        simpa using h29
      refine AWP.drawnP 12 [(8, (34, 0))] mixed (by kernel_rfl) (by kernel_rfl) ?_
      refine AHeadP.call (o_move _ rfl rfl) rfl rfl rfl ?_
      refine AHeadP.call (o_loadRef _ rfl rfl Tryz.sizeOf110 Tryz.isAgg110 rfl rfl rfl) rfl rfl rfl ?_
      refine AHeadP.call (o_fieldRef _ rfl fa112_1 rfl rfl) rfl rfl rfl ?_
      refine AHeadP.call (o_loadRef _ rfl rfl Tryz.sizeOf25 Tryz.isAgg25 rfl rfl rfl) rfl rfl rfl ?_
      refine AHeadP.call (o_callVar (Clone_v l (by omega) hlp) Tryz.call108 rfl rfl) rfl rfl rfl ?_
      refine AHeadP.call (o_fieldRef _ rfl fa110_1 rfl rfl) rfl rfl rfl ?_
      refine AHeadP.call (o_loadRef _ rfl rfl Tryz.sizeOf3 Tryz.isAgg3 rfl rfl rfl) rfl rfl rfl ?_
      refine AHeadP.call (o_lit Tryz.underlying25 Tryz.sizeOf3 Tryz.zeroValue3 rfl rfl rfl rfl rfl rfl rfl) rfl rfl rfl ?_
      refine AHeadP.spend (o_appendS (cs := (ints l).flatten) (rs := ints (l ++ [((pl (p.pb w) l).next (p.pb w))[k].state])) _ _ Tryz.underlying25 info3 rfl rfl rfl rfl rfl (by exact closeL_self _ (sc_self (ints_scs l))) (by rw [ints_flat]; simp [ints]) rfl (fun e he => by simp at he; subst he; rfl) (by unfold Tryz.t3; simp only [List.length_cons, List.length_nil]; omega) rfl (by simp) (by rw [ints_flat]; simp [ints, I]) rfl) rfl rfl ?_
      refine AHeadP.call (o_loadRef _ rfl rfl Tryz.sizeOf54 Tryz.isAgg54 rfl rfl rfl) rfl rfl rfl ?_
      refine AHeadP.call (o_build bu112 rfl rfl rfl) rfl rfl rfl ?_
      refine AHeadP.call (o_lit Tryz.underlying114 Tryz.sizeOf112 Tryz.zeroValue112 rfl rfl rfl rfl rfl rfl rfl) rfl rfl rfl ?_
      refine AHeadP.nil ?_
      refine AOps.cons (o_append _ _ Tryz.underlying114 info112 rfl rfl rfl rfl rfl rfl rfl rfl (fun c hc => by simp at hc; subst hc; rfl) bgs_z (by
          have hal := accB_len p w l k
          rw [← hacc] at hal
          unfold Tryz.t112; simp only [bgs_len, List.length_cons, List.length_nil]; omega) rfl (bgs_snoc hlt) rfl) ?_
      refine AOps.call (o_assign _ rfl rfl) ?_
      refine AOps.nil ?_
      refine AWP.region ?_
      refine AOps.call (o_add _ _ rfl rfl ⟨by (try dsimp only); omega, by (try dsimp only); omega⟩ rfl) ?_
      refine AOps.call (o_move _ rfl rfl) ?_
      refine AOps.nil ?_
      refine ⟨(k + 1, _), ?_, (Weak.mk' rfl ⟨⟨.refl rfl, rfl⟩, ⟨⟨.refl rfl, rfl⟩, ⟨⟨.refl rfl, rfl⟩, ⟨⟨.refl rfl, rfl⟩, ⟨⟨.refl rfl, rfl⟩, ⟨⟨.refl rfl, rfl⟩, trivial⟩⟩⟩⟩⟩⟩ ⟨⟨rfl, rfl, rfl⟩, ⟨⟨rfl, rfl, rfl⟩, trivial⟩⟩ ⟨⟨rfl, rfl⟩, trivial⟩)⟩
      refine ⟨⟨by omega, ?_⟩, by omega⟩
      rw [accB_succ hlt, ← hacc]
      first
      | (rw [if_pos hne2]; done)
      | (rw [if_neg hne2, List.append_nil]; done)
    · skip
      have hne2 : ¬ (Fp p w (l ++ [((pl (p.pb w) l).next (p.pb w))[k].state]) l.length).Ne := by
        rw [← reach_N hlt]
        simp only [Sp.Ne]
        simpa using h29
      refine AWP.skip ?_
      refine AWP.region ?_
      refine AOps.call (o_add _ _ rfl rfl ⟨by (try dsimp only); omega, by (try dsimp only); omega⟩ rfl) ?_
      refine AOps.call (o_move _ rfl rfl) ?_
      refine AOps.nil ?_
      refine ⟨(k + 1, _), ?_, (Weak.mk' rfl ⟨⟨.refl rfl, rfl⟩, ⟨⟨.refl rfl, rfl⟩, ⟨⟨.refl rfl, rfl⟩, ⟨⟨.refl rfl, rfl⟩, ⟨⟨.refl rfl, rfl⟩, ⟨⟨.refl rfl, rfl⟩, trivial⟩⟩⟩⟩⟩⟩ ⟨⟨rfl, rfl, rfl⟩, ⟨⟨rfl, rfl, rfl⟩, trivial⟩⟩ ⟨⟨rfl, rfl⟩, trivial⟩)⟩
      refine ⟨⟨by omega, ?_⟩, by omega⟩
      rw [accB_succ hlt, ← hacc]
      first
      | (rw [if_pos hne2]; done)
      | (rw [if_neg hne2, List.append_nil]; done)
  · skip
    have hkl : k = ((pl (p.pb w) l).next (p.pb w)).length := by have := of_decide_eq_false h13; omega
    subst hkl
    refine AWP.exit ?_
    refine AWP.seq ?_
    refine AWP.region ?_
    refine AOps.call (o_move _ rfl rfl) ?_
    refine AOps.call (o_assign _ rfl rfl) ?_
    refine AOps.nil ?_
    refine AWP.ret ?_
    refine postQ.ret1 Tryz.results80 rfl ?_
    rw [hacc, accB_all]
    rfl
set_option maxRecDepth 20000 in
theorem further_n (p : Plw) (w : List Sp) (l : List Int) (hp : OkP p) (hw : okW p w = true) (hln : l.length < p.log.length) (hrt : Rt (p.pb []) l) (hld : l ≠ [] → (Fp p w l (l.length - 1)).Ne) (hl0 : l = []) : FSpec Tryz.prog 80 [.agg (eR p w), .agg (eBn p w l)] (.sl (bgs p w (nx (p.pb w) l))) (none) := by
  refine FSpec.of_body Tryz.func80 rfl (leB rfl) fun w0 M0 => ?_
  have hl := shws_len p.log
  have h32 := hp.len
  have hnl := next_len (p.pb w) (pl (p.pb w) l)
  have hpl := pls_len ((pl (p.pb w) l).next (p.pb w))
  have hf0 : 0 ≤ (pl (p.pb w) l).faults ∧ (pl (p.pb w) l).faults ≤ 32 := by
    have h1 := flt_nonneg l; have h2 := hp.faults
    have h3 : flt l ≤ p.faults := hrt.2.2.2
    show 0 ≤ p.faults - flt l ∧ p.faults - flt l ≤ 32; omega
  have hen : (pl (p.pb w) l).entry + 1 < p.log.length := by show ((l.length : Int) - 1) + 1 < _; omega
  have hen2 : -1 ≤ (pl (p.pb w) l).entry := by show -1 ≤ ((l.length : Int) - 1); omega
  refine AWP.seq ?_
  refine AWP.region ?_
  refine AOps.call (o_box _ rfl rfl rfl) ?_
  refine AOps.call (o_box _ rfl rfl rfl) ?_
  refine AOps.call (o_nil (z := 6) (e := 112) rfl) ?_
  refine AOps.nil ?_
  refine AWP.seq ?_
  refine AWP.region ?_
  refine AOps.call (o_nil (z := 6) (e := 112) rfl) ?_
  refine AOps.nil ?_
  refine AWP.seq ?_
  refine AWP.seq ?_
  refine AWP.region ?_
  refine AOps.call (o_fieldRef _ rfl fa91_0 rfl rfl) ?_
  refine AOps.call (o_loadRef _ rfl rfl Tryz.sizeOf83 Tryz.isAgg83 rfl rfl rfl) ?_
  refine AOps.call (o_fieldRef _ rfl fa112_0 rfl rfl) ?_
  refine AOps.call (o_loadRef _ rfl rfl Tryz.sizeOf110 Tryz.isAgg110 rfl rfl rfl) ?_
  refine AOps.call (o_call (next_s p hp (pl (p.pb w) l) hen hen2 hf0) Tryz.call88 rfl rfl) ?_
  refine AOps.call (o_len _ Tryz.underlying125 rfl rfl) ?_
  refine AOps.call (o_move _ rfl rfl) ?_
  refine AOps.nil ?_
  refine AWP.block ?_
  refine AWP.loop (ι := Nat × List (List Int)) (fun i => AS.mk' 45 [(2, .ref (2, 0) 0), (3, .ref (3, 0) 0), (5, .own (5, 0) (bgs p w i.2)), (13, .sl (pls ((pl (p.pb w) l).next (p.pb w)))), (14, I (pls ((pl (p.pb w) l).next (p.pb w))).length), (15, I i.1)] [((2, 0), eR p w), ((3, 0), eBn p w l)] [((5, 0), ((bgs p w i.2).length, 6, 112))] [(2, 1), (3, 1), (5, 1)]) (fun i => i.1 ≤ ((pl (p.pb w) l).next (p.pb w)).length ∧ i.2 = accB p w l i.1) (fun i => ((pl (p.pb w) l).next (p.pb w)).length - i.1) (0, []) (Weak.mk' rfl ⟨⟨.refl rfl, rfl⟩, ⟨⟨.refl rfl, rfl⟩, ⟨⟨.refl rfl, rfl⟩, ⟨⟨.refl rfl, rfl⟩, ⟨⟨.refl rfl, rfl⟩, ⟨⟨.refl rfl, rfl⟩, trivial⟩⟩⟩⟩⟩⟩ ⟨⟨rfl, rfl, rfl⟩, ⟨⟨rfl, rfl, rfl⟩, trivial⟩⟩ ⟨⟨rfl, rfl⟩, trivial⟩) (⟨Nat.zero_le _, rfl⟩) ?_
  rintro ⟨k, acc⟩ ⟨hk, hacc⟩
  try dsimp only at *
  refine AWP.seq ?_
  refine AWP.region ?_
  refine AOps.call (o_bin _ _ rfl rfl (fun _ => rfl) rfl) ?_
  refine AOps.nil ?_
  refine AWP.seq ?_
  refine AWP.cond _ rfl (fun h13 => ?_) (fun h13 => ?_)
  · skip
    have hlt : k < ((pl (p.pb w) l).next (p.pb w)).length := by have := of_decide_eq_true h13; omega
    have hel := pls_at hlt
    have hent := next_entry hlt
    refine AWP.skip ?_
    refine AWP.seq ?_
    refine AWP.block ?_
    refine AWP.seq ?_
    refine AWP.region ?_
    refine AOps.call (o_index _ _ Tryz.underlying125 Tryz.sizeOf110 rfl rfl (by omega) (by assumption) rfl rfl) ?_
    refine AOps.call (o_loadRd _ rfl Tryz.sizeOf110 Tryz.isAgg110 rfl rfl rfl) ?_
    refine AOps.call (o_alloc ze110 rfl rfl) ?_
    refine AOps.cons (o_store _ _ rfl rfl Tryz.sizeOf110 rfl rfl rfl rfl rfl) ?_
    refine AOps.nil ?_
    refine AWP.seq ?_
    refine AWP.region ?_
    refine AOps.call (o_loadRef _ rfl rfl Tryz.sizeOf91 Tryz.isAgg91 rfl rfl rfl) ?_
    refine AOps.call (o_fieldRef _ rfl fa110_0 rfl rfl) ?_
    refine AOps.call (o_loadRef _ rfl rfl Tryz.sizeOf3 Tryz.isAgg3 rfl rfl rfl) ?_
    refine AOps.call (o_fieldRef _ rfl fa110_1 rfl rfl) ?_
    refine AOps.call (o_loadRef _ rfl rfl Tryz.sizeOf3 Tryz.isAgg3 rfl rfl rfl) ?_
    refine AOps.call (o_fieldRef _ rfl fa112_2 rfl rfl) ?_
    refine AOps.call (o_loadRef _ rfl rfl Tryz.sizeOf54 Tryz.isAgg54 rfl rfl rfl) ?_
    refine AOps.call (o_call (reached_s p w hp hw ((pl (p.pb w) l).next (p.pb w))[k].entry ((pl (p.pb w) l).next (p.pb w))[k].state (ldB p w l) (by omega) (by omega) (fun _ => ldB_small hp w l hld)) Tryz.call94 rfl rfl) ?_
    refine AOps.call (o_alloc ze54 rfl rfl) ?_
    refine AOps.cons (o_store _ _ rfl rfl Tryz.sizeOf54 rfl rfl rfl rfl rfl) ?_
    refine AOps.nil ?_
    refine AWP.seq ?_
    refine AWP.region ?_
    refine AOps.call (o_loadRef _ rfl rfl Tryz.sizeOf54 Tryz.isAgg54 rfl rfl rfl) ?_
    refine AOps.call (o_call (isEmpty_s (reachP p w ((pl (p.pb w) l).next (p.pb w))[k].entry ((pl (p.pb w) l).next (p.pb w))[k].state (ldB p w l))) Tryz.call95 rfl rfl) ?_
    refine AOps.call (o_un _ rfl (fun _ => rfl) rfl) ?_
    refine AOps.nil ?_
    refine AWP.cond _ rfl (fun h29 => ?_) (fun h29 => ?_)
    · skip
      have hne2 : (Fp p w (l ++ [((pl (p.pb w) l).next (p.pb w))[k].state]) l.length).Ne := by
        rw [← reach_N hlt]
        simp only [Sp.Ne]
        simpa using h29
      refine AWP.drawn 12 mixed (by kernel_rfl) ?_
      refine AHead.call (o_move _ rfl rfl) rfl ?_
      refine AHead.call (o_loadRef _ rfl rfl Tryz.sizeOf110 Tryz.isAgg110 rfl rfl rfl) rfl ?_
      refine AHead.call (o_fieldRef _ rfl fa112_1 rfl rfl) rfl ?_
      refine AHead.call (o_loadRef _ rfl rfl Tryz.sizeOf25 Tryz.isAgg25 rfl rfl rfl) rfl ?_
      refine AHead.call (o_call (Clone_nil) Tryz.call108 rfl rfl) rfl ?_
      refine AHead.call (o_fieldRef _ rfl fa110_1 rfl rfl) rfl ?_
      refine AHead.call (o_loadRef _ rfl rfl Tryz.sizeOf3 Tryz.isAgg3 rfl rfl rfl) rfl ?_
      refine AHead.call (o_lit Tryz.underlying25 Tryz.sizeOf3 Tryz.zeroValue3 rfl rfl rfl rfl rfl rfl rfl) rfl ?_
      refine AHead.call (o_appendNil (ns := [[I ((pl (p.pb w) l).next (p.pb w))[k].state]]) (rs := ints (l ++ [((pl (p.pb w) l).next (p.pb w))[k].state])) _ _ Tryz.underlying25 info3 rfl rfl rfl rfl rfl rfl (fun e he => by simp at he; subst he; rfl) (by unfold Tryz.t3; simp) rfl (by simp) (ints_single hl0 _).symm rfl) rfl ?_
      refine AHead.call (o_loadRef _ rfl rfl Tryz.sizeOf54 Tryz.isAgg54 rfl rfl rfl) rfl ?_
      refine AHead.call (o_build bu112 rfl rfl rfl) rfl ?_
      refine AHead.call (o_lit Tryz.underlying114 Tryz.sizeOf112 Tryz.zeroValue112 rfl rfl rfl rfl rfl rfl rfl) rfl ?_
      refine AHead.nil ?_
      refine AOps.cons (o_append _ _ Tryz.underlying114 info112 rfl rfl rfl rfl rfl rfl rfl rfl (fun c hc => by simp at hc; subst hc; rfl) bgs_z (by
          have hal := accB_len p w l k
          rw [← hacc] at hal
          unfold Tryz.t112; simp only [bgs_len, List.length_cons, List.length_nil]; omega) rfl (bgs_snoc hlt) rfl) ?_
      refine AOps.call (o_assign _ rfl rfl) ?_
      refine AOps.nil ?_
      refine AWP.region ?_
      refine AOps.call (o_add _ _ rfl rfl ⟨by (try dsimp only); omega, by (try dsimp only); omega⟩ rfl) ?_
      refine AOps.call (o_move _ rfl rfl) ?_
      refine AOps.nil ?_
      refine ⟨(k + 1, _), ?_, (Weak.mk' rfl ⟨⟨.refl rfl, rfl⟩, ⟨⟨.refl rfl, rfl⟩, ⟨⟨.refl rfl, rfl⟩, ⟨⟨.refl rfl, rfl⟩, ⟨⟨.refl rfl, rfl⟩, ⟨⟨.refl rfl, rfl⟩, trivial⟩⟩⟩⟩⟩⟩ ⟨⟨rfl, rfl, rfl⟩, ⟨⟨rfl, rfl, rfl⟩, trivial⟩⟩ ⟨⟨rfl, rfl⟩, trivial⟩)⟩
      refine ⟨⟨by omega, ?_⟩, by omega⟩
      rw [accB_succ hlt, ← hacc]
      first
      | (rw [if_pos hne2]; done)
      | (rw [if_neg hne2, List.append_nil]; done)
    · skip
      have hne2 : ¬ (Fp p w (l ++ [((pl (p.pb w) l).next (p.pb w))[k].state]) l.length).Ne := by
        rw [← reach_N hlt]
        simp only [Sp.Ne]
        simpa using h29
      refine AWP.skip ?_
      refine AWP.region ?_
      refine AOps.call (o_add _ _ rfl rfl ⟨by (try dsimp only); omega, by (try dsimp only); omega⟩ rfl) ?_
      refine AOps.call (o_move _ rfl rfl) ?_
      refine AOps.nil ?_
      refine ⟨(k + 1, _), ?_, (Weak.mk' rfl ⟨⟨.refl rfl, rfl⟩, ⟨⟨.refl rfl, rfl⟩, ⟨⟨.refl rfl, rfl⟩, ⟨⟨.refl rfl, rfl⟩, ⟨⟨.refl rfl, rfl⟩, ⟨⟨.refl rfl, rfl⟩, trivial⟩⟩⟩⟩⟩⟩ ⟨⟨rfl, rfl, rfl⟩, ⟨⟨rfl, rfl, rfl⟩, trivial⟩⟩ ⟨⟨rfl, rfl⟩, trivial⟩)⟩
      refine ⟨⟨by omega, ?_⟩, by omega⟩
      rw [accB_succ hlt, ← hacc]
      first
      | (rw [if_pos hne2]; done)
      | (rw [if_neg hne2, List.append_nil]; done)
  · skip
    have hkl : k = ((pl (p.pb w) l).next (p.pb w)).length := by have := of_decide_eq_false h13; omega
    subst hkl
    refine AWP.exit ?_
    refine AWP.seq ?_
    refine AWP.region ?_
    refine AOps.call (o_move _ rfl rfl) ?_
    refine AOps.call (o_assign _ rfl rfl) ?_
    refine AOps.nil ?_
    refine AWP.ret ?_
    refine postQ.ret1 Tryz.results80 rfl ?_
    rw [hacc, accB_all]
    rfl
end Go.Proofs.YtelenedgaoglaaaGreatDoor
