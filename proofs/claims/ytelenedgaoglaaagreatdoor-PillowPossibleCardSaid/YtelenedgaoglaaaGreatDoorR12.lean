/- R12. -/
import Derived.Test.YtelenedgaoglaaaGreatDoorRA
set_option linter.unusedSimpArgs false
set_option linter.unusedVariables false
namespace Go.Proofs.YtelenedgaoglaaaGreatDoor
open Go.Ab
open Go.Pil
theorem splice_mid' {a b c new : List AV} (h : b.length = new.length) : splice (a ++ b ++ c) new a.length = a ++ new ++ c := by
  have h1 : (a ++ b ++ c).take a.length = a := by rw [List.append_assoc, List.take_left']; rfl
  have h2 : (a ++ b ++ c).drop (a.length + new.length) = c := by rw [List.drop_left']; simp [h]
  unfold splice; rw [h1, h2]
theorem sc_self {l : List AV} (h : ∀ x ∈ l, ∃ v, x = .sc v) : ∀ x ∈ l, x.close = some x := by
  intro x hx; obtain ⟨v, rfl⟩ := h x hx; rfl
theorem flat_lenM {α : Type} {e : α → List AV} {z : Nat} (he : ∀ x, (e x).length = z) (l : List α) : (l.map e).flatten.length = l.length * z := by
  rw [flat_len (l.map e) (fun x hx => by obtain ⟨_, _, rfl⟩ := List.mem_map.1 hx; exact he _), List.length_map]
theorem flat_set {α : Type} {e : α → List AV} {z o : Nat} (he : ∀ x, (e x).length = z) {P R : List α} {x y : α} (ho : P.length * z = o) :
    splice ((P ++ x :: R).map e).flatten (e y) o = ((P ++ y :: R).map e).flatten := by
  subst ho
  have h1 : ∀ w, ((P ++ w :: R).map e).flatten = (P.map e).flatten ++ e w ++ (R.map e).flatten := fun w => by simp
  rw [h1, h1, ← flat_lenM he P, splice_mid' (by rw [he, he])]
def Fp (p : Plw) (w : List Sp) (l : List Int) (k : Nat) : Sp := F ((p.pb w).a l) (p.pb w).w k
def fsp (p : Plw) (w : List Sp) (l : List Int) (i : Nat) : List Sp := (List.range l.length).map fun k => if k < i then Fp p w l k else ⟨0, 0⟩
def gsp (p : Plw) (w : List Sp) (l : List Int) (m : Nat) : List Sp := (List.range l.length).map fun k => if l.length ≤ k + m then endP p w l k else Fp p w l k
theorem fsp_len (p w l i) : (fsp p w l i).length = l.length := by simp [fsp]
theorem gsp_len (p w l i) : (gsp p w l i).length = l.length := by simp [gsp]
theorem sps_flen (l : List Sp) : (sps l).flatten.length = l.length * 2 := by rw [flat_len _ sps_z, sps_len]
theorem sps_set {L : List Sp} {k : Nat} {s : Sp} (h : k < L.length) : splice (sps L).flatten (eN s) (k * 2) = (sps (L.set k s)).flatten := by
  have e : L = L.take k ++ L[k] :: L.drop (k + 1) := by rw [← List.drop_eq_getElem_cons h, List.take_append_drop]
  have e2 : L.set k s = L.take k ++ s :: L.drop (k + 1) := List.set_eq_take_append_cons_drop.trans (if_pos h)
  rw [e2]
  conv => lhs; rw [e]
  exact flat_set (e := eN) (z := 2) (fun _ => rfl) (by rw [List.length_take]; omega)
theorem sps_part {L : List Sp} {k : Nat} (h : k < L.length) : partA true 2 ((sps L).flatten.drop (k * 2)) = some (.agg (eN L[k])) := by
  rw [flat_drop _ _ sps_z, show (sps L).drop k = eN L[k] :: (sps L).drop (k + 1) by rw [List.drop_eq_getElem_cons (by rw [sps_len]; exact h)]; simp [sps]]
  rfl
theorem sps_scs (l : List Sp) : ∀ x ∈ (sps l).flatten, ∃ v, x = .sc v := by
  intro x hx
  obtain ⟨e, he, hxe⟩ := List.mem_flatten.1 hx
  obtain ⟨s, _, rfl⟩ := List.mem_map.1 he
  simp [eN, I] at hxe
  rcases hxe with rfl | rfl <;> exact ⟨_, rfl⟩
theorem fsp_zero (p w l) : (List.replicate l.length ([Value.int .i64 0, .int .i64 0].map AV.sc)).flatten = (sps (fsp p w l 0)).flatten := by
  congr 1
  unfold fsp sps
  apply List.ext_getElem
  · simp
  · intro k h1 h2
    simp [eN, I]
theorem fsp_step {p w l} {i : Nat} (h : i < l.length) : (fsp p w l i).set i (Fp p w l i) = fsp p w l (i + 1) := by
  apply List.ext_getElem
  · simp [fsp]
  · intro k h1 h2
    simp only [fsp, List.getElem_set, List.getElem_map, List.getElem_range]
    by_cases e : i = k
    · subst e; simp
    · rw [if_neg e]
      by_cases h3 : k < i
      · rw [if_pos h3, if_pos (by omega)]
      · rw [if_neg h3, if_neg (by omega)]
theorem fsp_gsp (p w l) : fsp p w l l.length = gsp p w l 1 := by
  apply List.ext_getElem
  · simp [fsp, gsp]
  · intro k h1 h2
    have hk : k < l.length := by simpa [fsp] using h1
    simp only [fsp, gsp, List.getElem_map, List.getElem_range]
    rw [if_pos hk]
    by_cases e : l.length ≤ k + 1
    · rw [if_pos e]; exact (En_last (by omega)).symm
    · rw [if_neg e]
theorem gsp_step {p w l} {k m : Nat} (h : k + m + 1 = l.length) : (gsp p w l m).set k (endP p w l k) = gsp p w l (m + 1) := by
  apply List.ext_getElem
  · simp [gsp]
  · intro i h1 h2
    have hi : i < l.length := by simpa [gsp] using h1
    simp only [gsp, List.getElem_set, List.getElem_map, List.getElem_range]
    by_cases e : k = i
    · subst e; rw [if_pos rfl, if_pos (by omega)]
    · rw [if_neg e]
      by_cases h3 : l.length ≤ i + m
      · rw [if_pos h3, if_pos (by omega)]
      · rw [if_neg h3, if_neg (by omega)]
theorem gsp_all {p w l} {m : Nat} (h : l.length ≤ m) : gsp p w l m = endsP p w l := by
  unfold gsp endsP
  apply List.map_congr_left
  intro k hk
  rw [if_pos (by omega)]
theorem gsp_at {p w l} {k m : Nat} (h : k < l.length) : (gsp p w l m)[k]'(by rw [gsp_len]; exact h) = if l.length ≤ k + m then endP p w l k else Fp p w l k := by simp [gsp]
def hereF (p : Plw) (w : List Sp) (l : List Int) (i : Nat) : Sp := if i = 0 then ⟨0, 0⟩ else Fp p w l (i - 1)
theorem hereF_succ (p w l) (i : Nat) : hereF p w l (i + 1) = Fp p w l i := by simp [hereF]
theorem pbF_small {p : Plw} (hp : OkP p) (w l) (k : Nat) : 0 ≤ (Fp p w l k).lo ∧ (Fp p w l k).hi ≤ 65536 := F_small (fun i => hp.allow_in i _) k
theorem reach_F {p w l} {i : Nat} (h : i < l.length) : reachP p w i (l[i]) (hereF p w l i) = Fp p w l i := by
  have hs : (p.pb w).a l i = p.allow i l[i] := by show p.allow i (l.getD i 0) = _; rw [List.getD_eq_getElem?_getD, List.getElem?_eq_getElem h]; rfl
  unfold reachP hereF Fp
  cases i with
  | zero => simp; exact hs.symm
  | succ i =>
    rw [if_neg (by omega), if_neg (by omega)]
    show _ = ((p.pb w).a l (i + 1)).meet _
    rw [hs]
    rfl
set_option maxRecDepth 20000 in
theorem loads_s (p : Plw) (w : List Sp) (l : List Int) (hp : OkP p) (hw : okW p w = true) (hll : l.length = p.log.length) : FSpec Tryz.prog 70 [.agg (eR p w), .sl (ints l)] (.tup [.sl (sps (if aliveP p w l then endsP p w l else [])), B (decide (aliveP p w l))]) (none) := by
  refine FSpec.of_body Tryz.func70 rfl (leB rfl) fun w0 M0 => ?_
  have hil := ints_len l
  have h32 := hp.len
  have hsl := sps_len w
  have hb := okW_WB hw
  have hwl : w.length = p.log.length - 1 := by simp only [okW, Bool.and_eq_true, decide_eq_true_eq] at hw; exact hw.1
  refine AWP.seq ?_
  refine AWP.region ?_
  refine AOps.call (o_box _ rfl rfl rfl) ?_
  refine AOps.call (o_nil (z := 2) (e := 54) rfl) ?_
  refine AOps.call (o_assign _ rfl rfl) ?_
  refine AOps.nil ?_
  refine AWP.seq ?_
  refine AWP.region ?_
  refine AOps.call (o_move _ rfl rfl) ?_
  refine AOps.call (o_len _ Tryz.underlying25 rfl rfl) ?_
  refine AOps.mkarr (n := l.length) (zs := [.int .i64 0, .int .i64 0]) (cs := (sps (fsp p w l 0)).flatten) _ _ Tryz.underlying38 info54 rfl rfl rfl rfl rfl rfl rfl rfl rfl (by rw [hil]) (by omega) rfl rfl (fsp_zero p w l) ?_
  refine AOps.call (o_assign _ rfl rfl) ?_
  refine AOps.nil ?_
  refine AWP.seq ?_
  refine AWP.region ?_
  refine AOps.call (o_alloc ze54 rfl rfl) ?_
  refine AOps.nil ?_
  refine AWP.seq ?_
  refine AWP.seq ?_
  refine AWP.region ?_
  refine AOps.call (o_move _ rfl rfl) ?_
  refine AOps.call (o_len _ Tryz.underlying25 rfl rfl) ?_
  refine AOps.call (o_move _ rfl rfl) ?_
  refine AOps.nil ?_
  refine AWP.block ?_
  refine AWP.loop (ι := Nat) (fun i => AS.mk' 61 [(1, .sl (ints l)), (2, .ref (2, 0) 0), (6, .arr (13, 0) 0 l.length l.length), (7, .ref (7, 0) 0), (14, .sl (ints l)), (15, I (ints l).length), (16, I i)] [((2, 0), eR p w), ((7, 0), eN (hereF p w l i)), ((13, 0), (sps (fsp p w l i)).flatten)] [] [(2, 1), (7, 1), (13, 1)]) (fun i => i ≤ l.length ∧ ∀ k, k < i → (Fp p w l k).Ne) (fun i => l.length - i) (0) (Weak.mk' rfl ⟨⟨.refl rfl, rfl⟩, ⟨⟨.refl rfl, rfl⟩, ⟨⟨.refl rfl, rfl⟩, ⟨⟨.refl rfl, rfl⟩, ⟨⟨.refl rfl, rfl⟩, ⟨⟨.refl rfl, rfl⟩, ⟨⟨.refl rfl, rfl⟩, trivial⟩⟩⟩⟩⟩⟩⟩ ⟨⟨rfl, rfl, rfl⟩, ⟨⟨rfl, rfl, rfl⟩, ⟨⟨rfl, lowL_sc _ _ (sps_scs _), rfl⟩, trivial⟩⟩⟩ trivial) (⟨Nat.zero_le _, fun k hk => absurd hk (Nat.not_lt_zero _)⟩) ?_
  rintro k ⟨hk, hne⟩
  try dsimp only at *
  refine AWP.seq ?_
  refine AWP.region ?_
  refine AOps.call (o_bin _ _ rfl rfl (fun _ => rfl) rfl) ?_
  refine AOps.nil ?_
  refine AWP.seq ?_
  refine AWP.cond _ rfl (fun h11 => ?_) (fun h11 => ?_)
  · skip
    have hlt : k < l.length := by simpa [ints] using h11
    have hel := ints_at hlt
    have hrb : (k : Int) ≠ 0 → -9000000000 ≤ (hereF p w l k).lo ∧ (hereF p w l k).lo ≤ 9000000000 ∧ -9000000000 ≤ (hereF p w l k).hi ∧ (hereF p w l k).hi ≤ 9000000000 := fun h0 => by
      unfold hereF
      rw [if_neg (by omega)]
      have h1 := pbF_small hp w l (k - 1)
      have h2 := hne (k - 1) (by omega)
      simp only [Sp.Ne] at h2
      omega
    refine AWP.skip ?_
    refine AWP.seq ?_
    refine AWP.block ?_
    refine AWP.seq ?_
    refine AWP.region ?_
    refine AOps.call (o_move _ rfl rfl) ?_
    refine AOps.call (o_index _ _ Tryz.underlying25 Tryz.sizeOf3 rfl rfl (by omega) (by assumption) rfl rfl) ?_
    refine AOps.call (o_loadRd _ rfl Tryz.sizeOf3 Tryz.isAgg3 rfl rfl rfl) ?_
    refine AOps.call (o_assign _ rfl rfl) ?_
    refine AOps.call (o_assign _ rfl rfl) ?_
    refine AOps.nil ?_
    refine AWP.seq ?_
    refine AWP.region ?_
    refine AOps.call (o_loadRef _ rfl rfl Tryz.sizeOf91 Tryz.isAgg91 rfl rfl rfl) ?_
    refine AOps.call (o_move _ rfl rfl) ?_
    refine AOps.call (o_move _ rfl rfl) ?_
    refine AOps.call (o_loadRef _ rfl rfl Tryz.sizeOf54 Tryz.isAgg54 rfl rfl rfl) ?_
    refine AOps.call (o_call (reached_s p w hp hw k l[k] (hereF p w l k) (by omega) (by omega) hrb) Tryz.call94 rfl rfl) ?_
    refine AOps.cons (o_store _ _ rfl rfl Tryz.sizeOf54 rfl rfl rfl rfl rfl) ?_
    refine AOps.nil ?_
    refine AWP.seq ?_
    refine AWP.seq ?_
    refine AWP.region ?_
    refine AOps.call (o_loadRef _ rfl rfl Tryz.sizeOf54 Tryz.isAgg54 rfl rfl rfl) ?_
    refine AOps.call (o_call (isEmpty_s (reachP p w k l[k] (hereF p w l k))) Tryz.call95 rfl rfl) ?_
    refine AOps.nil ?_
    refine AWP.cond _ rfl (fun h19 => ?_) (fun h19 => ?_)
    · skip
      have hE : ¬ aliveP p w l := fun ha => by
        have h1 := ha k hlt
        have h2 := of_decide_eq_true h19
        rw [reach_F hlt] at h2
        simp only [Sp.Ne] at h1
        unfold Fp at h2
        omega
      refine AWP.seq ?_
      refine AWP.region ?_
      refine AOps.call (o_nil (z := 2) (e := 54) rfl) ?_
      refine AOps.call (o_assign _ rfl rfl) ?_
      refine AOps.nil ?_
      refine AWP.ret ?_
      refine postQ.ret2 Tryz.results70 rfl rfl ?_
      first
      | (rw [if_neg hE, decide_eq_false hE]; rfl)
      | (rw [if_pos hal, decide_eq_true hal]; rfl)
    · skip
      have hnk : (Fp p w l k).Ne := by
        have h2 := of_decide_eq_false h19
        rw [reach_F hlt] at h2
        simp only [Sp.Ne]
        omega
      refine AWP.skip ?_
      refine AWP.region ?_
      refine AOps.call (o_move _ rfl rfl) ?_
      refine AOps.call (o_move _ rfl rfl) ?_
      refine AOps.call (o_loadRef _ rfl rfl Tryz.sizeOf54 Tryz.isAgg54 rfl rfl rfl) ?_
      refine AOps.call (o_indexArr (o := k * 2) _ _ Tryz.underlying38 Tryz.sizeOf54 rfl rfl (by omega) (by omega) (by omega) rfl) ?_
      refine AOps.cons (o_storeE _ _ rfl rfl Tryz.sizeOf54 rfl rfl (by rw [sps_flen, fsp_len]; omega) ((sps_set (by rw [fsp_len]; exact hlt)).trans (by rw [reach_F hlt, fsp_step hlt])) rfl) ?_
      refine AOps.nil ?_
      refine AWP.region ?_
      refine AOps.call (o_add _ _ rfl rfl ⟨by (try dsimp only); omega, by (try dsimp only); omega⟩ rfl) ?_
      refine AOps.call (o_move _ rfl rfl) ?_
      refine AOps.nil ?_
      refine ⟨k + 1, ?_, (Weak.mk' rfl ⟨⟨.refl rfl, rfl⟩, ⟨⟨.refl rfl, rfl⟩, ⟨⟨.refl rfl, rfl⟩, ⟨⟨.refl rfl, rfl⟩, ⟨⟨.refl rfl, rfl⟩, ⟨⟨.refl rfl, rfl⟩, ⟨⟨.refl rfl, rfl⟩, trivial⟩⟩⟩⟩⟩⟩⟩ ⟨⟨rfl, rfl, rfl⟩, ⟨⟨(by rw [hereF_succ, ← reach_F hlt]; rfl), rfl, rfl⟩, ⟨⟨rfl, lowL_sc _ _ (sps_scs _), rfl⟩, trivial⟩⟩⟩ trivial)⟩
      refine ⟨⟨by omega, fun j hj => ?_⟩, by omega⟩
      by_cases e : j = k
      · subst e; exact hnk
      · exact hne j (by omega)
  · skip
    have hkl : k = l.length := by have := of_decide_eq_false h11; omega
    subst hkl
    have hal : aliveP p w l := fun j hj => hne j hj
    refine AWP.exit ?_
    refine AWP.seq ?_
    refine AWP.seq ?_
    refine AWP.region ?_
    refine AOps.call (o_move _ rfl rfl) ?_
    refine AOps.call (o_len _ Tryz.underlying25 rfl rfl) ?_
    refine AOps.call (o_sub _ _ rfl rfl ⟨by (try dsimp only); omega, by (try dsimp only); omega⟩ rfl) ?_
    refine AOps.call (o_assign _ rfl rfl) ?_
    refine AOps.nil ?_
    refine AWP.block ?_
    refine AWP.loop (ι := Nat) (fun i => AS.mk' 61 [(1, .sl (ints l)), (2, .ref (2, 0) 0), (6, .arr (13, 0) 0 l.length l.length), (10, I ((l.length : Int) - 2 - i))] [((2, 0), eR p w), ((13, 0), (sps (gsp p w l (i + 1))).flatten)] [] [(2, 1), (13, 1)]) (fun i => i ≤ l.length) (fun i => l.length - i) (0) (Weak.mk' rfl ⟨⟨.refl rfl, rfl⟩, ⟨⟨.refl rfl, rfl⟩, ⟨⟨.refl rfl, rfl⟩, ⟨⟨.refl (congrArg I (by (try dsimp only); omega)), rfl⟩, trivial⟩⟩⟩⟩ ⟨⟨rfl, rfl, rfl⟩, ⟨⟨(by rw [fsp_gsp]; rfl), lowL_sc _ _ (sps_scs _), rfl⟩, trivial⟩⟩ trivial) (Nat.zero_le _) ?_
    rintro k hk
    try dsimp only at *
    refine AWP.seq ?_
    refine AWP.seq ?_
    refine AWP.region ?_
    refine AOps.call (o_move _ rfl rfl) ?_
    refine AOps.call (o_bin _ _ rfl rfl (fun _ => rfl) rfl) ?_
    refine AOps.nil ?_
    refine AWP.cond _ rfl (fun h28 => ?_) (fun h28 => ?_)
    · skip
      have hk0 : (0 : Int) ≤ (l.length : Int) - 2 - k := of_decide_eq_true h28
      obtain ⟨kk, hkk⟩ : ∃ kk : Nat, (kk : Int) = (l.length : Int) - 2 - k := ⟨((l.length : Int) - 2 - k).toNat, by omega⟩
      have hp1 : partA true 2 ((sps (gsp p w l (k + 1))).flatten.drop (kk * 2)) = some (.agg (eN (Fp p w l kk))) := by
        rw [sps_part (by rw [gsp_len]; omega), gsp_at (by omega), if_neg (by omega)]
      have hp2 : partA true 2 ((sps (gsp p w l (k + 1))).flatten.drop ((kk + 1) * 2)) = some (.agg (eN (endP p w l (kk + 1)))) := by
        rw [sps_part (by rw [gsp_len]; omega), gsp_at (by omega), if_pos (by omega)]
      have hEk : endP p w l kk = (Fp p w l kk).meet ((endP p w l (kk + 1)).minus (wf w kk)) := En_succ (by omega)
      have hst : splice (sps (gsp p w l (k + 1))).flatten (eN ((Fp p w l kk).meet ((endP p w l (kk + 1)).minus (wf w kk)))) (kk * 2) = (sps (gsp p w l (k + 1 + 1))).flatten := by
        rw [sps_set (by rw [gsp_len]; omega), ← hEk, gsp_step (by omega)]
      have hmi : inI64 ((endP p w l (kk + 1)).lo - (wf w kk).hi) ∧ inI64 ((endP p w l (kk + 1)).hi - (wf w kk).lo) := by
        have h1 : (endP p w l (kk + 1)).In ((p.pb w).a l (kk + 1)) := En_in
        have h2 : 0 ≤ ((p.pb w).a l (kk + 1)).lo ∧ ((p.pb w).a l (kk + 1)).hi ≤ 65536 := hp.allow_in _ _
        have h3 : (endP p w l (kk + 1)).Ne := En_ne (fun j _ => (hb j).2.2) hal (by omega)
        have h4 := hb kk
        simp only [Sp.In, Sp.Ne] at h1 h3
        simp only [okRange]
        omega
      refine AWP.skip ?_
      refine AWP.seq ?_
      refine AWP.block ?_
      refine AWP.drawn 20 mixed (by kernel_rfl) ?_
      refine AHead.call (o_move _ rfl rfl) rfl ?_
      refine AHead.call (o_move _ rfl rfl) rfl ?_
      refine AHead.call (o_move _ rfl rfl) rfl ?_
      refine AHead.call (o_move _ rfl rfl) rfl ?_
      refine AHead.call (o_indexArr (o := kk * 2) _ _ Tryz.underlying38 Tryz.sizeOf54 rfl rfl (by omega) (by omega) (by omega) rfl) rfl ?_
      refine AHead.call (o_loadRefE (v := .agg (eN (Fp p w l kk))) _ rfl rfl Tryz.sizeOf54 Tryz.isAgg54 hp1 rfl) rfl ?_
      refine AHead.call (o_move _ rfl rfl) rfl ?_
      refine AHead.call (o_move _ rfl rfl) rfl ?_
      refine AHead.call (o_add _ _ rfl rfl ⟨by (try dsimp only); omega, by (try dsimp only); omega⟩ rfl) rfl ?_
      refine AHead.call (o_indexArr (o := (kk + 1) * 2) _ _ Tryz.underlying38 Tryz.sizeOf54 rfl rfl (by omega) (by omega) (by omega) rfl) rfl ?_
      refine AHead.call (o_loadRefE (v := .agg (eN (endP p w l (kk + 1)))) _ rfl rfl Tryz.sizeOf54 Tryz.isAgg54 hp2 rfl) rfl ?_
      refine AHead.call (o_fieldRef _ rfl fa91_1 rfl rfl) rfl ?_
      refine AHead.call (o_loadRef _ rfl rfl Tryz.sizeOf89 Tryz.isAgg89 rfl rfl rfl) rfl ?_
      refine AHead.call (o_move _ rfl rfl) rfl ?_
      refine AHead.call (o_move _ rfl rfl) rfl ?_
      refine AHead.call (o_add _ _ rfl rfl ⟨by (try dsimp only); omega, by (try dsimp only); omega⟩ rfl) rfl ?_
      refine AHead.call (o_call (between1_s w kk _ _ (by omega) (by omega) (by omega) hb (by omega)) Tryz.call98 rfl rfl) rfl ?_
      refine AHead.call (o_call (minus_s (endP p w l (kk + 1)) (wf w kk) hmi) Tryz.call97 rfl rfl) rfl ?_
      refine AHead.call (o_call (meet_s (Fp p w l kk) ((endP p w l (kk + 1)).minus (wf w kk))) Tryz.call96 rfl rfl) rfl ?_
      refine AHead.call (o_indexArr (o := kk * 2) _ _ Tryz.underlying38 Tryz.sizeOf54 rfl rfl (by omega) (by omega) (by omega) rfl) rfl ?_
      refine AHead.nil ?_
      refine AOps.cons (o_storeE _ _ rfl rfl Tryz.sizeOf54 rfl rfl (by rw [sps_flen, gsp_len]; omega) hst rfl) ?_
      refine AOps.nil ?_
      refine AWP.region ?_
      refine AOps.call (o_move _ rfl rfl) ?_
      refine AOps.call (o_sub _ _ rfl rfl ⟨by (try dsimp only); omega, by (try dsimp only); omega⟩ rfl) ?_
      refine AOps.call (o_assign _ rfl rfl) ?_
      refine AOps.nil ?_
      refine ⟨k + 1, ?_, (Weak.mk' rfl ⟨⟨.refl rfl, rfl⟩, ⟨⟨.refl rfl, rfl⟩, ⟨⟨.refl rfl, rfl⟩, ⟨⟨.refl (congrArg I (by (try dsimp only); omega)), rfl⟩, trivial⟩⟩⟩⟩ ⟨⟨rfl, rfl, rfl⟩, ⟨⟨rfl, lowL_sc _ _ (sps_scs _), rfl⟩, trivial⟩⟩ trivial)⟩
      exact ⟨by omega, by omega⟩
    · skip
      have hk0 : ¬ (0 : Int) ≤ (l.length : Int) - 2 - k := of_decide_eq_false h28
      refine AWP.weak (Weak.frz (id := (13, 0)) (t := 6) (z := 2) (es := sps (endsP p w l)) (cs' := (sps (endsP p w l)).flatten) rfl rfl (by rw [gsp_all (by omega)]; exact closeL_self _ (sc_self (sps_scs _))) rfl sps_z (by rw [sps_len]; simp [endsP])) ?_
      refine AWP.exit ?_
      refine AWP.seq ?_
      refine AWP.region ?_
      refine AOps.call (o_move _ rfl rfl) ?_
      refine AOps.call (o_assign _ rfl rfl) ?_
      refine AOps.call (o_assign _ rfl rfl) ?_
      refine AOps.nil ?_
      refine AWP.ret ?_
      refine postQ.ret2 Tryz.results70 rfl rfl ?_
      first
      | (rw [if_neg hE, decide_eq_false hE]; rfl)
      | (rw [if_pos hal, decide_eq_true hal]; rfl)
end Go.Proofs.YtelenedgaoglaaaGreatDoor
