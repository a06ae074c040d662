/- Z4. -/
import Derived.Test.YtelenedgaoglaaaGreatDoorZ3
import Derived.Test.YtelenedgaoglaaaGreatDoorMA
set_option linter.unusedSimpArgs false
set_option linter.unusedVariables false
namespace Go.Proofs.YtelenedgaoglaaaGreatDoor
open Go.Ab
open Go.Pil Go.RowKit
def upA (w E : Nat → Sp) (x : Int) (e : Nat) : Nat → Int
  | 0 => x
  | d + 1 => clampA w E (upA w E x e d) (e + d)
def dnB (w E : Nat → Sp) (x : Int) (e : Nat) : Nat → Int
  | 0 => x
  | d + 1 => clampB w E (dnB w E x e d) (e - 1 - d)
def betF (w E : Nat → Sp) (x : Int) (e k : Nat) : Int := if k < e then dnB w E x e (e - k) else upA w E x e (k - e)
theorem betF_up {w E x} {e k : Nat} (h : e ≤ k) : betF w E x e (k + 1) = clampA w E (betF w E x e k) k := by
  unfold betF; rw [if_neg (by omega), if_neg (by omega), show k + 1 - e = (k - e) + 1 by omega]
  show clampA _ _ _ (e + (k - e)) = _
  rw [show e + (k - e) = k by omega]
theorem betF_dn {w E x} {e k : Nat} (h : k < e) : betF w E x e k = clampB w E (betF w E x e (k + 1)) k := by
  unfold betF; rw [if_pos h, show e - k = (e - (k + 1)) + 1 by omega]
  show clampB _ _ _ (e - 1 - (e - (k + 1))) = _
  rw [show e - 1 - (e - (k + 1)) = k by omega]
  by_cases h2 : k + 1 < e
  · rw [if_pos h2]
  · rw [if_neg h2, show e - (k + 1) = 0 by omega, show k + 1 - e = 0 by omega]; rfl
theorem betF_at (w E x) (e : Nat) : betF w E x e e = x := by unfold betF; rw [if_neg (by omega), Nat.sub_self]; rfl
def fillB (f : Nat → Int) (n lo hi : Nat) : List Int := (List.range n).map fun j => if lo ≤ j ∧ j < hi then f j else 0
theorem fillB_len (f n lo hi) : (fillB f n lo hi).length = n := by simp [fillB]
theorem fillB_get {f n lo hi} {j : Nat} (h : j < n) : (fillB f n lo hi)[j]'(by rw [fillB_len]; exact h) = if lo ≤ j ∧ j < hi then f j else 0 := by simp [fillB]
theorem fillB_up {f n lo} {k : Nat} (hk : k < n) (hl : lo ≤ k) : (fillB f n lo k).set k (f k) = fillB f n lo (k + 1) := by
  apply List.ext_getElem (by simp [fillB])
  intro j h1 h2
  simp only [fillB, List.length_set, List.length_map, List.length_range] at h1
  rw [List.getElem_set]
  by_cases hj : k = j
  · subst hj; rw [if_pos rfl, fillB_get h1, if_pos (by omega)]
  · rw [if_neg hj, fillB_get h1, fillB_get h1]
    by_cases h3 : lo ≤ j ∧ j < k
    · rw [if_pos h3, if_pos (by omega)]
    · rw [if_neg h3, if_neg (by omega)]
theorem fillB_dn {f n hi} {k : Nat} (hk : k < n) (hl : k < hi) : (fillB f n (k + 1) hi).set k (f k) = fillB f n k hi := by
  apply List.ext_getElem (by simp [fillB])
  intro j h1 h2
  simp only [fillB, List.length_set, List.length_map, List.length_range] at h1
  rw [List.getElem_set]
  by_cases hj : k = j
  · subst hj; rw [if_pos rfl, fillB_get h1, if_pos (by omega)]
  · rw [if_neg hj, fillB_get h1, fillB_get h1]
    by_cases h3 : k + 1 ≤ j ∧ j < hi
    · rw [if_pos h3, if_pos (by omega)]
    · rw [if_neg h3, if_neg (by omega)]
theorem ints_set {L : List Int} {k : Nat} {x : Int} (h : k < L.length) : splice (ints L).flatten [I x] k = (ints (L.set k x)).flatten := by
  rw [ints_flat, ints_flat, List.map_set]
  unfold splice
  rw [List.set_eq_take_append_cons_drop, if_pos (by rw [List.length_map]; exact h)]
  simp
theorem ints_part {L : List Int} {k : Nat} (h : k < L.length) : partA false 1 ((ints L).flatten.drop k) = some (I L[k]) := by
  rw [ints_flat, List.drop_eq_getElem_cons (by rw [List.length_map]; exact h), List.getElem_map]; rfl
theorem ints_flen (L : List Int) : (ints L).flatten.length = L.length := by rw [ints_flat, List.length_map]
theorem fillB_zero (f : Nat → Int) (n e : Nat) : (List.replicate n ([Value.int .i64 0].map AV.sc)).flatten = (ints (fillB f n e e)).flatten := by
  rw [ints_flat]
  have : fillB f n e e = List.replicate n 0 := by
    apply List.ext_getElem (by simp [fillB])
    intro j h1 h2
    rw [fillB_get (by simpa [fillB] using h1), if_neg (by omega), List.getElem_replicate]
  rw [this]
  clear this
  induction n with
  | zero => rfl
  | succ n ih => rw [List.replicate_succ, List.replicate_succ, List.flatten_cons, ih]; rfl
theorem sps_gD {L : List Sp} {k : Int} {j : Nat} (h : k.toNat = j) (hj : j < L.length) : (sps L)[k.toNat]? = some (eN (L.getD j ⟨0, 0⟩)) := by
  subst h
  simp [sps, hj]
theorem endsP_gD {p w} {l : List Int} {k : Nat} (h : k < l.length) : (endsP p w l).getD k ⟨0, 0⟩ = endP p w l k := by
  rw [List.getD_eq_getElem?_getD, List.getElem?_eq_getElem (by simpa [endsP] using h)]; simp [endsP]
theorem cwE_world {p : Plw} {w : List Sp} {l x : List Int} (h0 : rcE p w l = 0) (hxl : x.length = l.length) (hW : Go.Pil.World ((p.pb w).a l) (p.pb w).w l.length fun k => x.getD k 0) : cwE p w l x (rcE p w l) = 0 := by
  obtain ⟨g1, g2, g3, g4⟩ := rcE_0.1 h0
  unfold cwE
  rw [h0, if_neg (by decide), if_neg (by omega), if_pos (cwB_yes fun k hk => ?_)]
  have h := world_iff.1 hW k (by omega)
  unfold fitB
  rw [hasS_iff]
  unfold behind at h
  unfold reachP hereX
  by_cases hk0 : k = 0
  · subst hk0; rw [if_pos rfl] at h; rw [if_pos (by rfl)]; exact h
  · rw [if_neg hk0] at h; rw [if_neg (by omega), if_neg hk0]; exact h
theorem cwE_fill {p : Plw} {w : List Sp} {l : List Int} {e : Nat} {x : Int} (h0 : rcE p w l = 0) (ha : aliveP p w l) (he : e < l.length) (hx : (endP p w l e).Has x) : cwE p w l (fillB (betF (wf w) (endP p w l) x e) l.length 0 l.length) (rcE p w l) = 0 := by
  refine cwE_world h0 (fillB_len _ _ _ _) ?_
  have g : ∀ k, k < l.length → (fillB (betF (wf w) (endP p w l) x e) l.length 0 l.length).getD k 0 = (betF (wf w) (endP p w l) x e) k := fun k hk => by
    rw [List.getD_eq_getElem?_getD, List.getElem?_eq_getElem (by rw [fillB_len]; exact hk), Option.getD_some, fillB_get hk, if_pos ⟨Nat.zero_le _, hk⟩]
  have hb := okW_WB (rcE_0.1 h0).2.1
  refine clamped_world (fun k _ => (hb k).2.2) ha he ?_ (fun i h1 h2 => ?_) fun i h1 => ?_
  · show (endP p w l e).Has _
    rw [g e he, betF_at]; exact hx
  · show (fillB (betF (wf w) (endP p w l) x e) l.length 0 l.length).getD (i + 1) 0 = clampA _ _ ((fillB (betF (wf w) (endP p w l) x e) l.length 0 l.length).getD i 0) i
    rw [g _ h2, g _ (by omega), betF_up h1]; rfl
  · show (fillB (betF (wf w) (endP p w l) x e) l.length 0 l.length).getD i 0 = clampB _ _ ((fillB (betF (wf w) (endP p w l) x e) l.length 0 l.length).getD (i + 1) 0) i
    rw [g _ (by omega), g _ (by omega), betF_dn h1]; rfl
set_option maxHeartbeats 4000000 in
set_option maxRecDepth 20000 in
theorem between_true (p : Plw) (w : List Sp) (l : List Int) (hw1 : w.length ≤ 9223372036854775807) (hl1 : l.length ≤ 9223372036854775807) (e : Nat) (x : Int) (h0 : rcE p w l = 0) (ha : aliveP p w l) (he : e < l.length) (hx : (endP p w l e).Has x) : FSpec Tryz.prog 54 [.agg (eP p), .sl (sps w), .sl (ints l), I e, I x] (B true) (none) := by
  refine FSpec.of_body Tryz.func54 rfl (leB rfl) fun w0 M0 => ?_
  obtain ⟨g1, g2, g3, g4⟩ := rcE_0.1 h0
  have hp := okP_iff.1 g1
  have h32 := hp.len
  have hil := ints_len l
  have hsl := sps_len w
  have hse := sps_len (endsP p w l)
  have hel : (endsP p w l).length = l.length := by simp [endsP]
  have hb := okW_WB g2
  have hwl : w.length = p.log.length - 1 := by have := g2; simp only [okW, Bool.and_eq_true, decide_eq_true_eq] at this; exact this.1
  have hneE : ∀ k, k < l.length → (endP p w l k).Ne ∧ 0 ≤ (endP p w l k).lo ∧ (endP p w l k).hi ≤ 65536 := fun k hk => by
    have h1 : (endP p w l k).In ((p.pb w).a l k) := En_in
    have h2 : 0 ≤ ((p.pb w).a l k).lo ∧ ((p.pb w).a l k).hi ≤ 65536 := hp.allow_in _ _
    have h3 : (endP p w l k).Ne := En_ne (fun j _ => (hb j).2.2) ha hk
    refine ⟨h3, ?_⟩
    simp only [Sp.In] at h1; omega
  have hL := Loads_s p w l hw1 hl1
  rw [show ldL p w l (rcE p w l) = endsP p w l from if_pos ⟨h0, ha⟩, show ldE p w l (rcE p w l) = 0 from (if_neg (fun h => h.2 ha)).trans h0] at hL
  have hx2 := hx
  simp only [Sp.Has] at hx2
  have hxb := hneE e he
  have hbE : ∀ k, e ≤ k → k < l.length → (endP p w l k).Has ((betF (wf w) (endP p w l) x e) k) := by
    intro k
    induction k with
    | zero => intro h1 h2; have h3 : e = 0 := by omega
              subst h3; rw [betF_at]; exact hx
    | succ k ih =>
      intro h1 h2
      by_cases h3 : e = k + 1
      · subst h3; rw [betF_at]; exact hx
      · rw [betF_up (by omega)]
        exact (clampA_ok (hb k).2.2 h2 (hneE (k + 1) h2).1 (ih (by omega) (by omega))).1
  have hbD : ∀ d k, k + d = e → (endP p w l k).Has ((betF (wf w) (endP p w l) x e) k) := by
    intro d
    induction d with
    | zero => intro k h1; have h3 : k = e := by omega
              subst h3; rw [betF_at]; exact hx
    | succ d ih =>
      intro k h1
      rw [betF_dn (by omega)]
      exact (clampB_ok (hb k).2.2 (by omega) (hneE k (by omega)).1 (ih (k + 1) (by omega))).1
  refine AWP.seq ?_
  refine AWP.region ?_
  refine AOps.call (o_box _ rfl rfl rfl) ?_
  refine AOps.call (o_assign _ rfl rfl) ?_
  refine AOps.nil ?_
  refine AWP.seq ?_
  refine AWP.region ?_
  refine AOps.call (o_move _ rfl rfl) ?_
  refine AOps.call (o_len _ Tryz.underlying25 rfl rfl) ?_
  refine AOps.mkarr (n := l.length) (zs := [.int .i64 0]) (cs := (ints (fillB (betF (wf w) (endP p w l) x e) l.length e e)).flatten) _ _ Tryz.underlying25 info3 rfl rfl rfl rfl rfl rfl rfl rfl rfl (by rw [hil]) (by omega) rfl rfl (fillB_zero _ _ _) ?_
  refine AOps.call (o_assign _ rfl rfl) ?_
  refine AOps.nil ?_
  refine AWP.seq ?_
  refine AWP.region ?_
  refine AOps.call (o_move _ rfl rfl) ?_
  refine AOps.call (o_move _ rfl rfl) ?_
  refine AOps.call (o_move _ rfl rfl) ?_
  refine AOps.call (o_indexArr (o := e) _ _ Tryz.underlying25 Tryz.sizeOf3 rfl rfl (by omega) (by omega) (by omega) rfl) ?_
  refine AOps.cons (o_storeE _ _ rfl rfl Tryz.sizeOf3 rfl rfl (by rw [ints_flen, fillB_len]; omega) ((ints_set (by rw [fillB_len]; exact he)).trans (by rw [show (fillB (betF (wf w) (endP p w l) x e) l.length e e).set e x = fillB (betF (wf w) (endP p w l) x e) l.length e (e + 1) by have h := fillB_up (f := (betF (wf w) (endP p w l) x e)) (lo := e) he (Nat.le_refl _); rw [betF_at] at h; exact h])) rfl) ?_
  refine AOps.nil ?_
  refine AWP.seq ?_
  refine AWP.region ?_
  refine AOps.call (o_loadRef _ rfl rfl Tryz.sizeOf24 Tryz.isAgg24 rfl rfl rfl) ?_
  refine AOps.call (o_move _ rfl rfl) ?_
  refine AOps.call (o_move _ rfl rfl) ?_
  refine AOps.call (o_call hL Tryz.call27 rfl rfl) ?_
  refine AOps.call (o_move _ rfl rfl) ?_
  refine AOps.call (o_extract _ rfl rfl rfl rfl) ?_
  refine AOps.call (o_extract _ rfl rfl rfl rfl) ?_
  refine AOps.call (o_assign _ rfl rfl) ?_
  refine AOps.call (o_assign _ rfl rfl) ?_
  refine AOps.nil ?_
  refine AWP.seq ?_
  refine AWP.seq ?_
  refine AWP.region ?_
  refine AOps.call (o_move _ rfl rfl) ?_
  refine AOps.call (o_bin _ _ rfl rfl (fun _ => rfl) rfl) ?_
  refine AOps.call (o_move _ rfl rfl) ?_
  refine AOps.split rfl rfl rfl (fun h15 => ?_) (fun h15 => ?_)
  · skip
    refine AOps.go rfl rfl rfl h15 (o_move _ rfl rfl) ?_
    refine AOps.go rfl rfl rfl h15 (o_len _ Tryz.underlying38 rfl rfl) ?_
    refine AOps.go rfl rfl rfl h15 (o_move _ rfl rfl) ?_
    refine AOps.go rfl rfl rfl h15 (o_len _ Tryz.underlying25 rfl rfl) ?_
    refine AOps.go rfl rfl rfl h15 (o_bin _ _ rfl rfl (fun _ => rfl) rfl) ?_
    refine AOps.call (o_pickF _ _ _ rfl h15 rfl rfl) ?_
    refine AOps.nil ?_
    refine AWP.cond _ rfl (fun h20 => ?_) (fun h20 => ?_)
    · skip
      exfalso
      simp at h20
      omega
    · skip
      refine AWP.skip ?_
      refine AWP.seq ?_
      refine AWP.seq ?_
      refine AWP.region ?_
      refine AOps.call (o_move _ rfl rfl) ?_
      refine AOps.call (o_add _ _ rfl rfl ⟨by (try dsimp only); omega, by (try dsimp only); omega⟩ rfl) ?_
      refine AOps.call (o_assign _ rfl rfl) ?_
      refine AOps.nil ?_
      refine AWP.block ?_
      refine AWP.loop (ι := Nat) (fun i => AS.mk' 137 [(1, .sl (sps w)), (2, .sl (ints l)), (3, I e), (5, .ref (5, 0) 0), (11, .arr (18, 0) 0 l.length l.length), (12, .sl (sps (endsP p w l))), (14, I i)] [((5, 0), eP p), ((18, 0), (ints (fillB (betF (wf w) (endP p w l) x e) l.length e i)).flatten)] [] [(5, 1), (18, 1)]) (fun i => e + 1 ≤ i ∧ i ≤ l.length) (fun i => l.length - i) (e + 1) (Weak.mk' rfl ⟨⟨.refl rfl, rfl⟩, ⟨⟨.refl rfl, rfl⟩, ⟨⟨.refl rfl, rfl⟩, ⟨⟨.refl rfl, rfl⟩, ⟨⟨.refl rfl, rfl⟩, ⟨⟨.refl rfl, rfl⟩, ⟨⟨.refl (congrArg I (by (try dsimp only); omega)), rfl⟩, trivial⟩⟩⟩⟩⟩⟩⟩ ⟨⟨rfl, rfl, rfl⟩, ⟨⟨rfl, lowL_sc _ _ (ints_scs _), rfl⟩, trivial⟩⟩ trivial) (⟨Nat.le_refl _, he⟩) ?_
      rintro k ⟨hk0, hk⟩
      try dsimp only at *
      refine AWP.seq ?_
      refine AWP.seq ?_
      refine AWP.region ?_
      refine AOps.call (o_move _ rfl rfl) ?_
      refine AOps.call (o_move _ rfl rfl) ?_
      refine AOps.call (o_len _ Tryz.underlying25 rfl rfl) ?_
      refine AOps.call (o_bin _ _ rfl rfl (fun _ => rfl) rfl) ?_
      refine AOps.nil ?_
      refine AWP.cond _ rfl (fun h26 => ?_) (fun h26 => ?_)
      · skip
        have hlt : k < l.length := by have := of_decide_eq_true h26; omega
        have hp1 : partA false 1 (((ints (fillB (betF (wf w) (endP p w l) x e) l.length e k)).flatten).drop (k - 1)) = some (I ((betF (wf w) (endP p w l) x e) (k - 1))) := by
          rw [ints_part (by rw [fillB_len]; omega), fillB_get (by omega), if_pos (by omega)]
        have hew := sps_gD (L := w) (k := ((k : Nat) : Int) - 1) (j := k - 1) (by omega) (by omega)
        have hee := sps_gD (L := endsP p w l) (k := ((k : Nat) : Int)) (j := k) (by omega) (by omega)
        rw [endsP_gD hlt] at hee
        have hbk := hb (k - 1)
        have hbe := hbE (k - 1) (by omega) (by omega)
        have hbn := hneE (k - 1) (by omega)
        simp only [Sp.Has] at hbe
        unfold wf at hbk
        have hst : splice (ints (fillB (betF (wf w) (endP p w l) x e) l.length e k)).flatten [I (min (max ((betF (wf w) (endP p w l) x e) (k - 1) + (w.getD (k - 1) ⟨0, 0⟩).lo) (endP p w l k).lo) (min ((betF (wf w) (endP p w l) x e) (k - 1) + (w.getD (k - 1) ⟨0, 0⟩).hi) (endP p w l k).hi))] k = (ints (fillB (betF (wf w) (endP p w l) x e) l.length e (k + 1))).flatten := by
          have h1 := betF_up (w := wf w) (E := endP p w l) (x := x) (e := e) (k := k - 1) (by omega)
          rw [show k - 1 + 1 = k by omega] at h1
          rw [ints_set (by rw [fillB_len]; exact hlt), ← fillB_up (f := (betF (wf w) (endP p w l) x e)) hlt (by omega), h1]
          unfold clampA
          rw [show k - 1 + 1 = k by omega]; rfl
        refine AWP.skip ?_
        refine AWP.seq ?_
        refine AWP.block ?_
        refine AWP.drawn 40 mixed (by kernel_rfl) ?_
        refine AHead.call (o_move _ rfl rfl) rfl ?_
        refine AHead.call (o_move _ rfl rfl) rfl ?_
        refine AHead.call (o_move _ rfl rfl) rfl ?_
        refine AHead.call (o_move _ rfl rfl) rfl ?_
        refine AHead.call (o_sub _ _ rfl rfl ⟨by (try dsimp only); omega, by (try dsimp only); omega⟩ rfl) rfl ?_
        refine AHead.call (o_indexArr (o := (k - 1)) _ _ Tryz.underlying25 Tryz.sizeOf3 rfl rfl (by omega) (by omega) (by omega) rfl) rfl ?_
        refine AHead.call (o_loadRefE (v := I ((betF (wf w) (endP p w l) x e) (k - 1))) _ rfl rfl Tryz.sizeOf3 Tryz.isAgg3 hp1 rfl) rfl ?_
        refine AHead.call (o_move _ rfl rfl) rfl ?_
        refine AHead.call (o_move _ rfl rfl) rfl ?_
        refine AHead.call (o_sub _ _ rfl rfl ⟨by (try dsimp only); omega, by (try dsimp only); omega⟩ rfl) rfl ?_
        refine AHead.call (o_index _ _ Tryz.underlying38 Tryz.sizeOf54 rfl rfl (by omega) hew rfl rfl) rfl ?_
        refine AHead.call (o_fieldRd _ rfl fa54_0 rfl) rfl ?_
        refine AHead.call (o_loadRd _ rfl Tryz.sizeOf3 Tryz.isAgg3 rfl rfl rfl) rfl ?_
        refine AHead.call (o_add _ _ rfl rfl ⟨by (try dsimp only); omega, by (try dsimp only); omega⟩ rfl) rfl ?_
        refine AHead.call (o_move _ rfl rfl) rfl ?_
        refine AHead.call (o_move _ rfl rfl) rfl ?_
        refine AHead.call (o_index _ _ Tryz.underlying38 Tryz.sizeOf54 rfl rfl (by omega) hee rfl rfl) rfl ?_
        refine AHead.call (o_fieldRd _ rfl fa54_0 rfl) rfl ?_
        refine AHead.call (o_loadRd _ rfl Tryz.sizeOf3 Tryz.isAgg3 rfl rfl rfl) rfl ?_
        refine AHead.call (o_maxZ _ _ rfl rfl rfl) rfl ?_
        refine AHead.call (o_move _ rfl rfl) rfl ?_
        refine AHead.call (o_move _ rfl rfl) rfl ?_
        refine AHead.call (o_sub _ _ rfl rfl ⟨by (try dsimp only); omega, by (try dsimp only); omega⟩ rfl) rfl ?_
        refine AHead.call (o_indexArr (o := (k - 1)) _ _ Tryz.underlying25 Tryz.sizeOf3 rfl rfl (by omega) (by omega) (by omega) rfl) rfl ?_
        refine AHead.call (o_loadRefE (v := I ((betF (wf w) (endP p w l) x e) (k - 1))) _ rfl rfl Tryz.sizeOf3 Tryz.isAgg3 hp1 rfl) rfl ?_
        refine AHead.call (o_move _ rfl rfl) rfl ?_
        refine AHead.call (o_move _ rfl rfl) rfl ?_
        refine AHead.call (o_sub _ _ rfl rfl ⟨by (try dsimp only); omega, by (try dsimp only); omega⟩ rfl) rfl ?_
        refine AHead.call (o_index _ _ Tryz.underlying38 Tryz.sizeOf54 rfl rfl (by omega) hew rfl rfl) rfl ?_
        refine AHead.call (o_fieldRd _ rfl fa54_1 rfl) rfl ?_
        refine AHead.call (o_loadRd _ rfl Tryz.sizeOf3 Tryz.isAgg3 rfl rfl rfl) rfl ?_
        refine AHead.call (o_add _ _ rfl rfl ⟨by (try dsimp only); omega, by (try dsimp only); omega⟩ rfl) rfl ?_
        refine AHead.call (o_move _ rfl rfl) rfl ?_
        refine AHead.call (o_move _ rfl rfl) rfl ?_
        refine AHead.call (o_index _ _ Tryz.underlying38 Tryz.sizeOf54 rfl rfl (by omega) hee rfl rfl) rfl ?_
        refine AHead.call (o_fieldRd _ rfl fa54_1 rfl) rfl ?_
        refine AHead.call (o_loadRd _ rfl Tryz.sizeOf3 Tryz.isAgg3 rfl rfl rfl) rfl ?_
        refine AHead.call (o_minZ _ _ rfl rfl rfl) rfl ?_
        refine AHead.call (o_minZ _ _ rfl rfl rfl) rfl ?_
        refine AHead.call (o_indexArr (o := k) _ _ Tryz.underlying25 Tryz.sizeOf3 rfl rfl (by omega) (by omega) (by omega) rfl) rfl ?_
        refine AHead.nil ?_
        refine AOps.cons (o_storeE _ _ rfl rfl Tryz.sizeOf3 rfl rfl (by rw [ints_flen, fillB_len]; omega) hst rfl) ?_
        refine AOps.nil ?_
        refine AWP.region ?_
        refine AOps.call (o_move _ rfl rfl) ?_
        refine AOps.call (o_add _ _ rfl rfl ⟨by (try dsimp only); omega, by (try dsimp only); omega⟩ rfl) ?_
        refine AOps.call (o_assign _ rfl rfl) ?_
        refine AOps.nil ?_
        refine ⟨k + 1, ?_, (Weak.mk' rfl ⟨⟨.refl rfl, rfl⟩, ⟨⟨.refl rfl, rfl⟩, ⟨⟨.refl rfl, rfl⟩, ⟨⟨.refl rfl, rfl⟩, ⟨⟨.refl rfl, rfl⟩, ⟨⟨.refl rfl, rfl⟩, ⟨⟨.refl (congrArg I (by (try dsimp only); omega)), rfl⟩, trivial⟩⟩⟩⟩⟩⟩⟩ ⟨⟨rfl, rfl, rfl⟩, ⟨⟨rfl, lowL_sc _ _ (ints_scs _), rfl⟩, trivial⟩⟩ trivial)⟩
        exact ⟨⟨by omega, by omega⟩, by omega⟩
      · skip
        have hkl : k = l.length := by have := of_decide_eq_false h26; omega
        subst hkl
        refine AWP.exit ?_
        refine AWP.seq ?_
        refine AWP.seq ?_
        refine AWP.region ?_
        refine AOps.call (o_move _ rfl rfl) ?_
        refine AOps.call (o_sub _ _ rfl rfl ⟨by (try dsimp only); omega, by (try dsimp only); omega⟩ rfl) ?_
        refine AOps.call (o_assign _ rfl rfl) ?_
        refine AOps.nil ?_
        refine AWP.block ?_
        refine AWP.loop (ι := Nat) (fun i => AS.mk' 137 [(1, .sl (sps w)), (2, .sl (ints l)), (3, I e), (5, .ref (5, 0) 0), (11, .arr (18, 0) 0 l.length l.length), (12, .sl (sps (endsP p w l))), (15, I ((e : Int) - 1 - i))] [((5, 0), eP p), ((18, 0), (ints (fillB (betF (wf w) (endP p w l) x e) l.length (e - i) l.length)).flatten)] [] [(5, 1), (18, 1)]) (fun i => i ≤ e) (fun i => e - i) (0) (Weak.mk' rfl ⟨⟨.refl rfl, rfl⟩, ⟨⟨.refl rfl, rfl⟩, ⟨⟨.refl rfl, rfl⟩, ⟨⟨.refl rfl, rfl⟩, ⟨⟨.refl rfl, rfl⟩, ⟨⟨.refl rfl, rfl⟩, ⟨⟨.refl (congrArg I (by (try dsimp only); omega)), rfl⟩, trivial⟩⟩⟩⟩⟩⟩⟩ ⟨⟨rfl, rfl, rfl⟩, ⟨⟨rfl, lowL_sc _ _ (ints_scs _), rfl⟩, trivial⟩⟩ trivial) (Nat.zero_le _) ?_
        rintro k hk
        try dsimp only at *
        refine AWP.seq ?_
        refine AWP.seq ?_
        refine AWP.region ?_
        refine AOps.call (o_move _ rfl rfl) ?_
        refine AOps.call (o_bin _ _ rfl rfl (fun _ => rfl) rfl) ?_
        refine AOps.nil ?_
        refine AWP.cond _ rfl (fun h59 => ?_) (fun h59 => ?_)
        · skip
          have hk0 : (0 : Int) ≤ (e : Int) - 1 - k := of_decide_eq_true h59
          obtain ⟨kk, hkk⟩ : ∃ kk : Nat, (kk : Int) = (e : Int) - 1 - k := ⟨((e : Int) - 1 - k).toNat, by omega⟩
          have hek : e - k = kk + 1 := by omega
          rw [hek]
          have hp1 : partA false 1 (((ints (fillB (betF (wf w) (endP p w l) x e) l.length (kk + 1) l.length)).flatten).drop (kk + 1)) = some (I ((betF (wf w) (endP p w l) x e) (kk + 1))) := by
            rw [ints_part (by rw [fillB_len]; omega), fillB_get (by omega), if_pos (by omega)]
          have hew := sps_gD (L := w) (k := (e : Int) - 1 - k) (j := kk) (by omega) (by omega)
          have hee := sps_gD (L := endsP p w l) (k := (e : Int) - 1 - k) (j := kk) (by omega) (by omega)
          rw [endsP_gD (by omega)] at hee
          have hbk := hb kk
          have hbe := hbD (e - (kk + 1)) (kk + 1) (by omega)
          have hbn := hneE (kk + 1) (by omega)
          simp only [Sp.Has] at hbe
          unfold wf at hbk
          have hst : splice (ints (fillB (betF (wf w) (endP p w l) x e) l.length (kk + 1) l.length)).flatten [I (min (max ((betF (wf w) (endP p w l) x e) (kk + 1) - (w.getD kk ⟨0, 0⟩).hi) (endP p w l kk).lo) (min ((betF (wf w) (endP p w l) x e) (kk + 1) - (w.getD kk ⟨0, 0⟩).lo) (endP p w l kk).hi))] kk = (ints (fillB (betF (wf w) (endP p w l) x e) l.length kk l.length)).flatten := by
            have h1 := betF_dn (w := wf w) (E := endP p w l) (x := x) (e := e) (k := kk) (by omega)
            rw [ints_set (by rw [fillB_len]; omega), ← fillB_dn (f := (betF (wf w) (endP p w l) x e)) (k := kk) (by omega) (by omega), h1]
            rfl
          refine AWP.skip ?_
          refine AWP.seq ?_
          refine AWP.block ?_
          refine AWP.drawn 38 mixed (by kernel_rfl) ?_
          refine AHead.call (o_move _ rfl rfl) rfl ?_
          refine AHead.call (o_move _ rfl rfl) rfl ?_
          refine AHead.call (o_move _ rfl rfl) rfl ?_
          refine AHead.call (o_move _ rfl rfl) rfl ?_
          refine AHead.call (o_add _ _ rfl rfl ⟨by (try dsimp only); omega, by (try dsimp only); omega⟩ rfl) rfl ?_
          refine AHead.call (o_indexArr (o := (kk + 1)) _ _ Tryz.underlying25 Tryz.sizeOf3 rfl rfl (by omega) (by omega) (by omega) rfl) rfl ?_
          refine AHead.call (o_loadRefE (v := I ((betF (wf w) (endP p w l) x e) (kk + 1))) _ rfl rfl Tryz.sizeOf3 Tryz.isAgg3 hp1 rfl) rfl ?_
          refine AHead.call (o_move _ rfl rfl) rfl ?_
          refine AHead.call (o_move _ rfl rfl) rfl ?_
          refine AHead.call (o_index _ _ Tryz.underlying38 Tryz.sizeOf54 rfl rfl (by omega) hew rfl rfl) rfl ?_
          refine AHead.call (o_fieldRd _ rfl fa54_1 rfl) rfl ?_
          refine AHead.call (o_loadRd _ rfl Tryz.sizeOf3 Tryz.isAgg3 rfl rfl rfl) rfl ?_
          refine AHead.call (o_sub _ _ rfl rfl ⟨by (try dsimp only); omega, by (try dsimp only); omega⟩ rfl) rfl ?_
          refine AHead.call (o_move _ rfl rfl) rfl ?_
          refine AHead.call (o_move _ rfl rfl) rfl ?_
          refine AHead.call (o_index _ _ Tryz.underlying38 Tryz.sizeOf54 rfl rfl (by omega) hee rfl rfl) rfl ?_
          refine AHead.call (o_fieldRd _ rfl fa54_0 rfl) rfl ?_
          refine AHead.call (o_loadRd _ rfl Tryz.sizeOf3 Tryz.isAgg3 rfl rfl rfl) rfl ?_
          refine AHead.call (o_maxZ _ _ rfl rfl rfl) rfl ?_
          refine AHead.call (o_move _ rfl rfl) rfl ?_
          refine AHead.call (o_move _ rfl rfl) rfl ?_
          refine AHead.call (o_add _ _ rfl rfl ⟨by (try dsimp only); omega, by (try dsimp only); omega⟩ rfl) rfl ?_
          refine AHead.call (o_indexArr (o := (kk + 1)) _ _ Tryz.underlying25 Tryz.sizeOf3 rfl rfl (by omega) (by omega) (by omega) rfl) rfl ?_
          refine AHead.call (o_loadRefE (v := I ((betF (wf w) (endP p w l) x e) (kk + 1))) _ rfl rfl Tryz.sizeOf3 Tryz.isAgg3 hp1 rfl) rfl ?_
          refine AHead.call (o_move _ rfl rfl) rfl ?_
          refine AHead.call (o_move _ rfl rfl) rfl ?_
          refine AHead.call (o_index _ _ Tryz.underlying38 Tryz.sizeOf54 rfl rfl (by omega) hew rfl rfl) rfl ?_
          refine AHead.call (o_fieldRd _ rfl fa54_0 rfl) rfl ?_
          refine AHead.call (o_loadRd _ rfl Tryz.sizeOf3 Tryz.isAgg3 rfl rfl rfl) rfl ?_
          refine AHead.call (o_sub _ _ rfl rfl ⟨by (try dsimp only); omega, by (try dsimp only); omega⟩ rfl) rfl ?_
          refine AHead.call (o_move _ rfl rfl) rfl ?_
          refine AHead.call (o_move _ rfl rfl) rfl ?_
          refine AHead.call (o_index _ _ Tryz.underlying38 Tryz.sizeOf54 rfl rfl (by omega) hee rfl rfl) rfl ?_
          refine AHead.call (o_fieldRd _ rfl fa54_1 rfl) rfl ?_
          refine AHead.call (o_loadRd _ rfl Tryz.sizeOf3 Tryz.isAgg3 rfl rfl rfl) rfl ?_
          refine AHead.call (o_minZ _ _ rfl rfl rfl) rfl ?_
          refine AHead.call (o_minZ _ _ rfl rfl rfl) rfl ?_
          refine AHead.call (o_indexArr (o := kk) _ _ Tryz.underlying25 Tryz.sizeOf3 rfl rfl (by omega) (by omega) (by omega) rfl) rfl ?_
          refine AHead.nil ?_
          refine AOps.cons (o_storeE _ _ rfl rfl Tryz.sizeOf3 rfl rfl (by rw [ints_flen, fillB_len]; omega) hst rfl) ?_
          refine AOps.nil ?_
          refine AWP.region ?_
          refine AOps.call (o_move _ rfl rfl) ?_
          refine AOps.call (o_sub _ _ rfl rfl ⟨by (try dsimp only); omega, by (try dsimp only); omega⟩ rfl) ?_
          refine AOps.call (o_assign _ rfl rfl) ?_
          refine AOps.nil ?_
          refine ⟨k + 1, ?_, (Weak.mk' rfl ⟨⟨.refl rfl, rfl⟩, ⟨⟨.refl rfl, rfl⟩, ⟨⟨.refl rfl, rfl⟩, ⟨⟨.refl rfl, rfl⟩, ⟨⟨.refl rfl, rfl⟩, ⟨⟨.refl rfl, rfl⟩, ⟨⟨.refl (congrArg I (by (try dsimp only); omega)), rfl⟩, trivial⟩⟩⟩⟩⟩⟩⟩ ⟨⟨rfl, rfl, rfl⟩, ⟨⟨(by rw [show e - (k + 1) = kk by omega]; rfl), lowL_sc _ _ (ints_scs _), rfl⟩, trivial⟩⟩ trivial)⟩
          exact ⟨by omega, by omega⟩
        · skip
          have hke : k = e := by have := of_decide_eq_false h59; omega
          subst hke
          rw [Nat.sub_self]
          refine AWP.weak (Weak.frz (id := (18, 0)) (t := 11) (z := 1) (es := ints (fillB (betF (wf w) (endP p w l) x k) l.length 0 l.length)) (cs' := (ints (fillB (betF (wf w) (endP p w l) x k) l.length 0 l.length)).flatten) rfl rfl (closeL_self _ (sc_self (ints_scs _))) rfl ints_z (by rw [ints_len, fillB_len])) ?_
          have hCW := CheckWitness_s p w l (fillB (betF (wf w) (endP p w l) x k) l.length 0 l.length) hw1 hl1
          rw [show cwE p w l (fillB (betF (wf w) (endP p w l) x k) l.length 0 l.length) (rcE p w l) = 0 from cwE_fill h0 ha he hx] at hCW
          refine AWP.exit ?_
          refine AWP.seq ?_
          refine AWP.region ?_
          refine AOps.call (o_loadRef _ rfl rfl Tryz.sizeOf24 Tryz.isAgg24 rfl rfl rfl) ?_
          refine AOps.call (o_move _ rfl rfl) ?_
          refine AOps.call (o_move _ rfl rfl) ?_
          refine AOps.call (o_move _ rfl rfl) ?_
          refine AOps.call (o_call hCW Tryz.call31 rfl rfl) ?_
          refine AOps.call (o_bin _ _ rfl rfl (fun _ => rfl) rfl) ?_
          refine AOps.call (o_assign _ rfl rfl) ?_
          refine AOps.nil ?_
          refine AWP.ret ?_
          exact postQ.ret1 Tryz.results54 rfl rfl
  · skip
    exfalso
    exact absurd h15 (by decide)
end Go.Proofs.YtelenedgaoglaaaGreatDoor
