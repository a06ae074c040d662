/- Spans sorted by the library. -/
import Derived.Test.YtelenedgaoglaaaGreatDoorShS
import Derived.Test.YtelenedgaoglaaaGreatDoorRA
import Derived.Test.YtelenedgaoglaaaGreatDoorAdA
import Derived.Test.YtelenedgaoglaaaGreatDoorMA
set_option linter.unusedSimpArgs false
set_option linter.unusedVariables false
namespace Go.Proofs.YtelenedgaoglaaaGreatDoor
open Go.Ab Go.Pil Go.Shelf Go.RowKit Go.Lib Go.Sort
def cmpL (x y : Int × Int) : Int := Lib.compareInt x.1 y.1
theorem ltLo (x y : Int × Int) : ltOf cmpL x y = decide (x.1 < y.1) := by
  unfold ltOf cmpL Lib.compareInt
  by_cases h1 : x.1 < y.1
  · simp [h1]
  · by_cases h2 : y.1 < x.1 <;> simp [h1, h2]
theorem swoLo : SWO (ltOf cmpL) where
  irrefl x := by rw [ltLo]; simp
  trans x y z h1 h2 := by rw [ltLo] at *; simp at *; omega
  ntrans x y z h1 h2 := by rw [ltLo] at *; simp at *; omega
def encI (x : Int × Int) : List Value := [.int .i64 x.1, .int .i64 x.2]
set_option maxHeartbeats 1000000 in
theorem cmpCl (x y : Int × Int) (W : World) : Calls Tryz.prog 106 #[.agg #[.int .i64 x.1, .int .i64 x.2], .agg #[.int .i64 y.1, .int .i64 y.2]] W fun e w' => e = .returned (.int .i64 (cmpL x y)) ∧ ∃ q os', w' = grow (W.drewN q) os' := by
  unfold cmpL
  have hcon := fun W' => AnyG.cmp_Compare_int Tryz.cmpInt x.1 y.1 W'
  change ∀ W', Calls Tryz.prog 107 _ _ _ at hcon
  generalize Lib.compareInt x.1 y.1 = r at hcon ⊢
  go_enter Tryz.func106, Tryz.ntmps106
  go_wp2_with (go_at_call 107; refine (hcon _).mono ?_; rintro e w' ⟨rfl, rfl⟩)
  go_ret
  exact ⟨rfl, 0, _, by rw [alloc_eq_grow, alloc_eq_grow, grow_grow]; rfl⟩
theorem cmpLays72 (blk off size : Nat) (w : World) : CmpLays Tryz.prog 106 #[] encI 2 cmpL blk off size w := fun _ _ _ _ x y => cmpCl x y _
def toP (s : Sp) : Int × Int := (s.lo, s.hi)
def ofP (x : Int × Int) : Sp := ⟨x.1, x.2⟩
theorem ofP_toP (l : List Sp) : (l.map toP).map ofP = l := by
  rw [List.map_map]; exact List.map_id'' (fun s => rfl) l
def srtA (l : List Sp) : Array (Int × Int) := pdq (ltOf cmpL) (l.map toP).toArray 0 l.length (Lib.bitLen l.length) true true
def srt (l : List Sp) : List Sp := (srtA l).toList.map ofP
theorem srt_spec (l : List Sp) : (srtA l).size = l.length ∧ (srt l).length = l.length ∧ l.Perm (srt l) ∧ (srt l).Pairwise fun a b => a.lo ≤ b.lo := by
  have h := pdq_sorts (ltOf cmpL) swoLo (l.map toP).toArray 0 l.length (Lib.bitLen l.length) true true (Nat.zero_le _) (by simp) (Or.inl rfl)
  obtain ⟨⟨h1, _, h2⟩, h3⟩ := h
  have hs : (srtA l).size = l.length := by simpa [srtA] using h1
  have he : ∀ (d : Array (Int × Int)), d.size = l.length → (d.extract 0 l.length) = d := fun d hd => by rw [← hd]; simp
  rw [show pdq (ltOf cmpL) (l.map toP).toArray 0 l.length (Lib.bitLen l.length) true true = srtA l from rfl] at h2 h3
  rw [he _ hs, he _ (by simp)] at h2
  have hp := (h2.map ofP).symm
  simp only [ofP_toP] at hp
  refine ⟨hs, by simp [srt, hs], hp, ?_⟩
  unfold srt
  rw [List.pairwise_map, List.pairwise_iff_getElem]
  intro i j hi hj hij
  have hi' : i < (srtA l).size := by simpa using hi
  have hj' : j < (srtA l).size := by simpa using hj
  have := h3 i j (Nat.zero_le _) hij (by omega)
  rw [ltLo] at this
  have h5 := of_decide_eq_false this
  simp only [getElem!_pos (srtA l) i hi', getElem!_pos (srtA l) j hj'] at h5
  simp only [ofP, Array.getElem_toList]
  omega
theorem sps_flatJ {L : List Sp} {d : Array (Int × Int)} (hd : d.toList = L.map toP) {j : Nat} {c : AV} (hj : (sps L).flatten[j]? = some c) : j < d.size * 2 ∧ c = .sc ((flatK encI 2 d)[j]!) := by
  have hsz : d.size = L.length := by rw [← Array.length_toList, hd, List.length_map]
  have hlt : j < L.length * 2 := by
    have := (List.getElem?_eq_some_iff.1 hj).1
    rwa [flat_len _ sps_z, sps_len] at this
  refine ⟨by rw [hsz]; exact hlt, ?_⟩
  rw [get_flatK encI 2 d j (by rw [hsz]; exact hlt)]
  have h1 : j / 2 < L.length := by omega
  have h2 : (sps L)[j / 2]? = some (eN L[j / 2]) := by simp [sps, h1]
  have hd2 : d[j / 2]! = toP L[j / 2] := by
    have h3 : j / 2 < d.size := by omega
    rw [getElem!_pos d _ h3, ← Array.getElem_toList]
    simp [hd]
  have h4 : j % 2 = 0 ∨ j % 2 = 1 := by omega
  have hjj : j / 2 * 2 + j % 2 = j := by omega
  rw [hd2]
  rcases h4 with h4 | h4
  · have h9 := flat_get (sps L) sps_z (j / 2) 0 _ _ h2 rfl
    rw [show j / 2 * 2 + 0 = j by omega, hj] at h9
    rw [h4, Option.some.inj h9]; rfl
  · have h9 := flat_get (sps L) sps_z (j / 2) 1 _ _ h2 rfl
    rw [show j / 2 * 2 + 1 = j by omega, hj] at h9
    rw [h4, Option.some.inj h9]; rfl
theorem sps_flatC {L : List Sp} {j : Nat} (hj : j < L.length * 2) : ∃ c, (sps L).flatten[j]? = some c := ⟨_, List.getElem?_eq_getElem (by rw [flat_len _ sps_z, sps_len]; exact hj)⟩
set_option maxHeartbeats 1000000 in
theorem sort_s (l : List Sp) (a : Option Addr) (cap : Nat) (hl : l.length ≤ 1000000) : FSpecJ Tryz.prog (Jrow 54 2 (.slice a l.length cap) l.length (sps l).flatten) 105 [.sc (.slice a l.length cap), .clo 106 []]
    (fun r J' => r = .tup [] ∧ J' = Jrow 54 2 (.slice a l.length cap) l.length (sps (srt l)).flatten) := by
  intro w M vals T F hok hJ hlt hlen hargs hM
  obtain ⟨v1, v2, rfl⟩ : ∃ v1 v2, vals = [v1, v2] := by
    match vals, hlen with
    | [v1, v2], _ => exact ⟨v1, v2, rfl⟩
  have e1 : v1 = .slice a l.length cap := (hargs 0 _ _ rfl rfl).exact _ rfl
  have e2 : v2 = .func (.func 106) #[] #[] := by
    have h := hargs 1 _ _ rfl rfl
    cases h with
    | clo _ _ vs hl' _ =>
      have : vs = [] := List.eq_nil_of_length_eq_zero hl'.symm
      subst this; rfl
  subst e1 e2
  obtain ⟨hsz, hsl, hperm, hsort⟩ := srt_spec l
  by_cases h0 : l.length = 0
  · have hl0 : l = [] := List.eq_nil_of_length_eq_zero h0
    have hs0 : srt l = [] := List.eq_nil_of_length_eq_zero (by omega)
    have hcon := AnyF.slices_SortFunc_none Tryz.sortSp a cap (.func (.func 106) #[] #[]) w
    rw [h0] at hJ ⊢
    refine hcon.mono fun e w' ⟨he, hw⟩ => ?_
    subst hw
    rw [hs0]
    rw [hl0] at hJ
    exact ⟨_, _, _, T, F, M, he, ⟨rfl, rfl⟩, ⟨Jrow_ok, hJ, rfl, rfl, rfl, Nat.le_refl _, fun _ _ _ => rfl, fun _ _ h => h, fun _ h => .inl h, hlt, fun _ h => .inl h, fun _ _ _ => rfl, hM⟩, .tup [] [] rfl (fun i c v h => by simp at h)⟩
  · have hcs := fun {g : Nat} (h : a = some ⟨g, 0, none⟩) => Jrow_cells (g := g) (h ▸ hJ) 0
    obtain ⟨g1, g2, xs, g3, g4, g5⟩ := hJ
    rcases g3.2 with ⟨he, hn0⟩ | ⟨g, cap', cur, he, _, hg, hnc, hcm, hcsz, htake⟩
    · exact absurd hn0 h0
    · cases he
      have hT : T g := (g1 g).2 rfl
      have hblk : g < w.heap.size := lt_of_cells hg
      have hdl : (l.map toP).toArray.toList = l.map toP := rfl
      have hds : (l.map toP).toArray.size = l.length := by simp
      have hH : HoldsK encI 2 w g 0 (l.map toP).toArray := by
        intro j hj
        rw [size_flatK, hds] at hj
        obtain ⟨c, hc⟩ := sps_flatC hj
        obtain ⟨_, hc2⟩ := sps_flatJ hdl hc
        obtain ⟨v, q1, q2, q3⟩ := hcs rfl j c (by simpa using hc)
        rw [hc2] at q3
        have q4 := q3.exact _ rfl
        refine ⟨by rw [q1, q4]; rfl, ?_⟩
        simp [World.frozen?, hg]
      have eg : ∀ args w, (callFunc 106 args).run Tryz.prog w = .ok (.enter 106 args) w := enters_of Tryz.func106 (by kernel_rfl) rfl
      have hcon := AnyQ.slices_SortFunc_eq Tryz.sortSp 2 Tryz.isAgg54 Tryz.sizeOf54 encI (fun _ => rfl) (fun x v hv => by simp [encI] at hv; rcases hv with rfl | rfl <;> rfl) cmpL swoLo 106 #[] g 0 cap (l.map toP).toArray w eg (cmpLays72 g 0 _ w) hH hblk (by rw [hds]; omega)
      rw [hds] at hcon
      refine hcon.mono fun e w' ⟨he, m, os, hw⟩ => ?_
      rw [show pdq (ltOf cmpL) (l.map toP).toArray 0 l.length (Lib.bitLen l.length) true true = srtA l from rfl] at hw
      have hFs : (flatK encI 2 (srtA l)).size = l.length * 2 := by rw [size_flatK, hsz]
      have hcur : l.length * 2 ≤ cur.size := by rw [hcsz]; exact Nat.mul_le_mul_right _ hnc
      have hheap : w'.heap = w.heap.modify g (onCells (putCells id 0 (flatK encI 2 (srtA l)))) ++ os := by subst hw; rfl
      have hoth : ∀ k, k < w.heap.size → k ≠ g → w'.heap[k]? = w.heap[k]? := fun k hk hne => by
        rw [hheap, Array.getElem?_append_left (by simpa using hk), Array.getElem?_modify, if_neg (Ne.symm hne)]
      have hgg : w'.heap[g]? = some (.cells (putCells id 0 (flatK encI 2 (srtA l)) cur) 54 (0, 0)) := by
        rw [hheap, Array.getElem?_append_left (by simpa using hblk), Array.getElem?_modify, if_pos rfl, hg]; rfl
      have hpsz : (putCells id 0 (flatK encI 2 (srtA l)) cur).size = cur.size := by simp [putCells]
      have hsize : w.heap.size ≤ w'.heap.size := by rw [hheap]; simp
      have hsd : (srtA l).toList = (srt l).map toP := by
        unfold srt; rw [List.map_map]; exact (List.map_id'' (fun _ => rfl) _).symm
      refine ⟨_, _, _, T, F, M, he, ⟨rfl, rfl⟩, ?_, .tup [] [] rfl (fun i c v h => by simp at h)⟩
      refine ⟨Jrow_ok, ⟨g1, g2, (flatK encI 2 (srtA l)).toList, ⟨by simpa using hFs, .inr ⟨g, cap, _, rfl, Nat.zero_le _, hgg, hnc, hcm, by rw [hpsz, hcsz], ?_⟩⟩, by rw [Array.length_toList, hFs, flat_len _ sps_z, sps_len, hsl], fun j c u hc hu => ?_⟩, by subst hw; rfl, by subst hw; rfl, by subst hw; rfl, hsize, fun k hk hT' => hoth k hk fun e => hT' (e ▸ hT), fun k n hs => ?_, fun _ h => .inl h, fun b hb => Nat.lt_of_lt_of_le (hlt b hb) hsize, fun _ h => .inl h, fun _ _ _ => rfl, fun b hb => hM b (Nat.le_trans hsize hb)⟩
      · apply List.ext_getElem
        · simp [hpsz]; omega
        · intro k h1 h2
          have hk : k < l.length * 2 := by rw [Array.length_toList, hFs] at h2; exact h2
          have hkF : k < (flatK encI 2 (srtA l)).size := by omega
          simp only [List.getElem_take, Array.getElem_toList, putCells, Array.getElem_mapIdx]
          rw [if_pos ⟨Nat.zero_le _, by omega⟩]
          show id ((flatK encI 2 (srtA l))[k - 0]!) = _
          rw [Nat.sub_zero, getElem!_pos (flatK encI 2 (srtA l)) k hkF]
          rfl
      · obtain ⟨q1, q2⟩ := sps_flatJ hsd hc
        have hjF : j < (flatK encI 2 (srtA l)).size := by rw [size_flatK]; exact q1
        have hu2 : u = (flatK encI 2 (srtA l))[j]! := by
          rw [getElem!_pos (flatK encI 2 (srtA l)) j hjF]
          rw [Array.getElem?_toList, Array.getElem?_eq_getElem hjF] at hu
          exact (Option.some.inj hu).symm
        rw [q2, hu2]
        refine ⟨?_, .sc _⟩
        rw [get_flatK encI 2 _ j q1]
        have : j % 2 = 0 ∨ j % 2 = 1 := by omega
        rcases this with h | h <;> rw [h] <;> rfl
      · by_cases hk : k = g
        · subst hk
          obtain ⟨vs, ty, fz, p1, p2, p3⟩ := hs
          rw [hg] at p1; cases p1
          exact ⟨_, _, _, hgg, by rw [hpsz]; exact p2, p3⟩
        · exact hs.of_eq (hoth k hs.lt hk)
end Go.Proofs.YtelenedgaoglaaaGreatDoor
