/- slices.Insert of ints into a slice that can be written. -/
import Derived.Test.YtphoomnonenalaaDoorAbB
import Derived.Test.YtphoomnonenalaaDoorC21
import Derived.Test.YtphoomnonenalaaDoorC22
import Derived.Test.YtphoomnonenalaaDoorM11
set_option linter.unusedSimpArgs false
set_option linter.unusedVariables false
namespace Go.Proofs.YtphoomnonenalaaDoor
open Go.Ab Go.RowKit
theorem insL_get {l : List Int} {n i : Nat} {x : Int} (hn : n ≤ l.length) (h : i < l.length + 1) : (insL l n x).getD i 0 = if i < n then l.getD i 0 else if i = n then x else l.getD (i - 1) 0 := by
  have e : (l.take n).length = n := by rw [List.length_take]; omega
  simp only [List.getD_eq_getElem?_getD]
  unfold insL
  by_cases h1 : i < n
  · rw [if_pos h1, List.getElem?_append_left (by omega), List.getElem?_take, if_pos h1]
  · rw [if_neg h1, List.getElem?_append_right (by omega), e]
    by_cases h3 : i = n
    · subst h3; simp
    · rw [if_neg h3, show i - n = (i - n - 1) + 1 by omega, List.getElem?_cons_succ, List.getElem?_drop, show n + (i - n - 1) = i - 1 by omega]
theorem kept_cell {w0 w : World} {M0 : MT} {B o : Nat} {v : Value} (hB : Mine w0 M0 B) (h : Kept w0 M0 w) : Kept w0 M0 (w.setCell ⟨B, o, none⟩ v) := by
  refine ⟨h.os, h.tape, h.output, ?_, fun k hk ht => ?_, fun k n hk => ?_⟩
  · show w0.heap.size ≤ (w.heap.modify B _).size
    rw [Array.size_modify]; exact h.size
  · show (w.heap.modify B _)[k]? = _
    rw [Array.getElem?_modify, if_neg (hB.ne hk ht).symm]
    exact h.block k hk ht
  · obtain ⟨vs, ty, fz, h1, h2, h3⟩ := h.sz k n hk
    by_cases hb : B = k
    · subst hb
      refine ⟨vs.setIfInBounds o v, ty, fz, ?_, by simpa using h2, h3⟩
      show (w.heap.modify B _)[B]? = _
      rw [Array.getElem?_modify, if_pos rfl, h1]
      rfl
    · refine ⟨vs, ty, fz, ?_, h2, h3⟩
      show (w.heap.modify B _)[k]? = _
      rw [Array.getElem?_modify, if_neg hb]
      exact h1
theorem kept_cells {w0 : World} {M0 : MT} {B : Nat} (hB : Mine w0 M0 B) : ∀ (vs : List Value) (o : Nat) (w : World), Kept w0 M0 w → Kept w0 M0 (w.setCells B o vs)
  | [], _, _, h => h
  | v :: r, o, w, h => kept_cells hB r (o + 1) _ (kept_cell hB h)
theorem ins_fin {w' : World} {M' : Nat → Option Nat} {B C : Nat} {L : List Int} (hL : L.length ≤ C) (hcell : ∀ (i : Nat), i < L.length → w'.cell? ⟨B, i, none⟩ = some (.int .i64 (L.getD i 0))) (hMB : M' B = none) : VR w' M' noV noG (.sl (ints L)) (.slice (some ⟨B, 0, none⟩) L.length C) := by
  have := VR.sl (w := w') (M := M') (V := noV) (G := noG) (ints L) 1 B 0 C (fun i _ => .int .i64 (L.getD i 0)) ints_z (by rw [ints_len]; exact hL) (fun i e j c he hc => ?_) (fun i e j c he hc => ?_)
  · rw [ints_len] at this; exact this
  · have hi : i < L.length := by have := (List.getElem?_eq_some_iff.1 he).1; rw [ints_len] at this; exact this
    have hj : j = 0 := by
      have h1 := (List.getElem?_eq_some_iff.1 hc).1
      rw [ints_z e (List.mem_of_getElem? he)] at h1; omega
    subst hj
    refine ⟨?_, rfl, fun m hm => by rw [hMB] at hm; cases hm⟩
    rw [Nat.mul_one, Nat.add_zero, Nat.zero_add, hcell i hi]
  · have hi : i < L.length := by have := (List.getElem?_eq_some_iff.1 he).1; rw [ints_len] at this; exact this
    have hj : j = 0 := by
      have h1 := (List.getElem?_eq_some_iff.1 hc).1
      rw [ints_z e (List.mem_of_getElem? he)] at h1; omega
    subst hj
    have : e = [I L[i]] := by
      have := List.getElem?_eq_some_iff.1 he
      obtain ⟨_, h2⟩ := this
      rw [← h2]; simp [ints]
    subst this
    simp at hc
    subst hc
    simp [hi]
    exact .sc _
theorem held_ints {w : World} {M : Nat → Option Nat} {b : Nat} {l : List Int} (h : Held w M b (ints l).flatten) : ∃ vs ty, M b = some 0 ∧ w.heap[b]? = some (.cells vs ty (0, 0)) ∧ l.length ≤ vs.size ∧ ∀ (i : Nat) (hi : i < l.length), w.cell? ⟨b, i, none⟩ = some (.int .i64 l[i]) := by
  obtain ⟨h1, vs, ty, h2, h3, h4⟩ := h
  have hf : (ints l).flatten = l.map I := by
    clear h3 h4
    induction l with
    | nil => rfl
    | cons a l ih => show [I a] ++ (ints l).flatten = _; rw [ih]; rfl
  refine ⟨vs, ty, h1, h2, by rw [hf, List.length_map] at h3; exact h3, fun i hi => ?_⟩
  obtain ⟨v, p1, p2, p3⟩ := h4 i (I l[i]) (by rw [hf]; simp [hi])
  cases p3
  simp [World.cell?, h2, p1]
theorem cell_row {w' : World} {B i : Nat} {xs : List Value} {zs : Array Value} {t : TypeId} {fz : Nat × Nat} (h : w'.heap[B]? = some (.cells (xs.toArray ++ zs) t fz)) (hi : i < xs.length) : w'.cell? ⟨B, i, none⟩ = xs[i]? := by
  simp only [World.cell?, h]
  show (if (none : Option Nat).isSome then none else _) = _
  rw [if_neg (by simp), Array.getElem?_append_left (by simpa using hi)]
  simp
theorem Insert41_s (l : List Int) (n : Nat) (x : Int) (h0 : 0 < l.length) (hl : l.length ≤ 1000000) (hn : n ≤ l.length) :
    FSpecD Tryd.prog 41 [.arr (1000000, 0) 0 (ints l).length (ints l).length, I n, .arr (1000001, 0) 0 1 1] (ints l).flatten (ints [x]).flatten (.sl (ints (insL l n x))) := by
  intro w M b b2 vals hlen hargs hM hbb hH hH2
  obtain ⟨v1, v2, v3, rfl⟩ : ∃ v1 v2 v3, vals = [v1, v2, v3] := by
    match vals, hlen with
    | [v1, v2, v3], _ => exact ⟨v1, v2, v3, rfl⟩
  have h1 := hargs 0 _ _ rfl rfl
  have h2 := hargs 1 _ _ rfl rfl
  have h3 := hargs 2 _ _ rfl rfl
  obtain ⟨vs, ty, m1, m2, m3, m4⟩ := held_ints hH
  obtain ⟨vs2, ty2, k1, k2, k3, k4⟩ := held_ints hH2
  cases h2
  cases h1 with
  | arr _ _ _ _ b' cap hb' _ hcp hcs =>
  obtain rfl : b = b' := Option.some.inj ((show lentV [b, b2] (1000000, 0) = some b from rfl).symm.trans hb')
  cases h3 with
  | arr _ _ _ _ b2' cap2 hb2' _ hcp2 hcs2 =>
  obtain rfl : b2 = b2' := Option.some.inj ((show lentV [b, b2] (1000001, 0) = some b2 from rfl).symm.trans hb2')
  rw [ints_len] at hcp ⊢
  have hcv : cap ≤ vs.size := (hcs rfl).cells m2
  have hbl : b < w.heap.size := lt_of_cells m2
  have hx0 := k4 0 (by simp)
  have hmine : Mine w ⟨M, fun k => [b].contains k, noV⟩ b := .inr (by simp)
  have hmineN : Mine w ⟨M, fun k => [b].contains k, noV⟩ w.heap.size := .inl (Nat.le_refl _)
  have hcsl : (l.map (Value.int .i64)).length = l.length := by simp
  have hcsc : ∀ j v, (l.map (Value.int .i64))[j]? = some v → w.cell? ⟨b, 0 + j, none⟩ = some v := fun j v hv => by
    have hj : j < l.length := by have := (List.getElem?_eq_some_iff.1 hv).1; simpa using this
    rw [Nat.zero_add, m4 j hj]
    simp [hj] at hv; rw [hv]
  have hvsc : ∀ j v, [Value.int .i64 x][j]? = some v → w.cell? ⟨b2, 0 + j, none⟩ = some v := fun j v hv => by
    have hj : j = 0 := by have := (List.getElem?_eq_some_iff.1 hv).1; simp at this; exact this
    subst hj; simp at hv; subst hv; exact hx0
  have h1c : ∀ v ∈ l.map (Value.int .i64), v.oneCell' = true := fun v hv => by obtain ⟨_, _, rfl⟩ := List.mem_map.1 hv; rfl
  have h1v : ∀ v ∈ [Value.int .i64 x], v.oneCell' = true := fun v hv => by simp at hv; subst hv; rfl
  have hsome : ∀ j, j < cap → (w.cell? ⟨b, j, none⟩).isSome = true := fun j hj => by
    simp [World.cell?, m2]; omega
  have hLl := insL_len l n x
  have hM' : ∀ b', [b].contains b' = false → upd M b none b' = M b' := fun b' hb => upd_ne _ _ (by simpa using hb)
  have hc63 : cap ≤ 9223372036854775807 := Nat.le_trans (hcs rfl).top (by unfold maxLen; omega)
  rcases Nat.lt_or_ge cap (l.length + 1) with hroom | hroom
  · rcases Nat.lt_or_ge n l.length with hnl | hnl
    · refine (Any2.slices_Insert_int_grow Tryd.laysIns b 0 l.length cap n b2 0 1 cap2 (l.map (Value.int .i64)) [.int .i64 x] w hnl (by omega) hcp hroom (by omega) hcsl rfl hcsc hvsc h1c h1v).mono ?_
      rintro e w' ⟨rfl, rfl⟩
      refine ⟨_, upd M b none, rfl, kept_cells hmineN _ _ _ (kept_cells hmineN _ _ _ ((Kept.refl _ _).alloc (Nat.le_refl _) _).drew).drew, hM', ?_⟩
      generalize hA : ((l.map (Value.int .i64)).take n).toArray ++ Builtin.zeroCells (Value.int .i64 0).cells (l.length + 1 - n) ++ Builtin.zeroCells (Value.int .i64 0).cells (grownCap w (l.length + 1) cap (Tryd.laysIns_ren.t 3) - (l.length + 1)) = arr
      have hasz : l.length + 1 ≤ arr.size := by
        rw [← hA]
        simp only [Array.size_append, List.size_toArray, List.length_take, List.length_map, size_zeroCells]
        have : (Value.int IntKind.i64 0).cells.size = 1 := rfl
        rw [this]; omega
      have hnew := heap_new w (.cells arr (Tryd.laysIns_ren.t 3))
      have hsA : ∀ j, j < l.length + 1 → ((w.alloc (.cells arr (Tryd.laysIns_ren.t 3))).drew.cell? ⟨w.heap.size, j, none⟩).isSome = true := fun j hj => by
        show ((w.alloc (.cells arr (Tryd.laysIns_ren.t 3))).cell? ⟨w.heap.size, j, none⟩).isSome = true
        simp only [World.cell?, hnew]
        rw [if_neg (by simp)]
        rw [Array.getElem?_eq_getElem (by omega)]; rfl
      have hs1 : ∀ j, j < [Value.int .i64 x].length → ((w.alloc (.cells arr (Tryd.laysIns_ren.t 3))).drew.cell? ⟨w.heap.size, n + j, none⟩).isSome = true := fun j hj => hsA _ (by simp at hj; omega)
      have hs2 : ∀ j, j < ((l.map (Value.int .i64)).drop n).length → ((((w.alloc (.cells arr (Tryd.laysIns_ren.t 3))).drew.setCells w.heap.size n [Value.int .i64 x]).drew).cell? ⟨w.heap.size, n + 1 + j, none⟩).isSome = true := fun j hj => by
        rw [List.length_drop, hcsl] at hj
        exact isSome_setCells w.heap.size _ _ _ hs1 _ (hsA _ (by omega))
      have hfin := ins_fin (L := insL l n x) (C := grownCap w (l.length + 1) cap (Tryd.laysIns_ren.t 3)) (M' := upd M b none) (B := w.heap.size) (w' := (((w.alloc (.cells arr (Tryd.laysIns_ren.t 3))).drew.setCells w.heap.size n [Value.int .i64 x]).drew).setCells w.heap.size (n + 1) ((l.map (Value.int .i64)).drop n))
        (by rw [hLl]; exact grownCap_ge w _ _ _) (fun i hi => ?_) (by rw [upd_ne _ _ (by omega)]; exact hM _ (Nat.le_refl _))
      · rw [hLl] at hfin; exact hfin
      · rw [insL_get hn (by omega)]
        by_cases q1 : i < n
        · rw [if_pos q1, World.cell?_setCells_out _ _ _ _ _ (fun _ _ => .inl (by show i < n + 1; omega))]
          refine (World.cell?_setCells_out w.heap.size [Value.int .i64 x] n (w.alloc (.cells arr (Tryd.laysIns_ren.t 3))).drew ⟨w.heap.size, i, none⟩ (fun _ _ => .inl (by show i < n; omega))).trans ?_
          have := cell_row (w' := w.alloc (.cells arr (Tryd.laysIns_ren.t 3))) (i := i) (xs := (l.map (Value.int .i64)).take n) (by rw [← hA, Array.append_assoc] at hnew ⊢; exact hnew) (by rw [List.length_take, hcsl]; omega)
          refine this.trans ?_
          rw [List.getElem?_take, if_pos q1]
          simp [show i < l.length by omega]
        · rw [if_neg q1]
          by_cases q2 : i = n
          · subst q2
            rw [if_pos rfl, World.cell?_setCells_out _ _ _ _ _ (fun _ _ => .inl (by show i < i + 1; omega))]
            have := World.cell?_setCells_in w.heap.size [Value.int .i64 x] i (w.alloc (.cells arr (Tryd.laysIns_ren.t 3))).drew hs1 0 (by simp)
            exact this
          · rw [if_neg q2]
            have := World.cell?_setCells_in w.heap.size ((l.map (Value.int .i64)).drop n) (n + 1) _ hs2 (i - (n + 1)) (by rw [List.length_drop, hcsl]; omega)
            rw [show n + 1 + (i - (n + 1)) = i by omega] at this
            rw [this]
            simp [List.getElem_drop, show n + (i - (n + 1)) = i - 1 by omega, show i - 1 < l.length by omega]
    · obtain rfl : n = l.length := by omega
      refine (Any2.slices_Insert_int_end_grow Tryd.laysIns (some ⟨b, 0, none⟩) l.length cap b2 0 1 cap2 (l.map (Value.int .i64)) [.int .i64 x] w (by omega) hcp hroom (by omega) hcsl rfl (fun h => by cases h) (fun a ha j v hv => by cases ha; rw [Addr.add_lit]; exact hcsc j v hv) hvsc h1v).mono ?_
      rintro e w' ⟨rfl, rfl⟩
      refine ⟨_, upd M b none, rfl, (Kept.refl _ _).drew.alloc (Nat.le_refl _) _, hM', ?_⟩
      have hfin := ins_fin (L := insL l l.length x) (C := grownCap w (l.length + 1) cap (Tryd.laysIns_ren.t 3)) (M' := upd M b none) (B := w.heap.size) (w' := w.drew.alloc (.cells ((l.map (Value.int .i64) ++ [Value.int .i64 x]).toArray ++ Builtin.zeroCells (Value.int .i64 0).cells (grownCap w (l.length + 1) cap (Tryd.laysIns_ren.t 3) - (l.length + 1))) (Tryd.laysIns_ren.t 3)))
        (by rw [hLl]; exact grownCap_ge w _ _ _) (fun i hi => ?_) (by rw [upd_ne _ _ (by omega)]; exact hM _ (Nat.le_refl _))
      · rw [hLl] at hfin; exact hfin
      · rw [insL_get hn (by omega)]
        refine (cell_row (heap_new w.drew _) (by simp; omega)).trans ?_
        by_cases q1 : i < l.length
        · rw [if_pos q1, List.getElem?_append_left (by simpa using q1)]
          simp [q1]
        · obtain rfl : i = l.length := by omega
          rw [if_neg q1, if_pos rfl, List.getElem?_append_right (by simp)]
          simp
  · rcases Nat.lt_or_ge n l.length with hnl | hnl
    · refine (Any2.slices_Insert_int_shift Tryd.laysIns b 0 l.length cap n b2 0 1 cap2 (l.map (Value.int .i64)) [.int .i64 x] w hnl (by omega) hroom hc63 (Ne.symm hbb) hcsl rfl hcsc (fun j hj => by rw [Nat.zero_add]; exact hsome j (by omega)) (fun j hj => by simp [World.frozen?, m2]) hvsc h1c h1v
        ty2 ty vs2.size vs.size (by simp [World.shape?, k2]) (by simp [World.shape?, m2]) (by omega) (by simp [World.frozen?, k2]) (by simp [World.frozen?, k2])).mono ?_
      rintro e w' ⟨rfl, rfl⟩
      refine ⟨_, upd M b none, rfl, kept_cells hmine _ _ _ (kept_cells hmine _ _ _ (Kept.refl _ _).drew), hM', ?_⟩
      rw [← hLl]
      refine ins_fin (by omega) (fun i hi => ?_) (upd_same _ _ _)
      rw [insL_get hn (by omega)]
      have hs1 : ∀ j, j < ((l.map (Value.int .i64)).drop n).length → (w.drew.cell? ⟨b, 0 + (n + 1) + j, none⟩).isSome = true := fun j hj => by
        rw [List.length_drop, hcsl] at hj
        exact hsome _ (by omega)
      by_cases q1 : i < n
      · rw [if_pos q1, World.cell?_setCells_out _ _ _ _ _ (fun _ _ => .inl (by show i < 0 + n; omega)), World.cell?_setCells_out _ _ _ _ _ (fun _ _ => .inl (by show i < 0 + (n + 1); omega))]
        have := m4 i (by omega)
        simpa [show i < l.length by omega] using this
      · rw [if_neg q1]
        by_cases q2 : i = n
        · subst q2
          rw [if_pos rfl]
          have := World.cell?_setCells_in b [Value.int .i64 x] (0 + i) (w.drew.setCells b (0 + (i + 1)) ((l.map (Value.int .i64)).drop i)) (fun j hj => isSome_setCells b _ _ _ hs1 _ (hsome _ (by simp at hj; omega))) 0 (by simp)
          simpa using this
        · rw [if_neg q2, World.cell?_setCells_out _ _ _ _ _ (fun _ _ => .inr (by show 0 + n + 1 ≤ i; omega))]
          have := World.cell?_setCells_in b ((l.map (Value.int .i64)).drop n) (0 + (n + 1)) w.drew hs1 (i - (n + 1)) (by rw [List.length_drop, hcsl]; omega)
          rw [show 0 + (n + 1) + (i - (n + 1)) = i by omega] at this
          rw [this]
          simp [List.getElem_drop, show n + (i - (n + 1)) = i - 1 by omega, show i - 1 < l.length by omega]
    · obtain rfl : n = l.length := by omega
      refine (Any2.slices_Insert_int_end_room Tryd.laysIns b 0 l.length cap b2 0 1 cap2 [.int .i64 x] w (by omega) hroom hc63 rfl (fun j hj => hsome _ (by omega)) (fun j hj => by simp [World.frozen?, m2]) hvsc h1v).mono ?_
      rintro e w' ⟨rfl, rfl⟩
      refine ⟨_, upd M b none, rfl, kept_cells hmine _ _ _ (Kept.refl _ _), hM', ?_⟩
      rw [← hLl]
      refine ins_fin (by omega) (fun i hi => ?_) (upd_same _ _ _)
      rw [insL_get hn (by omega)]
      by_cases q1 : i < l.length
      · rw [if_pos q1, World.cell?_setCells_out _ _ _ _ _ (fun _ _ => .inl (by show i < 0 + l.length; omega))]
        have := m4 i (by omega)
        simpa [show i < l.length by omega] using this
      · obtain rfl : i = l.length := by omega
        rw [if_neg q1, if_pos rfl]
        have := World.cell?_setCells_in b [Value.int .i64 x] (0 + l.length) w (fun j hj => hsome _ (by simp at hj; omega)) 0 (by simp)
        simpa using this
end Go.Proofs.YtphoomnonenalaaDoor
