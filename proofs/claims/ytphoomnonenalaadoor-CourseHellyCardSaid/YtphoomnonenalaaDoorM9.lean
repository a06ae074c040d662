/- Lists of sheets, plain. -/
import Derived.Test.YtphoomnonenalaaDoorM8
import Derived.Test.YtphoomnonenalaaDoorSh
set_option linter.unusedSimpArgs false
set_option linter.unusedVariables false
namespace Go.Proofs.YtphoomnonenalaaDoor
open Go.Ab Go.RowKit
def shts (l : List Sht) : List (List AV) := l.map eH
theorem shts_get {l : List Sht} {k : Nat} (h : k < l.length) : (shts l)[((k : Nat) : Int).toNat]? = some (eH l[k]) := by simp [shts, h]
theorem shts_len (l : List Sht) : (shts l).length = l.length := by simp [shts]
theorem shts_z {l : List Sht} : ∀ e ∈ shts l, e.length = 9 := by intro e he; obtain ⟨_, _, rfl⟩ := List.mem_map.1 he; rfl
def sheetsE (l : List Sht) : Int := if 256 < l.length then 2 else if l.all sheetB then 0 else 12
theorem allh_at {l : List Sht} {k : Nat} (h : k < l.length) : (l.drop k).all sheetB = (sheetB l[k] && (l.drop (k + 1)).all sheetB) := by
  rw [List.drop_eq_getElem_cons h]; rfl
theorem sheetsE_len {l : List Sht} (h : sheetsE l = 0) : l.length ≤ 256 := by
  unfold sheetsE at h
  by_cases h1 : 256 < l.length
  · rw [if_pos h1] at h; simp at h
  · omega
/-- Another sheet t takes the place of s. -/
def overB (s : Sht) (i : Nat) (k : Int) (t : Sht) (j : Nat) : Bool := decide (t.no = s.no) && decide (t.known ≤ k) && (decide (t.known > s.known) || decide (t.known = s.known) && decide (j > i))
def anyF (f : Sht → Nat → Bool) : List Sht → Nat → Bool
  | [], _ => false
  | t :: l, j => f t j || anyF f l (j + 1)
theorem anyF_at {f : Sht → Nat → Bool} {l : List Sht} {k : Nat} (h : k < l.length) : anyF f (l.drop k) k = (f l[k] k || anyF f (l.drop (k + 1)) (k + 1)) := by
  rw [List.drop_eq_getElem_cons h]; rfl
theorem anyF_iff {f : Sht → Nat → Bool} : ∀ (l : List Sht) (j : Nat), anyF f l j = true ↔ ∃ (i : Nat) (h : i < l.length), f l[i] (j + i) = true := by
  intro l
  induction l with
  | nil => intro j; simp [anyF]
  | cons a l ih =>
    intro j
    simp only [anyF, Bool.or_eq_true, ih]
    constructor
    · rintro (h | ⟨i, hi, h⟩)
      · exact ⟨0, by simp, h⟩
      · exact ⟨i + 1, by simpa using hi, by rw [show j + (i + 1) = j + 1 + i by omega]; simpa using h⟩
    · rintro ⟨i, hi, h⟩
      cases i with
      | zero => exact .inl h
      | succ i => exact .inr ⟨i, by simpa using hi, by rw [show j + 1 + i = j + (i + 1) by omega]; simpa using h⟩
def standB (l : List Sht) (i : Nat) (s : Sht) (k : Int) : Bool := decide (s.known ≤ k) && !anyF (overB s i k) l 0
def pickL (p : Nat → Bool) (n : Nat) : List Int := ((List.range n).filter p).map Int.ofNat
theorem pickL_succ (p : Nat → Bool) (n : Nat) : pickL p (n + 1) = pickL p n ++ if p n then [(n : Int)] else [] := by
  unfold pickL
  rw [List.range_succ, List.filter_append, List.map_append]
  congr 1
  by_cases h : p n <;> simp [h]
theorem pickL_len (p : Nat → Bool) (n : Nat) : (pickL p n).length ≤ n := by
  unfold pickL
  rw [List.length_map]
  exact Nat.le_trans (List.length_filter_le _ _) (by simp)
theorem pickL_mem {p : Nat → Bool} {n : Nat} {x : Int} : x ∈ pickL p n ↔ ∃ i : Nat, i < n ∧ p i = true ∧ x = i := by
  unfold pickL
  simp only [List.mem_map, List.mem_filter, List.mem_range]
  constructor
  · rintro ⟨i, ⟨h1, h2⟩, rfl⟩; exact ⟨i, h1, h2, rfl⟩
  · rintro ⟨i, h1, h2, rfl⟩; exact ⟨i, ⟨h1, h2⟩, rfl⟩
def okS (l : List Sht) (wd : List Int) (k : Int) (i : Nat) : Bool := match l[i]? with | none => false | some s => !wd.contains s.no && standB l i s k
theorem okS_at {l : List Sht} {wd : List Int} {k : Int} {i : Nat} (h : i < l.length) : okS l wd k i = (!wd.contains l[i].no && standB l i l[i] k) := by
  unfold okS; rw [List.getElem?_eq_getElem h]
def standL (l : List Sht) (wd : List Int) (k : Int) : List Int := pickL (okS l wd k) l.length
def standE (l : List Sht) (wd : List Int) (k : Int) : Int := if sheetsE l = 0 then (if incB 4095 (-1) wd = true ∧ dayB k = true then 0 else 1) else sheetsE l
theorem standE_0 {l : List Sht} {wd : List Int} {k : Int} (h : standE l wd k = 0) : sheetsE l = 0 ∧ incB 4095 (-1) wd = true ∧ dayB k = true := by
  unfold standE at h
  by_cases h1 : sheetsE l = 0
  · rw [if_pos h1] at h
    split at h
    · rename_i h2; exact ⟨h1, h2⟩
    · simp at h
  · rw [if_neg h1] at h; exact absurd h h1
theorem inc_pw {m : Int} : ∀ (l : List Int) (a : Int), incB m a l = true → l.Pairwise (· < ·) := by
  intro l
  induction l with
  | nil => intro _ _; exact .nil
  | cons y l ih =>
    intro a h
    simp only [incB, Bool.and_eq_true] at h
    exact .cons (fun x hx => (inc_bd l y h.2 x hx).1) (ih y h.2)
def difB (c : Scl) (s : Sht) (b a : Int) : Bool := !decide (couR c s b = couR c s a ∧ watE c s 0 b = watE c s 0 a)
def okC (c : Scl) (l : List Sht) (b a : Int) (i : Nat) : Bool := match l[i]? with | none => false | some s => decide (s.scale = c.no) && difB c s b a
theorem okC_at {c : Scl} {l : List Sht} {b a : Int} {i : Nat} (h : i < l.length) : okC c l b a i = (decide (l[i].scale = c.no) && difB c l[i] b a) := by
  unfold okC; rw [List.getElem?_eq_getElem h]
def corL (c : Scl) (l : List Sht) (b a : Int) : List Int := pickL (okC c l b a) l.length
def corE (c : Scl) (l : List Sht) (b a : Int) : Int := if scaleE c = 0 then (if sheetsE l = 0 then (if dayB b = true ∧ dayB a = true then 0 else 1) else sheetsE l) else scaleE c
theorem corE_0 {c : Scl} {l : List Sht} {b a : Int} (h : corE c l b a = 0) : scaleE c = 0 ∧ sheetsE l = 0 ∧ dayB b = true ∧ dayB a = true := by
  unfold corE at h
  by_cases h0 : scaleE c = 0
  · rw [if_pos h0] at h
    by_cases h1 : sheetsE l = 0
    · rw [if_pos h1] at h
      split at h
      · rename_i h2; exact ⟨h0, h1, h2⟩
      · simp at h
    · rw [if_neg h1] at h; exact absurd h h1
  · rw [if_neg h0] at h; exact absurd h h0
theorem drew_below (w : World) (q : Nat) : Below w.heap.size w (w.drewN q) := ⟨rfl, rfl, rfl, by simp [World.drewN], fun _ _ => rfl⟩
/-- A slice of ints, as the memory holds it. -/
theorem ints_mem {w : World} {M V G} {l : List Int} {v : Value} (h : VR w M V G (.sl (ints l)) v) :
    (l = [] ∧ ∃ a c, v = .slice a 0 c) ∨ ∃ b off c, v = .slice (some ⟨b, off, none⟩) l.length c ∧ ∀ j, j < l.length → w.cell? ⟨b, off + j, none⟩ = some (.int .i64 (l.getD j 0)) := by
  generalize hes : ints l = es at h
  cases h with
  | sl0 a c => exact .inl ⟨by simpa [ints] using hes, a, c, rfl⟩
  | sl _ z b off cap X hz hcap hc hv =>
    subst hes
    by_cases hl : l = []
    · subst hl; exact .inl ⟨rfl, _, _, rfl⟩
    · refine .inr ⟨b, off, cap, by rw [ints_len], fun j hj => ?_⟩
      have hz1 : z = 1 := by
        cases l with
        | nil => exact absurd rfl hl
        | cons x xs => exact (hz _ (List.mem_cons_self)).symm
      subst hz1
      have e1 : (ints l)[j]? = some [I l[j]] := by simp [ints, hj]
      have i1 := (hc j _ 0 _ e1 rfl).1
      have i2 := hv j _ 0 _ e1 rfl
      simp only [Nat.mul_one, Nat.add_zero] at i1
      generalize X j 0 = y at i1 i2
      cases i2
      rw [i1]; simp [hj]
theorem BinarySearch_s (l : List Int) (x : Int) (hs : l.Pairwise (· < ·)) (hl : l.length ≤ 1000000) : FSpec Tryd.prog 40 [.sl (ints l), I x] (.tup [I (l.countP (· < x) : Nat), B (l.contains x)]) none := by
  intro w M vals _ hlen hv _
  obtain ⟨v, u, rfl⟩ : ∃ v u, vals = [v, u] := by
    match vals, hlen with
    | [v, u], _ => exact ⟨v, u, rfl⟩
  have h1 := hv 0 _ _ rfl rfl
  have h2 := hv 1 _ _ rfl rfl
  cases h2
  have htup : ∀ w' : World, VR w' M noV noG (.tup [I (l.countP (· < x) : Nat), B (l.contains x)]) (.tuple #[.int .i64 (l.countP (· < x) : Nat), .bool (l.contains x)]) := fun w' =>
    .tup [I (l.countP (· < x) : Nat), B (l.contains x)] [.int .i64 (l.countP (· < x) : Nat), .bool (l.contains x)] rfl fun i c v hc hv => by
      match i, hc with
      | 0, hc => cases hc; cases hv; exact .sc _
      | 1, hc => cases hc; cases hv; exact .sc _
      | n + 2, hc => simp at hc
  rcases ints_mem h1 with ⟨hnil, a, c, rfl⟩ | ⟨b, off, c, rfl, hc⟩
  · subst hnil
    refine (Tryd.slices_BinarySearch_int_empty a c x w).mono ?_
    rintro e w' ⟨rfl, rfl⟩
    exact ⟨_, rfl, Below.refl _ _, htup w'⟩
  · refine (Tryd.slices_BinarySearch_int b off l.length c l x w (Nat.le_refl _) (by omega) hc (by rw [List.take_length]; exact hs.imp fun h => Int.le_of_lt h)).mono ?_
    rintro e w' ⟨rfl, q, rfl⟩
    refine ⟨_, rfl, drew_below w q, ?_⟩
    rw [List.take_length]
    exact htup _
theorem Contains_s (l : List Int) (x : Int) (hl : l.length ≤ 1000000) : FSpec Tryd.prog 39 [.sl (ints l), I x] (B (l.contains x)) none := by
  intro w M vals _ hlen hv _
  obtain ⟨v, u, rfl⟩ : ∃ v u, vals = [v, u] := by
    match vals, hlen with
    | [v, u], _ => exact ⟨v, u, rfl⟩
  have h1 := hv 0 _ _ rfl rfl
  have h2 := hv 1 _ _ rfl rfl
  cases h2
  rcases ints_mem h1 with ⟨hnil, a, c, rfl⟩ | ⟨b, off, c, rfl, hc⟩
  · subst hnil
    refine (Tryd.slices_Contains_int_empty a c x w).mono ?_
    rintro e w' ⟨rfl, rfl⟩
    exact ⟨_, rfl, Below.refl _ _, .sc _⟩
  · refine (Tryd.slices_Contains_int b off l.length c l x w (Nat.le_refl _) (by omega) hc).mono ?_
    rintro e w' ⟨rfl, rfl⟩
    refine ⟨_, rfl, Below.refl _ _, ?_⟩
    rw [List.take_length]
    exact .sc _
end Go.Proofs.YtphoomnonenalaaDoor
