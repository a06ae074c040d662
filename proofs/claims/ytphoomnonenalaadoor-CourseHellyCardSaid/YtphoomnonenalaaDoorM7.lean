/- The water of a course and that of its stakes, plain. -/
import Derived.Test.YtphoomnonenalaaDoorM6
set_option linter.unusedSimpArgs false
set_option linter.unusedVariables false
namespace Go.Proofs.YtphoomnonenalaaDoor
open Go.Ab Go.RowKit
theorem sum_floor {α : Type} (f : α → Int) {B : Int} (hB : 0 < B) : ∀ (l : List α) (a A c : Int), a * B ≤ A → A ≤ a * B + c →
    l.foldl (fun a x => a + f x / B) a * B ≤ l.foldl (fun a x => a + f x) A ∧ l.foldl (fun a x => a + f x) A ≤ l.foldl (fun a x => a + f x / B) a * B + c + l.length * (B - 1) := by
  intro l
  induction l with
  | nil => intro a A c h1 h2; simp only [List.foldl_nil, List.length_nil]; omega
  | cons y l ih =>
    intro a A c h1 h2
    simp only [List.foldl_cons, List.length_cons]
    have e1 := Int.ediv_mul_add_emod (f y) B
    have e2 := Int.emod_nonneg (f y) (show B ≠ 0 by omega)
    have e3 := Int.emod_lt_of_pos (f y) hB
    have e4 : (a + f y / B) * B = a * B + f y / B * B := Int.add_mul _ _ _
    have := ih (a + f y / B) (A + f y) (c + (B - 1)) (by omega) (by omega)
    have e5 : ((l.length + 1 : Nat) : Int) * (B - 1) = l.length * (B - 1) + (B - 1) := by rw [Int.natCast_add, Int.add_mul]; omega
    omega
theorem sum_ceil {α : Type} (f : α → Int) {B : Int} (hB : 0 < B) : ∀ (l : List α) (a A c : Int), A ≤ a * B → a * B ≤ A + c →
    l.foldl (fun a x => a + f x) A ≤ l.foldl (fun a x => a + (f x + B - 1) / B) a * B ∧ l.foldl (fun a x => a + (f x + B - 1) / B) a * B ≤ l.foldl (fun a x => a + f x) A + c + l.length * (B - 1) := by
  intro l
  induction l with
  | nil => intro a A c h1 h2; simp only [List.foldl_nil, List.length_nil]; omega
  | cons y l ih =>
    intro a A c h1 h2
    simp only [List.foldl_cons, List.length_cons]
    have e1 := Int.ediv_mul_add_emod (f y + B - 1) B
    have e2 := Int.emod_nonneg (f y + B - 1) (show B ≠ 0 by omega)
    have e3 := Int.emod_lt_of_pos (f y + B - 1) hB
    have e4 : (a + (f y + B - 1) / B) * B = a * B + (f y + B - 1) / B * B := Int.add_mul _ _ _
    have := ih (a + (f y + B - 1) / B) (A + f y) (c + (B - 1)) (by omega) (by omega)
    have e5 : ((l.length + 1 : Nat) : Int) * (B - 1) = l.length * (B - 1) + (B - 1) := by rw [Int.natCast_add, Int.add_mul]; omega
    omega
theorem means {B n lo hi SP SQ : Int} (hB : 0 < B) (hn : 0 < n) (h1 : lo * B ≤ SP) (h2 : SP ≤ lo * B + n * (B - 1)) (h3 : SQ ≤ hi * B) (h4 : hi * B ≤ SQ + n * (B - 1)) (h5 : SP ≤ SQ) :
    SP / (B * n) * n ≤ lo + n ∧ lo / n ≤ SP / (B * n) ∧ hi - n ≤ (SQ + B * n - 1) / (B * n) * n ∧ (SQ + B * n - 1) / (B * n) ≤ (hi + n - 1) / n ∧ SP / (B * n) ≤ (SQ + B * n - 1) / (B * n) := by
  have hBn : 0 < B * n := Int.mul_pos hB hn
  have hnB : n * (B - 1) = n * B - n := by rw [Int.mul_sub, Int.mul_one]
  have sw : ∀ x : Int, x * (B * n) = x * n * B := fun x => by rw [Int.mul_comm B n, Int.mul_assoc]
  have hc : B * n = n * B := Int.mul_comm _ _
  refine ⟨?_, ?_, ?_, ?_, ?_⟩
  · have e1 := Int.ediv_mul_le SP (show B * n ≠ 0 by omega)
    rw [sw] at e1
    generalize SP / (B * n) * n = Y at *
    rcases (show lo + n < Y ∨ Y ≤ lo + n by omega) with h | h
    · have e2 := Int.mul_le_mul_of_nonneg_right (show lo + n + 1 ≤ Y by omega) (Int.le_of_lt hB)
      rw [Int.add_mul, Int.add_mul, Int.one_mul] at e2
      omega
    · exact h
  · rw [Int.le_ediv_iff_mul_le hBn, sw]
    have e1 := Int.ediv_mul_le lo (show n ≠ 0 by omega)
    have e2 := Int.mul_le_mul_of_nonneg_right e1 (Int.le_of_lt hB)
    omega
  · have e1 := Int.lt_ediv_add_one_mul_self (SQ + B * n - 1) hBn
    rw [Int.add_mul, Int.one_mul, sw] at e1
    generalize (SQ + B * n - 1) / (B * n) * n = W at *
    rcases (show W < hi - n ∨ hi - n ≤ W by omega) with h | h
    · have e2 := Int.mul_le_mul_of_nonneg_right (show W + 1 + n ≤ hi by omega) (Int.le_of_lt hB)
      rw [Int.add_mul, Int.add_mul, Int.one_mul] at e2
      omega
    · exact h
  · have e1 := Int.lt_ediv_add_one_mul_self (hi + n - 1) hn
    rw [Int.add_mul, Int.one_mul] at e1
    refine Int.le_of_lt_add_one ((Int.ediv_lt_iff_lt_mul hBn).2 ?_)
    rw [Int.add_mul, Int.one_mul, sw]
    have e2 := Int.mul_le_mul_of_nonneg_right (show hi ≤ (hi + n - 1) / n * n by omega) (Int.le_of_lt hB)
    omega
  · exact Int.ediv_le_ediv hBn (by omega)

/-! ### the stakes one by one -/
def wl (h : Sht) (t : Spn) (x : Stk) : Spn := rndS ⟨snLo h t [x], snHi h t [x]⟩ 1 (20 * h.mouth)
def suLo (h : Sht) (t : Spn) (l : List Stk) : Int := l.foldl (fun a x => a + (wl h t x).lo) 0
def suHi (h : Sht) (t : Spn) (l : List Stk) : Int := l.foldl (fun a x => a + (wl h t x).hi) 0
theorem suLo_take {h : Sht} {t : Spn} {l : List Stk} {k : Nat} (hk : k < l.length) : suLo h t (l.take (k + 1)) = suLo h t (l.take k) + (wl h t l[k]).lo := by
  unfold suLo; rw [foldl_take _ _ hk]
theorem suHi_take {h : Sht} {t : Spn} {l : List Stk} {k : Nat} (hk : k < l.length) : suHi h t (l.take (k + 1)) = suHi h t (l.take k) + (wl h t l[k]).hi := by
  unfold suHi; rw [foldl_take _ _ hk]
theorem wat_all {c : Scl} {h : Sht} {k : Int} (hz : watE c h 0 k = 0) {i : Nat} (hi : i < h.stakes.length) : watE c h i k = 0 := by
  obtain ⟨h1, h2⟩ := wat_0 hz
  have h3 : stakeE c h i k = 0 := by
    unfold stakeE at h1 ⊢
    by_cases a1 : scaleE c = 0
    · rw [if_pos a1] at h1 ⊢
      by_cases a2 : sheetB h = true
      · rw [if_pos a2] at h1 ⊢
        split at h1
        · rename_i a3
          rw [if_pos ⟨a3.1, by omega, by omega, a3.2.2.2⟩]
        · simp at h1
      · rw [if_neg a2] at h1; simp at h1
    · rw [if_neg a1] at h1; exact absurd h1 a1
  unfold watE; rw [if_pos h3, h2]
theorem watR_at {c : Scl} {h : Sht} {k : Int} (hz : watE c h 0 k = 0) {i : Nat} (hi : i < h.stakes.length) : watR c h i k = wl h (posS c h k) h.stakes[i] := by
  unfold watR
  rw [if_pos (wat_all hz hi)]
  have : oneK h i = [h.stakes[i]] := by
    unfold oneK
    rw [show ((i : Nat) : Int).toNat = i by omega, List.drop_eq_getElem_cons hi]
    rfl
  unfold wl snS
  rw [this]
theorem wat_fits {c : Scl} {h : Sht} {k : Int} (hz : watE c h 0 k = 0) : Fits h (posS c h k) h.stakes ∧ 1 ≤ h.stakes.length ∧ h.stakes.length ≤ 32 ∧ 1 ≤ h.mouth ∧ h.mouth ≤ 1000 := by
  obtain ⟨h1, h2⟩ := wat_0 hz
  have h3 := stakeE_0 h1
  have h4 := sheetB_bd h3.2.1
  exact ⟨fits h3.1 h3.2.1 h2 fun x hx => hx, h4.2.2.2.2.2.2.1, h4.2.2.2.2.2.2.2, h4.2.2.1, h4.2.2.2.1⟩
theorem Fits.one {h : Sht} {t : Spn} {l : List Stk} (hf : Fits h t l) {x : Stk} (hx : x ∈ l) : Fits h t [x] :=
  ⟨hf.sheet, hf.lo, hf.hi, hf.le, hf.hi2, fun y hy => by rw [List.mem_singleton.1 hy]; exact hf.st x hx⟩
theorem div_bd {a b : Int} (ha : 0 ≤ a) (hb : 1 ≤ b) : 0 ≤ a / b ∧ a / b ≤ a := ⟨Int.ediv_nonneg ha (by omega), Int.ediv_le_self _ ha⟩
theorem wl_bd {h : Sht} {t : Spn} {x : Stk} (hf : Fits h t [x]) (hm : 1 ≤ h.mouth ∧ h.mouth ≤ 1000) : 0 ≤ (wl h t x).lo ∧ (wl h t x).lo ≤ 20000100000 ∧ 0 ≤ (wl h t x).hi ∧ (wl h t x).hi ≤ 20000100000 := by
  have h1 := sn_bd hf (by simp)
  unfold wl rndS
  simp only [Int.mul_one]
  have h2 := div_bd h1.1 (show 1 ≤ 20 * h.mouth by omega)
  have h3 := div_bd (show 0 ≤ snHi h t [x] + 20 * h.mouth - 1 by omega) (show 1 ≤ 20 * h.mouth by omega)
  omega
theorem su_bd {c : Scl} {h : Sht} {k : Int} (hz : watE c h 0 k = 0) (i : Nat) : 0 ≤ suLo h (posS c h k) (h.stakes.take i) ∧ suLo h (posS c h k) (h.stakes.take i) ≤ 1000000000000 ∧ 0 ≤ suHi h (posS c h k) (h.stakes.take i) ∧ suHi h (posS c h k) (h.stakes.take i) ≤ 1000000000000 := by
  obtain ⟨hf, _, hl, hm⟩ := wat_fits hz
  have hlen : (h.stakes.take i).length ≤ 32 := by rw [List.length_take]; omega
  have h1 := fold_bd (fun x => (wl h (posS c h k) x).lo) 20000100000 (by omega) (h.stakes.take i) 0 0 (by omega) (by omega) fun x hx => by
    have := wl_bd (hf.one (List.mem_of_mem_take hx)) hm; omega
  have h2 := fold_bd (fun x => (wl h (posS c h k) x).hi) 20000100000 (by omega) (h.stakes.take i) 0 0 (by omega) (by omega) fun x hx => by
    have := wl_bd (hf.one (List.mem_of_mem_take hx)) hm; omega
  unfold suLo suHi
  omega
theorem core_le {h : Sht} {t : Spn} {l : List Stk} (hf : Fits h t l) {x : Stk} (hx : x ∈ l) : (coreS h x t).lo ≤ (coreS h x t).hi := by
  have h2 := hf.st x hx
  have h3 := stakeB_bd h2.1
  have h6 := hf.le
  simp only [coreS, mx1]
  split <;> omega
theorem couR_bd {c : Scl} {h : Sht} {k : Int} (hz : watE c h 0 k = 0) : 0 ≤ (couR c h k).lo ∧ (couR c h k).lo ≤ 20000000000 ∧ 0 ≤ (couR c h k).hi ∧ (couR c h k).hi ≤ 21000000000 := by
  obtain ⟨hf, hl1, hl, hm⟩ := wat_fits hz
  have h1 := sn_bd hf hl
  unfold couR; rw [if_pos hz]
  unfold rndS snS
  simp only [Int.mul_one]
  have hb : 1 ≤ 20 * h.mouth * (h.stakes.length : Int) := by
    have : 0 < 20 * h.mouth * (h.stakes.length : Int) := Int.mul_pos (by omega) (by omega)
    omega
  have hb2 : 20 * h.mouth * (h.stakes.length : Int) ≤ 20000 * 32 := Int.mul_le_mul (by omega) (by omega) (by omega) (by omega)
  have h2 := div_bd h1.1 hb
  have h3 := div_bd (show 0 ≤ snHi h (posS c h k) h.stakes + 20 * h.mouth * (h.stakes.length : Int) - 1 by omega) hb
  omega
/-- What CourseAdds asks of a course and its stakes. -/
theorem adds_ok {c : Scl} {h : Sht} {k : Int} (hz : watE c h 0 k = 0) :
    (couR c h k).lo * h.stakes.length ≤ suLo h (posS c h k) h.stakes + h.stakes.length ∧ suLo h (posS c h k) h.stakes / h.stakes.length ≤ (couR c h k).lo ∧
    suHi h (posS c h k) h.stakes - h.stakes.length ≤ (couR c h k).hi * h.stakes.length ∧ (couR c h k).hi ≤ (suHi h (posS c h k) h.stakes + h.stakes.length - 1) / h.stakes.length ∧ (couR c h k).lo ≤ (couR c h k).hi := by
  obtain ⟨hf, hl1, hl, hm⟩ := wat_fits hz
  have hB : (0 : Int) < 20 * h.mouth := by omega
  have e1 := sum_floor (fun x => snLo h (posS c h k) [x]) hB h.stakes 0 0 0 (by omega) (by omega)
  have e2 := sum_ceil (fun x => snHi h (posS c h k) [x]) hB h.stakes 0 0 0 (by omega) (by omega)
  have e3 : h.stakes.foldl (fun a x => a + snLo h (posS c h k) [x]) 0 = snLo h (posS c h k) h.stakes := by
    unfold snLo; simp only [List.foldl_cons, List.foldl_nil, Int.zero_add]
  have e4 : h.stakes.foldl (fun a x => a + snHi h (posS c h k) [x]) 0 = snHi h (posS c h k) h.stakes := by
    unfold snHi; simp only [List.foldl_cons, List.foldl_nil, Int.zero_add]
  have e5 : h.stakes.foldl (fun a x => a + snLo h (posS c h k) [x] / (20 * h.mouth)) 0 = suLo h (posS c h k) h.stakes := by
    unfold suLo wl rndS; simp only [Int.mul_one]
  have e6 : h.stakes.foldl (fun a x => a + (snHi h (posS c h k) [x] + 20 * h.mouth - 1) / (20 * h.mouth)) 0 = suHi h (posS c h k) h.stakes := by
    unfold suHi wl rndS; simp only [Int.mul_one]
  rw [e3, e5] at e1
  rw [e4, e6] at e2
  have e7 : snLo h (posS c h k) h.stakes ≤ snHi h (posS c h k) h.stakes := by
    unfold snLo snHi
    have : ∀ (l : List Stk) (a b : Int), a ≤ b → (∀ x ∈ l, x ∈ h.stakes) → l.foldl (fun a x => a + (20 * (coreS h x (posS c h k)).lo + x.lost * h.mouth)) a ≤ l.foldl (fun a x => a + 20 * ((coreS h x (posS c h k)).hi + x.lost * h.mouth)) b := by
      intro l
      induction l with
      | nil => intro a b hab _; exact hab
      | cons y l ih =>
        intro a b hab hl
        have h1 := core_le hf (hl y List.mem_cons_self)
        have h2 := core_bd hf (hl y List.mem_cons_self)
        simp only [List.foldl_cons]
        exact ih _ _ (by omega) fun x hx => hl x (List.mem_cons_of_mem _ hx)
    exact this _ 0 0 (Int.le_refl _) fun x hx => hx
  have := means (n := h.stakes.length) hB (by omega) e1.1 (by omega) e2.1 (by omega) e7
  unfold couR; rw [if_pos hz]
  unfold rndS snS
  simp only [Int.mul_one]
  exact this

/-! ### all weights greater by one number -/
def addK (m : Int) (k : Stk) : Stk := ⟨k.depth, k.core, k.full + m, k.lost, k.soil⟩
def addH (m : Int) (h : Sht) : Sht := ⟨h.no, h.cell, h.day, h.known, h.scale, h.mouth, IntKind.i64.wrap (h.empty + m), h.emptyDay, h.stakes.map (addK m)⟩
theorem foldl_map' {α β γ : Type} (f : γ → β → γ) (g : α → β) : ∀ (l : List α) (a : γ), (l.map g).foldl f a = l.foldl (fun a x => f a (g x)) a := by
  intro l
  induction l with
  | nil => intro a; rfl
  | cons y l ih => intro a; simp only [List.map_cons, List.foldl_cons, ih]
theorem cou_add {c : Scl} {h : Sht} {k m : Int} (hb : sheetB h = true) (hx : sheetB (addH m h) = true) (hm : -1048576 ≤ m ∧ m ≤ 1048576) : watE c (addH m h) 0 k = watE c h 0 k ∧ couR c (addH m h) k = couR c h k := by
  have hbd := sheetB_bd hb
  have hw : IntKind.i64.wrap (h.empty + m) = h.empty + m := wrap_in ⟨by omega, by omega⟩
  have hst : stakeE c (addH m h) 0 k = stakeE c h 0 k := by
    unfold stakeE
    rw [if_pos hb, if_pos hx]
    simp [addH]
  have hpos : posS c (addH m h) k = posS c h k := by
    unfold posS addH posHi
    dsimp only
    rw [hw, foldl_map']
    congr 1
    congr 1
    funext a x
    unfold addK
    dsimp only
    rw [show x.full + m - (h.empty + m) = x.full - h.empty by omega]
  have hcore : ∀ x t, coreS (addH m h) (addK m x) t = coreS h x t := fun x t => by
    unfold coreS addH addK
    dsimp only
    rw [hw, show x.full + m - (h.empty + m) = x.full - h.empty by omega]
  have hsn : snS c (addH m h) (addH m h).stakes k = snS c h h.stakes k := by
    unfold snS snLo snHi
    rw [hpos]
    have e1 : (addH m h).stakes = h.stakes.map (addK m) := rfl
    have e2 : (addH m h).mouth = h.mouth := rfl
    have e3 : ∀ x, (addK m x).lost = x.lost := fun _ => rfl
    rw [e1, e2, foldl_map', foldl_map']
    simp only [hcore, e3]
  have hE : watE c (addH m h) 0 k = watE c h 0 k := by
    unfold watE posE
    rw [hst, hpos]
  refine ⟨hE, ?_⟩
  unfold couR
  rw [hE, hsn]
  have e1 : (addH m h).mouth = h.mouth := rfl
  have e2 : (addH m h).stakes.length = h.stakes.length := by simp [addH]
  rw [e1, e2]
end Go.Proofs.YtphoomnonenalaaDoor
