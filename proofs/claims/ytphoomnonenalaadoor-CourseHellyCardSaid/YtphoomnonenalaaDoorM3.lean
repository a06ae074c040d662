/- Sheets, plain. -/
import Derived.Test.YtphoomnonenalaaDoorM2
namespace Go.Proofs.YtphoomnonenalaaDoor
open Go.Ab
def stakeB (k : Stk) : Bool := !decide (k.depth < 0) && !decide (k.depth > 20000) && weightB k.full && weightB k.soil && decide (0 ≤ k.core) && decide (k.core ≤ k.depth) && decide (0 ≤ k.lost) && decide (k.lost ≤ k.depth - k.core)
theorem stakeB_bd {k : Stk} (h : stakeB k = true) : 0 ≤ k.depth ∧ k.depth ≤ 20000 ∧ 0 ≤ k.full ∧ k.full ≤ 1048576 ∧ 0 ≤ k.soil ∧ k.soil ≤ 1048576 ∧ 0 ≤ k.core ∧ k.core ≤ k.depth ∧ 0 ≤ k.lost ∧ k.lost ≤ k.depth - k.core := by
  simp [stakeB, weightB] at h; omega
def headB (h : Sht) : Bool := noB h.no && noB h.cell && noB h.scale && dayB h.day && dayB h.known && dayB h.emptyDay
def mouthB (h : Sht) : Bool := !decide (h.mouth < 1) && !decide (h.mouth > 1000) && weightB h.empty
def sheetB (h : Sht) : Bool := headB h && mouthB h && !decide ((h.stakes.length : Int) < 1) && !decide ((h.stakes.length : Int) > 32) && h.stakes.all stakeB
theorem sheetB_bd {h : Sht} (hb : sheetB h = true) : (0 ≤ h.day ∧ h.day ≤ 1048576) ∧ (0 ≤ h.emptyDay ∧ h.emptyDay ≤ 1048576) ∧ 1 ≤ h.mouth ∧ h.mouth ≤ 1000 ∧ 0 ≤ h.empty ∧ h.empty ≤ 1048576 ∧ 1 ≤ h.stakes.length ∧ h.stakes.length ≤ 32 := by
  simp only [sheetB, headB, mouthB, dayB, weightB, Bool.and_eq_true, Bool.not_eq_true', decide_eq_true_eq, decide_eq_false_iff_not] at hb
  omega
theorem sheetB_stakes {h : Sht} (hb : sheetB h = true) : ∀ k ∈ h.stakes, stakeB k = true := by
  simp only [sheetB, Bool.and_eq_true] at hb
  exact List.all_eq_true.1 hb.2
theorem alls_at {l : List Stk} {k : Nat} (h : k < l.length) : (l.drop k).all stakeB = (stakeB l[k] && (l.drop (k + 1)).all stakeB) := by
  rw [List.drop_eq_getElem_cons h]; rfl
def stakeE (c : Scl) (h : Sht) (k known : Int) : Int := if scaleE c = 0 then (if sheetB h then (if c.no = h.scale ∧ ¬ k < 0 ∧ ¬ k ≥ (h.stakes.length : Int) ∧ dayB known = true then 0 else 1) else 12) else scaleE c
theorem stakeE_0 {c : Scl} {h : Sht} {k known : Int} (hz : stakeE c h k known = 0) : scaleB c = true ∧ sheetB h = true ∧ 0 ≤ k ∧ k.toNat < h.stakes.length ∧ dayB known = true := by
  unfold stakeE at hz
  by_cases h1 : scaleE c = 0
  · rw [if_pos h1] at hz
    by_cases h2 : sheetB h = true
    · rw [if_pos h2] at hz
      by_cases h3 : c.no = h.scale ∧ ¬ k < 0 ∧ ¬ k ≥ (h.stakes.length : Int) ∧ dayB known = true
      · exact ⟨scaleE_0 h1, h2, by omega, by omega, h3.2.2.2⟩
      · rw [if_neg h3] at hz; simp at hz
    · rw [if_neg h2] at hz; simp at hz
  · rw [if_neg h1] at hz; exact absurd hz h1
/-! ### turns with which a sheet is possible -/
def posHi (e m : Int) (l : List Stk) : Int := l.foldl (fun m x => mn m [x.full - e]) m
def posS (c : Scl) (h : Sht) (known : Int) : Spn := ⟨(tnS c h.emptyDay h.day known).lo, posHi h.empty (tnS c h.emptyDay h.day known).hi h.stakes⟩
theorem foldl_take {α β : Type} (f : β → α → β) (a : β) {l : List α} {k : Nat} (h : k < l.length) : (l.take (k + 1)).foldl f a = f ((l.take k).foldl f a) l[k] := by
  rw [List.take_succ_eq_append_getElem h, List.foldl_append]; rfl
theorem mn1 (a b : Int) : mn a [b] = if b < a then b else a := rfl
theorem mx1 (a b : Int) : mx a [b] = if a < b then b else a := rfl
theorem posHi_le (e : Int) : ∀ (l : List Stk) (m : Int), posHi e m l ≤ m ∧ ∀ x ∈ l, posHi e m l ≤ x.full - e := by
  intro l
  induction l with
  | nil => intro m; exact ⟨Int.le_refl _, by simp⟩
  | cons y l ih =>
    intro m
    have h := ih (mn m [y.full - e])
    have h2 : mn m [y.full - e] ≤ m ∧ mn m [y.full - e] ≤ y.full - e := by rw [mn1]; split <;> omega
    refine ⟨Int.le_trans h.1 h2.1, fun x hx => ?_⟩
    rcases List.mem_cons.1 hx with hh | hh
    · subst hh; exact Int.le_trans h.1 h2.2
    · exact h.2 x hh
theorem posHi_ge {e b : Int} : ∀ (l : List Stk) (m : Int), b ≤ m → (∀ x ∈ l, b ≤ x.full - e) → b ≤ posHi e m l := by
  intro l
  induction l with
  | nil => intro m h _; exact h
  | cons y l ih =>
    intro m h hl
    refine ih (mn m [y.full - e]) ?_ fun x hx => hl x (List.mem_cons_of_mem _ hx)
    have := hl y List.mem_cons_self
    rw [mn1]; split <;> omega
theorem tnS_bd {s : Scl} {a b k : Int} (hs : scaleB s = true) (ha : 0 ≤ a ∧ a ≤ 1048576) (hb : 0 ≤ b ∧ b ≤ 1048576) : -2097152 ≤ (tnS s a b k).lo ∧ (tnS s a b k).lo ≤ 2097152 ∧ -2097152 ≤ (tnS s a b k).hi ∧ (tnS s a b k).hi ≤ 2097152 := by
  have h1 := drS_bd (k := k) hs ha
  have h2 := drS_bd (k := k) hs hb
  have hf := far_bd ha hb
  have hm := mul_bd (scaleB_rate hs).1 (scaleB_rate hs).2 hf.1 hf.2
  simp only [tnS, mn1, mx1]
  generalize drS s a k = x at *
  generalize drS s b k = y at *
  generalize s.rate * far a b = z at *
  refine ⟨?_, ?_, ?_, ?_⟩ <;> split <;> omega
theorem posS_bd {c : Scl} {h : Sht} {k : Int} (hs : scaleB c = true) (hb : sheetB h = true) : -2097152 ≤ (posS c h k).lo ∧ (posS c h k).lo ≤ 2097152 ∧ -2097152 ≤ (posS c h k).hi ∧ (posS c h k).hi ≤ 2097152 := by
  have h1 := sheetB_bd hb
  have h2 := tnS_bd (k := k) hs h1.2.1 h1.1
  refine ⟨h2.1, h2.2.1, posHi_ge _ _ h2.2.2.1 fun x hx => ?_, Int.le_trans (posHi_le _ _ _).1 h2.2.2.2⟩
  have := stakeB_bd (sheetB_stakes hb x hx)
  omega
/-! ### weights -/
def coreS (h : Sht) (x : Stk) (t : Spn) : Spn := ⟨mx 0 [x.full - h.empty - t.hi - x.soil], x.full - h.empty - t.lo⟩
/-- What is known of a sheet that is possible. -/
structure Fits (h : Sht) (t : Spn) (l : List Stk) : Prop where
  sheet : sheetB h = true
  lo : -2097152 ≤ t.lo
  hi : -2097152 ≤ t.hi
  le : t.lo ≤ t.hi
  hi2 : t.hi ≤ 2097152
  st : ∀ x ∈ l, stakeB x = true ∧ t.hi ≤ x.full - h.empty
theorem lost_bd {a m : Int} (h1 : 0 ≤ a) (h2 : a ≤ 20000) (h3 : 0 ≤ m) (h4 : m ≤ 1000) : 0 ≤ a * m ∧ a * m ≤ 20000000 := by
  refine ⟨Int.mul_nonneg h1 h3, ?_⟩
  have := Int.mul_le_mul h2 h4 h3 (by omega)
  omega
theorem core_bd {h : Sht} {t : Spn} {l : List Stk} (hf : Fits h t l) {x : Stk} (hx : x ∈ l) : 0 ≤ (coreS h x t).lo ∧ (coreS h x t).lo ≤ 4194304 ∧ 0 ≤ (coreS h x t).hi ∧ (coreS h x t).hi ≤ 4194304 ∧ 0 ≤ x.lost * h.mouth ∧ x.lost * h.mouth ≤ 20000000 := by
  have h1 := sheetB_bd hf.sheet
  have h2 := hf.st x hx
  have h3 := stakeB_bd h2.1
  have h4 := hf.lo; have h5 := hf.hi; have h6 := hf.le; have h7 := hf.hi2
  have h8 := lost_bd (a := x.lost) (m := h.mouth) (by omega) (by omega) (by omega) (by omega)
  simp only [coreS, mx1]
  refine ⟨?_, ?_, ?_, ?_, h8.1, h8.2⟩ <;> (try split) <;> omega
def snLo (h : Sht) (t : Spn) (l : List Stk) : Int := l.foldl (fun a x => a + (20 * (coreS h x t).lo + x.lost * h.mouth)) 0
def snHi (h : Sht) (t : Spn) (l : List Stk) : Int := l.foldl (fun a x => a + 20 * ((coreS h x t).hi + x.lost * h.mouth)) 0
theorem fold_bd {α : Type} (f : α → Int) (b : Int) (hb : 0 ≤ b) : ∀ (l : List α) (a c : Int), 0 ≤ a → a ≤ c → (∀ x ∈ l, 0 ≤ f x ∧ f x ≤ b) → 0 ≤ l.foldl (fun a x => a + f x) a ∧ l.foldl (fun a x => a + f x) a ≤ c + l.length * b := by
  intro l
  induction l with
  | nil => intro a c h1 h2 _; simp; exact ⟨h1, h2⟩
  | cons y l ih =>
    intro a c h1 h2 hl
    have hy := hl y List.mem_cons_self
    have := ih (a + f y) (c + b) (by omega) (by omega) fun x hx => hl x (List.mem_cons_of_mem _ hx)
    simp only [List.foldl_cons, List.length_cons]
    refine ⟨this.1, Int.le_trans this.2 ?_⟩
    rw [show ((l.length + 1 : Nat) : Int) = (l.length : Int) + 1 by omega, Int.add_mul]; omega
theorem sn_bd {h : Sht} {t : Spn} {l : List Stk} (hf : Fits h t l) (hl : l.length ≤ 32) : 0 ≤ snLo h t l ∧ snLo h t l ≤ 20000000000 ∧ 0 ≤ snHi h t l ∧ snHi h t l ≤ 20000000000 := by
  have h1 := fold_bd (fun x : Stk => 20 * (coreS h x t).lo + x.lost * h.mouth) 500000000 (by omega) l 0 0 (by omega) (by omega) fun x hx => by have := core_bd hf hx; omega
  have h2 := fold_bd (fun x : Stk => 20 * ((coreS h x t).hi + x.lost * h.mouth)) 500000000 (by omega) l 0 0 (by omega) (by omega) fun x hx => by have := core_bd hf hx; omega
  unfold snLo snHi
  omega
theorem Fits.take {h : Sht} {t : Spn} {l : List Stk} (hf : Fits h t l) (k : Nat) : Fits h t (l.take k) :=
  ⟨hf.sheet, hf.lo, hf.hi, hf.le, hf.hi2, fun x hx => hf.st x (List.mem_of_mem_take hx)⟩
def posE (c : Scl) (h : Sht) (known : Int) : Int := if (posS c h known).hi < (posS c h known).lo then 13 else 0
theorem fits {c : Scl} {h : Sht} {k : Int} (hs : scaleB c = true) (hb : sheetB h = true) (hz : posE c h k = 0) {l : List Stk} (hl : ∀ x ∈ l, x ∈ h.stakes) : Fits h (posS c h k) l := by
  have h1 := posS_bd (k := k) hs hb
  have h2 : ¬ (posS c h k).hi < (posS c h k).lo := fun hh => by unfold posE at hz; rw [if_pos hh] at hz; simp at hz
  exact ⟨hb, h1.1, h1.2.2.1, by omega, h1.2.2.2, fun x hx => ⟨sheetB_stakes hb x (hl x hx), (posHi_le _ _ _).2 x (hl x hx)⟩⟩
def snS (c : Scl) (h : Sht) (l : List Stk) (known : Int) : Spn := ⟨snLo h (posS c h known) l, snHi h (posS c h known) l⟩
def rndS (w : Spn) (t b : Int) : Spn := ⟨w.lo * t / b, (w.hi * t + b - 1) / b⟩
/-- The stake k alone. -/
def oneK (h : Sht) (k : Int) : List Stk := (h.stakes.drop k.toNat).take 1
theorem oneK_eq (h : Sht) (k : Int) : ((stakes h.stakes).drop k.toNat).take (k.toNat + 1 - k.toNat) = stakes (oneK h k) := by
  unfold oneK stakes
  rw [show k.toNat + 1 - k.toNat = 1 by omega, List.map_take, List.map_drop]
theorem oneK_mem {h : Sht} {k : Int} : ∀ x ∈ oneK h k, x ∈ h.stakes := fun x hx => List.mem_of_mem_drop (List.mem_of_mem_take hx)
theorem oneK_len {h : Sht} {k : Int} : (oneK h k).length ≤ 1 := by unfold oneK; rw [List.length_take]; omega
def kOf (h : Sht) (k : Int) : Stk := (h.stakes[k.toNat]?).getD ⟨0, 0, 0, 0, 0⟩
theorem kOf_get {h : Sht} {k : Int} (hk : k.toNat < h.stakes.length) : (stakes h.stakes)[k.toNat]? = some (eK (kOf h k)) := by
  unfold kOf stakes; simp [hk]
theorem kOf_mem {h : Sht} {k : Int} (hk : k.toNat < h.stakes.length) : kOf h k ∈ h.stakes := by
  unfold kOf; simp [hk]
def posR (c : Scl) (h : Sht) (known : Int) : Spn := if posE c h known = 0 then posS c h known else ⟨0, 0⟩
def snR (c : Scl) (h : Sht) (l : List Stk) (known : Int) : Spn := if posE c h known = 0 then snS c h l known else ⟨0, 0⟩
def watE (c : Scl) (h : Sht) (k known : Int) : Int := if stakeE c h k known = 0 then posE c h known else stakeE c h k known
def denE (c : Scl) (h : Sht) (k known : Int) : Int := if stakeE c h k known = 0 then (if (kOf h k).depth = 0 then 4 else posE c h known) else stakeE c h k known
def corR (c : Scl) (h : Sht) (k known : Int) : Spn := if watE c h k known = 0 then coreS h (kOf h k) (posS c h known) else ⟨0, 0⟩
def watR (c : Scl) (h : Sht) (k known : Int) : Spn := if watE c h k known = 0 then rndS (snS c h (oneK h k) known) 1 (20 * h.mouth) else ⟨0, 0⟩
def denR (c : Scl) (h : Sht) (k known : Int) : Spn := if denE c h k known = 0 then rndS (snS c h (oneK h k) known) 1000 (20 * h.mouth * (kOf h k).depth) else ⟨0, 0⟩
def couR (c : Scl) (h : Sht) (known : Int) : Spn := if watE c h 0 known = 0 then rndS (snS c h h.stakes known) 1 (20 * h.mouth * h.stakes.length) else ⟨0, 0⟩
theorem posHi_take {e m : Int} {l : List Stk} {k : Nat} (h : k < l.length) : posHi e m (l.take (k + 1)) = mn (posHi e m (l.take k)) [l[k].full - e] := by
  unfold posHi; rw [foldl_take _ _ h]
theorem snLo_take {h : Sht} {t : Spn} {l : List Stk} {k : Nat} (hk : k < l.length) : snLo h t (l.take (k + 1)) = snLo h t (l.take k) + (20 * (coreS h l[k] t).lo + l[k].lost * h.mouth) := by
  unfold snLo; rw [foldl_take _ _ hk]
theorem snHi_take {h : Sht} {t : Spn} {l : List Stk} {k : Nat} (hk : k < l.length) : snHi h t (l.take (k + 1)) = snHi h t (l.take k) + 20 * ((coreS h l[k] t).hi + l[k].lost * h.mouth) := by
  unfold snHi; rw [foldl_take _ _ hk]
end Go.Proofs.YtphoomnonenalaaDoor
