/- Packs, plain: layers, what flows through them, and what steps make of them. -/
import Derived.Test.YtgagfmjpmdgfdaaDoorF1
import Derived.Test.YtgagfmjpmdgfdaaDoorProg
namespace Go.Proofs.YtgagfmjpmdgfdaaDoor
open Go.Ab
def I (n : Int) : AV := .sc (.int .i64 n)
def B (b : Bool) : AV := .sc (.bool b)
theorem mixed : Tryd.prog.follows .mixedOrders = true := by kernel_rfl

structure Lay where
  ice : Int
  wet : Int
  cold : Int
  deriving DecidableEq
structure Stp where
  kind : Int
  much : Int
  cold : Int
  deriving DecidableEq
def eL (l : Lay) : List AV := [I l.ice, I l.wet, I l.cold]
def lays (l : List Lay) : List (List AV) := l.map eL
def eK (p : List Lay) : List AV := [.sl (lays p)]
def eT (s : Stp) : List AV := [I s.kind, I s.much, I s.cold]
def ints (l : List Int) : List (List AV) := l.map fun x => [I x]
theorem lays_len (l : List Lay) : (lays l).length = l.length := by simp [lays]
theorem ints_len (l : List Int) : (ints l).length = l.length := by simp [ints]
theorem lays_at {l : List Lay} {k : Nat} (h : k < l.length) : (lays l)[((k : Nat) : Int).toNat]? = some (eL l[k]) := by simp [lays, h]
theorem ints_at {l : List Int} {k : Nat} (h : k < l.length) : (ints l)[((k : Nat) : Int).toNat]? = some [I l[k]] := by simp [ints, h]
theorem lays_z {l : List Lay} : ∀ e ∈ lays l, e.length = 3 := by
  intro e he; obtain ⟨_, _, rfl⟩ := List.mem_map.1 he; rfl
theorem ints_z {l : List Int} : ∀ e ∈ ints l, e.length = 1 := by
  intro e he; obtain ⟨_, _, rfl⟩ := List.mem_map.1 he; rfl

/-- A layer is valid. -/
def layB (l : Lay) : Bool := decide (1 ≤ l.ice) && decide (l.ice ≤ 65536) && decide (0 ≤ l.wet) && decide (l.wet ≤ l.ice / 20) && decide (0 ≤ l.cold) && decide (l.cold ≤ 65536) && (decide (l.wet = 0) || decide (l.cold = 0))
theorem layB_iff {l : Lay} : layB l = true ↔ (1 ≤ l.ice ∧ l.ice ≤ 65536 ∧ 0 ≤ l.wet ∧ l.wet ≤ l.ice / 20 ∧ 0 ≤ l.cold ∧ l.cold ≤ 65536) ∧ (l.wet = 0 ∨ l.cold = 0) := by
  simp [layB, and_assoc]
def watL : List Lay → Int
  | [] => 0
  | l :: r => l.ice + l.wet + watL r
def coldL : List Lay → Int
  | [] => 0
  | l :: r => l.cold + coldL r
theorem watL_append (a b : List Lay) : watL (a ++ b) = watL a + watL b := by
  induction a with
  | nil => simp [watL]
  | cons x a ih => simp [watL, ih]; omega
theorem coldL_append (a b : List Lay) : coldL (a ++ b) = coldL a + coldL b := by
  induction a with
  | nil => simp [coldL]
  | cons x a ih => simp [coldL, ih]; omega
theorem watL_take {l : List Lay} {k : Nat} (h : k < l.length) : watL (l.take (k + 1)) = watL (l.take k) + (l[k].ice + l[k].wet) := by
  rw [List.take_succ_eq_append_getElem h, watL_append]; simp [watL]
theorem coldL_take {l : List Lay} {k : Nat} (h : k < l.length) : coldL (l.take (k + 1)) = coldL (l.take k) + l[k].cold := by
  rw [List.take_succ_eq_append_getElem h, coldL_append]; simp [coldL]
/-- What Check returns. -/
def packE (p : List Lay) : Int := if 64 < p.length then 20 else if p.all layB = false then 20 else if 65536 < watL p ∨ 65536 < coldL p then 20 else 0
theorem packE_0 {p : List Lay} : packE p = 0 ↔ p.length ≤ 64 ∧ (∀ l ∈ p, layB l = true) ∧ watL p ≤ 65536 ∧ coldL p ≤ 65536 := by
  unfold packE
  by_cases h1 : 64 < p.length
  · rw [if_pos h1]; constructor
    · intro h; omega
    · intro h; omega
  · rw [if_neg h1]
    by_cases h2 : p.all layB = false
    · rw [if_pos h2]
      constructor
      · intro h; omega
      · intro h
        have : p.all layB = true := List.all_eq_true.2 h.2.1
        rw [this] at h2; cases h2
    · rw [if_neg h2]
      have h2 : p.all layB = true := by simpa using h2
      have h3 := List.all_eq_true.1 h2
      by_cases h4 : 65536 < watL p ∨ 65536 < coldL p
      · rw [if_pos h4]; constructor
        · intro h; omega
        · intro h; omega
      · rw [if_neg h4]; exact ⟨fun _ => ⟨by omega, h3, by omega, by omega⟩, fun _ => rfl⟩
theorem packE_20 {p : List Lay} (h : ¬ packE p = 0) : packE p = 20 := by
  unfold packE at h ⊢
  by_cases h1 : 64 < p.length
  · rw [if_pos h1]
  · rw [if_neg h1] at h ⊢
    by_cases h2 : p.all layB = false
    · rw [if_pos h2]
    · rw [if_neg h2] at h ⊢
      by_cases h3 : 65536 < watL p ∨ 65536 < coldL p
      · rw [if_pos h3]
      · rw [if_neg h3] at h; exact absurd rfl h
/-- Layers in which water may flow: bounds that it keeps. -/
def flo (l : Lay) : Prop := 0 ≤ l.ice ∧ 0 ≤ l.cold ∧ l.ice + l.cold ≤ 140000 ∧ 0 ≤ l.wet ∧ l.wet ≤ l.ice / 20
theorem flo_of {l : Lay} (h : layB l = true) : flo l := by
  have := (layB_iff.1 h).1; unfold flo; omega
/-- Water enters a layer: what goes on, and the layer then. -/
def entF (left : Int) (l : Lay) : Int × Lay :=
  (left - min left l.cold - min (left - min left l.cold) ((l.ice + min left l.cold) / 20 - l.wet),
   ⟨l.ice + min left l.cold, l.wet + min (left - min left l.cold) ((l.ice + min left l.cold) / 20 - l.wet), l.cold - min left l.cold⟩)
theorem entF_ok {left : Int} {l : Lay} (h : flo l) (h0 : 0 ≤ left) : 0 ≤ (entF left l).1 ∧ (entF left l).1 ≤ left ∧ flo (entF left l).2 := by
  unfold flo entF at *; simp only []; omega
def pourL : Int → List Lay → Int × List Lay
  | much, [] => (much, [])
  | much, l :: r => ((pourL (entF much l).1 r).1, (entF much l).2 :: (pourL (entF much l).1 r).2)
theorem pourL_ok : ∀ {ls : List Lay} {much : Int}, (∀ l ∈ ls, flo l) → 0 ≤ much → 0 ≤ (pourL much ls).1 ∧ (pourL much ls).1 ≤ much ∧ (∀ l ∈ (pourL much ls).2, flo l) ∧ (pourL much ls).2.length = ls.length := by
  intro ls
  induction ls with
  | nil => intro much _ h; simp [pourL, h]
  | cons l r ih =>
    intro much h h0
    have h1 := entF_ok (left := much) (h l (by simp)) h0
    have h2 := ih (much := (entF much l).1) (fun x hx => h x (by simp [hx])) h1.1
    simp only [pourL, List.length_cons, List.mem_cons, forall_eq_or_imp]
    exact ⟨h2.1, by omega, ⟨h1.2.2, h2.2.2.1⟩, by rw [h2.2.2.2]⟩
theorem pourL_len (much : Int) (ls : List Lay) : (pourL much ls).2.length = ls.length := by
  induction ls generalizing much with
  | nil => rfl
  | cons l r ih => simp [pourL, ih]
end Go.Proofs.YtgagfmjpmdgfdaaDoor
