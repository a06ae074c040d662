/- Y13. -/
import Derived.Test.YtelenedgaoglaaaGreatDoorZ4
import Derived.Test.YtelenedgaoglaaaGreatDoorY2
import Derived.Test.YtelenedgaoglaaaGreatDoorRC
set_option linter.unusedSimpArgs false
set_option linter.unusedVariables false
namespace Go.Proofs.YtelenedgaoglaaaGreatDoor
open Go.Ab
open Go.Pil Go.RowKit
structure Tru where
  noise : Int
  slab : Int
  jump : Int
  faults : Int
  first : Int
  changes : List Int
  states : List Int
  errors : List Int
  carried : List Int
  shown : List Int
  slack : Int
def Tru.ld (t : Tru) : Nat → Int
  | 0 => t.first
  | k + 1 => t.ld k + t.changes.getD k 0
def Tru.sh (t : Tru) (k : Nat) : Int := if t.states.getD k 0 ≠ 2 then t.ld k - t.carried.getD k 0 + t.errors.getD k 0 else t.shown.getD k 0
def Tru.log (t : Tru) (i : Nat) : List Shw := (List.range i).map fun (j : Nat) => ⟨((j : Nat) : Int), t.sh j⟩
def Tru.pl (t : Tru) (i : Nat) : Plw := ⟨0, 0, t.noise, t.slab, t.jump, t.faults, t.log i⟩
def Tru.w (t : Tru) (i : Nat) : List Sp := (List.range i).map fun j => ⟨t.changes.getD j 0 - t.slack, t.changes.getD j 0 + t.slack⟩
def Tru.lds (t : Tru) (i : Nat) : List Int := (List.range i).map t.ld
structure Tru.Ok (t : Tru) (i : Nat) : Prop where
  ld : ∀ j, j < i → 0 ≤ t.ld j ∧ t.ld j ≤ 65536
  ch : ∀ j, j + 1 < i → -65536 + t.slack ≤ t.changes.getD j 0 ∧ t.changes.getD j 0 ≤ 65536 - t.slack
  st : ∀ j, j < i → t.states.getD j 0 ≠ 2 → -t.noise ≤ t.errors.getD j 0 ∧ t.errors.getD j 0 ≤ t.noise ∧ 0 ≤ t.carried.getD j 0 ∧ t.carried.getD j 0 ≤ t.slab ∧ (t.states.getD j 0 = 0 → t.carried.getD j 0 = 0)
theorem Tru.log_len (t : Tru) (i : Nat) : (t.log i).length = i := by simp [Tru.log]
theorem Tru.w_len (t : Tru) (i : Nat) : (t.w i).length = i := by simp [Tru.w]
theorem Tru.lds_len (t : Tru) (i : Nat) : (t.lds i).length = i := by simp [Tru.lds]
theorem Tru.lds_getD {t : Tru} {i k : Nat} (h : k < i) : (t.lds i).getD k 0 = t.ld k := by
  unfold Tru.lds; rw [List.getD_eq_getElem?_getD, List.getElem?_map, List.getElem?_range h]; rfl
theorem Tru.at_eq {t : Tru} {n k : Nat} (h : k < n) : (t.pl n).at k = t.sh k := by
  unfold Plw.at Tru.pl Tru.log
  rw [List.getD_eq_getElem?_getD, List.getElem?_map, List.getElem?_range h]; rfl
theorem Tru.okW {t : Tru} {n : Nat} (hn : 0 < n) (h : t.Ok n) (hs : 0 ≤ t.slack ∧ t.slack ≤ 1000) : Go.Pil.okW (t.pl n) (t.w (n - 1)) = true := by
  refine okW_iff.2 ⟨by rw [Tru.w_len]; show n - 1 = (t.log n).length - 1; rw [Tru.log_len], List.all_eq_true.2 fun s hs' => ?_⟩
  obtain ⟨j, hj, rfl⟩ := List.mem_map.1 hs'
  have h1 := h.ch j (by have := List.mem_range.1 hj; omega)
  simp only [spB, Bool.and_eq_true, decide_eq_true_eq]; omega
theorem Tru.world {t : Tru} {n : Nat} (hn : 0 < n) (h : t.Ok n) (hs : 0 ≤ t.slack ∧ t.slack ≤ 1000) (hl : t.states.length = n) (hr : Rt ((t.pl n).pb []) t.states) : Go.Pil.World (((t.pl n).pb (t.w (n - 1))).a t.states) ((t.pl n).pb (t.w (n - 1))).w n t.ld := by
  refine ⟨fun k hk => ?_, fun k hk => ?_⟩
  · show ((t.pl n).allow k (t.states.getD k 0)).Has (t.ld k)
    have h1 := h.ld k hk
    have h2 := h.st k hk
    have h3 := hr.1 k (by omega)
    unfold Plw.allow
    by_cases h4 : t.states.getD k 0 = 2
    · rw [if_pos h4]; exact h1
    · rw [if_neg h4, Tru.at_eq hk]
      have h5 := h2 h4
      have h6 : t.sh k = t.ld k - t.carried.getD k 0 + t.errors.getD k 0 := if_pos h4
      rw [h6]
      show _ ∧ _
      simp only [Sp.Has, Sp.meet, Tru.pl]
      by_cases h7 : t.states.getD k 0 = 1
      · rw [if_pos h7]; omega
      · rw [if_neg h7]; have := h5.2.2.2.2 (by omega); omega
  · show ((t.w (n - 1)).getD k ⟨0, 0⟩).Has _
    unfold Tru.w
    rw [List.getD_eq_getElem?_getD, List.getElem?_map, List.getElem?_range (by omega : k < n - 1)]
    show (Sp.Has ⟨_, _⟩ (t.ld k + t.changes.getD k 0 - t.ld k))
    simp only [Sp.Has]; omega
theorem Tru.main {t : Tru} {n : Nat} (hn : 0 < n) (h : t.Ok n) (hs : 0 ≤ t.slack ∧ t.slack ≤ 1000) (hl : t.states.length = n) (hc : caseE (t.pl n) t.states = 0) :
    rcE (t.pl n) (t.w (n - 1)) t.states = 0 ∧ aliveP (t.pl n) (t.w (n - 1)) t.states ∧ cwE (t.pl n) (t.w (n - 1)) t.states (t.lds n) (rcE (t.pl n) (t.w (n - 1)) t.states) = 0 := by
  obtain ⟨hp, hll, hr⟩ := caseE_0 hc
  have hq := Tru.okW hn h hs
  have hz : rcE (t.pl n) (t.w (n - 1)) t.states = 0 := rcE_0.2 ⟨okP_iff.2 hp, hq, hll, hr⟩
  have hW := Tru.world hn h hs hl hr
  refine ⟨hz, ?_, cwE_world hz (by rw [Tru.lds_len, hl]) ?_⟩
  · unfold aliveP; rw [hl]; exact hW.al
  · rw [hl]
    exact ⟨fun k hk => by dsimp only; rw [Tru.lds_getD hk]; exact hW.1 k hk, fun k hk => by dsimp only; rw [Tru.lds_getD hk, Tru.lds_getD (show k < n by omega)]; exact hW.2 k hk⟩
end Go.Proofs.YtelenedgaoglaaaGreatDoor
