/- What the library's functions do, told of values alone: out of the shelf's contracts. -/
import Derived.Test.YtelenedgaoglaaaGreatDoorShelf
import Derived.Test.YtelenedgaoglaaaGreatDoorP1
import Derived.Lib.ItoaLen
set_option linter.unusedSimpArgs false
set_option linter.unusedVariables false
namespace Go.Proofs.YtelenedgaoglaaaGreatDoor
open Go.Ab Go.RowKit
def TAB (w : World) : Prop := Lib.TabIs Tryz.prog w "internal/strconv.uint64pow10" .u64 Lib.pow10Tab
theorem tab_stable : Stable TAB := by
  intro w w' hb h
  unfold TAB Lib.TabIs World.var? at h ⊢
  cases hg : Tryz.prog.globalNamed "internal/strconv.uint64pow10" with
  | none => rw [hg] at h; cases h
  | some g =>
    rw [hg] at h
    simp only [Option.bind_some] at h ⊢
    have hlt : g < w.heap.size := by
      rcases Nat.lt_or_ge g w.heap.size with h' | h'
      · exact h'
      · rw [Array.getElem?_eq_none h'] at h; cases h
    rw [hb.block g hlt]
    exact h
def itoaS (n : Int) : ByteArray := ⟨(Lib.itoa n).toArray⟩
def joinS (xs : List ByteArray) (sep : ByteArray) : ByteArray := ⟨(Lib.join (xs.map (·.data.toList)) sep.data.toList).toArray⟩
def strs (l : List ByteArray) : List (List AV) := l.map fun x => [.sc (.string x)]
theorem strs_len (l : List ByteArray) : (strs l).length = l.length := by simp [strs]
theorem strs_z {l : List ByteArray} : ∀ e ∈ strs l, e.length = 1 := by intro e he; obtain ⟨_, _, rfl⟩ := List.mem_map.1 he; rfl
theorem below_grow (w : World) (k : Nat) (os : Array Obj) : Below w.heap.size w (Go.Sort.grow (w.drewN k) os) := by
  refine ⟨rfl, rfl, rfl, by simp [Go.Sort.grow, World.drewN], fun i hi => ?_⟩
  show (w.heap ++ os)[i]? = _
  rw [Array.getElem?_append_left hi]
theorem Itoa_s (n : Int) (h0 : -9223372036854775808 ≤ n) (h1 : n ≤ 9223372036854775807) : FSpecG Tryz.prog TAB 81 [I n] (.sc (.string (itoaS n))) none := by
  intro w M vals hΓ hl hv _
  obtain ⟨v, rfl⟩ : ∃ v, vals = [v] := by
    match vals, hl with
    | [v], _ => exact ⟨v, rfl⟩
  have := hv 0 _ _ rfl rfl
  cases this
  refine (Tryz.strconv_Itoa n h0 h1 w hΓ).mono ?_
  rintro e w' ⟨rfl, k, os, rfl⟩
  exact ⟨_, rfl, below_grow w k os, .sc _⟩
theorem Join_s (xs : List ByteArray) (sep : ByteArray) (hN : xs.length ≤ 140737488355328) (hlen : (Lib.join (xs.map (·.data.toList)) sep.data.toList).length ≤ 140737488355328) :
    FSpec Tryz.prog 82 [.sl (strs xs), .sc (.string sep)] (.sc (.string (joinS xs sep))) none := by
  intro w M vals _ hl hv _
  obtain ⟨v, u, rfl⟩ : ∃ v u, vals = [v, u] := by
    match vals, hl with
    | [v, u], _ => exact ⟨v, u, rfl⟩
  have h1 := hv 0 _ _ rfl rfl
  have h2 := hv 1 _ _ rfl rfl
  cases h2
  by_cases hx : xs = []
  · subst hx
    have : ∃ a c, v = .slice a 0 c := by cases h1 <;> exact ⟨_, _, rfl⟩
    obtain ⟨a, c, rfl⟩ := this
    refine (Tryz.strings_Join_none a c sep w).mono ?_
    rintro e w' ⟨rfl, rfl⟩
    exact ⟨_, rfl, Below.refl _ _, .sc _⟩
  · generalize hes : strs xs = es at h1
    cases h1 with
    | sl0 _ _ => exact absurd (by simpa [strs] using hes) hx
    | sl _ z b off cap X hz hcap hc hV =>
      subst hes
      have hz1 : z = 1 := by
        cases xs with
        | nil => exact absurd rfl hx
        | cons x xs => exact (hz _ (List.mem_cons_self)).symm
      subst hz1
      have hcell : ∀ (j : Nat) x, xs[j]? = some x → w.cell? ⟨b, off + j, none⟩ = some (.string x) := fun j x hj => by
        have e1 : (strs xs)[j]? = some [.sc (.string x)] := by simp [strs, hj]
        have i1 := (hc j _ 0 _ e1 rfl).1
        have i2 := hV j _ 0 _ e1 rfl
        simp only [Nat.mul_one, Nat.add_zero] at i1
        generalize X j 0 = y at i1 i2
        cases i2
        exact i1
      have hlt : b < w.heap.size := by
        cases xs with
        | nil => exact absurd rfl hx
        | cons x xs =>
          have := hcell 0 x rfl
          rcases Nat.lt_or_ge b w.heap.size with h' | h'
          · exact h'
          · simp [World.cell?, Array.getElem?_eq_none h'] at this
      rw [strs_len] at hcap ⊢
      refine (Tryz.strings_Join b off cap xs sep w hcell hlt hN hcap hlen).mono ?_
      rintro e w' ⟨rfl, hb⟩
      exact ⟨_, rfl, hb, .sc _⟩
end Go.Proofs.YtelenedgaoglaaaGreatDoor
