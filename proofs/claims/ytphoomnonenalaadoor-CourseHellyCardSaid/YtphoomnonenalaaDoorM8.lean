/- Stakes that are changed one after the other, plain. -/
import Derived.Test.YtphoomnonenalaaDoorM7
import Derived.Test.YtphoomnonenalaaDoorAbB
set_option linter.unusedSimpArgs false
set_option linter.unusedVariables false
namespace Go.Proofs.YtphoomnonenalaaDoor
open Go.Ab Go.RowKit
theorem o_addW {P : Program} {w0 : World} {M0 : MT} {σ : AS} {ty : TypeId} {pos : String} {after : Array Edge} {guard : Option (Nat × Bool)} {d : Option Tmp} {t yt : TypeId} {a b : Int} (x y : Operand) (hx : exact (σ.ev x) = some (.int .i64 a)) (hy : exact (σ.ev y) = some (.int .i64 b)) (hd : okDB σ d = true) :
    OpAny P w0 M0 σ ⟨d, .binOp .add t x y yt, ty, pos, after, guard⟩ (.val (.sc (.int .i64 (IntKind.i64.wrap (a + b))))) := o_bin x y hx hy (fun _ => rfl) hd
theorem stakes_scs (l : List Stk) : ∀ x ∈ (stakes l).flatten, ∃ v, x = .sc v := by
  intro x hx
  obtain ⟨c, hc, hx⟩ := List.mem_flatten.1 hx
  obtain ⟨k, _, rfl⟩ := List.mem_map.1 hc
  simp only [eK, I, List.mem_cons, List.not_mem_nil, or_false] at hx
  rcases hx with rfl | rfl | rfl | rfl | rfl <;> exact ⟨_, rfl⟩
theorem flatK_len (l : List Stk) : (stakes l).flatten.length = 5 * l.length := by
  induction l with
  | nil => rfl
  | cons a l ih =>
    rw [show stakes (a :: l) = eK a :: stakes l from rfl, List.flatten_cons, List.length_append, ih, List.length_cons]
    show 5 + _ = _
    omega
theorem flatK_get {l : List Stk} {k : Nat} (h : k < l.length) : (stakes l).flatten[k * 5 + 2]? = some (I l[k].full) :=
  flat_get (stakes l) stakes_z k 2 (eK l[k]) _ (by simp [stakes, h]) rfl
theorem flatK_set : ∀ (l : List Stk) (k : Nat) (h : k < l.length) (n : Int), splice (stakes l).flatten [I n] (k * 5 + 2) = (stakes (l.set k ⟨l[k].depth, l[k].core, n, l[k].lost, l[k].soil⟩)).flatten := by
  intro l
  induction l with
  | nil => intro k h; simp at h
  | cons a l ih =>
    intro k h n
    cases k with
    | zero => rfl
    | succ k =>
      have := ih k (by simpa using h) n
      simp only [List.getElem_cons_succ, List.set_cons_succ]
      rw [show stakes (a :: l) = eK a :: stakes l from rfl, show ∀ x, stakes (a :: x) = eK a :: stakes x from fun _ => rfl, List.flatten_cons, List.flatten_cons, ← this]
      have hk : (eK a).length = 5 := rfl
      unfold splice
      rw [show (k + 1) * 5 + 2 = (eK a).length + (k * 5 + 2) by rw [hk]; omega, List.take_length_add_append]
      simp only [List.length_cons, List.length_nil]
      rw [show (eK a).length + (k * 5 + 2) + (0 + 1) = (eK a).length + (k * 5 + 2 + (0 + 1)) by omega, List.drop_length_add_append]
      simp only [List.append_assoc]
def mixL (m : Int) (k : Nat) (l : List Stk) : List Stk := (l.take k).map (addK m) ++ l.drop k
theorem mixL_len (m : Int) (k : Nat) (l : List Stk) : (mixL m k l).length = l.length := by unfold mixL; simp; omega
theorem mixL_at {m : Int} {k : Nat} {l : List Stk} (h : k < l.length) : (mixL m k l)[k]'(by rw [mixL_len]; exact h) = l[k] := by
  unfold mixL
  rw [List.getElem_append_right (by simp; omega)]
  simp only [List.length_map, List.length_take, List.getElem_drop]
  congr 1
  omega
theorem mixL_next {m : Int} {k : Nat} {l : List Stk} (h : k < l.length) : (mixL m k l).set k (addK m l[k]) = mixL m (k + 1) l := by
  unfold mixL
  rw [List.set_append_right _ _ (by simp; omega), List.take_succ_eq_append_getElem h, List.map_append, List.drop_eq_getElem_cons h]
  simp only [List.length_map, List.length_take, List.map_cons, List.map_nil, List.append_assoc, List.cons_append, List.nil_append]
  rw [show k - min k l.length = 0 by omega]
  rfl
theorem mixL_all (m : Int) (l : List Stk) : mixL m l.length l = l.map (addK m) := by unfold mixL; simp
theorem mixF_get {m : Int} {k : Nat} {l : List Stk} (h : k < l.length) : (stakes (mixL m k l)).flatten[0 + ((k : Nat) : Int).toNat * 5 + 2]? = some (I l[k].full) := by
  have := flatK_get (l := mixL m k l) (k := k) (by rw [mixL_len]; exact h)
  rw [mixL_at h] at this
  rw [Nat.zero_add]
  exact this
theorem mixF_set {m : Int} {k : Nat} {l : List Stk} (h : k < l.length) : splice (stakes (mixL m k l)).flatten [I (l[k].full + m)] (0 + ((k : Nat) : Int).toNat * 5 + 2) = (stakes (mixL m (k + 1) l)).flatten := by
  have := flatK_set (mixL m k l) k (by rw [mixL_len]; exact h) (l[k].full + m)
  rw [mixL_at h] at this
  rw [Nat.zero_add, ← mixL_next h]
  exact this
theorem mixF_len (m : Int) (k : Nat) (l : List Stk) : (stakes (mixL m k l)).flatten.length = 5 * l.length := by rw [flatK_len, mixL_len]
end Go.Proofs.YtphoomnonenalaaDoor
