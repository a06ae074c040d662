/- The text of a pack, plain. -/
import Derived.Test.YtgagfmjpmdgfdaaDoorSh
set_option linter.unusedSimpArgs false
set_option linter.unusedVariables false
namespace Go.Ab
open Go.RowKit
section
variable {P : Program} {w0 : World} {M0 : MT} {σ : AS} {ty : TypeId} {pos : String} {after : Array Edge} {guard : Option (Nat × Bool)} {d : Option Tmp}
/-- Two strings joined. -/
theorem o_cat {t yt : TypeId} {a b : ByteArray} (x y : Operand) (hx : exact (σ.ev x) = some (.string a)) (hy : exact (σ.ev y) = some (.string b)) (h : a.size + b.size ≤ 1000000) (hd : okDB σ d = true) :
    OpAny P w0 M0 σ ⟨d, .binOp .add t x y yt, ty, pos, after, guard⟩ (.val (.sc (.string (a ++ b)))) :=
  ok_bin x y hx hy (fun w => by
    have hn : ¬ (((a.size + b.size : Nat) : Int) > IntKind.i64.max) := by
      have : IntKind.i64.max = 9223372036854775807 := rfl
      omega
    show (do eqGuard .add t x y (.string a) (.string b); binOp .add t (.string a) (.string b) : Sem Value).run P w = _
    simp only [eqGuard, binOp, Op.stringOp]
    rw [if_neg hn]
    rfl) (okD hd)
end
end Go.Ab
namespace Go.Proofs.YtgagfmjpmdgfdaaDoor
open Go.Ab
def PKW : ByteArray := ⟨#[112, 97, 99, 107]⟩
def SP : ByteArray := ⟨#[32]⟩
def SL : ByteArray := ⟨#[47]⟩
def wordS (l : Lay) : ByteArray := itoaS l.ice ++ SL ++ itoaS l.wet ++ SL ++ itoaS l.cold
def wordsP (l : List Lay) : List ByteArray := PKW :: l.map wordS
def prnS (p : List Lay) : ByteArray := joinS (wordsP p) SP
theorem joinTail_len {m : Nat} {sep : List UInt8} : ∀ (r : List (List UInt8)), (∀ x ∈ r, x.length ≤ m) → (Lib.joinTail sep r).length ≤ r.length * (m + sep.length) := by
  intro r
  induction r with
  | nil => intro _; simp [Lib.joinTail]
  | cons x r ih =>
    intro h
    have h1 := ih fun y hy => h y (List.mem_cons_of_mem _ hy)
    have h2 := h x List.mem_cons_self
    simp only [Lib.joinTail, List.map_cons, List.flatten_cons, List.length_append, List.length_cons] at h1 ⊢
    rw [Nat.add_mul]; omega
theorem join_len {m : Nat} {sep : List UInt8} : ∀ (r : List (List UInt8)), (∀ x ∈ r, x.length ≤ m) → (Lib.join r sep).length ≤ r.length * (m + sep.length) := by
  intro r h
  cases r with
  | nil => simp [Lib.join_nil]
  | cons x r =>
    rw [Lib.join_cons, List.length_append]
    have h1 := joinTail_len (m := m) (sep := sep) r fun y hy => h y (List.mem_cons_of_mem _ hy)
    have h2 := h x List.mem_cons_self
    rw [List.length_cons, Nat.add_mul]; omega
theorem itoa_len {n : Int} (h0 : -9223372036854775808 ≤ n) (h1 : n ≤ 9223372036854775807) : (Lib.itoa n).length ≤ 21 := by
  unfold Lib.itoa
  split
  · have := Lib.nDigits_le20 n.natAbs (by omega)
    rw [List.length_cons, Lib.decDigits_length]; omega
  · have := Lib.nDigits_le20 n.toNat (by omega)
    rw [Lib.decDigits_length]; omega
theorem itoa_size {n : Int} (h0 : -65536 ≤ n) (h1 : n ≤ 65536) : (itoaS n).size ≤ 21 := by
  have : (itoaS n).size = (Lib.itoa n).length := rfl
  rw [this]; exact itoa_len (by omega) (by omega)
theorem cat_size (a b : ByteArray) : (a ++ b).size = a.size + b.size := ByteArray.size_append
theorem wordS_size {l : Lay} (h : layB l = true) : (wordS l).size ≤ 70 := by
  have hb := (layB_iff.1 h).1
  have h1 := itoa_size (n := l.ice) (by omega) (by omega)
  have h2 := itoa_size (n := l.wet) (by omega) (by omega)
  have h3 := itoa_size (n := l.cold) (by omega) (by omega)
  have h4 : SL.size = 1 := rfl
  unfold wordS
  rw [cat_size, cat_size, cat_size, cat_size, h4]; omega
theorem wordsP_len (l : List Lay) : (wordsP l).length = l.length + 1 := by simp [wordsP]
theorem wordsP_snoc {p : List Lay} {k : Nat} (hk : k < p.length) : strs (wordsP (p.take k)) ++ [[.sc (.string (itoaS p[k].ice ++ SL ++ itoaS p[k].wet ++ SL ++ itoaS p[k].cold))]] = strs (wordsP (p.take (k + 1))) := by
  unfold wordsP strs
  rw [List.take_succ_eq_append_getElem hk, List.map_append (l₁ := p.take k)]
  simp [wordS]
theorem wordsP_bound {p : List Lay} (h : ∀ l ∈ p, layB l = true) (hl : p.length ≤ 64) : (Lib.join ((wordsP p).map (·.data.toList)) SP.data.toList).length ≤ 140737488355328 := by
  have h1 := join_len (m := 70) (sep := SP.data.toList) ((wordsP p).map (·.data.toList)) (by
    intro x hx
    obtain ⟨y, hy, rfl⟩ := List.mem_map.1 hx
    unfold wordsP at hy
    rcases List.mem_cons.1 hy with rfl | hy
    · exact (by decide : PKW.data.toList.length ≤ 70)
    · obtain ⟨l, hl, rfl⟩ := List.mem_map.1 hy
      have := wordS_size (h l hl)
      have e : (wordS l).data.toList.length = (wordS l).size := Array.length_toList
      omega)
  have h2 : SP.data.toList.length = 1 := rfl
  rw [List.length_map, wordsP_len, h2] at h1
  omega
end Go.Proofs.YtgagfmjpmdgfdaaDoor
