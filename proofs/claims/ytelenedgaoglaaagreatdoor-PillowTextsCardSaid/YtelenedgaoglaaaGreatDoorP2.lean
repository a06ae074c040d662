/- The text of a pillow, plain. -/
import Derived.Test.YtelenedgaoglaaaGreatDoorSh
import Derived.Test.YtelenedgaoglaaaGreatDoorRC
set_option linter.unusedSimpArgs false
set_option linter.unusedVariables false
namespace Go.Ab
open Go.RowKit
section
variable {P : Program} {w0 : World} {M0 : MT} {σ : AS} {ty : TypeId} {pos : String} {after : Array Edge} {guard : Option (Nat × Bool)} {d : Option Tmp}
theorem o_cat {t yt : TypeId} {a b : ByteArray} (x y : Operand) (hx : exact (σ.ev x) = some (.string a)) (hy : exact (σ.ev y) = some (.string b)) (h : a.size + b.size ≤ 1000000) (hd : okDB σ d = true) :
    OpAny P w0 M0 σ ⟨d, .binOp .add t x y yt, ty, pos, after, guard⟩ (.val (.sc (.string (a ++ b)))) :=
  ok_bin x y hx hy (fun w => by
    have hn : ¬ (((a.size + b.size : Nat) : Int) > IntKind.i64.max) := by
      have : IntKind.i64.max = 9223372036854775807 := rfl
      omega
    show (do eqGuard .add t x y (.string a) (.string b); binOp .add t (.string a) (.string b) : Sem Value).run P w = _
    simp only [eqGuard, binOp, Op.stringOp]
    rw [if_neg hn]
    rfl) (okD hd)
end
end Go.Ab
namespace Go.Proofs.YtelenedgaoglaaaGreatDoor
open Go.Ab Go.Pil
def PIL : ByteArray := ⟨#[112, 105, 108, 108, 111, 119]⟩
def SP : ByteArray := ⟨#[32]⟩
def EQ : ByteArray := ⟨#[61]⟩
def logS (s : Shw) : ByteArray := itoaS s.day ++ EQ ++ itoaS s.weight
def sixL (p : Plw) : List Int := [p.no, p.cell, p.noise, p.slab, p.jump, p.faults]
def headW (p : Plw) (k : Nat) : List ByteArray := PIL :: ((sixL p).take k).map itoaS
def wordsW (p : Plw) (k : Nat) : List ByteArray := headW p 6 ++ (p.log.take k).map logS
def prnS (p : Plw) : ByteArray := joinS (wordsW p p.log.length) SP
theorem six_len (p : Plw) : (sixL p).length = 6 := rfl
theorem headW_len (p : Plw) {k : Nat} (hk : k ≤ 6) : (headW p k).length = k + 1 := by
  have := six_len p
  simp [headW, this]; omega
theorem headW_snoc (p : Plw) {k : Nat} (hk : k < 6) : strs (headW p k) ++ [[.sc (.string (itoaS ((sixL p).getD k 0)))]] = strs (headW p (k + 1)) := by
  have h6 := six_len p
  unfold headW strs
  rw [List.take_succ_eq_append_getElem (show k < (sixL p).length by omega)]
  rw [List.getD_eq_getElem?_getD, List.getElem?_eq_getElem (show k < (sixL p).length by omega)]
  simp only [List.map_append, List.map_cons, List.map_nil, List.cons_append]
  rfl
theorem wordsW_snoc (p : Plw) {k : Nat} (hk : k < p.log.length) : strs (wordsW p k) ++ [[.sc (.string (itoaS p.log[k].day ++ EQ ++ itoaS p.log[k].weight))]] = strs (wordsW p (k + 1)) := by
  unfold wordsW strs
  rw [List.take_succ_eq_append_getElem hk]
  simp only [List.map_append, List.map_cons, List.map_nil, List.append_assoc]
  rfl
theorem wordsW_len (p : Plw) (k : Nat) : (wordsW p k).length = 7 + (p.log.take k).length := by
  unfold wordsW; rw [List.length_append, headW_len p (Nat.le_refl _), List.length_map]
theorem six_index (p : Plw) (k : Nat) (hk : k < 6) (w : World) : (Instr.index 117 (.agg #[.int .i64 p.no, .int .i64 p.cell, .int .i64 p.noise, .int .i64 p.slab, .int .i64 p.jump, .int .i64 p.faults]) (.int .i64 (k : Nat))).run Tryz.prog w = .ok (.int .i64 ((sixL p).getD k 0)) w := by
  match k, hk with
  | 0, _ => simp [Instr.index, asIntOf, run_underlying' Tryz.underlying117, Tryz.sizeOf3, Result.andThen, part, Tryz.isAgg3, sixL]
  | 1, _ => simp [Instr.index, asIntOf, run_underlying' Tryz.underlying117, Tryz.sizeOf3, Result.andThen, part, Tryz.isAgg3, sixL]
  | 2, _ => simp [Instr.index, asIntOf, run_underlying' Tryz.underlying117, Tryz.sizeOf3, Result.andThen, part, Tryz.isAgg3, sixL]
  | 3, _ => simp [Instr.index, asIntOf, run_underlying' Tryz.underlying117, Tryz.sizeOf3, Result.andThen, part, Tryz.isAgg3, sixL]
  | 4, _ => simp [Instr.index, asIntOf, run_underlying' Tryz.underlying117, Tryz.sizeOf3, Result.andThen, part, Tryz.isAgg3, sixL]
  | 5, _ => simp [Instr.index, asIntOf, run_underlying' Tryz.underlying117, Tryz.sizeOf3, Result.andThen, part, Tryz.isAgg3, sixL]
theorem joinTail_len {m : Nat} {sep : List UInt8} : ∀ (r : List (List UInt8)), (∀ x ∈ r, x.length ≤ m) → (Lib.joinTail sep r).length ≤ r.length * (m + sep.length) := by
  intro r
  induction r with
  | nil => intro _; simp [Lib.joinTail]
  | cons x r ih =>
    intro h
    have h1 := ih fun y hy => h y (List.mem_cons_of_mem _ hy)
    have h2 := h x List.mem_cons_self
    simp only [Lib.joinTail, List.map_cons, List.flatten_cons, List.length_append, List.length_cons] at h1 ⊢
    rw [Nat.add_mul]; omega
theorem join_len {m : Nat} {sep : List UInt8} : ∀ (r : List (List UInt8)), (∀ x ∈ r, x.length ≤ m) → (Lib.join r sep).length ≤ r.length * (m + sep.length) := by
  intro r h
  cases r with
  | nil => simp [Lib.join_nil]
  | cons x r =>
    rw [Lib.join_cons, List.length_append]
    have h1 := joinTail_len (m := m) (sep := sep) r fun y hy => h y (List.mem_cons_of_mem _ hy)
    have h2 := h x List.mem_cons_self
    rw [List.length_cons, Nat.add_mul]; omega
theorem itoa_len {n : Int} (h0 : -9223372036854775808 ≤ n) (h1 : n ≤ 9223372036854775807) : (Lib.itoa n).length ≤ 21 := by
  unfold Lib.itoa
  split
  · have := Lib.nDigits_le20 n.natAbs (by omega)
    rw [List.length_cons, Lib.decDigits_length]; omega
  · have := Lib.nDigits_le20 n.toNat (by omega)
    rw [Lib.decDigits_length]; omega
theorem itoa_size {n : Int} (h0 : -1048576 ≤ n) (h1 : n ≤ 1048576) : (itoaS n).size ≤ 21 := by
  have : (itoaS n).size = (Lib.itoa n).length := rfl
  rw [this]; exact itoa_len (by omega) (by omega)
theorem cat_size (a b : ByteArray) : (a ++ b).size = a.size + b.size := ByteArray.size_append
theorem six_bd {p : Plw} (hp : OkP p) : ∀ x ∈ sixL p, -1048576 ≤ x ∧ x ≤ 1048576 := by
  intro x hx
  have h1 := hp.no; have h2 := hp.cell; have h3 := hp.noise; have h4 := hp.slab; have h5 := hp.jump; have h6 := hp.faults
  simp only [sixL, List.mem_cons, List.not_mem_nil, or_false] at hx
  rcases hx with rfl | rfl | rfl | rfl | rfl | rfl <;> omega
theorem six_getD {p : Plw} (hp : OkP p) {k : Nat} (hk : k < 6) : -1048576 ≤ (sixL p).getD k 0 ∧ (sixL p).getD k 0 ≤ 1048576 := by
  have h6 := six_len p
  rw [List.getD_eq_getElem?_getD, List.getElem?_eq_getElem (show k < (sixL p).length by omega)]
  exact six_bd hp _ (List.getElem_mem _)
theorem log_bd {p : Plw} (hp : OkP p) : ∀ s ∈ p.log, 0 ≤ s.day ∧ s.day ≤ 1048576 ∧ 0 ≤ s.weight ∧ s.weight ≤ 65536 := fun s hs =>
  ⟨(logB_day hp.log (by omega) s hs).2.1, (logB_day hp.log (by omega) s hs).2.2, (logB_weight hp.log s hs).1, (logB_weight hp.log s hs).2⟩
theorem wordsW_bound {p : Plw} (hp : OkP p) : (Lib.join ((wordsW p p.log.length).map (·.data.toList)) SP.data.toList).length ≤ 140737488355328 := by
  have h32 := hp.len
  have h1 := join_len (m := 70) (sep := SP.data.toList) ((wordsW p p.log.length).map (·.data.toList)) (by
    intro x hx
    obtain ⟨y, hy, rfl⟩ := List.mem_map.1 hx
    have e : y.data.toList.length = y.size := Array.length_toList
    unfold wordsW headW at hy
    rcases List.mem_append.1 hy with hy | hy
    · rcases List.mem_cons.1 hy with rfl | hy
      · exact (by decide : PIL.data.toList.length ≤ 70)
      · obtain ⟨n, hn, rfl⟩ := List.mem_map.1 hy
        have hb := six_bd hp n (List.mem_of_mem_take hn)
        have := itoa_size hb.1 hb.2
        omega
    · obtain ⟨s, hs, rfl⟩ := List.mem_map.1 hy
      have hb := log_bd hp s (List.mem_of_mem_take hs)
      have z1 := itoa_size (n := s.day) (by omega) (by omega)
      have z2 := itoa_size (n := s.weight) (by omega) (by omega)
      have z3 : EQ.size = 1 := rfl
      have : (logS s).size = (itoaS s.day).size + EQ.size + (itoaS s.weight).size := by unfold logS; rw [cat_size, cat_size]
      omega)
  have h2 : SP.data.toList.length = 1 := rfl
  rw [List.length_map, wordsW_len, List.take_length, h2] at h1
  omega
end Go.Proofs.YtelenedgaoglaaaGreatDoor
