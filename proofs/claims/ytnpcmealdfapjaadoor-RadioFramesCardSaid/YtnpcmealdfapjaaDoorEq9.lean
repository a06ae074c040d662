/- Frames, messages and six bytes compared. -/
import Derived.Test.YtnpcmealdfapjaaDoorProg
import Derived.Laws.StructEq
import Derived.ChangeKeysEq
import Derived.Test.YtnpcmealdfapjaaDoorExD
set_option linter.unusedSimpArgs false
set_option linter.unusedVariables false
namespace Go.Ex
open Go.Proofs
theorem g33 : Tryd.prog.eqGuardType Tryd.prog.depth 33 = false := by kernel_rfl
theorem s33 : Tryd.prog.stoodInHeld 33 = false := by kernel_rfl
theorem g84 : Tryd.prog.eqGuardType Tryd.prog.depth 84 = false := by kernel_rfl
theorem s84 : Tryd.prog.stoodInHeld 84 = false := by kernel_rfl
theorem g138 : Tryd.prog.eqGuardType Tryd.prog.depth 138 = false := by kernel_rfl
theorem beqByt (a b : ByteArray) : (a.toList == b.toList) = decide (a.data.toList = b.data.toList) := by
  rw [ByteArray.toList_eq, ByteArray.toList_eq]
  by_cases h : a.data.toList = b.data.toList
  · simp [h]
  · rw [decide_eq_false h]; simpa using h
theorem beqI (a b : Int) : (a == b) = decide (a = b) := rfl
set_option maxRecDepth 20000 in
theorem frameEqIn (k : Nat) (a b c d a' b' c' d' : Int) (s s' : ByteArray) (w : World) : (Op.equalIn (k + 2) 33 (.agg #[.int .i64 a, .int .i64 b, .int .i64 c, .int .i64 d, .string s]) (.agg #[.int .i64 a', .int .i64 b', .int .i64 c', .int .i64 d', .string s'])).run Tryd.prog w =
    .ok (decide (a = a') && (decide (b = b') && (decide (c = c') && (decide (d = d') && decide (s.data.toList = s'.data.toList))))) w := by
  have hf : Tryd.prog.fieldsOf 33 = (match Tryd.prog.underlying 33 with | some (.struct fs) => fs | _ => #[]) := rfl
  rw [Tryd.underlying33] at hf
  have hu : Tryd.prog.underlying 33 = some (.struct (Tryd.prog.fieldsOf 33)) := by rw [hf]; exact Tryd.underlying33
  rw [run_equalIn_struct w (k + 1) 33 _ _ hu s33, hf]
  have hi : ∀ x y w, (Op.equalIn (k + 1) 3 (.int .i64 x) (.int .i64 y)).run Tryd.prog w = .ok (x == y) w := fun x y w => run_equalIn_int w k 3 .i64 .i64 x y Tryd.underlying3
  have hs : ∀ x y w, (Op.equalIn (k + 1) 9 (.string x) (.string y)).run Tryd.prog w = .ok (x.toList == y.toList) w := fun x y w => run_equalIn_string w k 9 x y Tryd.underlying9
  rw [← beqByt]
  simp only [← beqI]
  simp [Op.eqFields, part, Tryd.isAgg3, Tryd.sizeOf3, Tryd.isAgg9, Tryd.sizeOf9, hi, hs, Result.andThen]
  cases h1 : a == a' <;> cases h2 : b == b' <;> cases h3 : c == c' <;> cases h4 : d == d' <;> cases h5 : s.toList == s'.toList <;> simp_all
set_option maxRecDepth 20000 in
theorem entryEqIn (k : Nat) (a b a' b' : Int) (s s' : ByteArray) (w : World) : (Op.equalIn (k + 2) 84 (.agg #[.int .i64 a, .int .i64 b, .string s]) (.agg #[.int .i64 a', .int .i64 b', .string s'])).run Tryd.prog w =
    .ok (decide (a = a') && (decide (b = b') && decide (s.data.toList = s'.data.toList))) w := by
  have hf : Tryd.prog.fieldsOf 84 = (match Tryd.prog.underlying 84 with | some (.struct fs) => fs | _ => #[]) := rfl
  rw [Tryd.underlying84] at hf
  have hu : Tryd.prog.underlying 84 = some (.struct (Tryd.prog.fieldsOf 84)) := by rw [hf]; exact Tryd.underlying84
  rw [run_equalIn_struct w (k + 1) 84 _ _ hu s84, hf]
  have hi : ∀ x y w, (Op.equalIn (k + 1) 3 (.int .i64 x) (.int .i64 y)).run Tryd.prog w = .ok (x == y) w := fun x y w => run_equalIn_int w k 3 .i64 .i64 x y Tryd.underlying3
  have hs : ∀ x y w, (Op.equalIn (k + 1) 9 (.string x) (.string y)).run Tryd.prog w = .ok (x.toList == y.toList) w := fun x y w => run_equalIn_string w k 9 x y Tryd.underlying9
  rw [← beqByt]
  simp only [← beqI]
  simp [Op.eqFields, part, Tryd.isAgg3, Tryd.sizeOf3, Tryd.isAgg9, Tryd.sizeOf9, hi, hs, Result.andThen]
  cases h1 : a == a' <;> cases h2 : b == b' <;> cases h5 : s.toList == s'.toList <;> simp_all
set_option maxRecDepth 20000 in
theorem sixEqIn (k : Nat) (a b c d e f a' b' c' d' e' f' : Int) (w : World) : (Op.equalIn (k + 2) 138 (.agg #[.int .u8 a, .int .u8 b, .int .u8 c, .int .u8 d, .int .u8 e, .int .u8 f]) (.agg #[.int .u8 a', .int .u8 b', .int .u8 c', .int .u8 d', .int .u8 e', .int .u8 f'])).run Tryd.prog w =
    .ok (decide (a = a') && (decide (b = b') && (decide (c = c') && (decide (d = d') && (decide (e = e') && decide (f = f')))))) w := by
  have hi : ∀ x y w, (Op.equalIn (k + 1) 5 (.int .u8 x) (.int .u8 y)).run Tryd.prog w = .ok (x == y) w := fun x y w => run_equalIn_int w k 5 .u8 .u8 x y Tryd.underlying5
  have h3 : ∃ i, Tryd.prog.info? 5 = some i ∧ Tryd.prog.cellsOf 5 = 1 := ⟨_, rfl, by kernel_rfl⟩
  obtain ⟨i, h3, hc⟩ := h3
  rw [run_equalIn_array w (k + 1) _ _ Tryd.underlying138 h3, hc]
  simp only [← beqI]
  simp [Op.eqItems, part, Tryd.isAgg5, Tryd.sizeOf5, hi, Result.andThen, List.range_succ]
  cases h1 : a == a' <;> cases h2 : b == b' <;> cases h3 : c == c' <;> cases h4 : d == d' <;> cases h5 : e == e' <;> cases h6 : f == f' <;> simp_all
theorem ck_i {k : IntKind} {ks : List CK} {vs : List Value} (h : ckOk (.i k :: ks) vs) : ∃ n l, vs = .int k n :: l ∧ ckOk ks l := by
  cases vs with
  | nil => exact h.elim
  | cons v l => obtain ⟨⟨n, rfl⟩, h2⟩ := h; exact ⟨n, l, rfl, h2⟩
theorem ck_s {ks : List CK} {vs : List Value} (h : ckOk (.s :: ks) vs) : ∃ n l, vs = .string n :: l ∧ ckOk ks l := by
  cases vs with
  | nil => exact h.elim
  | cons v l => obtain ⟨⟨n, rfl⟩, h2⟩ := h; exact ⟨n, l, rfl, h2⟩
theorem ck_n {vs : List Value} (h : ckOk [] vs) : vs = [] := by
  cases vs with
  | nil => rfl
  | cons v l => exact h.elim
theorem guard_px {P : Program} {e : TypeId} (hg : P.eqGuardType P.depth e = false) (us vs : Array Value) (x y : Operand) (w : World) (op : BinOp) : (eqGuard op e x y (.agg us) (.agg vs)).run P w = .ok () w := by
  cases op <;> simp [eqGuard, hg, Result.andThen]
set_option maxRecDepth 20000 in
theorem px33 : EqPx Tryd.prog 33 [.i .i64, .i .i64, .i .i64, .i .i64, .s] := by
  intro us vs x y w hu hv
  obtain ⟨a, us1, rfl, hu1⟩ := ck_i hu
  obtain ⟨b, us2, rfl, hu2⟩ := ck_i hu1
  obtain ⟨c, us3, rfl, hu3⟩ := ck_i hu2
  obtain ⟨d, us4, rfl, hu4⟩ := ck_i hu3
  obtain ⟨s, us5, rfl, hu5⟩ := ck_s hu4
  have := ck_n hu5
  subst this
  obtain ⟨a', vs1, rfl, hv1⟩ := ck_i hv
  obtain ⟨b', vs2, rfl, hv2⟩ := ck_i hv1
  obtain ⟨c', vs3, rfl, hv3⟩ := ck_i hv2
  obtain ⟨d', vs4, rfl, hv4⟩ := ck_i hv3
  obtain ⟨s', vs5, rfl, hv5⟩ := ck_s hv4
  have := ck_n hv5
  subst this
  refine ⟨(frameEqIn 9998 a b c d a' b' c' d' s s' w).trans ?_, fun op => guard_px g33 _ _ x y w op⟩
  simp only [samV, Bool.and_true]
set_option maxRecDepth 20000 in
theorem px84 : EqPx Tryd.prog 84 [.i .i64, .i .i64, .s] := by
  intro us vs x y w hu hv
  obtain ⟨a, us1, rfl, hu1⟩ := ck_i hu
  obtain ⟨b, us2, rfl, hu2⟩ := ck_i hu1
  obtain ⟨s, us3, rfl, hu3⟩ := ck_s hu2
  have := ck_n hu3
  subst this
  obtain ⟨a', vs1, rfl, hv1⟩ := ck_i hv
  obtain ⟨b', vs2, rfl, hv2⟩ := ck_i hv1
  obtain ⟨s', vs3, rfl, hv3⟩ := ck_s hv2
  have := ck_n hv3
  subst this
  refine ⟨(entryEqIn 9998 a b a' b' s s' w).trans ?_, fun op => guard_px g84 _ _ x y w op⟩
  simp only [samV, Bool.and_true]
set_option maxRecDepth 20000 in
theorem px138 : EqPx Tryd.prog 138 [.i .u8, .i .u8, .i .u8, .i .u8, .i .u8, .i .u8] := by
  intro us vs x y w hu hv
  obtain ⟨a, us1, rfl, hu1⟩ := ck_i hu
  obtain ⟨b, us2, rfl, hu2⟩ := ck_i hu1
  obtain ⟨c, us3, rfl, hu3⟩ := ck_i hu2
  obtain ⟨d, us4, rfl, hu4⟩ := ck_i hu3
  obtain ⟨e, us5, rfl, hu5⟩ := ck_i hu4
  obtain ⟨f, us6, rfl, hu6⟩ := ck_i hu5
  have := ck_n hu6
  subst this
  obtain ⟨a', vs1, rfl, hv1⟩ := ck_i hv
  obtain ⟨b', vs2, rfl, hv2⟩ := ck_i hv1
  obtain ⟨c', vs3, rfl, hv3⟩ := ck_i hv2
  obtain ⟨d', vs4, rfl, hv4⟩ := ck_i hv3
  obtain ⟨e', vs5, rfl, hv5⟩ := ck_i hv4
  obtain ⟨f', vs6, rfl, hv6⟩ := ck_i hv5
  have := ck_n hv6
  subst this
  refine ⟨(sixEqIn 9998 a b c d e f a' b' c' d' e' f' w).trans ?_, fun op => guard_px g138 _ _ x y w op⟩
  simp only [samV, Bool.and_true]
def gen9 : List Value := [.int .u8 63, .int .u8 1, .int .u8 218, .int .u8 32, .int .u8 227, .int .u8 38]
def eqs9 : Env := { eq := [], ms := [], gs := [(0, gen9)], px := [(33, [.i .i64, .i .i64, .i .i64, .i .i64, .s]), (84, [.i .i64, .i .i64, .s]), (138, [.i .u8, .i .u8, .i .u8, .i .u8, .i .u8, .i .u8])] }
theorem eqs9_ok : EqsOk Tryd.prog eqs9 := by
  refine ⟨fun q hq => ?_, fun q hq => ?_, fun q hq => ?_, fun q hq => ?_⟩
  · cases hq
  · cases hq
  · cases hq
  · simp only [eqs9, List.mem_cons, List.not_mem_nil, or_false] at hq
    rcases hq with rfl | rfl | rfl
    · exact px33
    · exact px84
    · exact px138
theorem names9 : namesB Tryd.prog.funcs.toList = true := by kernel_rfl
theorem mixed9 : Tryd.prog.follows .mixedOrders = true := by kernel_rfl
end Go.Ex

