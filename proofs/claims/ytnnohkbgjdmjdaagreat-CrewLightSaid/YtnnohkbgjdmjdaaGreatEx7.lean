/- Comparisons and reckoning; all operations that look at values alone. Nothing here speaks of one program. -/
import Derived.Test.YtnnohkbgjdmjdaaGreatEx6
import Derived.Laws.StructEq
set_option linter.unusedVariables false
set_option linter.unusedSimpArgs false
namespace Go.Ex
section
variable {φ : Pl} {t : T X} {a : Act} {P : Program} {tab : Tab} {eqs : List (TypeId × List IntKind)} {dst : Option Tmp} {type : TypeId} {pos : String} {after : Array Edge} {guard : Option (Nat × Bool)}

theorem run_guard_int (op : BinOp) (ty : TypeId) (x y : Operand) (k k' : IntKind) (m n : Int) (w : World) : (eqGuard op ty x y (.int k m) (.int k' n)).run P w = .ok () w := by
  cases op <;> rfl
theorem run_guard_bool (op : BinOp) (ty : TypeId) (x y : Operand) (m n : Bool) (w : World) : (eqGuard op ty x y (.bool m) (.bool n)).run P w = .ok () w := by
  cases op <;> rfl

theorem shl_ok {k k' : IntKind} {m n : Int} {r : X} (hr : shlI k m n = some r) (ty : TypeId) (w : World) : ∃ v, (binOp .shl ty (.int k m) (.int k' n)).run P w = .ok v w ∧ VR φ r v := by
  unfold shlI at hr
  by_cases hn : n < 0
  · simp [hn] at hr
  · simp [hn] at hr
    subst hr
    exact ⟨_, by simp [binOp, Op.shift, hn], .int _ _⟩
theorem shr_ok {k k' : IntKind} {m n : Int} {r : X} (hr : shrI k m n = some r) (ty : TypeId) (w : World) : ∃ v, (binOp .shr ty (.int k m) (.int k' n)).run P w = .ok v w ∧ VR φ r v := by
  unfold shrI at hr
  by_cases hn : n < 0
  · simp [hn] at hr
  · simp [hn] at hr
    subst hr
    exact ⟨_, by simp [binOp, Op.shift, hn], .int _ _⟩

theorem binI_ok {op : BinOp} {k : IntKind} {m n : Int} {r : X} (hr : binI op k m n = some r) (ty : TypeId) (w : World) : ∃ v, (binOp op ty (.int k m) (.int k n)).run P w = .ok v w ∧ VR φ r v := by
  cases op with
  | shl => exact shl_ok hr ty w
  | shr => exact shr_ok hr ty w
  | quo =>
    have hr' : quoI k m n = some r := hr
    unfold quoI at hr'
    by_cases hn : n = 0
    · simp [hn] at hr'
    · simp [hn] at hr'
      subst hr'
      exact ⟨_, by simp [binOp, Op.intDiv, hn], .int _ _⟩
  | rem =>
    have hr' : remI k m n = some r := hr
    unfold remI at hr'
    by_cases hn : n = 0
    · simp [hn] at hr'
    · simp [hn] at hr'
      subst hr'
      exact ⟨_, by simp [binOp, Op.intDiv, hn], .int _ _⟩
  | add => cases hr; exact ⟨_, by simp [binOp, Op.intArith], .int _ _⟩
  | sub => cases hr; exact ⟨_, by simp [binOp, Op.intArith], .int _ _⟩
  | mul => cases hr; exact ⟨_, by simp [binOp, Op.intArith], .int _ _⟩
  | eql => cases hr; exact ⟨.bool (decide (m = n)), by simp [binOp, Op.intCmp]; by_cases h : m = n <;> simp [h], .bool _⟩
  | neq => cases hr; exact ⟨.bool (!decide (m = n)), by simp [binOp, Op.intCmp]; by_cases h : m = n <;> simp [h, bne], .bool _⟩
  | lss => cases hr; exact ⟨_, by simp [binOp, Op.intCmp], .bool _⟩
  | leq => cases hr; exact ⟨_, by simp [binOp, Op.intCmp], .bool _⟩
  | gtr => cases hr; exact ⟨_, by simp [binOp, Op.intCmp], .bool _⟩
  | geq => cases hr; exact ⟨_, by simp [binOp, Op.intCmp], .bool _⟩
  | and => cases hr; exact ⟨_, by simp [binOp, Op.intBits], .int _ _⟩
  | or => cases hr; exact ⟨_, by simp [binOp, Op.intBits], .int _ _⟩
  | xor => cases hr; exact ⟨_, by simp [binOp, Op.intBits], .int _ _⟩
  | andNot => cases hr; exact ⟨_, by simp [binOp, Op.intBits], .int _ _⟩

theorem bin_ok (h : TmR φ t a) {op : BinOp} {x y : Operand} {dx dy : D} {r : X} {e e' : TypeId} (hx : cD x = some dx) (hy : cD y = some dy) (hr : rBin op dx dy t = some r) :
    Pure P φ a ⟨dst, .binOp op e x y e', type, pos, after, guard⟩ r := fun w => by
  unfold rBin at hr
  split at hr
  · rename_i k m h1
    split at hr
    · rename_i k' n h2
      have h3 := inv_int (ev_ok h hx h1)
      have h4 := inv_int (ev_ok h hy h2)
      have key : ∀ v, (binOp op e (.int k m) (.int k' n)).run P w = .ok v w → (execOp a.eval ⟨dst, .binOp op e x y e', type, pos, after, guard⟩).run P w = .ok (.value v) w := fun v hv => by
        simp only [execOp, h3, h4]
        refine run_value ?_
        simp only [Sem.run_bind, run_guard_int, Result.andThen_ok, hv]
      by_cases hk : k = k'
      · subst hk
        simp only [decide_true, cond_true] at hr
        obtain ⟨v, g1, g2⟩ := binI_ok (P := P) (φ := φ) hr e w
        exact ⟨v, key v g1, g2⟩
      · simp only [hk, decide_false, cond_false] at hr
        split at hr
        · obtain ⟨v, g1, g2⟩ := shl_ok (P := P) (φ := φ) (k' := k') hr e w
          exact ⟨v, key v g1, g2⟩
        · obtain ⟨v, g1, g2⟩ := shr_ok (P := P) (φ := φ) (k' := k') hr e w
          exact ⟨v, key v g1, g2⟩
        · cases hr
    · cases hr
  · cases hr

theorem binb_ok (h : TmR φ t a) {op : BinOp} {x y : Operand} {dx dy : D} {r : X} {e e' : TypeId} (hu : P.underlying e = some .bool) (hx : cD x = some dx) (hy : cD y = some dy) (hr : rBinb op dx dy t = some r) :
    Pure P φ a ⟨dst, .binOp op e x y e', type, pos, after, guard⟩ r := fun w => by
  unfold rBinb at hr
  split at hr
  · rename_i m h1
    split at hr
    · rename_i n h2
      have h3 := inv_bool (ev_ok h hx h1)
      have h4 := inv_bool (ev_ok h hy h2)
      have key : ∀ v, (binOp op e (.bool m) (.bool n)).run P w = .ok v w → (execOp a.eval ⟨dst, .binOp op e x y e', type, pos, after, guard⟩).run P w = .ok (.value v) w := fun v hv => by
        simp only [execOp, h3, h4]
        refine run_value ?_
        simp only [Sem.run_bind, run_guard_bool, Result.andThen_ok, hv]
      have hb : (Op.equal e (.bool m) (.bool n)).run P w = .ok (m == n) w := run_equalIn_bool' w 9999 e m n hu
      unfold binB at hr
      split at hr
      · cases hr
        exact ⟨_, key _ (by simp [binOp, hb, Result.andThen]), .bool _⟩
      · cases hr
        exact ⟨_, key _ (by simp [binOp, hb, Result.andThen]), .bool _⟩
      · cases hr
    · cases hr
  · cases hr

/-- Values of the type that hold integers of such kinds alone are compared integer by integer. -/
def EqT (P : Program) (e : TypeId) (ks : List IntKind) : Prop := ∀ (m n : List Int) (x y : Operand) (w : World), m.length = ks.length → n.length = ks.length →
  (Op.equal e (.agg (intVals ks m).toArray) (.agg (intVals ks n).toArray)).run P w = .ok (decide (m = n)) w ∧ ∀ op, (eqGuard op e x y (.agg (intVals ks m).toArray) (.agg (intVals ks n).toArray)).run P w = .ok () w
def EqsOk (P : Program) (eqs : List (TypeId × List IntKind)) : Prop := ∀ q ∈ eqs, EqT P q.1 q.2

theorem intsOf_ok : ∀ {ks : List IntKind} {xs : List X} {ns : List Int}, intsOf ks xs = some ns → ∀ {vs : List Value}, VRL φ xs vs → vs = intVals ks ns ∧ ns.length = ks.length := by
  intro ks
  induction ks with
  | nil =>
    intro xs ns h vs hv
    cases xs with
    | nil => simp [intsOf] at h; subst h; exact ⟨List.eq_nil_of_length_eq_zero hv.1.symm, rfl⟩
    | cons x xs => simp [intsOf] at h
  | cons k ks ih =>
    intro xs ns h vs hv
    unfold intsOf at h
    split at h
    · rename_i h1; cases h1
    · rename_i k0 ks0 k' n xs' h1
      cases h1
      by_cases hk : k = k'
      · subst hk
        simp only [decide_true, cond_true] at h
        split at h
        · rename_i l hl
          cases h
          cases vs with
          | nil => have := hv.1; simp at this
          | cons v vs =>
            have h2 := inv_int (hv.2 0 _ _ rfl rfl)
            obtain ⟨g1, g2⟩ := ih hl (vs := vs) ⟨by simpa using hv.1, fun i c v hc hv' => hv.2 (i + 1) c v (by simpa using hc) (by simpa using hv')⟩
            subst h2
            exact ⟨by rw [g1]; rfl, by simp [g2]⟩
        · cases h
      · simp [hk] at h
    · cases h

theorem eqa_ok (h : TmR φ t a) {neg : Bool} {ks : List IntKind} {x y : Operand} {dx dy : D} {r : X} {e e' : TypeId} (he : EqT P e ks) (hx : cD x = some dx) (hy : cD y = some dy) (hr : rEqa neg ks dx dy t = some r) :
    Pure P φ a ⟨dst, .binOp (bif neg then .neq else .eql) e x y e', type, pos, after, guard⟩ r := fun w => by
  unfold rEqa at hr
  split at hr
  · rename_i xs h1
    split at hr
    · rename_i ys h2
      split at hr
      · rename_i m n h3 h4
        cases hr
        obtain ⟨us, g1, g2⟩ := inv_agg (ev_ok h hx h1)
        obtain ⟨vs, g3, g4⟩ := inv_agg (ev_ok h hy h2)
        obtain ⟨g5, g6⟩ := intsOf_ok h3 g1.1
        obtain ⟨g7, g8⟩ := intsOf_ok h4 g3.1
        subst g5; subst g7
        obtain ⟨k1, k2⟩ := he m n x y w g6 g8
        cases neg with
        | false =>
          refine ⟨_, ?_, .bool _⟩
          simp only [execOp, g2, g4]
          refine run_value ?_
          simp only [cond_false, Sem.run_bind, k2, Result.andThen_ok]
          simp [binOp, k1, Result.andThen]
        | true =>
          refine ⟨_, ?_, .bool _⟩
          simp only [execOp, g2, g4]
          refine run_value ?_
          simp only [cond_true, Sem.run_bind, k2, Result.andThen_ok]
          simp [binOp, k1, Result.andThen]
      · cases hr
    · cases hr
  · cases hr

theorem run_guard_slice (op : BinOp) (ty : TypeId) (x y : Operand) (a b : Option Addr) (m n c d : Nat) (w : World) : (eqGuard op ty x y (.slice a m c) (.slice b n d)).run P w = .ok () w := by
  cases op <;> rfl
theorem run_guard_ptr (op : BinOp) (ty : TypeId) (x y : Operand) (a b : Option Addr) (w : World) : (eqGuard op ty x y (.pointer a) (.pointer b)).run P w = .ok () w := by
  cases op <;> rfl
theorem run_guard_nf (op : BinOp) (ty : TypeId) (x y : Operand) (w : World) : (eqGuard op ty x y .nilFunc .nilFunc).run P w = .ok () w := by
  cases op <;> rfl
theorem run_guard_f (op : BinOp) (ty : TypeId) (x y : Operand) (f : Fn) (c d : Array Value) (w : World) : (eqGuard op ty x y (.func f c d) .nilFunc).run P w = .ok () w := by
  cases op <;> rfl
theorem nilv {y : Operand} {v : X} (h : cD y = some (.c v)) : VR φ v (a.eval y) := by
  cases y with
  | tmp i => simp [cD] at h
  | const u =>
    simp only [cD] at h
    split at h
    · rename_i x hx; cases h; exact ofV_ok hx φ
    · cases h
  | global g => simp [cD] at h
  | func f =>
    simp only [cD, Option.some.injEq, D.c.injEq] at h
    subst h
    exact .fn f [] [] rfl (fun i c v h => by simp at h)

theorem isnilS_ok (h : TmR φ t a) {neg : Bool} {x y : Operand} {dx : D} {r : X} {e e' el : TypeId} (hu : P.underlying e = some (.slice el)) (hx : cD x = some dx) (hy : cD y = some (.c .nils)) (hr : rIsnilS neg dx t = some r) :
    Pure P φ a ⟨dst, .binOp (bif neg then .neq else .eql) e x y e', type, pos, after, guard⟩ r := fun w => by
  have h4 := inv_nils (nilv (φ := φ) (a := a) hy)
  have e1 : ∀ (b : Option Addr) (m c : Nat), (Op.equal e (.slice b m c) (.slice none 0 0)).run P w = .ok b.isNone w := fun b m c => by
    have key : ∀ d, (Op.equalIn (d + 1) e (.slice b m c) (.slice none 0 0)).run P w = .ok b.isNone w := fun d => by
      unfold Op.equalIn
      simp only [Sem.run_bind, run_underlying' hu, Result.andThen_ok]
      cases b <;> rfl
    exact key 9999
  unfold rIsnilS at hr
  split at hr
  · rename_i h1
    have h3 := inv_nils (ev_ok h hx h1)
    cases hr
    cases neg <;> exact ⟨_, by simp only [execOp, h3, h4]; exact run_value (by simp only [Sem.run_bind, run_guard_slice, Result.andThen_ok]; simp [binOp, e1, Result.andThen]), .bool _⟩
  · rename_i h1
    obtain ⟨b, s, c, _, h3, _⟩ := inv_sl (ev_ok h hx h1)
    cases hr
    cases neg <;> exact ⟨_, by simp only [execOp, h3, h4]; exact run_value (by simp only [Sem.run_bind, run_guard_slice, Result.andThen_ok]; simp [binOp, e1, Result.andThen]), .bool _⟩
  · cases hr
theorem isnilP_ok (h : TmR φ t a) {neg : Bool} {x y : Operand} {dx : D} {r : X} {e e' el : TypeId} (hu : P.underlying e = some (.pointer el)) (hx : cD x = some dx) (hy : cD y = some (.c .nilp)) (hr : rIsnilP neg dx t = some r) :
    Pure P φ a ⟨dst, .binOp (bif neg then .neq else .eql) e x y e', type, pos, after, guard⟩ r := fun w => by
  have h4 : a.eval y = .pointer none := by have := nilv (φ := φ) (a := a) hy; generalize a.eval y = v at this; cases this; rfl
  have e1 : ∀ (b : Option Addr), (Op.equal e (.pointer b) (.pointer none)).run P w = .ok b.isNone w := fun b => by
    have key : ∀ d, (Op.equalIn (d + 1) e (.pointer b) (.pointer none)).run P w = .ok b.isNone w := fun d => by
      unfold Op.equalIn
      simp only [Sem.run_bind, run_underlying' hu, Result.andThen_ok]
      cases b <;> rfl
    exact key 9999
  unfold rIsnilP at hr
  split at hr
  · rename_i h1
    have h3 : a.eval x = .pointer none := by have := ev_ok h hx h1; generalize a.eval x = v at this; cases this; rfl
    cases hr
    cases neg <;> exact ⟨_, by simp only [execOp, h3, h4]; exact run_value (by simp only [Sem.run_bind, run_guard_ptr, Result.andThen_ok]; simp [binOp, e1, Result.andThen]), .bool _⟩
  · rename_i h1
    obtain ⟨b, s, _, h3⟩ := inv_ptr (ev_ok h hx h1)
    cases hr
    cases neg <;> exact ⟨_, by simp only [execOp, h3, h4]; exact run_value (by simp only [Sem.run_bind, run_guard_ptr, Result.andThen_ok]; simp [binOp, e1, Result.andThen]), .bool _⟩
  · cases hr
theorem isnilF_ok (h : TmR φ t a) {neg : Bool} {x y : Operand} {dx : D} {r : X} {e e' : TypeId} {p q v} (hu : P.underlying e = some (.func p q v)) (hx : cD x = some dx) (hy : cD y = some (.c .nilf)) (hr : rIsnilF neg dx t = some r) :
    Pure P φ a ⟨dst, .binOp (bif neg then .neq else .eql) e x y e', type, pos, after, guard⟩ r := fun w => by
  have h4 : a.eval y = .nilFunc := by have := nilv (φ := φ) (a := a) hy; generalize a.eval y = v at this; cases this; rfl
  have e1 : (Op.equal e .nilFunc .nilFunc).run P w = .ok true w := by
    have key : ∀ d, (Op.equalIn (d + 1) e .nilFunc .nilFunc).run P w = .ok true w := fun d => by
      unfold Op.equalIn
      simp only [Sem.run_bind, run_underlying' hu, Result.andThen_ok]
      rfl
    exact key 9999
  have e2 : ∀ f c d, (Op.equal e (.func f c d) .nilFunc).run P w = .ok false w := fun f c d' => by
    have key : ∀ d, (Op.equalIn (d + 1) e (.func f c d') .nilFunc).run P w = .ok false w := fun d => by
      unfold Op.equalIn
      simp only [Sem.run_bind, run_underlying' hu, Result.andThen_ok]
      rfl
    exact key 9999
  unfold rIsnilF at hr
  split at hr
  · rename_i h1
    have h3 : a.eval x = .nilFunc := by have := ev_ok h hx h1; generalize a.eval x = v at this; cases this; rfl
    cases hr
    cases neg <;> exact ⟨_, by simp only [execOp, h3, h4]; exact run_value (by simp only [Sem.run_bind, run_guard_nf, Result.andThen_ok]; simp [binOp, e1, Result.andThen]), .bool _⟩
  · rename_i h1
    obtain ⟨vs, _, h3⟩ := inv_fn (ev_ok h hx h1)
    cases hr
    cases neg <;> exact ⟨_, by simp only [execOp, h3, h4]; exact run_value (by simp only [Sem.run_bind, run_guard_f, Result.andThen_ok]; simp [binOp, e2, Result.andThen]), .bool _⟩
  · cases hr
end
end Go.Ex
