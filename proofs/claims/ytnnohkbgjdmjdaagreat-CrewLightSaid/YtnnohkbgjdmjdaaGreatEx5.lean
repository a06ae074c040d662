/- Operations that look at values alone. Nothing here speaks of one program. -/
import Derived.Test.YtnnohkbgjdmjdaaGreatEx4
set_option linter.unusedVariables false
set_option linter.unusedSimpArgs false
namespace Go.Ex

/-- What the temporaries hold. -/
def TmR (φ : Pl) (t : T X) (a : Act) : Prop := ∀ i x, t.get (.ofNat i) = some x → VR φ x (a.tmps.getD i undef)

theorem TmR.mono {φ φ' : Pl} {t a} (h : TmR φ t a) (he : Ex φ φ') : TmR φ' t a := fun i x hx => (h i x hx).mono he

theorem getD_put (a : Act) (d i : Nat) (v : Value) (hd : d < a.tmps.size) : (a.put (some d) v).tmps.getD i undef = if i = d then v else a.tmps.getD i undef := by
  simp only [Act.put]
  by_cases h : i = d
  · subst h; simp [Array.getD, hd]
  · simp only [Array.getD_eq_getD_getElem?, Array.getElem?_setIfInBounds, if_neg h]
    rw [if_neg (Ne.symm h)]

theorem TmR.put {φ : Pl} {t a} (h : TmR φ t a) {d : Nat} (hd : d < a.tmps.size) {x : X} {v : Value} (hv : VR φ x v) : TmR φ (t.put (.ofNat d) x) (a.put (some d) v) := fun i y hy => by
  rw [getD_put a d i v hd]
  rw [get_put] at hy
  split at hy
  · rename_i he
    rw [if_pos (ofNat_inj he)]
    cases hy; exact hv
  · rename_i he
    rw [if_neg (fun e => he (by rw [e]))]
    exact h i y hy

section
variable {φ : Pl} {t : T X} {a : Act}
theorem ev_ok (h : TmR φ t a) {o : Operand} {d : D} {x : X} (hc : cD o = some d) (hx : ev t d = some x) : VR φ x (a.eval o) := by
  cases o with
  | tmp i => simp [cD] at hc; subst hc; exact h i x hx
  | const v =>
    simp only [cD] at hc
    split at hc
    · rename_i y hy
      cases hc
      have : y = x := Option.some.inj hx
      subst this
      exact ofV_ok hy φ
    · cases hc
  | global g => simp [cD] at hc
  | func f =>
    simp [cD] at hc; subst hc
    have : X.fn f [] = x := Option.some.inj hx
    subst this
    exact .fn f [] [] rfl (fun i c v h => by simp at h)

theorem evL_ok (h : TmR φ t a) : ∀ {l : List Operand} {ds : List D} {xs : List X}, cDL l = some ds → evL t ds = some xs → VRL φ xs (l.map a.eval) := by
  intro l
  induction l with
  | nil => intro ds xs hc hx; simp [cDL] at hc; subst hc; have : [] = xs := Option.some.inj hx; subst this; exact VRL.nil
  | cons o l ih =>
    intro ds xs hc hx
    unfold cDL at hc
    split at hc
    · rename_i d ds' h1 h2
      cases hc
      have hx' : (match ev t d with | none => none | some x => match evL t ds' with | none => none | some xs => some (x :: xs)) = some xs := hx
      split at hx'
      · cases hx'
      · rename_i x h3
        split at hx'
        · cases hx'
        · rename_i xs' h4
          cases hx'
          exact (ih h2 h4).cons (ev_ok h h1 h3)
    · cases hc

theorem run_value {P : Program} {w w' : World} {s : Sem Value} {cv : Value} (h : s.run P w = .ok cv w') :
    (do pure (.value (← s)) : Sem Next).run P w = .ok (.value cv) w' := by
  simp [h, Result.andThen]

/-- The operation gives a value that x tells. -/
def Pure (P : Program) (φ : Pl) (a : Act) (o : Oper) (x : X) : Prop := ∀ w, ∃ v, (execOp a.eval o).run P w = .ok (.value v) w ∧ VR φ x v

variable {P : Program} {tab : Tab} {dst : Option Tmp} {type : TypeId} {pos : String} {after : Array Edge} {guard : Option (Nat × Bool)}

theorem inv_int {k n v} (h : VR φ (.int k n) v) : v = .int k n := by cases h; rfl
theorem inv_bool {b v} (h : VR φ (.bool b) v) : v = .bool b := by cases h; rfl
theorem inv_ptr {id off v} (h : VR φ (.ptr id off) v) : ∃ b s, φ id = some (b, s) ∧ v = .pointer (some ⟨b, off, none⟩) := by cases h; exact ⟨_, _, ‹_›, rfl⟩
theorem inv_map {id v} (h : VR φ (.map id) v) : ∃ b s, φ id = some (b, s) ∧ v = .map (some b) := by cases h; exact ⟨_, _, ‹_›, rfl⟩
theorem inv_sl {id off len cap z v} (h : VR φ (.sl id off len cap z) v) : ∃ b s c, φ id = some (b, s) ∧ v = .slice (some ⟨b, off, none⟩) len c ∧ len ≤ cap ∧ cap ≤ c ∧ (z = 0 → c = cap) ∧ ∀ k, z = k + 1 → off + c * k = s ∧ c ≤ maxLen := by
  cases h with
  | sl0 _ _ _ _ b s h h1 => exact ⟨b, s, _, h, rfl, h1, Nat.le_refl _, fun _ => rfl, fun k hk => by omega⟩
  | sl1 _ _ _ _ z cap b s h h1 h2 h3 h4 => exact ⟨b, s, cap, h, rfl, h1, h2, fun h => by omega, fun k hk => by cases hk; exact ⟨h3, h4⟩⟩
theorem inv_nils {v} (h : VR φ .nils v) : v = .slice none 0 0 := by cases h; rfl
theorem inv_fn {f cs v} (h : VR φ (.fn f cs) v) : ∃ vs, VRL φ cs vs ∧ v = .func (.func f) #[] vs.toArray := by cases h; exact ⟨_, ⟨‹_›, ‹_›⟩, rfl⟩
theorem inv_agg {cs v} (h : VR φ (.agg cs) v) : ∃ vs, CR φ cs vs ∧ v = .agg vs.toArray := by cases h; exact ⟨_, ⟨⟨‹_›, ‹_›⟩, ‹_›⟩, rfl⟩
theorem inv_tup {cs v} (h : VR φ (.tup cs) v) : ∃ vs, VRL φ cs vs ∧ v = .tuple vs.toArray := by cases h; exact ⟨_, ⟨‹_›, ‹_›⟩, rfl⟩
theorem VR.agg' {cs vs} (h : CR φ cs vs) : VR φ (.agg cs) (.agg vs.toArray) := .agg cs vs h.1.1 h.2 h.1.2
theorem VR.tup' {cs vs} (h : VRL φ cs vs) : VR φ (.tup cs) (.tuple vs.toArray) := .tup cs vs h.1 h.2

theorem run_underlying' {t : TypeId} {u : TypeDesc} (h : P.underlying t = some u) (w : World) : (underlying t).run P w = .ok u w := by
  simp [underlying, h]
theorem addr_add (b off j : Nat) : (⟨b, off, none⟩ : Addr).add j = ⟨b, off + j, none⟩ := by
  unfold Addr.add; split <;> simp_all

/-! ### What a row of the table says -/
theorem kind_slice {u e} (h : kindOf u = .slice e) : u = .slice e := by cases u <;> simp_all [kindOf]
theorem kind_array {u n e} (h : kindOf u = .array n e) : u = .array n e := by cases u <;> simp_all [kindOf]
theorem kind_int {u k} (h : kindOf u = .int k) : u = .int k := by cases u <;> simp_all [kindOf]
theorem kind_map {u k e} (h : kindOf u = .map k e) : u = .map k e := by cases u <;> simp_all [kindOf]
theorem kind_struct {u fs} (h : kindOf u = .struct fs) : ∃ fa, u = .struct fa ∧ fs = fa.toList.map fun f => (f.offset, f.type) := by
  cases u <;> simp_all [kindOf]
structure TyR (P : Program) (t : TypeId) (ti : TI) (i : TypeInfo) (u : TypeDesc) : Prop where
  info : P.info? t = some i
  under : P.underlying t = some u
  eq : ti = tiOf i u
theorem ty_ok (ht : TabOk P tab) {e : TypeId} {ti : TI} (h : ty tab e = some ti) : ∃ i u, TyR P e ti i u := by
  obtain ⟨i, u, h1, h2, h3⟩ := ht e ti h
  exact ⟨i, u, h1, h2, h3⟩
theorem TyR.size {e ti i u} (h : TyR P e ti i u) (w : World) : (sizeOf e).run P w = .ok ti.size w := by
  simp [sizeOf, typeInfo, h.info, h.eq, tiOf]
theorem TyR.isAgg {e ti i u} (h : TyR P e ti i u) (w : World) : (isAgg e).run P w = .ok ti.agg w := by
  have := h.under
  rw [h.eq]
  cases u <;> simp [Go.isAgg, run_underlying' this, tiOf, aggOf, Result.andThen]
theorem TyR.zero {e ti i u} (h : TyR P e ti i u) {zs : List X} (hz : ti.zero = some zs) : ∃ zv, i.zero = some zv ∧ (∀ φ, CR φ zs zv.cells.toList) ∧ ∀ w, (zeroValue e).run P w = .ok zv w := by
  rw [h.eq] at hz
  simp only [tiOf, zeroX] at hz
  split at hz
  · cases hz
  · rename_i zv h1
    exact ⟨zv, h1, fun φ => ofVL_ok hz, fun w => by simp [zeroValue, typeInfo, h.info, h1]⟩

theorem TyR.zv {e ti i u} (h : TyR P e ti i u) {z : X} (hz : ti.zv = some z) : ∃ zv, (∀ φ, VR φ z zv) ∧ ∀ w, (zeroValue e).run P w = .ok zv w := by
  rw [h.eq] at hz
  simp only [tiOf, zvX] at hz
  split at hz
  · cases hz
  · rename_i zv h1
    exact ⟨zv, fun φ => ofV_ok hz φ, fun w => by simp [zeroValue, typeInfo, h.info, h1]⟩

theorem mov_ok (h : TmR φ t a) {x : Operand} {d : D} {y : X} (hc : cD x = some d) (hx : ev t d = some y) : Pure P φ a ⟨dst, .move x, type, pos, after, guard⟩ y :=
  fun w => ⟨a.eval x, rfl, ev_ok h hc hx⟩
theorem asg_ok (h : TmR φ t a) {x : Operand} {d : D} {y : X} (hc : cD x = some d) (hx : ev t d = some y) : Pure P φ a ⟨dst, .assign x, type, pos, after, guard⟩ y :=
  fun w => ⟨a.eval x, rfl, ev_ok h hc hx⟩

theorem pick_ok (h : TmR φ t a) {c x y : Operand} {dc dx dy : D} {r : X} (hc : cD c = some dc) (hx : cD x = some dx) (hy : cD y = some dy) (hr : rPick dc dx dy t = some r) :
    Pure P φ a ⟨dst, .pick c x y, type, pos, after, guard⟩ r := fun w => by
  unfold rPick at hr
  split at hr
  · rename_i h1
    have := inv_bool (ev_ok h hc h1)
    exact ⟨a.eval x, by simp [execOp, this, asBool], ev_ok h hx hr⟩
  · rename_i h1
    have := inv_bool (ev_ok h hc h1)
    exact ⟨a.eval y, by simp [execOp, this, asBool], ev_ok h hy hr⟩
  · cases hr

theorem nilc_ok (h : TmR φ t a) {x : Operand} {d : D} {r : X} (hc : cD x = some d) (hr : rNilc d t = some r) : Pure P φ a ⟨dst, .nilCheck x, type, pos, after, guard⟩ r := fun w => by
  unfold rNilc at hr
  split at hr
  · rename_i id off h1
    cases hr
    have h2 := ev_ok h hc h1
    obtain ⟨b, s, h3, h4⟩ := inv_ptr h2
    exact ⟨a.eval x, by simp only [execOp, h4]; rfl, h2⟩
  · rename_i f cs h1
    cases hr
    have h2 := ev_ok h hc h1
    obtain ⟨vs, h3, h4⟩ := inv_fn h2
    exact ⟨a.eval x, by simp only [execOp, h4]; rfl, h2⟩
  · cases hr

theorem not_ok (h : TmR φ t a) {x : Operand} {d : D} {r : X} {ty : TypeId} (hc : cD x = some d) (hr : rNot d t = some r) : Pure P φ a ⟨dst, .unOp .not ty x, type, pos, after, guard⟩ r := fun w => by
  unfold rNot at hr
  split at hr
  · rename_i b h1
    cases hr
    have h2 := inv_bool (ev_ok h hc h1)
    exact ⟨.bool !b, by simp [execOp, h2, Op.unary], .bool _⟩
  · cases hr
theorem neg_ok (h : TmR φ t a) {x : Operand} {d : D} {r : X} {ty : TypeId} (hc : cD x = some d) (hr : rNeg d t = some r) : Pure P φ a ⟨dst, .unOp .neg ty x, type, pos, after, guard⟩ r := fun w => by
  unfold rNeg at hr
  split at hr
  · rename_i k n h1
    cases hr
    have h2 := inv_int (ev_ok h hc h1)
    exact ⟨.int k (k.wrap (0 - n)), by simp [execOp, h2, Op.unary, Op.intArith], .int _ _⟩
  · cases hr

theorem conv_ok (h : TmR φ t a) {x : Operand} {d : D} {r : X} {s e : TypeId} {k k' : IntKind} (hs : P.underlying s = some (.int k')) (he : P.underlying e = some (.int k)) (hc : cD x = some d) (hr : rConv k d t = some r) :
    Pure P φ a ⟨dst, .convert s e x, type, pos, after, guard⟩ r := fun w => by
  unfold rConv at hr
  split at hr
  · rename_i k2 n h1
    cases hr
    have h2 := inv_int (ev_ok h hc h1)
    exact ⟨.int k (k.wrap n), by simp [execOp, h2, convert, run_underlying' hs, run_underlying' he, Result.andThen, Conv.intToInt], .int _ _⟩
  · cases hr

theorem ext_ok (h : TmR φ t a) {x : Operand} {d : D} {r : X} {i : Nat} (hc : cD x = some d) (hr : rExt d i t = some r) : Pure P φ a ⟨dst, .extract x i, type, pos, after, guard⟩ r := fun w => by
  unfold rExt at hr
  split at hr
  · rename_i vs h1
    obtain ⟨us, h2, h3⟩ := inv_tup (ev_ok h hc h1)
    have hi : i < us.length := by rw [← h2.1]; exact (List.getElem?_eq_some_iff.1 hr).1
    exact ⟨us[i], by simp [execOp, h3, Instr.extract, hi], h2.2 i r _ hr (List.getElem?_eq_getElem hi)⟩
  · cases hr

theorem mkF_ok (h : TmR φ t a) {f : FuncId} {b : Array Operand} {ds : List D} {r : X} (hc : cDL b.toList = some ds) (hr : rMkF f ds t = some r) : Pure P φ a ⟨dst, .makeFunc (.func f) #[] b, type, pos, after, guard⟩ r := fun w => by
  unfold rMkF at hr
  split at hr
  · rename_i xs h1
    cases hr
    have h2 := evL_ok h hc h1
    refine ⟨_, by simp [execOp, Instr.makeFunc, Result.andThen]; rfl, ?_⟩
    have := VR.fn (φ := φ) f xs (b.toList.map a.eval) h2.1 h2.2
    have he : (b.toList.map a.eval).toArray = b.map a.eval := by apply Array.ext'; simp
    rw [he] at this
    exact this
  · cases hr

theorem len_ok (h : TmR φ t a) {x : Operand} {d : D} {r : X} {ty el : TypeId} (hu : P.underlying ty = some (.slice el)) (hc : cD x = some d) (hr : rLen d t = some r) :
    Pure P φ a ⟨dst, .call ⟨.builtin .len, #[x], #[ty]⟩, type, pos, after, guard⟩ r := fun w => by
  unfold rLen at hr
  split at hr
  · rename_i id off n c z h1
    cases hr
    obtain ⟨b, s, c', h2, h3, _⟩ := inv_sl (ev_ok h hc h1)
    exact ⟨.int .i64 n, by simp [execOp, resolve, invoke, builtin, Builtin.len_, run_underlying' hu, h3, Result.andThen, goInt], .int _ _⟩
  · rename_i h1
    cases hr
    have h3 := inv_nils (ev_ok h hc h1)
    exact ⟨.int .i64 0, by simp [execOp, resolve, invoke, builtin, Builtin.len_, run_underlying' hu, h3, Result.andThen, goInt], .int _ _⟩
  · cases hr

theorem max_ok (h : TmR φ t a) {x y : Operand} {dx dy : D} {r : X} {t1 t2 : TypeId} (hx : cD x = some dx) (hy : cD y = some dy) (hr : rMax dx dy t = some r) :
    Pure P φ a ⟨dst, .call ⟨.builtin .max, #[x, y], #[t1, t2]⟩, type, pos, after, guard⟩ r := fun w => by
  unfold rMax at hr
  split at hr
  · rename_i k m k' n h1 h2
    cases hr
    have h3 := inv_int (ev_ok h hx h1)
    have h4 := inv_int (ev_ok h hy h2)
    refine ⟨_, by simp [execOp, resolve, invoke, builtin, h3, h4, Result.andThen, Builtin.max_, Builtin.max2]; rfl, ?_⟩
    by_cases hlt : m < n
    · simp [hlt]; exact .int _ _
    · simp [hlt]; exact .int _ _
  · cases hr
theorem min_ok (h : TmR φ t a) {x y : Operand} {dx dy : D} {r : X} {t1 t2 : TypeId} (hx : cD x = some dx) (hy : cD y = some dy) (hr : rMin dx dy t = some r) :
    Pure P φ a ⟨dst, .call ⟨.builtin .min, #[x, y], #[t1, t2]⟩, type, pos, after, guard⟩ r := fun w => by
  unfold rMin at hr
  split at hr
  · rename_i k m k' n h1 h2
    cases hr
    have h3 := inv_int (ev_ok h hx h1)
    have h4 := inv_int (ev_ok h hy h2)
    refine ⟨_, by simp [execOp, resolve, invoke, builtin, h3, h4, Result.andThen, Builtin.min_, Builtin.min2]; rfl, ?_⟩
    by_cases hlt : n < m
    · simp [hlt]; exact .int _ _
    · simp [hlt]; exact .int _ _
  · cases hr

theorem faddr_ok (h : TmR φ t a) (ht : TabOk P tab) {x : Operand} {d : D} {r : X} {e : TypeId} {f o size : Nat} {fs : List (Nat × TypeId)} {z1 z2 z3 z4 z5} (he : ty tab e = some ⟨z1, z2, z3, .struct fs, z4, z5⟩) (hp : place tab fs f = some (o, size)) (hs : Nat.blt 0 size = true)
    (hc : cD x = some d) (hr : rFaddr o d t = some r) : Pure P φ a ⟨dst, .fieldAddr e x f, type, pos, after, guard⟩ r := fun w => by
  unfold rFaddr at hr
  split at hr
  · rename_i id off h1
    cases hr
    obtain ⟨b, s, h2, h3⟩ := inv_ptr (ev_ok h hc h1)
    obtain ⟨i, u, ht1⟩ := ty_ok ht he
    have hk := congrArg TI.kind ht1.eq
    obtain ⟨fa, g1, g2⟩ := kind_struct hk.symm
    unfold place at hp
    split at hp
    · rename_i off' ft h4
      split at hp
      · rename_i fi h5
        cases hp
        obtain ⟨i2, u2, ht2⟩ := ty_ok ht h5
        rw [g2, List.getElem?_map, Option.map_eq_some_iff] at h4
        obtain ⟨fd, h6, h7⟩ := h4
        cases h7
        have hu := ht1.under
        rw [g1] at hu
        have hs' : fi.size ≠ 0 := by have := Nat.lt_of_lt_of_eq (Nat.le_of_ble_eq_true hs) rfl; omega
        have h6' : fa[f]? = some fd := by simpa using h6
        exact ⟨_, by simp [execOp, h3, Instr.fieldAt, run_underlying' hu, h6', Instr.sureAddr, fieldPlace, ht2.size, hs', Result.andThen, addr_add], .ptr id _ b s h2⟩
      · cases hp
    · cases hp
  · cases hr

theorem asI_ok {x : X} {n : Nat} (h : asI x = some n) {v : Value} (hv : VR φ x v) : ∃ k, v = .int k n := by
  unfold asI at h
  split at h
  · rename_i k m
    cases h
    exact ⟨k, inv_int hv⟩
  · cases h

theorem iaddrA_ok (h : TmR φ t a) (ht : TabOk P tab) {x i : Operand} {d di : D} {r : X} {e el : TypeId} {n : Nat} {ei : TI} {z1 z2 z3 z4 z5} (he : ty tab e = some ⟨z1, z2, z3, .array n el, z4, z5⟩) (hel : ty tab el = some ei)
    (hc : cD x = some d) (hi : cD i = some di) (hr : rIaddrA n ei.size d di t = some r) : Pure P φ a ⟨dst, .indexAddr e x i, type, pos, after, guard⟩ r := fun w => by
  unfold rIaddrA at hr
  split at hr
  · rename_i id off y h1 h1'
    split at hr
    · rename_i m h2
      cases hb : Nat.blt m n with
      | false => rw [hb] at hr; cases hr
      | true =>
        rw [hb] at hr
        cases hr
        have hlt : m < n := Nat.le_of_ble_eq_true hb
        obtain ⟨b, s, h3, h4⟩ := inv_ptr (ev_ok h hc h1)
        obtain ⟨k, h5⟩ := asI_ok h2 (ev_ok h hi h1')
        obtain ⟨i1, u1, ht1⟩ := ty_ok ht he
        have hu := ht1.under
        rw [kind_array (congrArg TI.kind ht1.eq).symm] at hu
        obtain ⟨i2, u2, ht2⟩ := ty_ok ht hel
        refine ⟨.pointer (some ⟨b, off + m * ei.size, none⟩), ?_, .ptr id _ b s h3⟩
        simp only [execOp, h4, h5]
        refine run_value ?_
        have hlt' : (m : Int) < n := by omega
        simp [Instr.indexAt, asIntOf, run_underlying' hu, ht2.size, hlt, Result.andThen, addr_add, Instr.sureAddr]
    · cases hr
  · cases hr
theorem iaddrS_ok (h : TmR φ t a) (ht : TabOk P tab) {x i : Operand} {d di : D} {r : X} {e el : TypeId} {ei : TI} {z1 z2 z3 z4 z5} (he : ty tab e = some ⟨z1, z2, z3, .slice el, z4, z5⟩) (hel : ty tab el = some ei)
    (hc : cD x = some d) (hi : cD i = some di) (hr : rIaddrS ei.size d di t = some r) : Pure P φ a ⟨dst, .indexAddr e x i, type, pos, after, guard⟩ r := fun w => by
  unfold rIaddrS at hr
  split at hr
  · rename_i id off n c z y h1 h1'
    split at hr
    · rename_i m h2
      cases hb : Nat.blt m n with
      | false => rw [hb] at hr; cases hr
      | true =>
        rw [hb] at hr
        cases hr
        have hlt : m < n := Nat.le_of_ble_eq_true hb
        obtain ⟨b, s, c', h3, h4, _⟩ := inv_sl (ev_ok h hc h1)
        obtain ⟨k, h5⟩ := asI_ok h2 (ev_ok h hi h1')
        obtain ⟨i1, u1, ht1⟩ := ty_ok ht he
        have hu := ht1.under
        rw [kind_slice (congrArg TI.kind ht1.eq).symm] at hu
        obtain ⟨i2, u2, ht2⟩ := ty_ok ht hel
        refine ⟨.pointer (some ⟨b, off + m * ei.size, none⟩), ?_, .ptr id _ b s h3⟩
        simp only [execOp, h4, h5]
        refine run_value ?_
        simp [Instr.indexAt, asIntOf, run_underlying' hu, ht2.size, hlt, Result.andThen, addr_add]
    · cases hr
  · cases hr
end
end Go.Ex
