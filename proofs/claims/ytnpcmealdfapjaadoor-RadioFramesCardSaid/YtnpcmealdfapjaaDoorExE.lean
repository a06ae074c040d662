/- The same run under other numbers of blocks, and beside other blocks. Nothing here speaks of one program. -/
import Derived.Test.YtnpcmealdfapjaaDoorExD
import Derived.Laws.BitsLemmas
set_option linter.unusedVariables false
set_option linter.unusedSimpArgs false
namespace Go.Ex

/-- The same value, its blocks numbered anew. -/
def renX (ρ : Pt → Pt) : X → X
  | .ptr id off => .ptr (ρ id) off
  | .sl id off len cap z => .sl (ρ id) off len cap z
  | .map id => .map (ρ id)
  | .fn f cs => .fn f (renL ρ cs)
  | .fb f as cs => .fb f (renL ρ as) (renL ρ cs)
  | .ifc t x => .ifc t (renX ρ x)
  | .agg cs => .agg (renL ρ cs)
  | .tup cs => .tup (renL ρ cs)
  | .rs full z es => .rs full z (renLL ρ es)
  | .rp cs => .rp (renL ρ cs)
  | .bool b => .bool b
  | .int k n => .int k n
  | .str s => .str s
  | .nilp => .nilp
  | .nilm => .nilm
  | .nilf => .nilf
  | .nili => .nili
  | .nils => .nils
  | .es => .es
where
  renL (ρ : Pt → Pt) : List X → List X
    | [] => []
    | c :: cs => renX ρ c :: renL ρ cs
  renLL (ρ : Pt → Pt) : List (List X) → List (List X)
    | [] => []
    | e :: es => renL ρ e :: renLL ρ es
abbrev renL := renX.renL
abbrev renLL := renX.renLL
/-- All blocks that it names are such. -/
def idsX (F : Pt → Bool) : X → Bool
  | .ptr id off => F id
  | .sl id off len cap z => F id
  | .map id => F id
  | .fn f cs => idsL F cs
  | .fb f as cs => idsL F as && idsL F cs
  | .ifc t x => idsX F x
  | .agg cs => idsL F cs
  | .tup cs => idsL F cs
  | .rs full z es => idsLL F es
  | .rp cs => idsL F cs
  | _ => true
where
  idsL (F : Pt → Bool) : List X → Bool
    | [] => true
    | c :: cs => idsX F c && idsL F cs
  idsLL (F : Pt → Bool) : List (List X) → Bool
    | [] => true
    | e :: es => idsL F e && idsLL F es
abbrev idsL := idsX.idsL
abbrev idsLL := idsX.idsLL

theorem renL_length (ρ : Pt → Pt) : ∀ cs : List X, (renL ρ cs).length = cs.length := by
  intro cs
  induction cs with
  | nil => rfl
  | cons c cs ih => show (renL ρ cs).length + 1 = _; rw [ih]; rfl
theorem renL_get (ρ : Pt → Pt) : ∀ (cs : List X) (i : Nat), (renL ρ cs)[i]? = cs[i]?.map (renX ρ) := by
  intro cs
  induction cs with
  | nil => intro i; rfl
  | cons c cs ih =>
    intro i
    cases i with
    | zero => rfl
    | succ i => show (renL ρ cs)[i]? = _; rw [ih]; rfl
theorem renLL_get (ρ : Pt → Pt) : ∀ (es : List (List X)) (i : Nat), (renLL ρ es)[i]? = es[i]?.map (renL ρ) := by
  intro es
  induction es with
  | nil => intro i; rfl
  | cons c cs ih =>
    intro i
    cases i with
    | zero => rfl
    | succ i => show (renLL ρ cs)[i]? = _; rw [ih]; rfl
theorem renLL_length (ρ : Pt → Pt) : ∀ es : List (List X), (renLL ρ es).length = es.length := by
  intro es
  induction es with
  | nil => rfl
  | cons c cs ih => show (renLL ρ cs).length + 1 = _; rw [ih]; rfl
theorem idsL_get {F : Pt → Bool} : ∀ {cs : List X}, idsL F cs = true → ∀ {i : Nat} {c : X}, cs[i]? = some c → idsX F c = true := by
  intro cs
  induction cs with
  | nil => intro _ i c h; simp at h
  | cons d cs ih =>
    intro h i c hc
    have h : (idsX F d && idsL F cs) = true := h
    simp only [Bool.and_eq_true] at h
    cases i with
    | zero => simp at hc; subst hc; exact h.1
    | succ i => exact ih h.2 (by simpa using hc)
theorem idsLL_get {F : Pt → Bool} : ∀ {es : List (List X)}, idsLL F es = true → ∀ {i : Nat} {e : List X}, es[i]? = some e → idsL F e = true := by
  intro es
  induction es with
  | nil => intro _ i c h; simp at h
  | cons d cs ih =>
    intro h i c hc
    have h : (idsL F d && idsLL F cs) = true := h
    simp only [Bool.and_eq_true] at h
    cases i with
    | zero => simp at hc; subst hc; exact h.1
    | succ i => exact ih h.2 (by simpa using hc)

section
variable {G : GEnv}
/-- A value that is told under other numbers. -/
theorem VR.pull {φ φ1 : Pl G} {τ : Pt → Pt} {F : Pt → Bool} (hW : φ1.W = φ.W) (hF : ∀ id p, F id = true → φ (τ id) = some p → φ1 id = some p) : ∀ {y : X} {v : Value}, VR φ y v → ∀ {x : X}, renX τ x = y → idsX F x = true → VR φ1 x v := by
  intro y v h
  have many : ∀ {cs : List X} {us : List Value} {ds : List X}, renL τ ds = cs → idsL F ds = true → cs.length = us.length → (∀ (i : Nat) c v, cs[i]? = some c → us[i]? = some v → ∀ {x : X}, renX τ x = c → idsX F x = true → VR φ1 x v) →
      ds.length = us.length ∧ ∀ (i : Nat) c v, ds[i]? = some c → us[i]? = some v → VR φ1 c v := fun {cs us ds} h1 h2 h3 h4 => by
    subst h1
    refine ⟨by rw [← h3, renL_length], fun i c v hc hv => h4 i (renX τ c) v ?_ hv rfl (idsL_get h2 hc)⟩
    rw [renL_get, hc]; rfl
  induction h with
  | bool b => intro x hx _; cases x <;> simp [renX] at hx; subst hx; exact .bool _
  | int k n => intro x hx _; cases x <;> simp [renX] at hx; obtain ⟨rfl, rfl⟩ := hx; exact .int _ _
  | str s => intro x hx _; cases x <;> simp [renX] at hx; subst hx; exact .str _
  | nilp => intro x hx _; cases x <;> simp [renX] at hx; exact .nilp
  | nilm => intro x hx _; cases x <;> simp [renX] at hx; exact .nilm
  | nilf => intro x hx _; cases x <;> simp [renX] at hx; exact .nilf
  | nili => intro x hx _; cases x <;> simp [renX] at hx; exact .nili
  | nils => intro x hx _; cases x <;> simp [renX] at hx; exact .nils
  | es a c => intro x hx _; cases x <;> simp [renX] at hx; exact .es a c
  | ptr id off b s h => intro x hx hf; cases x <;> simp [renX] at hx; obtain ⟨rfl, rfl⟩ := hx; exact .ptr _ _ b s (hF _ _ hf h)
  | sl0 id off len cap b s h h1 => intro x hx hf; cases x <;> simp [renX] at hx; obtain ⟨rfl, rfl, rfl, rfl, rfl⟩ := hx; exact .sl0 _ _ _ _ b s (hF _ _ hf h) h1
  | sl1 id off len c z cap b s h h1 h2 h3 h4 => intro x hx hf; cases x <;> simp [renX] at hx; obtain ⟨rfl, rfl, rfl, rfl, rfl⟩ := hx; exact .sl1 _ _ _ _ z cap b s (hF _ _ hf h) h1 h2 h3 h4
  | map id b s h => intro x hx hf; cases x <;> simp [renX] at hx; subst hx; exact .map _ b s (hF _ _ hf h)
  | fn f cs vs hl _ ih =>
    intro x hx hf
    cases x <;> simp [renX] at hx
    obtain ⟨rfl, hx⟩ := hx
    obtain ⟨g1, g2⟩ := many hx hf hl ih
    exact .fn _ _ vs g1 g2
  | fb f as us cs vs hl1 _ hl2 _ ih1 ih2 =>
    intro x hx hf
    cases x <;> simp [renX] at hx
    obtain ⟨rfl, hx1, hx2⟩ := hx
    simp only [idsX, Bool.and_eq_true] at hf
    obtain ⟨g1, g2⟩ := many hx1 hf.1 hl1 ih1
    obtain ⟨g3, g4⟩ := many hx2 hf.2 hl2 ih2
    exact .fb _ _ us _ vs g1 g2 g3 g4
  | ifc t y v _ ih =>
    intro x hx hf
    cases x <;> simp [renX] at hx
    obtain ⟨rfl, hx⟩ := hx
    exact .ifc _ _ v (ih hx hf)
  | agg cs vs hl h1 _ ih =>
    intro x hx hf
    cases x <;> simp [renX] at hx
    obtain ⟨g1, g2⟩ := many hx hf hl ih
    exact .agg _ vs g1 h1 g2
  | tup cs vs hl _ ih =>
    intro x hx hf
    cases x <;> simp [renX] at hx
    obtain ⟨g1, g2⟩ := many hx hf hl ih
    exact .tup _ vs g1 g2
  | rs full z es b off cap vs hz hcap hfu hc _ ih =>
    intro x hx hf
    cases x <;> simp [renX] at hx
    rename_i full' z' es'
    obtain ⟨rfl, rfl, hx⟩ := hx
    subst hx
    have he : ∀ (i : Nat) e, es'[i]? = some e → (renLL τ es')[i]? = some (renL τ e) := fun i e h => by rw [renLL_get, h]; rfl
    have hj : ∀ (e : List X) (j : Nat) c, e[j]? = some c → (renL τ e)[j]? = some (renX τ c) := fun e j c h => by rw [renL_get, h]; rfl
    have hl : (renLL τ es').length = es'.length := renLL_length τ es'
    rw [show (renX.renLL τ es').length = es'.length from hl]
    refine .rs _ _ es' b off cap vs (fun e h => ?_) (by rw [← hl]; exact hcap) (fun h => by rw [hfu h]; exact hl) (fun i e j c h1 h2 => by rw [hW]; exact hc i _ j _ (he i e h1) (hj e j c h2)) fun i e j c h1 h2 => ih i _ j _ (he i e h1) (hj e j c h2) rfl (idsL_get (idsLL_get hf h1) h2)
    obtain ⟨i, hi⟩ := List.mem_iff_getElem?.1 h
    have := hz (renL τ e) (List.mem_of_getElem? (he i e hi))
    rw [← this]; exact (renL_length τ e).symm
  | rp cs b off vs hc _ ih =>
    intro x hx hf
    cases x <;> simp [renX] at hx
    rename_i cs'
    subst hx
    have hj : ∀ (j : Nat) c, cs'[j]? = some c → (renL τ cs')[j]? = some (renX τ c) := fun j c h => by rw [renL_get, h]; rfl
    exact .rp cs' b off vs (fun j c h => by rw [hW]; exact hc j _ (hj j c h)) fun j c h => ih j _ (hj j c h) rfl (idsL_get hf h)

theorem VRL.pull {φ φ1 : Pl G} {τ : Pt → Pt} {F : Pt → Bool} (hW : φ1.W = φ.W) (hF : ∀ id p, F id = true → φ (τ id) = some p → φ1 id = some p) {cs : List X} {vs : List Value} (h : VRL φ (renL τ cs) vs) (hf : idsL F cs = true) : VRL φ1 cs vs :=
  ⟨by rw [← h.1, renL_length], fun i c v hc hv => VR.pull hW hF (h.2 i (renX τ c) v (by rw [renL_get, hc]; rfl) hv) rfl (idsL_get hf hc)⟩

def renM (ρ : Pt → Pt) : List (Int × X) → List (Int × X)
  | [] => []
  | (k, x) :: l => (k, renX ρ x) :: renM ρ l
def renMA (ρ : Pt → Pt) : List (List Int × X) → List (List Int × X)
  | [] => []
  | (k, x) :: l => (k, renX ρ x) :: renMA ρ l
def renO (ρ : Pt → Pt) : O → O
  | .cells cs => .cells (renL ρ cs)
  | .map es k => .map (renM ρ es) k
  | .mapA es ks => .mapA (renMA ρ es) ks
def idsM (F : Pt → Bool) : List (Int × X) → Bool
  | [] => true
  | (_, x) :: l => idsX F x && idsM F l
def idsMA (F : Pt → Bool) : List (List Int × X) → Bool
  | [] => true
  | (_, x) :: l => idsX F x && idsMA F l
def idsO (F : Pt → Bool) : O → Bool
  | .cells cs => idsL F cs
  | .map es k => idsM F es
  | .mapA es ks => idsMA F es
theorem renM_get (ρ : Pt → Pt) : ∀ (es : List (Int × X)), (renM ρ es).length = es.length ∧ ∀ i : Nat, (renM ρ es)[i]? = es[i]?.map fun q => (q.1, renX ρ q.2) := by
  intro es
  induction es with
  | nil => exact ⟨rfl, fun i => rfl⟩
  | cons q es ih =>
    obtain ⟨k, x⟩ := q
    refine ⟨by show (renM ρ es).length + 1 = _; rw [ih.1]; rfl, fun i => ?_⟩
    cases i with
    | zero => rfl
    | succ i => show (renM ρ es)[i]? = _; rw [ih.2]; rfl
theorem renMA_get (ρ : Pt → Pt) : ∀ (es : List (List Int × X)), (renMA ρ es).length = es.length ∧ ∀ i : Nat, (renMA ρ es)[i]? = es[i]?.map fun q => (q.1, renX ρ q.2) := by
  intro es
  induction es with
  | nil => exact ⟨rfl, fun i => rfl⟩
  | cons q es ih =>
    obtain ⟨k, x⟩ := q
    refine ⟨by show (renMA ρ es).length + 1 = _; rw [ih.1]; rfl, fun i => ?_⟩
    cases i with
    | zero => rfl
    | succ i => show (renMA ρ es)[i]? = _; rw [ih.2]; rfl
theorem idsM_get {F : Pt → Bool} : ∀ {es : List (Int × X)}, idsM F es = true → ∀ {i : Nat} {q}, es[i]? = some q → idsX F q.2 = true := by
  intro es
  induction es with
  | nil => intro _ i c h; simp at h
  | cons d cs ih =>
    intro h i c hc
    obtain ⟨k, x⟩ := d
    have h : (idsX F x && idsM F cs) = true := h
    simp only [Bool.and_eq_true] at h
    cases i with
    | zero => simp at hc; subst hc; exact h.1
    | succ i => exact ih h.2 (by simpa using hc)
theorem idsMA_get {F : Pt → Bool} : ∀ {es : List (List Int × X)}, idsMA F es = true → ∀ {i : Nat} {q}, es[i]? = some q → idsX F q.2 = true := by
  intro es
  induction es with
  | nil => intro _ i c h; simp at h
  | cons d cs ih =>
    intro h i c hc
    obtain ⟨k, x⟩ := d
    have h : (idsX F x && idsMA F cs) = true := h
    simp only [Bool.and_eq_true] at h
    cases i with
    | zero => simp at hc; subst hc; exact h.1
    | succ i => exact ih h.2 (by simpa using hc)
theorem ObjR.pull {φ φ1 : Pl G} {τ : Pt → Pt} {F : Pt → Bool} (hW : φ1.W = φ.W) (hF : ∀ id p, F id = true → φ (τ id) = some p → φ1 id = some p) {w : World} {b s : Nat} {o : O} (h : ObjR φ w b s (renO τ o)) (hf : idsO F o = true) : ObjR φ1 w b s o := by
  cases o with
  | cells cs =>
    obtain ⟨vs, ty, fz, h1, h0, h2, h3, h4⟩ := h
    have hl := renL_length τ cs
    rw [show (renX.renL τ cs).length = cs.length from hl] at h3 h4
    exact ⟨vs, ty, fz, h1, h0, h2, h3, VRL.pull hW hF h4.1 hf, h4.2⟩
  | map es k =>
    obtain ⟨res, clock, h1, h2, h3⟩ := h
    obtain ⟨g1, g2⟩ := renM_get τ es
    refine ⟨res, clock, h1, by rw [h2, g1], fun i e r h4 h5 => ?_⟩
    obtain ⟨k1, k2⟩ := h3 i (e.1, renX τ e.2) r (by rw [g2, h4]; rfl) h5
    exact ⟨k1, VR.pull hW hF k2 rfl (idsM_get hf h4)⟩
  | mapA es ks =>
    obtain ⟨res, clock, h1, h2, h3⟩ := h
    obtain ⟨g1, g2⟩ := renMA_get τ es
    refine ⟨res, clock, h1, by rw [h2, g1], fun i e r h4 h5 => ?_⟩
    obtain ⟨k1, k2, k3⟩ := h3 i (e.1, renX τ e.2) r (by rw [g2, h4]; rfl) h5
    exact ⟨k1, k2, VR.pull hW hF k3 rfl (idsMA_get hf h4)⟩
end
end Go.Ex

/- A call, or a piece of code, told under other numbers and beside other blocks. Nothing here speaks of one program. -/
set_option linter.unusedVariables false
set_option linter.unusedSimpArgs false
namespace Go.Ex

noncomputable def below (n id : Pt) : Bool := Nat.blt id.num n.num
theorem below_iff {n id : Pt} : below n id = true ↔ id.num < n.num := ⟨fun h => Nat.le_of_ble_eq_true h, fun h => Nat.ble_eq_true_of_le h⟩

/-- ρ names the blocks of h0 as h does. -/
structure Enter (ρ : Pt → Pt) (h0 : H) (n0 : Pt) (h : H) : Prop where
  dom : ∀ id o, h0.get id = some o → id.num < n0.num ∧ h.get (ρ id) = some (renO ρ o) ∧ idsO (below n0) o = true
  inj : ∀ id id' o o', h0.get id = some o → h0.get id' = some o' → ρ id = ρ id' → id = id'
/-- τ names the blocks of h', as far as they are such of F, as h0' does; all others are as they were. -/
structure Leave (ρ τ : Pt → Pt) (F : Pt → Bool) (h0 : H) (n0 : Pt) (h : H) (n : Pt) (h0' h' : H) (n' : Pt) : Prop where
  le : n.num ≤ n'.num
  ids : ∀ id, F id = true → (id.num < n.num ∧ ρ (τ id) = id ∧ (τ id).num < n0.num) ∨ (n.num ≤ id.num ∧ id.num < n'.num ∧ n0.num ≤ (τ id).num)
  inj : ∀ id id', F id = true → F id' = true → τ id = τ id' → id = id'
  get : ∀ id o, h'.get id = some o → (h.get id = some o ∧ ∀ id0 o0, h0.get id0 = some o0 → ρ id0 ≠ id) ∨ (F id = true ∧ h0'.get (τ id) = some (renO τ o) ∧ idsO F o = true)

section
variable {G : GEnv}
noncomputable def pullPl (φ : Pl G) (ρ : Pt → Pt) (n0 : Pt) : Pl G := ⟨fun id => if id.num < n0.num then φ (ρ id) else none, φ.W, φ.ok⟩
theorem pullPl_eq (φ : Pl G) (ρ : Pt → Pt) (n0 id : Pt) : pullPl φ ρ n0 id = if id.num < n0.num then φ (ρ id) else none := rfl
noncomputable def pushPl (φ φ0 : Pl G) (τ : Pt → Pt) (F : Pt → Bool) (n : Pt) : Pl G := ⟨fun id => if id.num < n.num then φ id else if F id = true then φ0 (τ id) else none, φ.W, φ.ok⟩
theorem pushPl_eq (φ φ0 : Pl G) (τ : Pt → Pt) (F : Pt → Bool) (n id : Pt) : pushPl φ φ0 τ F n id = if id.num < n.num then φ id else if F id = true then φ0 (τ id) else none := rfl

variable {φ φ0' : Pl G} {ρ τ : Pt → Pt} {F : Pt → Bool} {h0 h h0' h' : H} {n0 n n0' n' : Pt} {w w' : World}
theorem pull_some {id : Pt} {p : Nat × Nat} (h1 : pullPl φ ρ n0 id = some p) : id.num < n0.num ∧ φ (ρ id) = some p := by
  rw [pullPl_eq] at h1
  split at h1
  · exact ⟨‹_›, h1⟩
  · cases h1
theorem pull_hF : ∀ id p, below n0 id = true → φ (ρ id) = some p → pullPl φ ρ n0 id = some p := fun id p h1 h2 => by
  rw [pullPl_eq, if_pos (below_iff.1 h1)]; exact h2
theorem Live.enter (e : Enter ρ h0 n0 h) {b : Nat} (hl : Live (pullPl φ ρ n0) h0 b) : Live φ h b := by
  obtain ⟨id, s, h1, h2⟩ := hl
  obtain ⟨o, h3⟩ := Option.isSome_iff_exists.1 h2
  exact ⟨ρ id, s, (pull_some h1).2, by rw [(e.dom id o h3).2.1]; rfl⟩
theorem Hp.enter (hp : Hp h n w φ) (e : Enter ρ h0 n0 h) : Hp h0 n0 w (pullPl φ ρ n0) where
  lt id b s h1 := hp.lt _ b s (pull_some h1).2
  fresh id p h1 := (pull_some h1).1
  dom id o h1 := (e.dom id o h1).1
  inj id id' b s s' h1 h2 h3 h4 := by
    obtain ⟨o, g1⟩ := Option.isSome_iff_exists.1 h3
    obtain ⟨o', g2⟩ := Option.isSome_iff_exists.1 h4
    exact e.inj id id' o o' g1 g2 (hp.inj _ _ b s s' (pull_some h1).2 (pull_some h2).2 (by rw [(e.dom id o g1).2.1]; rfl) (by rw [(e.dom id' o' g2).2.1]; rfl))
  obj id b s o h1 h2 := by
    obtain ⟨g1, g2, g3⟩ := e.dom id o h2
    exact ObjR.pull (φ := φ) (φ1 := pullPl φ ρ n0) (τ := ρ) (F := below n0) rfl pull_hF (hp.obj _ b s _ (pull_some h1).2 g2) g3
  ro := ⟨hp.ro.size, hp.ro.old, fun b hb => hp.ro.live b (Live.enter e hb)⟩

theorem push_hF (hp : Hp h n w φ) (l : Leave ρ τ F h0 n0 h n h0' h' n') (hs : Step (pullPl φ ρ n0) h0 n0 w φ0' h0' n0' w') : ∀ id p, F id = true → φ0' (τ id) = some p → pushPl φ φ0' τ F n id = some p := fun id p h1 h2 => by
  rw [pushPl_eq]
  rcases l.ids id h1 with ⟨g1, g2, g3⟩ | ⟨g1, g2, g3⟩
  · rw [if_pos g1]
    rcases hs.new _ p h2 with h3 | h3
    · have := (pull_some h3).2
      rw [g2] at this; exact this
    · omega
  · rw [if_neg (by omega), if_pos h1]; exact h2
theorem push_back (e : Enter ρ h0 n0 h) (l : Leave ρ τ F h0 n0 h n h0' h' n') (hs : Step (pullPl φ ρ n0) h0 n0 w φ0' h0' n0' w') {id : Pt} {p : Nat × Nat} (h1 : F id = true) (h2 : pushPl φ φ0' τ F n id = some p) : φ0' (τ id) = some p := by
  rw [pushPl_eq] at h2
  rcases l.ids id h1 with ⟨g1, g2, g3⟩ | ⟨g1, g2, g3⟩
  · rw [if_pos g1] at h2
    refine hs.ex.2 _ p ?_
    rw [pullPl_eq, if_pos g3, g2]; exact h2
  · rw [if_neg (by omega), if_pos h1] at h2; exact h2

theorem Step.leave (hp : Hp h n w φ) (e : Enter ρ h0 n0 h) (l : Leave ρ τ F h0 n0 h n h0' h' n') (hs : Step (pullPl φ ρ n0) h0 n0 w φ0' h0' n0' w') : Step φ h n w (pushPl φ φ0' τ F n) h' n' w' := by
  have hW : φ0'.W = φ.W := hs.ex.1
  have hF := push_hF hp l hs
  have hB : ∀ {id : Pt} {p : Nat × Nat}, F id = true → pushPl φ φ0' τ F n id = some p → φ0' (τ id) = some p := fun h1 h2 => push_back e l hs h1 h2
  have hA : ∀ {id : Pt} {p : Nat × Nat}, id.num < n.num → pushPl φ φ0' τ F n id = some p → φ id = some p := fun h1 h2 => by rw [pushPl_eq, if_pos h1] at h2; exact h2
  have hex : Ex φ (pushPl φ φ0' τ F n) := ⟨rfl, fun id p h1 => by rw [pushPl_eq, if_pos (hp.fresh id p h1)]; exact h1⟩
  -- a block of h that the call does not know
  have hno : ∀ {id : Pt} {b s : Nat}, φ id = some (b, s) → (h.get id).isSome = true → (∀ id0 o0, h0.get id0 = some o0 → ρ id0 ≠ id) → ¬ Live (pullPl φ ρ n0) h0 b := fun {id b s} h1 h2 h3 ⟨id1, s1, g1, g2⟩ => by
    obtain ⟨o1, g3⟩ := Option.isSome_iff_exists.1 g2
    exact h3 id1 o1 g3 (hp.inj _ _ b s1 s (pull_some g1).2 h1 (by rw [(e.dom id1 o1 g3).2.1]; rfl) h2)
  have hkept : Kept w (Live φ h) w' := ⟨hs.kept.os, hs.kept.tape, hs.kept.output, hs.kept.size, fun k hk hl => hs.kept.block k hk fun hl' => hl (Live.enter e hl')⟩
  have hmine : ∀ b, Live (pushPl φ φ0' τ F n) h' b → w.heap.size ≤ b ∨ Live φ h b := fun b ⟨id, s, h1, h2⟩ => by
    obtain ⟨o, h3⟩ := Option.isSome_iff_exists.1 h2
    rcases l.get id o h3 with ⟨g2, _⟩ | ⟨g1, g2, g3⟩
    · exact .inr ⟨id, s, hA (hp.dom id o g2) h1, by rw [g2]; rfl⟩
    · rcases hs.mine b ⟨τ id, s, hB g1 h1, by rw [g2]; rfl⟩ with h4 | h4
      · exact .inl h4
      · exact .inr (Live.enter e h4)
  refine ⟨hex, fun id p h1 => ?_, l.le, ⟨fun id b s h1 => ?_, fun id p h1 => ?_, fun id o h1 => ?_, fun id id' b s s' h1 h2 h3 h4 => ?_, fun id b s o h1 h2 => ?_, Ro.of hp.ro hkept hmine rfl⟩, hkept, hmine, fun id o h1 => ?_⟩
  · rw [pushPl_eq] at h1
    split at h1
    · exact .inl h1
    · exact .inr (by omega)
  · rw [pushPl_eq] at h1
    split at h1
    · have := hp.lt id b s h1; have := hs.kept.size; omega
    · split at h1
      · exact hs.hp.lt _ b s h1
      · cases h1
  · have hle := l.le
    rw [pushPl_eq] at h1
    split at h1
    · omega
    · split at h1
      · rename_i g1
        rcases l.ids id g1 with g2 | g2
        · omega
        · exact g2.2.1
      · cases h1
  · have hle := l.le
    rcases l.get id o h1 with ⟨g1, _⟩ | ⟨g1, _⟩
    · have := hp.dom id o g1; omega
    · rcases l.ids id g1 with g2 | g2
      · omega
      · exact g2.2.1
  · obtain ⟨o, k1⟩ := Option.isSome_iff_exists.1 h3
    obtain ⟨o', k2⟩ := Option.isSome_iff_exists.1 h4
    have mixed : ∀ {id id' : Pt} {b s s' : Nat} {o o' : O}, pushPl φ φ0' τ F n id = some (b, s) → pushPl φ φ0' τ F n id' = some (b, s') → (h.get id = some o ∧ ∀ id0 o0, h0.get id0 = some o0 → ρ id0 ≠ id) → (F id' = true ∧ h0'.get (τ id') = some (renO τ o') ∧ idsO F o' = true) → False := fun {id id' b s s' o o'} q1 q2 ⟨a2, a3⟩ ⟨b1, b2, b3⟩ => by
      have a1 := hp.dom id o a2
      have q3 := hA a1 q1
      have q4 := hB b1 q2
      rcases hs.mine b ⟨τ id', s', q4, by rw [b2]; rfl⟩ with h5 | h5
      · have := hp.lt id b s q3; omega
      · exact hno q3 (by rw [a2]; rfl) a3 h5
    rcases l.get id o k1 with g | g
    · rcases l.get id' o' k2 with g' | g'
      · exact hp.inj id id' b s s' (hA (hp.dom id o g.1) h1) (hA (hp.dom id' o' g'.1) h2) (by rw [g.1]; rfl) (by rw [g'.1]; rfl)
      · exact (mixed h1 h2 g g').elim
    · rcases l.get id' o' k2 with g' | g'
      · exact (mixed h2 h1 g' g).elim
      · exact l.inj id id' g.1 g'.1 (hs.hp.inj _ _ b s s' (hB g.1 h1) (hB g'.1 h2) (by rw [g.2.1]; rfl) (by rw [g'.2.1]; rfl))
  · rcases l.get id o h2 with ⟨g2, g3⟩ | ⟨g1, g2, g3⟩
    · have h3 := hA (hp.dom id o g2) h1
      exact (hp.obj id b s o h3 g2).mono hex (hs.kept.block b (hp.lt id b s h3) (hno h3 (by rw [g2]; rfl) g3))
    · exact (hs.hp.obj _ b s _ (hB g1 h1) g2).pull (by rw [hW]; rfl) hF g3
  · rcases l.get id o h1 with ⟨g2, _⟩ | ⟨g1, g2, _⟩
    · exact .inl (by rw [g2]; rfl)
    · rcases l.ids id g1 with ⟨k1, k2, k3⟩ | ⟨k1, k2, k3⟩
      · rcases hs.grow _ _ g2 with k4 | k4
        · obtain ⟨o1, k5⟩ := Option.isSome_iff_exists.1 k4
          left
          have := (e.dom _ o1 k5).2.1
          rw [k2] at this; rw [this]; rfl
        · omega
      · exact .inr k1

theorem VR.leave (hp : Hp h n w φ) (l : Leave ρ τ F h0 n0 h n h0' h' n') (hs : Step (pullPl φ ρ n0) h0 n0 w φ0' h0' n0' w') {x : X} {v : Value} (hv : VR φ0' (renX τ x) v) (hx : idsX F x = true) : VR (pushPl φ φ0' τ F n) x v :=
  VR.pull (by rw [hs.ex.1]; rfl) (push_hF hp l hs) hv rfl hx
end

/-- One call: what it gives, and the memory behind it. -/
def CallOne (G : GEnv) (P : Program) (f : FuncId) (args : List X) (h : H) (n : Pt) (x : X) (h' : H) (n' : Pt) : Prop := Body P f ∧
  ∀ w (φ : Pl G) vals, Hp h n w φ → VRL φ args vals → Calls P f vals.toArray w fun e w' => ∃ v, ∃ φ' : Pl G, e = .returned v ∧ Step φ h n w φ' h' n' w' ∧ VR φ' x v

section
variable {G : GEnv} {P : Program} {ρ τ : Pt → Pt} {F : Pt → Bool} {h0 h h0' h' : H} {n0 n n0' n' : Pt} {f : FuncId} {args : List X} {x : X}
theorem CallOne.conv (c : CallOne G P f args h0 n0 (renX τ x) h0' n0') (ha : idsL (below n0) args = true) (hx : idsX F x = true) (e : Enter ρ h0 n0 h) (l : Leave ρ τ F h0 n0 h n h0' h' n') : CallOne G P f (renL ρ args) h n x h' n' := by
  refine ⟨c.1, fun w φ vals hp hv => ?_⟩
  refine (c.2 w (pullPl φ ρ n0) vals (hp.enter e) (VRL.pull (φ := φ) (φ1 := pullPl φ ρ n0) (τ := ρ) (F := below n0) rfl pull_hF hv ha)).mono fun en w' ⟨v, φ0', h1, h2, h3⟩ => ⟨v, _, h1, Step.leave hp e l h2, VR.leave hp l h2 h3 hx⟩

def noF : Pt → Bool := fun _ => false
theorem renX_id : ∀ x : X, idsX noF x = true → ∀ τ, renX τ x = x := by
  have key : ∀ (k : Nat) (x : X), SizeOf.sizeOf x ≤ k → idsX noF x = true → ∀ τ, renX τ x = x := by
    intro k
    induction k with
    | zero => intro x hx; cases x <;> simp at hx
    | succ k ih =>
      have many : ∀ (cs : List X), SizeOf.sizeOf cs ≤ k → idsL noF cs = true → ∀ τ, renL τ cs = cs := by
        intro cs
        induction cs with
        | nil => intro _ _ _; rfl
        | cons c cs ihc =>
          intro hs hf τ
          have hf : (idsX noF c && idsL noF cs) = true := hf
          simp only [Bool.and_eq_true] at hf
          simp only [List.cons.sizeOf_spec] at hs
          show renX τ c :: renL τ cs = _
          rw [ih c (by omega) hf.1 τ, ihc (by omega) hf.2 τ]
      have many2 : ∀ (es : List (List X)), SizeOf.sizeOf es ≤ k → idsLL noF es = true → ∀ τ, renLL τ es = es := by
        intro es
        induction es with
        | nil => intro _ _ _; rfl
        | cons c cs ihc =>
          intro hs hf τ
          have hf : (idsL noF c && idsLL noF cs) = true := hf
          simp only [Bool.and_eq_true] at hf
          simp only [List.cons.sizeOf_spec] at hs
          show renL τ c :: renLL τ cs = _
          rw [many c (by omega) hf.1 τ, ihc (by omega) hf.2 τ]
      intro x hx hf τ
      cases x with
      | ptr id off => cases hf
      | sl id a b c d => cases hf
      | map id => cases hf
      | fn f cs => simp only [X.fn.sizeOf_spec] at hx; show X.fn f (renL τ cs) = _; rw [many cs (by omega) hf τ]
      | fb f as cs =>
        simp only [X.fb.sizeOf_spec] at hx
        simp only [idsX, Bool.and_eq_true] at hf
        show X.fb f (renL τ as) (renL τ cs) = _
        rw [many as (by omega) hf.1 τ, many cs (by omega) hf.2 τ]
      | ifc t y => simp only [X.ifc.sizeOf_spec] at hx; show X.ifc t (renX τ y) = _; rw [ih y (by omega) hf τ]
      | agg cs => simp only [X.agg.sizeOf_spec] at hx; show X.agg (renL τ cs) = _; rw [many cs (by omega) hf τ]
      | tup cs => simp only [X.tup.sizeOf_spec] at hx; show X.tup (renL τ cs) = _; rw [many cs (by omega) hf τ]
      | rs a b es => simp only [X.rs.sizeOf_spec] at hx; show X.rs a b (renLL τ es) = _; rw [many2 es (by omega) hf τ]
      | rp cs => simp only [X.rp.sizeOf_spec] at hx; show X.rp (renL τ cs) = _; rw [many cs (by omega) hf τ]
      | _ => rfl
  exact fun x => key _ x (Nat.le_refl _)
theorem idsX_mono {F F' : Pt → Bool} (hF : ∀ id, F id = true → F' id = true) : ∀ (k : Nat) (x : X), SizeOf.sizeOf x ≤ k → idsX F x = true → idsX F' x = true := by
  intro k
  induction k with
  | zero => intro x hx; cases x <;> simp at hx
  | succ k ih =>
    have many : ∀ (cs : List X), SizeOf.sizeOf cs ≤ k → idsL F cs = true → idsL F' cs = true := by
      intro cs
      induction cs with
      | nil => intro _ _; rfl
      | cons c cs ihc =>
        intro hs hf
        have hf : (idsX F c && idsL F cs) = true := hf
        simp only [Bool.and_eq_true] at hf
        simp only [List.cons.sizeOf_spec] at hs
        show (idsX F' c && idsL F' cs) = true
        rw [ih c (by omega) hf.1, ihc (by omega) hf.2]; rfl
    have many2 : ∀ (cs : List (List X)), SizeOf.sizeOf cs ≤ k → idsLL F cs = true → idsLL F' cs = true := by
      intro cs
      induction cs with
      | nil => intro _ _; rfl
      | cons c cs ihc =>
        intro hs hf
        have hf : (idsL F c && idsLL F cs) = true := hf
        simp only [Bool.and_eq_true] at hf
        simp only [List.cons.sizeOf_spec] at hs
        show (idsL F' c && idsLL F' cs) = true
        rw [many c (by omega) hf.1, ihc (by omega) hf.2]; rfl
    intro x hx hf
    cases x with
    | ptr id off => exact hF _ hf
    | sl id a b c d => exact hF _ hf
    | map id => exact hF _ hf
    | fn f cs => simp only [X.fn.sizeOf_spec] at hx; exact many cs (by omega) hf
    | fb f as cs =>
      simp only [X.fb.sizeOf_spec] at hx
      simp only [idsX, Bool.and_eq_true] at hf ⊢
      exact ⟨many as (by omega) hf.1, many cs (by omega) hf.2⟩
    | ifc t y => simp only [X.ifc.sizeOf_spec] at hx; exact ih y (by omega) hf
    | agg cs => simp only [X.agg.sizeOf_spec] at hx; exact many cs (by omega) hf
    | tup cs => simp only [X.tup.sizeOf_spec] at hx; exact many cs (by omega) hf
    | rs a b es => simp only [X.rs.sizeOf_spec] at hx; exact many2 es (by omega) hf
    | rp cs => simp only [X.rp.sizeOf_spec] at hx; exact many cs (by omega) hf
    | _ => rfl
theorem renL_id : ∀ cs : List X, idsL noF cs = true → ∀ τ, renL τ cs = cs := by
  intro cs
  induction cs with
  | nil => intro _ _; rfl
  | cons c cs ih =>
    intro hf τ
    have hf : (idsX noF c && idsL noF cs) = true := hf
    simp only [Bool.and_eq_true] at hf
    show renX τ c :: renL τ cs = _
    rw [renX_id c hf.1, ih hf.2]
theorem idsL_mono {F F' : Pt → Bool} (hF : ∀ id, F id = true → F' id = true) : ∀ cs : List X, idsL F cs = true → idsL F' cs = true := by
  intro cs
  induction cs with
  | nil => intro _; rfl
  | cons c cs ih =>
    intro hf
    have hf : (idsX F c && idsL F cs) = true := hf
    simp only [Bool.and_eq_true] at hf
    show (idsX F' c && idsL F' cs) = true
    rw [idsX_mono hF _ c (Nat.le_refl _) hf.1, ih hf.2]; rfl

/-- What is given and comes back names no block: so the call leaves all as it was, wherever it happens. -/
theorem CallOne.pure (c : CallOne G P f args .e .z x h0' n0') (ha : idsL noF args = true) (hx : idsX noF x = true) (h : H) (n : Pt) : CallOne G P f args h n x h n := by
  have h0 : Enter id T.e Pt.z h := ⟨fun i o hi => (by rw [get_e] at hi; cases hi), fun i i' o o' hi => by rw [get_e] at hi; cases hi⟩
  have l0 : Leave id id noF T.e Pt.z h n h0' h n := ⟨Nat.le_refl _, fun i hi => (by cases hi), fun i i' hi => (by cases hi), fun i o hi => .inl ⟨hi, fun i0 o0 h1 => by rw [get_e] at h1; cases h1⟩⟩
  have := CallOne.conv (τ := id) (ρ := id) (F := noF) (h := h) (n := n) (h' := h) (n' := n) (x := x) (by rw [renX_id x hx]; exact c) (idsL_mono (fun _ h => by cases h) args ha) hx h0 l0
  rw [renL_id args ha] at this
  exact this
end
end Go.Ex

/- What code does to a known memory, told by what it is made of. Nothing here speaks of one program. -/
set_option linter.unusedVariables false
set_option linter.unusedSimpArgs false
namespace Go.Ex

/-- What is asked of a program once. -/
structure Ok (P : Program) (eqs : Env) : Prop where
  names : namesB P.funcs.toList = true
  mixed : P.follows .mixedOrders = true
  eqs : EqsOk P eqs

/-- The code told by k takes one known state to another. -/
def KT (P : Program) (eqs : Env) (nt : Nat) (k : K) (t : T X) (h : H) (n : Pt) (e : E) (t' : T X) (h' : H) (n' : Pt) : Prop :=
  ∀ c, cK (mkTab P) eqs nt c = k → Tri eqs P nt c t h n e t' h' n'

section
variable {P : Program} {eqs : Env} {nt : Nat}
theorem drawK_form (ops : Array Oper) : (∃ m l, cDraw (mkTab P) eqs nt ops = .draw m l) ∨ cDraw (mkTab P) eqs nt ops = .bad := by
  unfold cDraw drawK
  cases sOk ops.toList (cJL (mkTab P) eqs nt ops ops.toList) (masks ops.toList []) (wrs (kinds (cJL (mkTab P) eqs nt ops ops.toList)) 0)
  · exact .inr rfl
  · exact .inl ⟨_, _, rfl⟩
theorem scope_form (b : Code) : (∃ x l r, cK (mkTab P) eqs nt (.scope b) = .scope x l r) ∨ cK (mkTab P) eqs nt (.scope b) = .bad := by
  simp only [cK]
  cases labelOf b with
  | none => exact .inr rfl
  | some l =>
    cases restK (cK (mkTab P) eqs nt b) with
    | none => exact .inr rfl
    | some r => exact .inl ⟨_, _, _, rfl⟩
theorem inv_seq {c : Code} {a b : K} (h : cK (mkTab P) eqs nt c = .seq a b) : ∃ x y, c = .seq x y ∧ cK (mkTab P) eqs nt x = a ∧ cK (mkTab P) eqs nt y = b := by
  cases c with
  | seq x y => cases h; exact ⟨x, y, rfl, rfl, rfl⟩
  | region id ops d =>
    exfalso
    cases d with
    | true =>
      have h : cDraw (mkTab P) eqs nt ops = .seq a b := h
      rcases drawK_form (P := P) (eqs := eqs) (nt := nt) ops with ⟨m, l, h1⟩ | h1 <;> rw [h1] at h <;> cases h
    | false => cases h
  | cond x y z => exfalso; simp only [cK] at h; split at h <;> cases h
  | scope b => exfalso; rcases scope_form (P := P) (eqs := eqs) (nt := nt) b with ⟨x, l, r, h1⟩ | h1 <;> rw [h1] at h <;> cases h
  | _ => cases h
theorem inv_cond {c : Code} {d : D} {a b : K} (h : cK (mkTab P) eqs nt c = .cond d a b) : ∃ o x y, c = .cond o x y ∧ cD eqs.gs o = some d ∧ cK (mkTab P) eqs nt x = a ∧ cK (mkTab P) eqs nt y = b := by
  cases c with
  | cond x y z =>
    simp only [cK] at h
    split at h
    · rename_i hd; cases h; exact ⟨x, y, z, rfl, hd, rfl, rfl⟩
    · cases h
  | region id ops dd =>
    exfalso
    cases dd with
    | true =>
      have h : cDraw (mkTab P) eqs nt ops = .cond d a b := h
      rcases drawK_form (P := P) (eqs := eqs) (nt := nt) ops with ⟨m, l, h1⟩ | h1 <;> rw [h1] at h <;> cases h
    | false => cases h
  | scope b => exfalso; rcases scope_form (P := P) (eqs := eqs) (nt := nt) b with ⟨x, l, r, h1⟩ | h1 <;> rw [h1] at h <;> cases h
  | _ => cases h
theorem inv_block {c : Code} {i : Nat} {b : K} (h : cK (mkTab P) eqs nt c = .block i b) : ∃ x, c = .block i x ∧ cK (mkTab P) eqs nt x = b := by
  cases c with
  | block j x => cases h; exact ⟨x, rfl, rfl⟩
  | cond x y z => exfalso; simp only [cK] at h; split at h <;> cases h
  | region id ops dd =>
    exfalso
    cases dd with
    | true =>
      have h : cDraw (mkTab P) eqs nt ops = .block i b := h
      rcases drawK_form (P := P) (eqs := eqs) (nt := nt) ops with ⟨m, l, h1⟩ | h1 <;> rw [h1] at h <;> cases h
    | false => cases h
  | scope b => exfalso; rcases scope_form (P := P) (eqs := eqs) (nt := nt) b with ⟨x, l, r, h1⟩ | h1 <;> rw [h1] at h <;> cases h
  | _ => cases h
theorem inv_loop {c : Code} {b : K} (h : cK (mkTab P) eqs nt c = .loop b) : ∃ x, c = .loop x ∧ cK (mkTab P) eqs nt x = b := by
  cases c with
  | loop x => cases h; exact ⟨x, rfl, rfl⟩
  | cond x y z => exfalso; simp only [cK] at h; split at h <;> cases h
  | region id ops dd =>
    exfalso
    cases dd with
    | true =>
      have h : cDraw (mkTab P) eqs nt ops = .loop b := h
      rcases drawK_form (P := P) (eqs := eqs) (nt := nt) ops with ⟨m, l, h1⟩ | h1 <;> rw [h1] at h <;> cases h
    | false => cases h
  | scope b => exfalso; rcases scope_form (P := P) (eqs := eqs) (nt := nt) b with ⟨x, l, r, h1⟩ | h1 <;> rw [h1] at h <;> cases h
  | _ => cases h

variable {a b k : K} {t t1 t2 : T X} {h h1 h2 : H} {n n1 n2 : Pt} {e : E} {i : Nat} {d : D}

theorem KT.run (S : Ok P eqs) {call : CallT} (hcall : CallOk eqs.gs P call) {fu : Nat} (hx : codeX call fu k t h n = .go e t1 h1 n1) : KT P eqs nt k t h n e t1 h1 n1 := by
  intro c hc φ a w st Q hQ
  subst hc
  exact (code_ok (mkTab_ok P) S.eqs hcall S.mixed c).1 hx st Q hQ
theorem KT.seq (ha : KT P eqs nt a t h n .normal t1 h1 n1) (hb : KT P eqs nt b t1 h1 n1 e t2 h2 n2) : KT P eqs nt (.seq a b) t h n e t2 h2 n2 := by
  intro c hc
  obtain ⟨x, y, rfl, hx, hy⟩ := inv_seq hc
  exact Tri.seq (ha x hx) (hb y hy)
def E.out : E → Bool
  | .normal => false
  | _ => true
theorem KT.seqE (he : e.out = true) (ha : KT P eqs nt a t h n e t1 h1 n1) : KT P eqs nt (.seq a b) t h n e t1 h1 n1 := by
  intro c hc φ A w st Q hQ
  obtain ⟨x, y, rfl, hx, hy⟩ := inv_seq hc
  refine wp_seq (ha x hx st _ fun a1 w1 φ1 s1 st1 => ?_)
  cases e with
  | normal => cases he
  | _ => exact hQ a1 w1 φ1 s1 st1
theorem KT.condT (hd : ev t d = some (.bool true)) (ha : KT P eqs nt a t h n e t1 h1 n1) : KT P eqs nt (.cond d a b) t h n e t1 h1 n1 := by
  intro c hc φ A w st Q hQ
  obtain ⟨o, x, y, rfl, ho, hx, hy⟩ := inv_cond hc
  exact wp_cond_true (inv_bool (ev_ok st.tm ho hd)) (ha x hx st Q hQ)
theorem KT.condF (hd : ev t d = some (.bool false)) (hb : KT P eqs nt b t h n e t1 h1 n1) : KT P eqs nt (.cond d a b) t h n e t1 h1 n1 := by
  intro c hc φ A w st Q hQ
  obtain ⟨o, x, y, rfl, ho, hx, hy⟩ := inv_cond hc
  exact wp_cond_false (inv_bool (ev_ok st.tm ho hd)) (hb y hy st Q hQ)

theorem KT.blockN (hb : KT P eqs nt b t h n .normal t1 h1 n1) : KT P eqs nt (.block i b) t h n .normal t1 h1 n1 := by
  intro c hc φ A w st Q hQ
  obtain ⟨x, rfl, hx⟩ := inv_block hc
  exact wp_block (hb x hx st _ fun a1 w1 φ1 s1 st1 => hQ a1 w1 φ1 s1 st1)
theorem KT.blockX (hb : KT P eqs nt b t h n (.exit i) t1 h1 n1) : KT P eqs nt (.block i b) t h n .normal t1 h1 n1 := by
  intro c hc φ A w st Q hQ
  obtain ⟨x, rfl, hx⟩ := inv_block hc
  refine wp_block (hb x hx st _ fun a1 w1 φ1 s1 st1 => ?_)
  show (if i = i then Q .normal a1 w1 else Q (.exit i) a1 w1)
  rw [if_pos rfl]; exact hQ a1 w1 φ1 s1 st1
theorem KT.blockO {j : Nat} (hj : Nat.beq j i = false) (hb : KT P eqs nt b t h n (.exit j) t1 h1 n1) : KT P eqs nt (.block i b) t h n (.exit j) t1 h1 n1 := by
  intro c hc φ A w st Q hQ
  obtain ⟨x, rfl, hx⟩ := inv_block hc
  refine wp_block (hb x hx st _ fun a1 w1 φ1 s1 st1 => ?_)
  show (if j = i then Q .normal a1 w1 else Q (.exit j) a1 w1)
  rw [if_neg (Nat.ne_of_beq_eq_false hj)]; exact hQ a1 w1 φ1 s1 st1
theorem KT.blockR (hb : KT P eqs nt b t h n .ret t1 h1 n1) : KT P eqs nt (.block i b) t h n .ret t1 h1 n1 := by
  intro c hc φ A w st Q hQ
  obtain ⟨x, rfl, hx⟩ := inv_block hc
  exact wp_block (hb x hx st _ fun a1 w1 φ1 s1 st1 => hQ a1 w1 φ1 s1 st1)

/-- Rounds of a loop: so many at most. -/
def KR (P : Program) (eqs : Env) (nt : Nat) (b : K) (f : Nat) (t : T X) (h : H) (n : Pt) (e : E) (t' : T X) (h' : H) (n' : Pt) : Prop :=
  ∀ c, cK (mkTab P) eqs nt c = b → ∀ {φ : Pl eqs.gs} {a w}, St nt φ t h n a w → ∀ Q : Exit → Act → World → Prop, (∀ a' w' φ', Step φ h n w φ' h' n' w' → St nt φ' t' h' n' a' w' → Q (eX e) a' w') → Code.rounds P c Q f a w
theorem KR.stop {f : Nat} (he : e.out = true) (hb : KT P eqs nt b t h n e t1 h1 n1) : KR P eqs nt b (f + 1) t h n e t1 h1 n1 := by
  intro c hc φ A w st Q hQ
  rw [rounds_succ]
  refine hb c hc st _ fun a1 w1 φ1 s1 st1 => ?_
  cases e with
  | normal => cases he
  | _ => exact hQ a1 w1 φ1 s1 st1
theorem KR.next {f : Nat} (hb : KT P eqs nt b t h n .normal t1 h1 n1) (hr : KR P eqs nt b f t1 h1 n1 e t2 h2 n2) : KR P eqs nt b (f + 1) t h n e t2 h2 n2 := by
  intro c hc φ A w st Q hQ
  rw [rounds_succ]
  exact hb c hc st _ fun a1 w1 φ1 s1 st1 => hr c hc st1 _ fun a2 w2 φ2 s2 st2 => hQ a2 w2 φ2 (s1.trans s2) st2
theorem KT.loop {f : Nat} (hr : KR P eqs nt b f t h n e t1 h1 n1) : KT P eqs nt (.loop b) t h n e t1 h1 n1 := by
  intro c hc φ A w st Q hQ
  obtain ⟨x, rfl, hx⟩ := inv_loop hc
  exact wp_loop_rounds f (hr x hx st Q hQ)

/-- Less is known at the beginning. -/
theorem Step.more {φ φ' : Pl eqs.gs} {w w' : World} (hp : Hp h n w φ) (hs : ∀ id o, h1.get id = some o → h.get id = some o) (s : Step φ h1 n w φ' h2 n2 w') : Step φ h n w φ' h2 n2 w' := by
  have hl : ∀ id, (h1.get id).isSome = true → (h.get id).isSome = true := fun id hh => by
    obtain ⟨o, ho⟩ := Option.isSome_iff_exists.1 hh
    rw [hs id o ho]; rfl
  have hlive : ∀ b, Live φ h1 b → Live φ h b := fun b ⟨id, s, g1, g2⟩ => ⟨id, s, g1, hl id g2⟩
  exact ⟨s.ex, s.new, s.le, s.hp, ⟨s.kept.os, s.kept.tape, s.kept.output, s.kept.size, fun k hk hn => s.kept.block k hk fun hl' => hn (hlive k hl')⟩, fun b hb => (s.mine b hb).imp (fun q => q) (hlive b), fun id o ho => (s.grow id o ho).imp (hl id) fun q => q⟩
def Le {α : Type} (s t : T α) : Prop := ∀ p x, s.get p = some x → t.get p = some x
theorem Le.refl {α : Type} (s : T α) : Le s s := fun _ _ h => h
theorem KT.less (ht : Le t1 t) (hh : Le h1 h) (k1 : KT P eqs nt k t1 h1 n e t2 h2 n2) : KT P eqs nt k t h n e t2 h2 n2 := by
  intro c hc φ A w st Q hQ
  exact k1 c hc (st.less ht hh) Q fun a' w' φ' s st' => hQ a' w' φ' (Step.more st.hp hh s) st'
theorem KR.less {f : Nat} (ht : Le t1 t) (hh : Le h1 h) (k1 : KR P eqs nt k f t1 h1 n e t2 h2 n2) : KR P eqs nt k f t h n e t2 h2 n2 := by
  intro c hc φ A w st Q hQ
  exact k1 c hc (st.less ht hh) Q fun a' w' φ' s st' => hQ a' w' φ' (Step.more st.hp hh s) st'

/-! ### Told by what is to hold behind it -/
def XK (P : Program) (eqs : Env) (nt : Nat) (k : K) (t : T X) (h : H) (n : Pt) (Q : E → T X → H → Pt → Prop) : Prop := ∃ e t' h' n', KT P eqs nt k t h n e t' h' n' ∧ Q e t' h' n'
def XL (P : Program) (eqs : Env) (nt : Nat) (b : K) (t : T X) (h : H) (n : Pt) (Q : E → T X → H → Pt → Prop) : Prop := ∃ f e t' h' n', KR P eqs nt b f t h n e t' h' n' ∧ Q e t' h' n'
def seqQ (P : Program) (eqs : Env) (nt : Nat) (b : K) (Q : E → T X → H → Pt → Prop) : E → T X → H → Pt → Prop
  | .normal, t, h, n => XK P eqs nt b t h n Q
  | e, t, h, n => Q e t h n
def blockQ (i : Nat) (Q : E → T X → H → Pt → Prop) : E → T X → H → Pt → Prop
  | .exit j, t, h, n => bif Nat.beq j i then Q .normal t h n else Q (.exit j) t h n
  | .goto _, _, _, _ => False
  | e, t, h, n => Q e t h n
def loopQ (P : Program) (eqs : Env) (nt : Nat) (b : K) (Q : E → T X → H → Pt → Prop) : E → T X → H → Pt → Prop
  | .normal, t, h, n => XL P eqs nt b t h n Q
  | e, t, h, n => Q e t h n
variable {Q : E → T X → H → Pt → Prop}
theorem XK.run (S : Ok P eqs) {call : CallT} (hcall : CallOk eqs.gs P call) {fu : Nat} (hx : codeX call fu k t h n = .go e t1 h1 n1) (hQ : Q e t1 h1 n1) : XK P eqs nt k t h n Q := ⟨e, t1, h1, n1, KT.run S hcall hx, hQ⟩
theorem XK.seq (ha : XK P eqs nt a t h n (seqQ P eqs nt b Q)) : XK P eqs nt (.seq a b) t h n Q := by
  obtain ⟨e, t1, h1, n1, h2, h3⟩ := ha
  cases e with
  | normal =>
    obtain ⟨e', t2, h2', n2, h4, h5⟩ := h3
    exact ⟨e', t2, h2', n2, h2.seq h4, h5⟩
  | _ => exact ⟨_, t1, h1, n1, KT.seqE rfl h2, h3⟩
theorem XK.condT (hd : ev t d = some (.bool true)) (ha : XK P eqs nt a t h n Q) : XK P eqs nt (.cond d a b) t h n Q := by
  obtain ⟨e, t1, h1, n1, h2, h3⟩ := ha
  exact ⟨e, t1, h1, n1, KT.condT hd h2, h3⟩
theorem XK.condF (hd : ev t d = some (.bool false)) (hb : XK P eqs nt b t h n Q) : XK P eqs nt (.cond d a b) t h n Q := by
  obtain ⟨e, t1, h1, n1, h2, h3⟩ := hb
  exact ⟨e, t1, h1, n1, KT.condF hd h2, h3⟩
theorem XK.cond {q : Bool} (hd : ev t d = some (.bool q)) (ha : q = true → XK P eqs nt a t h n Q) (hb : q = false → XK P eqs nt b t h n Q) : XK P eqs nt (.cond d a b) t h n Q := by
  cases q with
  | true => exact .condT hd (ha rfl)
  | false => exact .condF hd (hb rfl)
theorem XK.block (hb : XK P eqs nt b t h n (blockQ i Q)) : XK P eqs nt (.block i b) t h n Q := by
  obtain ⟨e, t1, h1, n1, h2, h3⟩ := hb
  cases e with
  | normal => exact ⟨_, t1, h1, n1, KT.blockN h2, h3⟩
  | ret => exact ⟨_, t1, h1, n1, KT.blockR h2, h3⟩
  | goto l => exact h3.elim
  | exit j =>
    have h4 : (bif Nat.beq j i then Q .normal t1 h1 n1 else Q (.exit j) t1 h1 n1) := h3
    cases hj : Nat.beq j i with
    | true =>
      rw [hj] at h4
      have := Nat.eq_of_beq_eq_true hj
      subst this
      exact ⟨_, t1, h1, n1, KT.blockX h2, h4⟩
    | false => rw [hj] at h4; exact ⟨_, t1, h1, n1, KT.blockO hj h2, h4⟩
theorem XL.body (hb : XK P eqs nt b t h n (loopQ P eqs nt b Q)) : XL P eqs nt b t h n Q := by
  obtain ⟨e, t1, h1, n1, h2, h3⟩ := hb
  cases e with
  | normal =>
    obtain ⟨f, e', t2, h2', n2, h4, h5⟩ := h3
    exact ⟨f + 1, e', t2, h2', n2, KR.next h2 h4, h5⟩
  | _ => exact ⟨1, _, t1, h1, n1, KR.stop rfl h2, h3⟩
theorem XK.loop (hb : XL P eqs nt b t h n Q) : XK P eqs nt (.loop b) t h n Q := by
  obtain ⟨f, e, t1, h1, n1, h2, h3⟩ := hb
  exact ⟨e, t1, h1, n1, KT.loop h2, h3⟩
theorem XK.less (ht : Le t1 t) (hh : Le h1 h) (k1 : XK P eqs nt k t1 h1 n Q) : XK P eqs nt k t h n Q := by
  obtain ⟨e, t2, h2, n2, h3, h4⟩ := k1
  exact ⟨e, t2, h2, n2, KT.less ht hh h3, h4⟩
theorem XL.less (ht : Le t1 t) (hh : Le h1 h) (k1 : XL P eqs nt k t1 h1 n Q) : XL P eqs nt k t h n Q := by
  obtain ⟨f, e, t2, h2, n2, h3, h4⟩ := k1
  exact ⟨f, e, t2, h2, n2, KR.less ht hh h3, h4⟩
theorem XK.mono {Q' : E → T X → H → Pt → Prop} (k1 : XK P eqs nt k t h n Q) (hQ : ∀ e t h n, Q e t h n → Q' e t h n) : XK P eqs nt k t h n Q' := by
  obtain ⟨e, t2, h2, n2, h3, h4⟩ := k1
  exact ⟨e, t2, h2, n2, h3, hQ _ _ _ _ h4⟩

/-- Functions. -/
def retQ (rs : List R) (Q : X → H → Pt → Prop) : E → T X → H → Pt → Prop
  | .normal, t, h, n => ∃ xs, resX t h rs = some xs ∧ Q (packX xs) h n
  | .ret, t, h, n => ∃ xs, resX t h rs = some xs ∧ Q (packX xs) h n
  | _, _, _, _ => False
def XF (P : Program) (eqs : Env) (f : FuncId) (args : List X) (h : H) (n : Pt) (Q : X → H → Pt → Prop) : Prop := ∃ x h' n', CallOne eqs.gs P f args h n x h' n' ∧ Q x h' n'

theorem XF.body (S : Ok P eqs) {f : FuncId} {fi : FI} (hf : (mkFns P eqs).get (.ofNat f) = some fi) {args : List X} (hl : Nat.ble args.length fi.nt = true) {Q : X → H → Pt → Prop} (hk : XK P eqs fi.nt fi.code (T.ofList args) h n (retQ fi.results Q)) : XF P eqs f args h n Q := by
  obtain ⟨fn, c, rs, h1, h2, h3, rfl⟩ := mkFns_ok P eqs f fi hf
  obtain ⟨e, t', h2', n2', k1, k2⟩ := hk
  have key : ∃ xs, (e = .normal ∨ e = .ret) ∧ resX t' h2' rs = some xs ∧ Q (packX xs) h2' n2' := by
    cases e with
    | normal => obtain ⟨xs, g1, g2⟩ := k2; exact ⟨xs, .inl rfl, g1, g2⟩
    | ret => obtain ⟨xs, g1, g2⟩ := k2; exact ⟨xs, .inr rfl, g1, g2⟩
    | exit i => exact k2.elim
    | goto l => exact k2.elim
  obtain ⟨xs, he, g1, g2⟩ := key
  refine ⟨packX xs, h2', n2', ⟨body_ok S.names h1 h2, fun w φ vals hp hv => calls_of_wp h1 h2 ?_⟩, g2⟩
  have hle := Nat.le_of_ble_eq_true hl
  have hle : args.length ≤ fn.ntmps := hle
  have hlen : vals.length ≤ fn.ntmps := by rw [← hv.1]; exact hle
  have hsz : (vals.toArray ++ Array.replicate (fn.ntmps - vals.toArray.size) undef).size = fn.ntmps := by simp; omega
  have st : St fn.ntmps φ (T.ofList args) h n { tmps := vals.toArray ++ Array.replicate (fn.ntmps - vals.toArray.size) undef, defers := [] } w := by
    refine ⟨rfl, hsz, fun i y hy => ?_, hp⟩
    rw [get_ofList] at hy
    have hi : i < vals.length := by rw [← hv.1]; exact (List.getElem?_eq_some_iff.1 hy).1
    have : (vals.toArray ++ Array.replicate (fn.ntmps - vals.toArray.size) undef).getD i undef = vals[i] := by
      simp [Array.getD, show i < vals.length + (fn.ntmps - vals.length) by omega, Array.getElem_append_left, hi]
    show VR φ y (Array.getD _ i undef)
    rw [this]
    exact hv.2 i y _ hy (List.getElem?_eq_getElem hi)
  refine k1 c rfl st _ fun a' w' φ' s1 st1 => ?_
  obtain ⟨cv, q1, q2⟩ := results_ok (a := a') st1.hp (mkTab_ok P) st1.tm h3 g1
  have fin : a'.defers = [] ∧ ∃ v, (results fn a'.tmps).run P w' = .ok v w' ∧ ∃ v', ∃ φ' : Pl eqs.gs, Ending.returned v = .returned v' ∧ Step φ h n w φ' h2' n2' w' ∧ VR φ' (packX xs) v' := ⟨st1.defers, cv, q1, cv, φ', rfl, s1, q2⟩
  rcases he with rfl | rfl
  · exact fin
  · exact fin
theorem XF.mono {f : FuncId} {args : List X} {Q Q' : X → H → Pt → Prop} (k1 : XF P eqs f args h n Q) (hQ : ∀ x h n, Q x h n → Q' x h n) : XF P eqs f args h n Q' := by
  obtain ⟨x, h', n', h3, h4⟩ := k1
  exact ⟨x, h', n', h3, hQ _ _ _ h4⟩

/-! ### Calls inside -/
/-- One call that is known. -/
structure Fact where
  f : FuncId
  args : List X
  h : H
  n : Pt
  x : X
  h' : H
  n' : Pt
def Fact.ok (G : GEnv) (P : Program) (q : Fact) : Prop := CallOne G P q.f q.args q.h q.n q.x q.h' q.n'
def Fact.on (call : CallT) (q : Fact) : Prop := call q.f q.args q.h q.n = some (q.x, q.h', q.n')
def noCall : CallT := fun _ _ _ _ => none
theorem noCall_ok {G : GEnv} : CallOk G P noCall := fun f args h n x h' n' hx => by cases hx
open Classical in
theorem one_call {G : GEnv} (q : Fact) (hq : q.ok G P) : ∃ call, CallOk G P call ∧ q.on call := by
  refine ⟨fun f args h n => if f = q.f ∧ args = q.args ∧ h = q.h ∧ n = q.n then some (q.x, q.h', q.n') else none, fun f args h n x h' n' hx => ?_, ?_⟩
  · simp only at hx
    split at hx
    · rename_i hc
      obtain ⟨rfl, rfl, rfl, rfl⟩ := hc
      cases hx
      exact hq
    · cases hx
  · simp [Fact.on]
open Classical in
theorem two_calls {G : GEnv} (q r : Fact) (hq : q.ok G P) (hr : r.ok G P) (hne : ¬ (r.f = q.f ∧ r.args = q.args ∧ r.h = q.h ∧ r.n = q.n) ∨ (r.x = q.x ∧ r.h' = q.h' ∧ r.n' = q.n')) : ∃ call, CallOk G P call ∧ q.on call ∧ r.on call := by
  refine ⟨fun f args h n => if f = q.f ∧ args = q.args ∧ h = q.h ∧ n = q.n then some (q.x, q.h', q.n') else if f = r.f ∧ args = r.args ∧ h = r.h ∧ n = r.n then some (r.x, r.h', r.n') else none, fun f args h n x h' n' hx => ?_, ?_, ?_⟩
  · simp only at hx
    split at hx
    · rename_i hc
      obtain ⟨rfl, rfl, rfl, rfl⟩ := hc
      cases hx
      exact hq
    · split at hx
      · rename_i hc
        obtain ⟨rfl, rfl, rfl, rfl⟩ := hc
        cases hx
        exact hr
      · cases hx
  · simp [Fact.on]
  · simp only [Fact.on]
    split
    · rename_i hc
      rcases hne with h1 | ⟨h1, h2, h3⟩
      · exact absurd hc h1
      · rw [h1, h2, h3]
    · simp
end
end Go.Ex

/- Helpers for telling what code does, piece by piece. Nothing here speaks of one program. -/
set_option linter.unusedVariables false
set_option linter.unusedSimpArgs false
namespace Go.Ex
section
variable {P : Program} {eqs : Env} {nt : Nat} {a b k : K} {t t1 t2 : T X} {h h1 h2 : H} {n n1 n2 : Pt} {e : E} {i j : Nat} {d : D} {Q : E → T X → H → Pt → Prop} {call : CallT}

theorem seqQ_n (x : XK P eqs nt b t h n Q) : seqQ P eqs nt b Q .normal t h n := x
theorem seqQ_x (x : Q (.exit i) t h n) : seqQ P eqs nt b Q (.exit i) t h n := x
theorem seqQ_r (x : Q .ret t h n) : seqQ P eqs nt b Q .ret t h n := x
theorem blockQ_n (x : Q .normal t h n) : blockQ i Q .normal t h n := x
theorem blockQ_r (x : Q .ret t h n) : blockQ i Q .ret t h n := x
theorem blockQ_h (hj : Nat.beq j i = true) (x : Q .normal t h n) : blockQ i Q (.exit j) t h n := by
  show (bif Nat.beq j i then Q .normal t h n else Q (.exit j) t h n); rw [hj]; exact x
theorem blockQ_m (hj : Nat.beq j i = false) (x : Q (.exit j) t h n) : blockQ i Q (.exit j) t h n := by
  show (bif Nat.beq j i then Q .normal t h n else Q (.exit j) t h n); rw [hj]; exact x
theorem loopQ_n (x : XL P eqs nt b t h n Q) : loopQ P eqs nt b Q .normal t h n := x
theorem loopQ_x (x : Q (.exit i) t h n) : loopQ P eqs nt b Q (.exit i) t h n := x
theorem loopQ_r (x : Q .ret t h n) : loopQ P eqs nt b Q .ret t h n := x
theorem XK.skip (S : Ok P eqs) (x : Q .normal t h n) : XK P eqs nt .skip t h n Q := XK.run S noCall_ok (fu := 0) rfl x
theorem XK.exit (S : Ok P eqs) (x : Q (.exit i) t h n) : XK P eqs nt (.exit i) t h n Q := XK.run S noCall_ok (fu := 0) rfl x
theorem XK.ret (S : Ok P eqs) (x : Q .ret t h n) : XK P eqs nt .ret t h n Q := XK.run S noCall_ok (fu := 0) rfl x
/-- A piece without calls. -/
theorem XK.op (S : Ok P eqs) (hx : codeX noCall 0 k t h n = .go e t1 h1 n1) (x : Q e t1 h1 n1) : XK P eqs nt k t h n Q := XK.run S noCall_ok hx x
/-- A piece with one call. -/
theorem XK.op1 (S : Ok P eqs) (q : Fact) (hq : q.ok eqs.gs P) (hx : ∀ call, q.on call → codeX call 0 k t h n = .go e t1 h1 n1) (x : Q e t1 h1 n1) : XK P eqs nt k t h n Q := by
  obtain ⟨call, h1, h2⟩ := one_call (G := eqs.gs) q hq
  exact XK.run S h1 (hx call h2) x

/-- A known state. -/
noncomputable def ofPL : List (Pt × X) → T X
  | [] => .e
  | (p, x) :: l => (ofPL l).put p x
theorem Le.nil {α : Type} {t : T α} : Le (T.e : T α) t := fun p x h => by rw [get_e] at h; cases h
theorem Le.trans {α : Type} {s t u : T α} (h1 : Le s t) (h2 : Le t u) : Le s u := fun p x h => h2 p x (h1 p x h)
theorem Le.cons {s t : T X} {p : Pt} {x y : X} (hx : t.get p = some y) (hy : y = x) (hs : Le s t) : Le (s.put p x) t := fun q z h => by
  rw [get_put] at h
  split at h
  · rename_i hq; subst hq; cases h; rw [hx, hy]
  · exact hs q z h
theorem Le.at {s t : T X} (hs : Le s t) {p : Pt} {x : X} (h : s.get p = some x) : t.get p = some x := hs p x h

/-! ### Operations one by one -/
theorem ops_nil : opsX call [] t h n = .go .normal t h n := rfl
theorem ops_cons {jj : J} {l : List J} {r : Res} (hs : step jj call t h n = .ok t1 h1 n1) (hr : opsX call l t1 h1 n1 = r) : opsX call (jj :: l) t h n = r := by
  show S3.rec .no (fun t h n => opsX call l t h n) (step jj call t h n) = r
  rw [hs]; exact hr
theorem st_p {p : Pt} {o : IP} {x : X} (hx : opP o t = some x) : step (.p p o) call t h n = .ok (t.put p x) h n := by
  show stP p o call t h n = _
  unfold stP; rw [hx]
theorem st_r {p : Pt} {o : IR} {x : X} (hx : opR o t h = some x) : step (.r p o) call t h n = .ok (t.put p x) h n := by
  show stR p o call t h n = _
  unfold stR; rw [hx]
theorem st_w {p : Option Pt} {o : IW} {x : X} (hx : opW o call t h n = some (x, h1, n1)) : step (.w p o) call t h n = .ok (putO t p x) h1 n1 := by
  show stW p o call t h n = _
  unfold stW; rw [hx]
theorem st_call {p : Option Pt} {f : FuncId} {ds : List D} {args : List X} {x : X} (ha : evL t ds = some args) (hc : call f args h n = some (x, h1, n1)) : step (.w p (.call f ds)) call t h n = .ok (putO t p x) h1 n1 := by
  refine st_w ?_
  show rCall f ds call t h n = _
  unfold rCall; rw [ha]; exact hc

/-- A region of any order that writes nothing is run in the order of the text. -/
def plainJ : J → Bool
  | .p _ _ => true
  | .r _ _ => true
  | .g _ _ _ j => plainJ j
  | _ => false
def allPlain : List (J × List Nat) → Bool
  | [] => true
  | p :: l => plainJ p.1 && allPlain l
noncomputable def jsOf : List (J × List Nat) → List J
  | [] => []
  | p :: l => p.1 :: jsOf l
theorem plain_step : ∀ {jj : J} {t t1 : T X} {h h1 : H} {n n1 : Pt}, plainJ jj = true → step jj call t h n = .ok t1 h1 n1 → h1 = h ∧ n1 = n ∧ ∀ n', step jj call t h n' = .ok t1 h n' := by
  intro jj
  induction jj with
  | p p o =>
    intro t t1 h h1 n n1 _ hs
    have hs' : stP p o call t h n = .ok t1 h1 n1 := hs
    unfold stP at hs'
    cases hr : opP o t with
    | none => rw [hr] at hs'; cases hs'
    | some x => rw [hr] at hs'; cases hs'; exact ⟨rfl, rfl, fun n' => st_p hr⟩
  | r p o =>
    intro t t1 h h1 n n1 _ hs
    have hs' : stR p o call t h n = .ok t1 h1 n1 := hs
    unfold stR at hs'
    cases hr : opR o t h with
    | none => rw [hr] at hs'; cases hs'
    | some x => rw [hr] at hs'; cases hs'; exact ⟨rfl, rfl, fun n' => st_r hr⟩
  | a p o => intro _ _ _ _ _ _ hp; cases hp
  | w p o => intro _ _ _ _ _ _ hp; cases hp
  | g p want dd jj ih =>
    intro t t1 h h1 n n1 hp hs
    have hs' : stG p want dd jj (step jj) call t h n = .ok t1 h1 n1 := hs
    unfold stG at hs'
    have key : ∀ n', (step (.g p want dd jj) call t h n' : S3) = stG p want dd jj (step jj) call t h n' := fun n' => rfl
    split at hs'
    · rename_i bb hb
      cases hw : bb == want with
      | true =>
        rw [hw] at hs'
        obtain ⟨g1, g2, g3⟩ := ih hp hs'
        refine ⟨g1, g2, fun n' => ?_⟩
        rw [key]; unfold stG; rw [hb]; simp only [hw, cond_true]; exact g3 n'
      | false =>
        rw [hw] at hs'
        cases hs'
        refine ⟨rfl, rfl, fun n' => ?_⟩
        rw [key]; unfold stG; rw [hb]; simp only [hw, cond_false]
    · rename_i hb
      cases hs'
      refine ⟨rfl, rfl, fun n' => ?_⟩
      rw [key]; unfold stG; rw [hb]
    · cases hs'
theorem kind_plain : ∀ {jj : J}, plainJ jj = true → jj.kind = 0 ∨ jj.kind = 1 := by
  intro jj
  induction jj with
  | p _ _ => intro _; exact .inl rfl
  | r _ _ => intro _; exact .inr rfl
  | a _ _ => intro h; cases h
  | w _ _ => intro h; cases h
  | g _ _ _ jj ih => intro h; exact ih h
theorem dstep_plain {s : DS} : ∀ {jj jj0 : J}, plainJ jj0 = true → (J.rec (motive := fun _ => J → DS → Option DS) (fun _ _ => dPure call) (fun _ _ => dPure call) (fun _ _ => dAlc call) (fun _ _ => dWr call) (fun _ _ _ _ f => f) jj0 jj s) = dPure call jj s := by
  intro jj jj0
  induction jj0 with
  | p _ _ => intro _; rfl
  | r _ _ => intro _; rfl
  | a _ _ => intro h; cases h
  | w _ _ => intro h; cases h
  | g _ _ _ j0 ih => intro h; exact ih h
theorem draw_plain {m : Nat} {l : List (J × List Nat)} (hp : allPlain l = true) (hx : opsX call (jsOf l) t h n = .go .normal t1 h1 n1) : drawX call m l t h n = .go .normal t1 h1 (skipN n m) := by
  have key : ∀ (l : List (J × List Nat)) (t : T X) (k : Nat), allPlain l = true → opsX call (jsOf l) t h n = .go .normal t1 h1 n1 → h1 = h ∧ n1 = n ∧ (∃ k', drawGo call l ⟨t, h, skipN n m, n, k, 0, [(0, h)]⟩ = some ⟨t1, h, skipN n m, n, k', 0, [(0, h)]⟩) ∧ drawRe call [(0, h)] l ⟨t, h, skipN n m, n, k, 0, [(0, h)]⟩ = true := by
    intro l
    induction l with
    | nil => intro t k _ hx; have : Res.go .normal t h n = .go .normal t1 h1 n1 := hx; cases this; exact ⟨rfl, rfl, ⟨k, rfl⟩, rfl⟩
    | cons q l ih =>
      intro t k hp hx
      obtain ⟨jj, ms⟩ := q
      simp only [allPlain, Bool.and_eq_true] at hp
      have hx' : (S3.rec .no (fun t h n => opsX call (jsOf l) t h n) (step jj call t h n) : Res) = .go .normal t1 h1 n1 := hx
      cases hs : step jj call t h n with
      | no => rw [hs] at hx'; cases hx'
      | ok t2 h2 n2 =>
        rw [hs] at hx'
        obtain ⟨rfl, rfl, g3⟩ := plain_step hp.1 hs
        obtain ⟨k1, k2, ⟨k', k3⟩, k4⟩ := ih t2 (k + 1) hp.2 hx'
        have hd : dStep call jj ⟨t, h2, skipN n2 m, n2, k, 0, [(0, h2)]⟩ = some ⟨t2, h2, skipN n2 m, n2, k + 1, 0, [(0, h2)]⟩ := by
          show J.rec (motive := fun _ => J → DS → Option DS) (fun _ _ => dPure call) (fun _ _ => dPure call) (fun _ _ => dAlc call) (fun _ _ => dWr call) (fun _ _ _ _ f => f) jj jj _ = _
          rw [dstep_plain hp.1]
          unfold dPure
          rw [g3]
        refine ⟨k1, k2, ⟨k', ?_⟩, ?_⟩
        · show (match dStep call jj _ with | some s => drawGo call l s | none => none) = _
          rw [hd]; exact k3
        · show (match dStep call jj ⟨t, h2, skipN n2 m, n2, k, 0, [(0, h2)]⟩ with
            | none => false
            | some s' => (match jj.kind with
              | 1 => reAll (reR call jj jj.dst s'.t) (fun q => memN q ms && !Nat.beq q 0) [(0, h2)]
              | 2 => match s'.h.get n2 with
                | some c => reAll (reA n2 c) (fun q => memN q ms && Nat.blt 0 q) [(0, h2)]
                | none => true
              | _ => true) && drawRe call [(0, h2)] l s') = true
          rw [hd]
          simp only
          rw [k4, Bool.and_true]
          rcases kind_plain hp.1 with h0 | h0
          · simp only [h0]
          · rw [h0]
            show reAll (reR call jj jj.dst t2) (fun q => memN q ms && !Nat.beq q 0) [(0, h2)] = true
            simp [reAll]
  obtain ⟨rfl, rfl, ⟨k', k3⟩, k4⟩ := key l t 0 hp hx
  unfold drawX
  rw [k3]
  simp only
  rw [k4]; rfl
theorem XK.plain (S : Ok P eqs) {m : Nat} {l : List (J × List Nat)} (hp : allPlain l = true) (hx : opsX noCall (jsOf l) t h n = .go .normal t1 h1 n1) (x : Q .normal t1 h1 (skipN n m)) : XK P eqs nt (.draw m l) t h n Q :=
  XK.run S noCall_ok (fu := 0) (draw_plain hp hx) x
end
end Go.Ex

/- Regions of any order with calls that leave the memory as it is. Nothing here speaks of one program. -/
set_option linter.unusedVariables false
set_option linter.unusedSimpArgs false
namespace Go.Ex
section
variable {P : Program} {eqs : Env} {nt : Nat} {k : K} {t t1 t2 : T X} {h : H} {n n1 n2 : Pt} {e : E} {Q : E → T X → H → Pt → Prop} {call : CallT}

/-- The operations one after the other, none of which changes the memory. -/
inductive SeqR (call : CallT) (h : H) : List (J × List Nat) → T X → Pt → T X → Pt → Prop
  | nil {t : T X} {n : Pt} : SeqR call h [] t n t n
  | cons {j : J} {ms : List Nat} {l : List (J × List Nat)} {t t1 t2 : T X} {n n1 n2 : Pt} (hk : Nat.beq j.kind 2 = false) (hs : step j call t h n = .ok t1 h n1) (hre : j.kind = 1 → reR call j j.dst t1 h = true) (hr : SeqR call h l t1 n1 t2 n2) : SeqR call h ((j, ms) :: l) t n t2 n2

theorem re_r {d : Pt} {i : IR} {x : X} (hg : t1.get d = some x) (hx : opR i t1 h = some x) : reR call (.r d i) (some d) t1 h = true := by
  unfold reR
  simp only [hg]
  rw [show step (.r d i) call t1 h .z = .ok (t1.put d x) h .z from st_r hx]
  simp only [get_put, if_true]
  exact beqX_refl x
theorem SeqR_p {d : Pt} {i : IP} {ms : List Nat} {l : List (J × List Nat)} {x : X} (hx : opP i t = some x) (hr : SeqR call h l (t.put d x) n t2 n2) : SeqR call h ((.p d i, ms) :: l) t n t2 n2 :=
  .cons rfl (st_p hx) (fun h => by cases h) hr
theorem SeqR_r {d : Pt} {i : IR} {ms : List Nat} {l : List (J × List Nat)} {x : X} (hx : opR i t h = some x) (hx' : opR i (t.put d x) h = some x) (hr : SeqR call h l (t.put d x) n t2 n2) : SeqR call h ((.r d i, ms) :: l) t n t2 n2 :=
  .cons rfl (st_r hx) (fun _ => re_r (by rw [get_put, if_pos rfl]) hx') hr
theorem SeqR_c {d : Pt} {f : FuncId} {ds : List D} {args : List X} {ms : List Nat} {l : List (J × List Nat)} {x : X} (ha : evL t ds = some args) (hc : call f args h n = some (x, h, n1)) (hr : SeqR call h l (t.put d x) n1 t2 n2) : SeqR call h ((.w (some d) (.call f ds), ms) :: l) t n t2 n2 :=
  .cons rfl (st_call ha hc) (fun h => by cases h) hr
/-- What is guarded, and comes. -/
theorem SeqR_goP {p : Pt} {q : Bool} {dd : Option Pt} {d : Pt} {i : IP} {ms : List Nat} {l : List (J × List Nat)} {x : X} (hp : t.get p = some (.bool q)) (hx : opP i t = some x) (hr : SeqR call h l (t.put d x) n t2 n2) : SeqR call h ((.g p q dd (.p d i), ms) :: l) t n t2 n2 := by
  refine .cons rfl ?_ (fun h => by cases h) hr
  show stG p q dd (.p d i) (step (.p d i)) call t h n = _
  unfold stG
  rw [hp]
  simp only [beq_self_eq_true, cond_true]
  exact st_p hx
theorem SeqR_noP {p : Pt} {q q' : Bool} {d : Pt} {j : J} {ms : List Nat} {l : List (J × List Nat)} (hk : Nat.beq j.kind 2 = false) (hk1 : Nat.beq j.kind 1 = false) (hp : t.get p = some (.bool q')) (hq : (q' == q) = false) (hr : SeqR call h l (t.put d (.tup [])) n t2 n2) : SeqR call h ((.g p q (some d) j, ms) :: l) t n t2 n2 := by
  refine .cons hk ?_ (fun h1 => ?_) hr
  · show stG p q (some d) j (step j) call t h n = _
    unfold stG
    rw [hp]
    simp only [hq, cond_false, Option.map, putO]
  · have : j.kind = 1 := h1
    rw [this] at hk1; cases hk1

theorem dstep_kind {s : DS} : ∀ {jj jj0 : J}, (J.rec (motive := fun _ => J → DS → Option DS) (fun _ _ => dPure call) (fun _ _ => dPure call) (fun _ _ => dAlc call) (fun _ _ => dWr call) (fun _ _ _ _ f => f) jj0 jj s) = (match jj0.kind with | 2 => dAlc call jj s | 3 => dWr call jj s | _ => dPure call jj s) := by
  intro jj jj0
  induction jj0 with
  | p _ _ => rfl
  | r _ _ => rfl
  | a _ _ => rfl
  | w _ _ => rfl
  | g _ _ _ j0 ih => exact ih
theorem kind_3 : ∀ (jj : J), jj.kind ≤ 3 := by
  intro jj
  induction jj with
  | p _ _ => exact Nat.zero_le _
  | r _ _ => exact Nat.le_succ_of_le (Nat.le_succ_of_le (Nat.le_refl _))
  | a _ _ => exact Nat.le_succ_of_le (Nat.le_refl _)
  | w _ _ => exact Nat.le_refl _
  | g _ _ _ _ ih => exact ih

/-- The memories gone through are all the same. -/
def allH (h : H) (hs : List (Nat × H)) : Prop := ∀ q ∈ hs, q.2 = h
theorem reAll_same {f : H → Bool} {ok : Nat → Bool} : ∀ {hs : List (Nat × H)}, allH h hs → f h = true → reAll f ok hs = true := by
  intro hs
  induction hs with
  | nil => intro _ _; rfl
  | cons q hs ih =>
    intro ha hf
    have h1 := ha q (List.mem_cons_self ..)
    have h2 := ih (fun q hq => ha q (List.mem_cons_of_mem _ hq)) hf
    obtain ⟨q1, q2⟩ := q
    simp only at h1
    subst h1
    simp only [reAll, hf, h2]
    cases ok q1 <;> rfl
theorem seqR_go (m : Nat) {na : Pt} {l : List (J × List Nat)} {t t2 : T X} {n n2 : Pt} (hr : SeqR call h l t n t2 n2) : ∀ (i q : Nat) (hs : List (Nat × H)), allH h hs →
    ∃ s', drawGo call l ⟨t, h, n, na, i, q, hs⟩ = some s' ∧ s'.t = t2 ∧ s'.h = h ∧ s'.n = n2 ∧ allH h s'.hs ∧ ∀ HS, allH h HS → drawRe call HS l ⟨t, h, n, na, i, q, hs⟩ = true := by
  induction hr with
  | nil => intro i q hs ha; exact ⟨_, rfl, rfl, rfl, rfl, ha, fun HS _ => rfl⟩
  | @cons j ms l t t1 t2 n n1 n2 hk hst hre hr ih =>
    intro i q hs ha
    have hkk := kind_3 j
    have hk2 : j.kind ≠ 2 := Nat.ne_of_beq_eq_false hk
    -- the state behind it
    have key : ∃ q' hs' nn, dStep call j ⟨t, h, n, na, i, q, hs⟩ = some ⟨t1, h, nn, na, i + 1, q', hs'⟩ ∧ allH h hs' ∧ nn = n1 := by
      show ∃ q' hs' nn, J.rec (motive := fun _ => J → DS → Option DS) (fun _ _ => dPure call) (fun _ _ => dPure call) (fun _ _ => dAlc call) (fun _ _ => dWr call) (fun _ _ _ _ f => f) j j _ = _ ∧ _ ∧ _
      rw [dstep_kind]
      by_cases h3 : j.kind = 3
      · rw [h3]
        refine ⟨i + 1, (i + 1, h) :: hs, n1, ?_, fun p hp => ?_, rfl⟩
        · show dWr call j _ = _
          unfold dWr
          rw [hst]
        · rcases List.mem_cons.1 hp with h4 | h4
          · subst h4; rfl
          · exact ha p h4
      · have h01 : j.kind = 0 ∨ j.kind = 1 := by omega
        have hpl : plainJ j = true := by
          have : ∀ jj : J, (jj.kind = 0 ∨ jj.kind = 1) → plainJ jj = true := by
            intro jj
            induction jj with
            | p _ _ => intro _; rfl
            | r _ _ => intro _; rfl
            | a _ _ => intro h; rcases h with h | h <;> cases h
            | w _ _ => intro h; rcases h with h | h <;> cases h
            | g _ _ _ _ ih => intro h; exact ih h
          exact this j h01
        obtain ⟨_, g2, g3⟩ := plain_step hpl hst
        refine ⟨q, hs, n, ?_, ha, g2.symm⟩
        have : (match j.kind with | 2 => dAlc call j ⟨t, h, n, na, i, q, hs⟩ | 3 => dWr call j ⟨t, h, n, na, i, q, hs⟩ | _ => dPure call j ⟨t, h, n, na, i, q, hs⟩) = dPure call j ⟨t, h, n, na, i, q, hs⟩ := by
          rcases h01 with h0 | h0 <;> simp only [h0]
        rw [this]
        unfold dPure
        rw [show step j call t h n = .ok t1 h n1 from hst]
    obtain ⟨q', hs', nn, k1, k2, rfl⟩ := key
    obtain ⟨s', g1, g2, g3, g4, g5, g6⟩ := ih (i + 1) q' hs' k2
    refine ⟨s', ?_, g2, g3, g4, g5, fun HS hHS => ?_⟩
    · show (match dStep call j _ with | some s => drawGo call l s | none => none) = _
      rw [k1]; exact g1
    · show (match dStep call j ⟨t, h, n, na, i, q, hs⟩ with
        | none => false
        | some s' => (match j.kind with
          | 1 => reAll (reR call j j.dst s'.t) (fun k => memN k ms && !Nat.beq k q) HS
          | 2 => match s'.h.get na with
            | some c => reAll (reA na c) (fun k => memN k ms && Nat.blt q k) HS
            | none => true
          | _ => true) && drawRe call HS l s') = true
      rw [k1]
      simp only
      rw [g6 HS hHS, Bool.and_true]
      have h013 : j.kind = 0 ∨ j.kind = 1 ∨ j.kind = 3 := by omega
      rcases h013 with h0 | h0 | h0
      · simp only [h0]
      · simp only [h0]
        exact reAll_same hHS (hre h0)
      · simp only [h0]
theorem draw_seq {m : Nat} {l : List (J × List Nat)} (hr : SeqR call h l t (skipN n m) t2 n2) : drawX call m l t h n = .go .normal t2 h n2 := by
  obtain ⟨s', g1, g2, g3, g4, g5, g6⟩ := seqR_go m (na := n) hr 0 0 [(0, h)] (fun q hq => by simp at hq; rw [hq])
  unfold drawX
  rw [g1]
  simp only
  rw [g6 _ g5, g2, g3, g4]; rfl
/-- A region of any order with no call, or with one. -/
theorem XK.draw0 (S : Ok P eqs) {m : Nat} {l : List (J × List Nat)} (hr : SeqR noCall h l t (skipN n m) t2 n2) (x : Q .normal t2 h n2) : XK P eqs nt (.draw m l) t h n Q :=
  XK.run S noCall_ok (fu := 0) (draw_seq hr) x
theorem XK.draw1 (S : Ok P eqs) {m : Nat} {l : List (J × List Nat)} (q : Fact) (hq : q.ok eqs.gs P) (hr : ∀ call, q.on call → SeqR call h l t (skipN n m) t2 n2) (x : Q .normal t2 h n2) : XK P eqs nt (.draw m l) t h n Q := by
  obtain ⟨call, h1, h2⟩ := one_call (G := eqs.gs) q hq
  exact XK.run S h1 (fu := 0) (draw_seq (hr call h2)) x
theorem XK.draw2 (S : Ok P eqs) {m : Nat} {l : List (J × List Nat)} (q r : Fact) (hq : q.ok eqs.gs P) (hr : r.ok eqs.gs P) (hne : ¬ (r.f = q.f ∧ r.args = q.args ∧ r.h = q.h ∧ r.n = q.n) ∨ (r.x = q.x ∧ r.h' = q.h' ∧ r.n' = q.n')) (hrun : ∀ call, q.on call → r.on call → SeqR call h l t (skipN n m) t2 n2) (x : Q .normal t2 h n2) : XK P eqs nt (.draw m l) t h n Q := by
  obtain ⟨call, h1, h2, h3⟩ := two_calls (G := eqs.gs) q r hq hr hne
  exact XK.run S h1 (fu := 0) (draw_seq (hrun call h2 h3)) x
end
end Go.Ex

/- Integers of some kinds, as numbers. Nothing here speaks of one program. -/
set_option linter.unusedVariables false
set_option linter.unusedSimpArgs false
namespace Go.Ex
abbrev B8 (n : Nat) : X := .int .u8 (.ofNat n)
abbrev I6 (n : Int) : X := .int .i64 n
abbrev N6 (n : Nat) : X := .int .i64 (.ofNat n)
abbrev BX (b : Bool) : X := .bool b
theorem wrap8 {n : Nat} (h : n < 256) : IntKind.wrap .u8 (n : Int) = (n : Int) := by
  rw [IntKind.wrap_u8]; omega
theorem wrap8m (n : Nat) : IntKind.wrap .u8 (n : Int) = ((n % 256 : Nat) : Int) := by
  rw [IntKind.wrap_u8]; omega
theorem wrap64 {n : Int} (h1 : -9223372036854775808 ≤ n) (h2 : n < 9223372036854775808) : IntKind.wrap .i64 n = n := by
  rw [IntKind.wrap_i64]; omega
theorem xor8 {a b : Nat} (ha : a < 256) (hb : b < 256) : IntKind.wrap .u8 (((BitVec.ofInt 8 (a : Int) ^^^ BitVec.ofInt 8 (b : Int)).toNat : Nat) : Int) = ((a ^^^ b : Nat) : Int) := by
  have e : (BitVec.ofInt 8 (a : Int) ^^^ BitVec.ofInt 8 (b : Int)).toNat = a ^^^ b := by
    simp [BitVec.toNat_xor, Nat.mod_eq_of_lt ha, Nat.mod_eq_of_lt hb]
  rw [e]
  exact wrap8 (Nat.xor_lt_two_pow (n := 8) ha hb)
theorem and8 {a b : Nat} (ha : a < 256) (hb : b < 256) : IntKind.wrap .u8 (((BitVec.ofInt 8 (a : Int) &&& BitVec.ofInt 8 (b : Int)).toNat : Nat) : Int) = ((a &&& b : Nat) : Int) := by
  have e : (BitVec.ofInt 8 (a : Int) &&& BitVec.ofInt 8 (b : Int)).toNat = a &&& b := by
    simp [BitVec.toNat_and, Nat.mod_eq_of_lt ha, Nat.mod_eq_of_lt hb]
  rw [e]
  exact wrap8 (Nat.and_lt_two_pow (n := 8) _ hb)
section
variable {P : Program} {eqs : Env} {f : FuncId} {args : List X} {r : X}
theorem XF.pure (k : XF P eqs f args .e .z (fun x _ _ => x = r)) (ha : idsL noF args = true) (hx : idsX noF r = true) (h : H) (n : Pt) : CallOne eqs.gs P f args h n r h n := by
  obtain ⟨x, h', n', h1, rfl⟩ := k
  exact h1.pure ha hx h n
end
end Go.Ex

/- Regions with calls, told one operation after the other. Nothing here speaks of one program. -/
set_option linter.unusedVariables false
set_option linter.unusedSimpArgs false
namespace Go.Ex
section
variable {P : Program} {eqs : Env} {nt : Nat} {t t1 : T X} {h h1 : H} {n n1 : Pt} {Q : E → T X → H → Pt → Prop} {call : CallT} {R : T X → H → Pt → Prop} {R' : T X → Pt → Prop} {l : List J} {ll : List (J × List Nat)} {f f' : FuncId} {args args' : List X} {x x' : X} {d : Pt} {j : J} {ds : List D} {ms : List Nat}

def OpsGo (call : CallT) (l : List J) (t : T X) (h : H) (n : Pt) (R : T X → H → Pt → Prop) : Prop := ∃ t1 h1 n1, opsX call l t h n = .go .normal t1 h1 n1 ∧ R t1 h1 n1
theorem OG_nil (r : R t h n) : OpsGo call [] t h n R := ⟨t, h, n, rfl, r⟩
theorem OG_cons (hs : step j call t h n = .ok t1 h1 n1) (r : OpsGo call l t1 h1 n1 R) : OpsGo call (j :: l) t h n R := by
  obtain ⟨t2, h2, n2, h3, h4⟩ := r
  exact ⟨t2, h2, n2, ops_cons hs h3, h4⟩
theorem OG_p {i : IP} (hx : opP i t = some x) (r : OpsGo call l (t.put d x) h n R) : OpsGo call (.p d i :: l) t h n R := OG_cons (st_p hx) r
theorem OG_r {i : IR} (hx : opR i t h = some x) (r : OpsGo call l (t.put d x) h n R) : OpsGo call (.r d i :: l) t h n R := OG_cons (st_r hx) r
theorem OG_c {p : Option Pt} (ha : evL t ds = some args) (hc : call f args h n = some (x, h1, n1)) (r : OpsGo call l (putO t p x) h1 n1 R) : OpsGo call (.w p (.call f ds) :: l) t h n R := OG_cons (st_call ha hc) r
/-- A guarded operation that comes, or not. -/
theorem OG_y {p : Pt} {q : Bool} {dd : Option Pt} (hp : t.get p = some (.bool q)) (hs : step j call t h n = .ok t1 h1 n1) (r : OpsGo call l t1 h1 n1 R) : OpsGo call (.g p q dd j :: l) t h n R := by
  refine OG_cons ?_ r
  show stG p q dd j (step j) call t h n = _
  unfold stG
  rw [hp]
  simp only [beq_self_eq_true, cond_true]
  exact hs
theorem OG_o {p : Pt} {q q' : Bool} {dd : Option Pt} (hp : t.get p = some (.bool q')) (hq : (q' == q) = false) (r : OpsGo call l (putO t dd (.tup [])) h n R) : OpsGo call (.g p q dd j :: l) t h n R := by
  refine OG_cons ?_ r
  show stG p q dd j (step j) call t h n = _
  unfold stG
  rw [hp]
  simp only [hq, cond_false]
def SeqGo (call : CallT) (h : H) (l : List (J × List Nat)) (t : T X) (n : Pt) (R : T X → Pt → Prop) : Prop := ∃ t2 n2, SeqR call h l t n t2 n2 ∧ R t2 n2
theorem SG_nil (r : R' t n) : SeqGo call h [] t n R' := ⟨t, n, .nil, r⟩
theorem SG_cons (hk : Nat.beq j.kind 2 = false) (hs : step j call t h n = .ok t1 h n1) (hre : j.kind = 1 → reR call j j.dst t1 h = true) (r : SeqGo call h ll t1 n1 R') : SeqGo call h ((j, ms) :: ll) t n R' := by
  obtain ⟨t2, n2, h3, h4⟩ := r
  exact ⟨t2, n2, .cons hk hs hre h3, h4⟩
theorem SG_p {i : IP} (hx : opP i t = some x) (r : SeqGo call h ll (t.put d x) n R') : SeqGo call h ((.p d i, ms) :: ll) t n R' := by
  obtain ⟨t2, n2, h3, h4⟩ := r
  exact ⟨t2, n2, SeqR_p hx h3, h4⟩
theorem SG_r {i : IR} (hx : opR i t h = some x) (hx' : opR i (t.put d x) h = some x) (r : SeqGo call h ll (t.put d x) n R') : SeqGo call h ((.r d i, ms) :: ll) t n R' := by
  obtain ⟨t2, n2, h3, h4⟩ := r
  exact ⟨t2, n2, SeqR_r hx hx' h3, h4⟩
theorem SG_c (ha : evL t ds = some args) (hc : call f args h n = some (x, h, n1)) (r : SeqGo call h ll (t.put d x) n1 R') : SeqGo call h ((.w (some d) (.call f ds), ms) :: ll) t n R' := by
  obtain ⟨t2, n2, h3, h4⟩ := r
  exact ⟨t2, n2, SeqR_c ha hc h3, h4⟩
theorem SG_y {p : Pt} {q : Bool} {dd : Option Pt} (hk : Nat.beq j.kind 2 = false) (hk1 : Nat.beq j.kind 1 = false) (hp : t.get p = some (.bool q)) (hs : step j call t h n = .ok t1 h n1) (r : SeqGo call h ll t1 n1 R') : SeqGo call h ((.g p q dd j, ms) :: ll) t n R' := by
  refine SG_cons hk ?_ (fun h1 => ?_) r
  · show stG p q dd j (step j) call t h n = _
    unfold stG
    rw [hp]
    simp only [beq_self_eq_true, cond_true]
    exact hs
  · have : j.kind = 1 := h1
    rw [this] at hk1; cases hk1
theorem SG_o {p : Pt} {q q' : Bool} (hk : Nat.beq j.kind 2 = false) (hk1 : Nat.beq j.kind 1 = false) (hp : t.get p = some (.bool q')) (hq : (q' == q) = false) (r : SeqGo call h ll (t.put d (.tup [])) n R') : SeqGo call h ((.g p q (some d) j, ms) :: ll) t n R' := by
  obtain ⟨t2, n2, h3, h4⟩ := r
  exact ⟨t2, n2, SeqR_noP hk hk1 hp hq h3, h4⟩

/-- Calls that leave everything as it was. -/
def Pure1 (G : GEnv) (P : Program) (f : FuncId) (args : List X) (x : X) : Prop := ∀ h n, CallOne G P f args h n x h n
theorem XK.op0' (S : Ok P eqs) (hx : OpsGo noCall l t h n (Q .normal)) : XK P eqs nt (.reg l) t h n Q := by
  obtain ⟨t1, h1, n1, h2, h3⟩ := hx
  exact XK.run S noCall_ok (fu := 0) h2 h3
theorem XK.op1' (S : Ok P eqs) (hq : Pure1 eqs.gs P f args x) (hx : ∀ call, (∀ h, call f args h n = some (x, h, n)) ∨ call f args h n = some (x, h, n) → OpsGo call l t h n (Q .normal)) : XK P eqs nt (.reg l) t h n Q := by
  obtain ⟨call, h1, h2⟩ := one_call (G := eqs.gs) ⟨f, args, h, n, x, h, n⟩ (hq h n)
  obtain ⟨t1, hh, n1, h3, h4⟩ := hx call (.inr h2)
  exact XK.run S h1 (fu := 0) h3 h4
theorem XK.reg1 (S : Ok P eqs) (hq : Pure1 eqs.gs P f args x) (hx : ∀ call, call f args h n = some (x, h, n) → OpsGo call l t h n (Q .normal)) : XK P eqs nt (.reg l) t h n Q :=
  XK.op1' S hq fun call hc => hx call (by rcases hc with hc | hc; exact hc h; exact hc)
theorem XK.reg2 (S : Ok P eqs) (hq : Pure1 eqs.gs P f args x) (hr : Pure1 eqs.gs P f' args' x') (hne : f ≠ f' ∨ args ≠ args' ∨ x = x') (hx : ∀ call, call f args h n = some (x, h, n) → call f' args' h n = some (x', h, n) → OpsGo call l t h n (Q .normal)) : XK P eqs nt (.reg l) t h n Q := by
  obtain ⟨call, h1, h2, h2'⟩ := two_calls (G := eqs.gs) ⟨f, args, h, n, x, h, n⟩ ⟨f', args', h, n, x', h, n⟩ (hq h n) (hr h n) (by
    by_cases hc : f' = f ∧ args' = args
    · right
      rcases hne with h1 | h1 | h1
      · exact absurd hc.1.symm h1
      · exact absurd hc.2.symm h1
      · exact ⟨h1.symm, rfl, rfl⟩
    · left; exact fun hh => hc ⟨hh.1, hh.2.1⟩)
  obtain ⟨t1, hh, n1, h3, h4⟩ := hx call h2 h2'
  exact XK.run S h1 (fu := 0) h3 h4
theorem XK.dr0 (S : Ok P eqs) {m : Nat} (hx : SeqGo noCall h ll t (skipN n m) fun t n => Q .normal t h n) : XK P eqs nt (.draw m ll) t h n Q := by
  obtain ⟨t1, n1, h3, h4⟩ := hx
  exact XK.draw0 S h3 h4
theorem XK.dr1 (S : Ok P eqs) {m : Nat} (hq : Pure1 eqs.gs P f args x) (hx : ∀ call, call f args h (skipN n m) = some (x, h, skipN n m) → SeqGo call h ll t (skipN n m) fun t n => Q .normal t h n) : XK P eqs nt (.draw m ll) t h n Q := by
  obtain ⟨call, h1, h2⟩ := one_call (G := eqs.gs) ⟨f, args, h, skipN n m, x, h, skipN n m⟩ (hq h _)
  obtain ⟨t1, n1, h3, h4⟩ := hx call h2
  exact XK.run S h1 (fu := 0) (draw_seq h3) h4
theorem XK.dr2 (S : Ok P eqs) {m : Nat} (hq : Pure1 eqs.gs P f args x) (hr : Pure1 eqs.gs P f' args' x') (hne : f ≠ f' ∨ args ≠ args' ∨ x = x') (hx : ∀ call, call f args h (skipN n m) = some (x, h, skipN n m) → call f' args' h (skipN n m) = some (x', h, skipN n m) → SeqGo call h ll t (skipN n m) fun t n => Q .normal t h n) : XK P eqs nt (.draw m ll) t h n Q := by
  obtain ⟨call, h1, h2, h2'⟩ := two_calls (G := eqs.gs) ⟨f, args, h, skipN n m, x, h, skipN n m⟩ ⟨f', args', h, skipN n m, x', h, skipN n m⟩ (hq h _) (hr h _) (by
    by_cases hc : f' = f ∧ args' = args
    · right
      rcases hne with h1 | h1 | h1
      · exact absurd hc.1.symm h1
      · exact absurd hc.2.symm h1
      · exact ⟨h1.symm, rfl, rfl⟩
    · left; exact fun hh => hc ⟨hh.1, hh.2.1⟩)
  obtain ⟨t1, n1, h3, h4⟩ := hx call h2 h2'
  exact XK.run S h1 (fu := 0) (draw_seq h3) h4
end
end Go.Ex
namespace Go.Ex
section
variable {P : Program} {eqs : Env} {nt : Nat} {t t1 : T X} {h h1 h' h'' : H} {n n1 n' : Pt} {Q : E → T X → H → Pt → Prop} {call : CallT} {R : T X → H → Pt → Prop} {l : List J} {f f' : FuncId} {args args' caps : List X} {x x' : X} {d : Pt} {j : J} {ds : List D}
theorem st_callv {p : Option Pt} {fd : D} (hf : ev t fd = some (.fn f caps)) (ha : evL t ds = some args) (hc : call f (args ++ caps) h n = some (x, h1, n1)) : step (.w p (.callv fd ds)) call t h n = .ok (putO t p x) h1 n1 := by
  refine st_w ?_
  show rCallv fd ds call t h n = _
  unfold rCallv; rw [hf, ha]; exact hc
theorem OG_v {p : Option Pt} {fd : D} (hf : ev t fd = some (.fn f caps)) (ha : evL t ds = some args) (hc : call f (args ++ caps) h n = some (x, h1, n1)) (r : OpsGo call l (putO t p x) h1 n1 R) : OpsGo call (.w p (.callv fd ds) :: l) t h n R := OG_cons (st_callv hf ha hc) r
/-- A region with one call, told at the memory as it is. -/
theorem XK.regF (S : Ok P eqs) (q : Fact) (hq : q.ok eqs.gs P) (hx : ∀ call, q.on call → OpsGo call l t h n (Q .normal)) : XK P eqs nt (.reg l) t h n Q := by
  obtain ⟨call, h1, h2⟩ := one_call (G := eqs.gs) q hq
  obtain ⟨t1, hh, n1, h3, h4⟩ := hx call h2
  exact XK.run S h1 (fu := 0) h3 h4
theorem CallOne.le (c : CallOne eqs.gs P f args h n x h' n') (hl : Le h'' h') : CallOne eqs.gs P f args h n x h'' n' :=
  ⟨c.1, fun w φ vals hp hv => (c.2 w φ vals hp hv).mono fun e w' ⟨v, φ', h1, h2, h3⟩ => ⟨v, φ', h1, h2.less hl, h3⟩⟩
theorem tru {p : Prop} [Decidable p] (h : p) : some (X.bool (decide p)) = some (X.bool true) := by rw [decide_eq_true h]
theorem fls {p : Prop} [Decidable p] (h : ¬ p) : some (X.bool (decide p)) = some (X.bool false) := by rw [decide_eq_false h]
theorem ntru {p : Prop} [Decidable p] (h : p) : some (X.bool (!decide p)) = some (X.bool false) := by rw [decide_eq_true h]; rfl
theorem nfls {p : Prop} [Decidable p] (h : ¬ p) : some (X.bool (!decide p)) = some (X.bool true) := by rw [decide_eq_false h]; rfl
end
end Go.Ex

/- Regions of any order that change the memory, told one operation after the other; lists in a memory that is not known whole. Nothing here speaks of one program. -/
set_option linter.unusedVariables false
set_option linter.unusedSimpArgs false
namespace Go.Ex
section
variable {P : Program} {eqs : Env} {nt : Nat} {t t1 t2 : T X} {h h1 h2 : H} {n n1 n2 na na1 : Pt} {Q : E → T X → H → Pt → Prop} {call : CallT} {l : List (J × List Nat)} {ms : List Nat} {HS hs : List (Nat × H)} {i q : Nat} {s' : DS} {d : Pt} {x : X} {f : FuncId} {args : List X} {ds : List D}
def allOk (f : H → Prop) (ok : Nat → Bool) : List (Nat × H) → Prop
  | [] => True
  | (q, h) :: hs => (ok q = true → f h) ∧ allOk f ok hs
theorem reAll_ok {f : H → Prop} {g : H → Bool} {ok : Nat → Bool} (hfg : ∀ h, f h → g h = true) : ∀ {hs : List (Nat × H)}, allOk f ok hs → reAll g ok hs = true := by
  intro hs
  induction hs with
  | nil => intro _; rfl
  | cons p hs ih =>
    intro ha
    obtain ⟨q, h⟩ := p
    obtain ⟨h1, h2⟩ := ha
    simp only [reAll, ih h2, Bool.and_true]
    cases hq : ok q with
    | true => exact hfg h (h1 hq)
    | false => rfl
def DrawOk (call : CallT) (HS : List (Nat × H)) (l : List (J × List Nat)) (s s' : DS) : Prop := drawGo call l s = some s' ∧ drawRe call HS l s = true
theorem DG_nil {s : DS} : DrawOk call HS [] s s := ⟨rfl, rfl⟩
theorem DG_cons {j : J} {s s1 : DS} (h1 : dStep call j s = some s1) (hre : (match j.kind with
      | 1 => reAll (reR call j j.dst s1.t) (fun k => memN k ms && !Nat.beq k s.q) HS
      | 2 => match s1.h.get s.na with
        | some c => reAll (reA s.na c) (fun k => memN k ms && Nat.blt s.q k) HS
        | none => true
      | _ => true) = true) (r : DrawOk call HS l s1 s') : DrawOk call HS ((j, ms) :: l) s s' := by
  refine ⟨?_, ?_⟩
  · show (match dStep call j s with | some s => drawGo call l s | none => none) = _
    rw [h1]; exact r.1
  · show (match dStep call j s with
        | none => false
        | some s1 => (match j.kind with
      | 1 => reAll (reR call j j.dst s1.t) (fun k => memN k ms && !Nat.beq k s.q) HS
      | 2 => match s1.h.get s.na with
        | some c => reAll (reA s.na c) (fun k => memN k ms && Nat.blt s.q k) HS
        | none => true
      | _ => true) && drawRe call HS l s1) = true
    rw [h1]
    simp only
    rw [r.2, Bool.and_true]; exact hre
theorem DG_p {o : IP} (hx : opP o t = some x) (r : DrawOk call HS l ⟨t.put d x, h, n, na, i + 1, q, hs⟩ s') : DrawOk call HS ((.p d o, ms) :: l) ⟨t, h, n, na, i, q, hs⟩ s' := by
  refine DG_cons (s1 := ⟨t.put d x, h, n, na, i + 1, q, hs⟩) ?_ rfl r
  show dPure call _ _ = _
  unfold dPure
  rw [show step (.p d o) call t h n = .ok (t.put d x) h n from st_p hx]
theorem DG_r {o : IR} (hx : opR o t h = some x) (hre : allOk (fun h => opR o (t.put d x) h = some x) (fun k => memN k ms && !Nat.beq k q) HS) (r : DrawOk call HS l ⟨t.put d x, h, n, na, i + 1, q, hs⟩ s') : DrawOk call HS ((.r d o, ms) :: l) ⟨t, h, n, na, i, q, hs⟩ s' := by
  refine DG_cons (s1 := ⟨t.put d x, h, n, na, i + 1, q, hs⟩) ?_ ?_ r
  · show dPure call _ _ = _
    unfold dPure
    rw [show step (.r d o) call t h n = .ok (t.put d x) h n from st_r hx]
  · show reAll (reR call (.r d o) (some d) (t.put d x)) _ HS = true
    exact reAll_ok (fun h hh => re_r (by rw [get_put, if_pos rfl]) hh) hre
theorem DG_w {o : IW} {dd : Option Pt} (hx : opW o call t h n = some (x, h1, n1)) (r : DrawOk call HS l ⟨putO t dd x, h1, n1, na, i + 1, i + 1, (i + 1, h1) :: hs⟩ s') : DrawOk call HS ((.w dd o, ms) :: l) ⟨t, h, n, na, i, q, hs⟩ s' := by
  refine DG_cons (s1 := ⟨putO t dd x, h1, n1, na, i + 1, i + 1, (i + 1, h1) :: hs⟩) ?_ rfl r
  show dWr call _ _ = _
  unfold dWr
  rw [show step (.w dd o) call t h n = .ok (putO t dd x) h1 n1 from st_w hx]
theorem DG_c {dd : Option Pt} (ha : evL t ds = some args) (hc : call f args h n = some (x, h1, n1)) (r : DrawOk call HS l ⟨putO t dd x, h1, n1, na, i + 1, i + 1, (i + 1, h1) :: hs⟩ s') : DrawOk call HS ((.w dd (.call f ds), ms) :: l) ⟨t, h, n, na, i, q, hs⟩ s' := by
  refine DG_w ?_ r
  show rCall f ds call t h n = _
  unfold rCall; rw [ha]; exact hc
theorem DG_a {o : IA} {ob : O} (hx : opA o t na = some (x, ob)) (hre : allOk (fun h => h.get na = some ob) (fun k => memN k ms && Nat.blt q k) HS) (hbq : beqO ob ob = true) (r : DrawOk call HS l ⟨t.put d x, h.put na ob, n, na.inc, i + 1, q, hs⟩ s') : DrawOk call HS ((.a d o, ms) :: l) ⟨t, h, n, na, i, q, hs⟩ s' := by
  refine DG_cons (s1 := ⟨t.put d x, h.put na ob, n, na.inc, i + 1, q, hs⟩) ?_ ?_ r
  · show dAlc call _ _ = _
    unfold dAlc
    have : step (.a d o) call t h na = .ok (t.put d x) (h.put na ob) na.inc := by
      show stA d o call t h na = _
      unfold stA
      rw [hx]
      show na.incK (fun m => S3.ok (t.put d x) (h.put na ob) m) = _
      rw [incK_eq]
    rw [this]
  · show (match (h.put na ob).get na with
        | some c => reAll (reA na c) (fun k => memN k ms && Nat.blt q k) HS
        | none => true) = true
    rw [get_put, if_pos rfl]
    exact reAll_ok (f := fun h => h.get na = some ob) (fun h hh => by show (match h.get na with | some o => beqO ob o | none => false) = true; rw [hh]; exact hbq) hre
/-- A drawn region, told at its end: what the memories gone through were. -/
theorem XK.drawG (S : Ok P eqs) {m : Nat} (hcall : CallOk eqs.gs P call) (hx : DrawOk call s'.hs l ⟨t, h, skipN n m, n, 0, 0, [(0, h)]⟩ s') (hQ : Q .normal s'.t s'.h s'.n) : XK P eqs nt (.draw m l) t h n Q := by
  refine XK.run S hcall (fu := 0) (e := .normal) (t1 := s'.t) (h1 := s'.h) (n1 := s'.n) ?_ hQ
  show drawX call m l t h n = _
  unfold drawX
  rw [hx.1]
  simp only
  rw [hx.2]; rfl
theorem XK.dg0 (S : Ok P eqs) {m : Nat} (hx : ∃ s', DrawOk noCall s'.hs l ⟨t, h, skipN n m, n, 0, 0, [(0, h)]⟩ s' ∧ Q .normal s'.t s'.h s'.n) : XK P eqs nt (.draw m l) t h n Q := by
  obtain ⟨s', h1, h2⟩ := hx
  exact XK.drawG S noCall_ok h1 h2
theorem XK.dg1 (S : Ok P eqs) {m : Nat} (hq : Pure1 eqs.gs P f args x) (hx : ∀ call, call f args h (skipN n m) = some (x, h, skipN n m) → ∃ s', DrawOk call s'.hs l ⟨t, h, skipN n m, n, 0, 0, [(0, h)]⟩ s' ∧ Q .normal s'.t s'.h s'.n) : XK P eqs nt (.draw m l) t h n Q := by
  obtain ⟨call, h1, h2⟩ := one_call (G := eqs.gs) ⟨f, args, h, skipN n m, x, h, skipN n m⟩ (hq h _)
  obtain ⟨s', h3, h4⟩ := hx call h2
  exact XK.drawG S h1 h3 h4
theorem XK.dgF (S : Ok P eqs) {m : Nat} (q : Fact) (hq : q.ok eqs.gs P) (hx : ∀ call, q.on call → ∃ s', DrawOk call s'.hs l ⟨t, h, skipN n m, n, 0, 0, [(0, h)]⟩ s' ∧ Q .normal s'.t s'.h s'.n) : XK P eqs nt (.draw m l) t h n Q := by
  obtain ⟨call, h1, h2⟩ := one_call (G := eqs.gs) q hq
  obtain ⟨s', h3, h4⟩ := hx call h2
  exact XK.drawG S h1 h3 h4

/-! ### Operations on a memory that is not known whole -/
variable {a b c : D} {id id' : Pt} {off len cap z z' k : Nat} {cs cs' old new : List X} {v w : X} {ki : IntKind}
theorem op_ld (ha : ev t a = some (.ptr id off)) (hg : h.get id = some (.cells cs)) (hc : cs[off]? = some x) : opR (.load1 a) t h = some x := by
  show rLoad1 a t h = _
  unfold rLoad1; rw [ha]; simp only; rw [hg]; exact hc
theorem op_ldA (ha : ev t a = some (.ptr id off)) (hg : h.get id = some (.cells cs)) (hc : lgetL cs off k = some new) : opR (.loadA k a) t h = some (.agg new) := by
  show rLoadA k a t h = _
  unfold rLoadA; rw [ha]; simp only; rw [hg]; simp only; rw [hc]
theorem op_ia (ha : ev t a = some (.sl id off len cap z')) (hb : ev t b = some (.int ki (.ofNat k))) (hk : k < len) : opP (.iaddrS z a b) t = some (.ptr id (off + k * z)) := by
  show rIaddrS z a b t = _
  unfold rIaddrS; rw [ha, hb]
  show (match asI (.int ki (.ofNat k)) with
    | some i => bif Nat.blt i len then some (X.ptr id (off + i * z)) else none
    | none => none) = _
  show (bif Nat.blt k len then some (X.ptr id (off + k * z)) else none) = _
  rw [show Nat.blt k len = true from Nat.ble_eq_true_of_le hk]; rfl
theorem op_iaA {m : Nat} (ha : ev t a = some (.ptr id off)) (hb : ev t b = some (.int ki (.ofNat k))) (hk : k < m) : opP (.iaddrA m z a b) t = some (.ptr id (off + k * z)) := by
  show rIaddrA m z a b t = _
  unfold rIaddrA; rw [ha, hb]
  show (bif Nat.blt k m then some (X.ptr id (off + k * z)) else none) = _
  rw [show Nat.blt k m = true from Nat.ble_eq_true_of_le hk]; rfl
theorem lput_one {x : X} {cs : List X} {off : Nat} (h : off < cs.length) : lput cs off [x] = some (cs.set off x) := by
  unfold lput
  rw [show Nat.ble (off + [x].length) cs.length = true from Nat.ble_eq_true_of_le h, cond_true]
  refine congrArg some ?_
  rw [List.set_eq_take_append_cons_drop, if_pos h]
  simp
theorem op_st (ha : ev t a = some (.ptr id off)) (hb : ev t b = some v) (hv : inCells v = some [v]) (hg : h.get id = some (.cells cs)) (hk : off < cs.length) : opW (.store 1 a b) call t h n = some (.tup [], h.put id (.cells (cs.set off v)), n) := by
  show rStore 1 a b call t h n = _
  unfold rStore; rw [ha, hb]; simp only; rw [hv]
  show putX h n id off [v] (.tup []) = _
  unfold putX
  rw [hg]; simp only; rw [lput_one hk]
theorem op_len (ha : ev t a = some (.sl id off len cap z)) : opP (.len a) t = some (.int .i64 (.ofNat len)) := by
  show rLen a t = _
  unfold rLen; rw [ha]
theorem op_slen {s : List UInt8} (ha : ev t a = some (.str s)) : opP (.slen a) t = some (.int .i64 (.ofNat s.length)) := by
  show rSlen a t = _
  unfold rSlen; rw [ha]
theorem op_sidx {s : List UInt8} {b8 : UInt8} (ha : ev t a = some (.str s)) (hb : ev t b = some (.int ki (.ofNat k))) (hk : s[k]? = some b8) : opP (.sidx a b) t = some (.int .u8 (.ofNat b8.toNat)) := by
  show rSidx a b t = _
  unfold rSidx; rw [ha, hb]
  show (match s[k]? with
      | some b => some (X.int .u8 (.ofNat b.toNat))
      | none => none) = _
  rw [hk]

/-- A list of values of z cells each that was made by appending; nobody else knows it. -/
def Own (h : H) (n : Pt) (z : Nat) (l : List X) (v : X) : Prop := (l = [] ∧ v = .nils) ∨ ∃ id k, v = .sl id 0 k k (z + 1) ∧ l.length = k * z ∧ l ≠ [] ∧ h.get id = some (.cells l) ∧ id.num < n.num
def X.blk : X → Option Pt
  | .sl id _ _ _ _ => some id
  | .ptr id _ => some id
  | .map id => some id
  | _ => none
/-- Blocks below n, but for that of v, are as they were. -/
def Fr (h : H) (n : Pt) (v : X) (h' : H) : Prop := ∀ i, i.num < n.num → v.blk ≠ some i → h'.get i = h.get i
theorem Own.frame {l : List X} {h h' : H} {n n' : Pt} {v w : X} (o : Own h n z l v) (f : Fr h n w h') (hle : n.num ≤ n'.num) (hd : ∀ i, v.blk = some i → w.blk ≠ some i) : Own h' n' z l v := by
  rcases o with ⟨rfl, rfl⟩ | ⟨id, k, rfl, h2, h3, h4, h5⟩
  · exact .inl ⟨rfl, rfl⟩
  · exact .inr ⟨id, k, rfl, h2, h3, by rw [f id h5 (hd id rfl)]; exact h4, by omega⟩
theorem Own.len1 {l : List X} (o : Own h n 1 l v) (ha : ev t a = some v) : opP (.len a) t = some (.int .i64 (.ofNat l.length)) := by
  show rLen a t = _
  unfold rLen
  rcases o with ⟨rfl, rfl⟩ | ⟨id, k, rfl, h2, h3, h4, h5⟩
  · rw [ha]; rfl
  · rw [ha]; simp [h2]
/-- What appending does. -/
def AppW (z bytes : Nat) (v w : X) (h1 : H) (n1 : Pt) (v' : X) (h2 : H) : Prop := ∀ (t : T X) (a b : D) (call : CallT), ev t a = some v → ev t b = some w → opW (.app z bytes a b) call t h1 n1 = some (v', h2, n1.inc)
/-- Appending to such a list what another block holds. -/
theorem Own.app {bytes k : Nat} {l new : List X} {m : Pt} (hz : 0 < z) (hnew : new.length = k * z) (hk : 0 < k) (o : Own h n z l v) (hm : n.num ≤ m.num) (hlt : m.num < n1.num) (hh : ∀ i, i.num < n.num → h1.get i = h.get i) (hg : h1.get m = some (.cells new)) (hs1 : l.length + new.length ≤ 1000000) (hs2 : (l.length + new.length) * bytes ≤ 1000000000) :
    ∃ v' h2, AppW z bytes v (.sl m 0 k k 0) h1 n1 v' h2 ∧ Own h2 n1.inc z (l ++ new) v' ∧ Fr h n v h2 ∧ (∀ i, v'.blk = some i → n.num ≤ i.num) := by
  have hn1 := num_inc n1
  have hsrc : srcX h1 z (.sl m 0 k k 0) = some (k, new) := by
    show (match h1.get m with
    | some (.cells cs) => match lgetL cs 0 (k * z) with
      | some l => some (k, l)
      | none => none
    | _ => none) = _
    rw [hg]; simp only
    have : lgetL new 0 (k * z) = some new := by
      unfold lgetL
      rw [show Nat.ble (0 + k * z) new.length = true from Nat.ble_eq_true_of_le (by omega)]
      simp [← hnew]
    rw [this]
  have hk0 : Nat.beq k 0 = false := by cases k with
    | zero => omega
    | succ k => rfl
  have hnn : new ≠ [] := by
    intro e; subst e
    have : 0 < k * z := Nat.mul_pos hk hz
    simp at hnew; omega
  have key : ∀ kk l' hh', l'.length = kk * z → l' ≠ [] → kk ≤ 1000000 → kk * bytes ≤ 1000000000 → (∀ i, i.num < n.num → v.blk ≠ some i → hh'.get i = h.get i) → ∃ v' h2, appN z bytes kk l' hh' n1 = some (v', h2, n1.inc) ∧ Own h2 n1.inc z l' v' ∧ Fr h n v h2 ∧ (∀ i, v'.blk = some i → n.num ≤ i.num) := by
    intro kk l' hh' q1 q2 q3 q4 q5
    refine ⟨.sl n1 0 kk kk (z + 1), hh'.put n1 (.cells l'), ?_, .inr ⟨n1, kk, rfl, q1, q2, by rw [get_put, if_pos rfl], by omega⟩, fun i hi hb => ?_, fun i hi => ?_⟩
    · unfold appN
      rw [show (Nat.ble kk 1000000 && Nat.ble (kk * bytes) 1000000000) = true from by rw [Nat.ble_eq_true_of_le q3, Nat.ble_eq_true_of_le q4]; rfl, cond_true, incK_eq]
    · rw [get_put, if_neg (fun e => by subst e; omega)]; exact q5 i hi hb
    · have : n1 = i := by simpa [X.blk] using hi
      subst this; omega
  rcases o with ⟨rfl, rfl⟩ | ⟨id, kl, rfl, g2, g3, g4, g5⟩
  · obtain ⟨v', h2, e1, e2, e3, e4⟩ := key k new h1 hnew hnn (by have := Nat.le_mul_of_pos_right k hz; simp at hs1; omega) (by have : k * bytes ≤ new.length * bytes := Nat.mul_le_mul_right _ (by have := Nat.le_mul_of_pos_right k hz; omega); simp at hs2; omega) (fun i hi _ => hh i hi)
    refine ⟨v', h2, fun t a b call ha hb => ?_, e2, e3, e4⟩
    show rApp z bytes a b call t h1 n1 = _
    unfold rApp
    rw [ha, hb]; simp only
    rw [hsrc]; simp only
    rw [hk0]
    exact e1
  · have hlen : (l ++ new).length = (kl + k) * z := by rw [List.length_append, g2, hnew, Nat.add_mul]
    have hkz : kl + k ≤ l.length + new.length := by
      have := Nat.le_mul_of_pos_right (kl + k) hz
      rw [← hlen, List.length_append] at this; exact this
    obtain ⟨v', h2, e1, e2, e3, e4⟩ := key (kl + k) (l ++ new) (h1.del id) hlen (by simp [hnn]) (by omega) (by have := Nat.mul_le_mul_right bytes hkz; omega) (fun i hi hb => by
      rw [get_del, if_neg (fun e => hb (by rw [e]; rfl))]; exact hh i hi)
    refine ⟨v', h2, fun t a b call ha hb => ?_, e2, e3, e4⟩
    show rApp z bytes a b call t h1 n1 = _
    unfold rApp
    rw [ha, hb]; simp only
    rw [hsrc]; simp only
    rw [hk0]
    show appX z bytes k new (.sl id 0 kl kl (z + 1)) h1 n1 = _
    have hsl : srcX h1 z (.sl id 0 kl kl (z + 1)) = some (kl, l) := by
      show (match h1.get id with
    | some (.cells cs) => match lgetL cs 0 (kl * z) with
      | some l => some (kl, l)
      | none => none
    | _ => none) = _
      rw [hh id g5, g4]; simp only
      have : lgetL l 0 (kl * z) = some l := by
        unfold lgetL
        rw [show Nat.ble (0 + kl * z) l.length = true from Nat.ble_eq_true_of_le (by omega)]
        simp [← g2]
      rw [this]
    unfold appX
    simp only
    rw [show Nat.ble (kl + k) kl = false from by
      cases hq : Nat.ble (kl + k) kl with
      | false => rfl
      | true => have := Nat.le_of_ble_eq_true hq; omega]
    simp only [cond_false]
    rw [hsl]
    simp only
    rw [show Nat.beq (z + 1) 0 = false from rfl, show Nat.beq 0 0 = true from rfl, show Nat.beq (z + 1) (z + 1) = true from Nat.beq_refl _]
    simp only [Bool.and_self, cond_true, cond_false]
    exact e1
end
end Go.Ex

/- Reckoning with integers that are no less than 0. Nothing here speaks of one program. -/
set_option linter.unusedVariables false
set_option linter.unusedSimpArgs false
namespace Go.Ex
section
variable {t : T X} {a b : D} {x : X} {k : IntKind} {p q : Int} {op : BinOp} {m n i : Nat}
theorem op_bin (ha : ev t a = some (.int k p)) (hb : ev t b = some (.int k q)) (h : binI op k p q = some x) : opP (.bin op a b) t = some x := by
  show rBin op a b t = _
  unfold rBin; rw [ha, hb]
  simp only [decide_true, cond_true]; exact h
theorem big62 {n : Nat} (h : n < 2 ^ 62) : IntKind.wrap .i64 (n : Int) = (n : Int) := wrap64 (by omega) (by omega)
theorem op_shr (ha : ev t a = some (N6 m)) (hb : ev t b = some (N6 i)) (hi : i < 64) : opP (.bin .shr a b) t = some (N6 (m / 2 ^ i)) := by
  refine op_bin ha hb ?_
  show shrI .i64 (m : Int) (i : Int) = _
  unfold shrI
  rw [decide_eq_false (by omega)]
  show some (X.int .i64 ((m : Int).fdiv (2 ^ (Nat.min (i : Int).toNat 64)))) = _
  rw [Int.toNat_natCast, show Nat.min i 64 = i from Nat.min_eq_left (by omega), Int.fdiv_eq_ediv_of_nonneg _ (Int.pow_nonneg (by omega))]
  exact congrArg (fun z => some (X.int .i64 z)) (by norm_cast)
theorem op_shl (ha : ev t a = some (N6 m)) (hb : ev t b = some (N6 i)) (hi : i < 62) (hm : m * 2 ^ i < 2 ^ 62) : opP (.bin .shl a b) t = some (N6 (m * 2 ^ i)) := by
  refine op_bin ha hb ?_
  show shlI .i64 (m : Int) (i : Int) = _
  unfold shlI
  rw [decide_eq_false (by omega)]
  show some (X.int .i64 (IntKind.wrap .i64 ((m : Int) * (2 ^ (Nat.min (i : Int).toNat 64))))) = _
  rw [Int.toNat_natCast, show Nat.min i 64 = i from Nat.min_eq_left (by omega), show (m : Int) * 2 ^ i = ((m * 2 ^ i : Nat) : Int) from by norm_cast, big62 hm]
  rfl
theorem bv64 {n : Nat} (h : n < 2 ^ 62) : (BitVec.ofInt 64 (n : Int)).toNat = n := by
  simp; omega
theorem op_xor (ha : ev t a = some (N6 m)) (hb : ev t b = some (N6 n)) (hm : m < 2 ^ 62) (hn : n < 2 ^ 62) : opP (.bin .xor a b) t = some (N6 (m ^^^ n)) := by
  refine op_bin ha hb ?_
  show some (X.int .i64 (IntKind.wrap .i64 ((BitVec.ofInt 64 (m : Int) ^^^ BitVec.ofInt 64 (n : Int)).toNat : Nat))) = _
  rw [BitVec.toNat_xor, bv64 hm, bv64 hn, big62 (Nat.xor_lt_two_pow hm hn)]
  rfl
theorem op_and1 (ha : ev t a = some (N6 m)) (hb : ev t b = some (N6 1)) (hm : m < 2 ^ 62) : opP (.bin .and a b) t = some (N6 (m % 2)) := by
  refine op_bin ha hb ?_
  show some (X.int .i64 (IntKind.wrap .i64 ((BitVec.ofInt 64 (m : Int) &&& BitVec.ofInt 64 ((1 : Nat) : Int)).toNat : Nat))) = _
  rw [BitVec.toNat_and, bv64 hm, bv64 (by omega), Nat.and_one_is_mod, big62 (by omega)]
  rfl
theorem op_add (ha : ev t a = some (N6 m)) (hb : ev t b = some (N6 n)) (h : m + n < 2 ^ 62) : opP (.bin .add a b) t = some (N6 (m + n)) := by
  refine op_bin ha hb ?_
  show some (X.int .i64 (IntKind.wrap .i64 ((m : Int) + (n : Int)))) = _
  rw [show (m : Int) + (n : Int) = ((m + n : Nat) : Int) from by norm_cast, big62 h]
  rfl
theorem op_sub (ha : ev t a = some (N6 m)) (hb : ev t b = some (N6 n)) (h : n ≤ m) (hm : m < 2 ^ 62) : opP (.bin .sub a b) t = some (N6 (m - n)) := by
  refine op_bin ha hb ?_
  show some (X.int .i64 (IntKind.wrap .i64 ((m : Int) - (n : Int)))) = _
  rw [show (m : Int) - (n : Int) = ((m - n : Nat) : Int) from by omega, big62 (by omega)]
  rfl
theorem op_x8 (ha : ev t a = some (B8 m)) (hb : ev t b = some (B8 n)) (hm : m < 256) (hn : n < 256) : opP (.bin .xor a b) t = some (B8 (m ^^^ n)) := by
  refine op_bin ha hb ?_
  exact congrArg (fun z => some (X.int .u8 z)) (xor8 hm hn)
theorem op_c8 (ha : ev t a = some (.int k (.ofNat m))) (hm : m < 256) : opP (.conv .u8 a) t = some (B8 m) := by
  show rConv .u8 a t = _
  unfold rConv; rw [ha]
  exact congrArg (fun z => some (X.int .u8 z)) (wrap8 hm)
theorem op_c64 (ha : ev t a = some (.int k (.ofNat m))) (hm : m < 2 ^ 62) : opP (.conv .i64 a) t = some (N6 m) := by
  show rConv .i64 a t = _
  unfold rConv; rw [ha]
  exact congrArg (fun z => some (X.int .i64 z)) (big62 hm)
theorem op_lt (ha : ev t a = some (N6 m)) (hb : ev t b = some (N6 n)) (h : m < n) : opP (.bin .lss a b) t = some (BX true) := by
  refine op_bin ha hb ?_
  exact tru (show (m : Int) < (n : Int) from by omega)
theorem op_nlt (ha : ev t a = some (N6 m)) (hb : ev t b = some (N6 n)) (h : ¬ m < n) : opP (.bin .lss a b) t = some (BX false) := by
  refine op_bin ha hb ?_
  exact fls (show ¬ (m : Int) < (n : Int) from by omega)
end
end Go.Ex

/- Regions that change the memory, one operation after the other, with what is to hold behind them. Nothing here speaks of one program. -/
set_option linter.unusedVariables false
set_option linter.unusedSimpArgs false
namespace Go.Ex
section
variable {P : Program} {eqs : Env} {nt : Nat} {t t1 t2 : T X} {h h1 h2 : H} {n n1 n2 na na1 : Pt} {Q : E → T X → H → Pt → Prop} {call : CallT} {l : List (J × List Nat)} {jl : List J} {ms : List Nat} {HS hs : List (Nat × H)} {i q : Nat} {d : Pt} {x : X} {ob : O} {f : FuncId} {args : List X} {ds : List D} {R : T X → H → Pt → Prop}
theorem st_a {o : IA} (hx : opA o t n = some (x, ob)) : step (.a d o) call t h n = .ok (t.put d x) (h.put n ob) n.inc := by
  show stA d o call t h n = _
  unfold stA
  rw [hx]
  show n.incK (fun m => S3.ok (t.put d x) (h.put n ob) m) = _
  rw [incK_eq]
theorem OG_a {o : IA} (hx : opA o t n = some (x, ob)) (r : OpsGo call jl (t.put d x) (h.put n ob) n.inc R) : OpsGo call (.a d o :: jl) t h n R := OG_cons (st_a hx) r
theorem OG_w {dd : Option Pt} {o : IW} (hx : opW o call t h n = some (x, h1, n1)) (r : OpsGo call jl (putO t dd x) h1 n1 R) : OpsGo call (.w dd o :: jl) t h n R := OG_cons (st_w hx) r
def DGo (call : CallT) (HS : List (Nat × H)) (l : List (J × List Nat)) (s : DS) (R : T X → H → Pt → Prop) : Prop := ∃ s', DrawOk call HS l s s' ∧ s'.hs = HS ∧ R s'.t s'.h s'.n
theorem DS_nil (hq : hs = HS) (r : R t h n) : DGo call HS [] ⟨t, h, n, na, i, q, hs⟩ R := ⟨_, DG_nil, hq, r⟩
theorem DS_p {o : IP} (hx : opP o t = some x) (r : DGo call HS l ⟨t.put d x, h, n, na, i + 1, q, hs⟩ R) : DGo call HS ((.p d o, ms) :: l) ⟨t, h, n, na, i, q, hs⟩ R := by
  obtain ⟨s', h1, h2, h3⟩ := r
  exact ⟨s', DG_p hx h1, h2, h3⟩
theorem DS_r {o : IR} (hx : opR o t h = some x) (hre : allOk (fun h => opR o (t.put d x) h = some x) (fun k => memN k ms && !Nat.beq k q) HS) (r : DGo call HS l ⟨t.put d x, h, n, na, i + 1, q, hs⟩ R) : DGo call HS ((.r d o, ms) :: l) ⟨t, h, n, na, i, q, hs⟩ R := by
  obtain ⟨s', h1, h2, h3⟩ := r
  exact ⟨s', DG_r hx hre h1, h2, h3⟩
theorem DS_w {o : IW} {dd : Option Pt} (hx : opW o call t h n = some (x, h1, n1)) (r : DGo call HS l ⟨putO t dd x, h1, n1, na, i + 1, i + 1, (i + 1, h1) :: hs⟩ R) : DGo call HS ((.w dd o, ms) :: l) ⟨t, h, n, na, i, q, hs⟩ R := by
  obtain ⟨s', h1, h2, h3⟩ := r
  exact ⟨s', DG_w hx h1, h2, h3⟩
theorem DS_c {dd : Option Pt} (ha : evL t ds = some args) (hc : call f args h n = some (x, h1, n1)) (r : DGo call HS l ⟨putO t dd x, h1, n1, na, i + 1, i + 1, (i + 1, h1) :: hs⟩ R) : DGo call HS ((.w dd (.call f ds), ms) :: l) ⟨t, h, n, na, i, q, hs⟩ R := by
  obtain ⟨s', h1, h2, h3⟩ := r
  exact ⟨s', DG_c ha hc h1, h2, h3⟩
theorem DS_a {o : IA} (hx : opA o t na = some (x, ob)) (hre : allOk (fun h => h.get na = some ob) (fun k => memN k ms && Nat.blt q k) HS) (r : DGo call HS l ⟨t.put d x, h.put na ob, n, na.inc, i + 1, q, hs⟩ R) : DGo call HS ((.a d o, ms) :: l) ⟨t, h, n, na, i, q, hs⟩ R := by
  obtain ⟨s', h1, h2, h3⟩ := r
  exact ⟨s', DG_a hx hre (beqO_refl ob) h1, h2, h3⟩
theorem XK.ds0 (S : Ok P eqs) {m : Nat} (hx : DGo noCall HS l ⟨t, h, skipN n m, n, 0, 0, [(0, h)]⟩ (Q .normal)) : XK P eqs nt (.draw m l) t h n Q := by
  obtain ⟨s', h1, rfl, h3⟩ := hx
  exact XK.drawG S noCall_ok h1 h3
theorem XK.dsF (S : Ok P eqs) {m : Nat} (q : Fact) (hq : q.ok eqs.gs P) (hx : ∀ call, q.on call → DGo call HS l ⟨t, h, skipN n m, n, 0, 0, [(0, h)]⟩ (Q .normal)) : XK P eqs nt (.draw m l) t h n Q := by
  obtain ⟨call, h1, h2⟩ := one_call (G := eqs.gs) q hq
  obtain ⟨s', h4, rfl, h5⟩ := hx call h2
  exact XK.drawG S h1 h4 h5
theorem XK.ds1 (S : Ok P eqs) {m : Nat} (hq : Pure1 eqs.gs P f args x) (hx : ∀ call, call f args h (skipN n m) = some (x, h, skipN n m) → DGo call HS l ⟨t, h, skipN n m, n, 0, 0, [(0, h)]⟩ (Q .normal)) : XK P eqs nt (.draw m l) t h n Q :=
  XK.dsF S ⟨f, args, h, skipN n m, x, h, skipN n m⟩ (hq h _) hx
variable {a b : D} {cs : List X} {m z k : Nat} {ki : IntKind}
theorem op_idxA (ha : ev t a = some (.agg cs)) (hb : ev t b = some (.int ki (.ofNat k))) (hk : k < m) (hc : cs[k * z]? = some x) : opP (.idxA false m z a b) t = some x := by
  show rIdxA false m z a b t = _
  unfold rIdxA; rw [ha, hb]
  show (bif Nat.blt k m then cs[k * z]? else none) = _
  rw [show Nat.blt k m = true from Nat.ble_eq_true_of_le hk]; exact hc
theorem map_at {f : Nat → X} {l : List Nat} {j : Nat} (h : j < l.length) : (l.map f)[j]? = some (f (l.getD j 0)) := by
  rw [List.getElem?_map, List.getElem?_eq_getElem h, List.getD_eq_getElem?_getD, List.getElem?_eq_getElem h]; rfl
theorem map_at1 {f : Nat → X} {l : List Nat} {j : Nat} (h : j < l.length) : (l.map f)[j * 1]? = some (f (l.getD j 0)) := by rw [Nat.mul_one]; exact map_at h
theorem map_at0 {f : Nat → X} {l : List Nat} {j : Nat} (h : j < l.length) : (l.map f)[0 + j * 1]? = some (f (l.getD j 0)) := by rw [Nat.zero_add]; exact map_at1 h
end
end Go.Ex

/- A call that makes a list of its own; lists read and written. Nothing here speaks of one program. -/
set_option linter.unusedVariables false
set_option linter.unusedSimpArgs false
namespace Go.Ex
section
variable {G : GEnv} {P : Program} {f : FuncId} {args cs : List X} {id0 : Pt} {k cap z : Nat} {n0' : Pt}
theorem renL_noF {cs : List X} (h : idsL noF cs = true) (τ : Pt → Pt) : renL τ cs = cs := renL_id cs h τ
theorem CallOne.fresh (c : CallOne G P f args .e .z (.sl id0 0 k cap z) (T.put .e id0 (.cells cs)) n0') (ha : idsL noF args = true) (hc : idsL noF cs = true) (h : H) (n : Pt) : CallOne G P f args h n (.sl n 0 k cap z) (h.put n (.cells cs)) n.inc := by
  have hn := num_inc n
  have e : Enter id T.e Pt.z h := ⟨fun i o hi => (by rw [get_e] at hi; cases hi), fun i i' o o' hi => by rw [get_e] at hi; cases hi⟩
  have hF : ∀ i, (decide (i = n) : Bool) = true → i = n := fun i hi => of_decide_eq_true hi
  have l : Leave id (fun _ => id0) (fun i => decide (i = n)) T.e Pt.z h n (T.put .e id0 (.cells cs)) (h.put n (.cells cs)) n.inc :=
    ⟨by omega, fun i hi => .inr (by rw [hF i hi]; exact ⟨Nat.le_refl _, by omega, Nat.zero_le _⟩), fun i i' hi hi' _ => (hF i hi).trans (hF i' hi').symm, fun i o hi => by
      rw [get_put] at hi
      split at hi
      · rename_i hin
        cases hi
        refine .inr ⟨decide_eq_true hin, ?_, idsL_mono (fun _ h => by cases h) cs hc⟩
        rw [get_put, if_pos rfl]
        exact congrArg some (congrArg O.cells (renL_id cs hc _).symm)
      · exact .inl ⟨hi, fun i0 o0 h1 => by rw [get_e] at h1; cases h1⟩⟩
  have := CallOne.conv (τ := fun _ => id0) (ρ := id) (F := fun i => decide (i = n)) (h := h) (n := n) (x := .sl n 0 k cap z) c (idsL_mono (fun _ h => by cases h) args ha) (decide_eq_true rfl) e l
  rw [renL_id args ha] at this
  exact this
end
section
variable {t : T X} {a b : D} {h h1 : H} {n n1 : Pt} {l : List Nat} {v x : X} {id : Pt}
theorem skip_num (n : Pt) (m : Nat) : (skipN n m).num = n.num + m := num_skip n m
theorem Own.bytes {l : List Nat} (o : Own h n 1 (l.map B8) v) (ha : ev t a = some v) : opR (.b2s a) t h = some (.str (l.map UInt8.ofNat)) := by
  have hb : ∀ l : List Nat, bytesOf (l.map B8) = some (l.map UInt8.ofNat) := by
    intro l
    induction l with
    | nil => rfl
    | cons x l ih =>
      show (match bytesOf (l.map B8) with | some r => some (UInt8.ofNat (Int.ofNat x).toNat :: r) | none => none) = _
      rw [ih]; rfl
  show rB2s a t h = _
  unfold rB2s
  rcases o with ⟨h1, rfl⟩ | ⟨id, k, rfl, h2, h3, h4, h5⟩
  · rw [ha]
    cases l with
    | nil => rfl
    | cons x l => cases h1
  · rw [ha]; simp only; rw [h4]; simp only
    have : lgetL (l.map B8) 0 k = some (l.map B8) := by
      unfold lgetL
      rw [show Nat.ble (0 + k) (l.map B8).length = true from Nat.ble_eq_true_of_le (by omega)]
      rw [cond_true, List.drop_zero, List.take_of_length_le (by omega)]
    rw [this]; simp only; rw [hb]
/-- Appending what was just laid into a new block. -/
theorem Own.appL {bytes : Nat} {l : List X} (new : List X) (o : Own h n 1 l v) (hk : 0 < new.length) (hs1 : l.length + new.length ≤ 1000000) (hs2 : (l.length + new.length) * bytes ≤ 1000000000) :
    ∃ v' h2, AppW 1 bytes v (.sl n 0 new.length new.length 0) (h.put n (.cells new)) n.inc v' h2 ∧ Own h2 n.inc.inc 1 (l ++ new) v' ∧ Fr h n v h2 ∧ (∀ i, v'.blk = some i → n.num ≤ i.num) :=
  Own.app (by omega) (Nat.mul_one _).symm hk o (Nat.le_refl _) (by rw [num_inc]; omega) (fun i hi => by rw [get_put, if_neg (fun e => by subst e; omega)]) (by rw [get_put, if_pos rfl]) hs1 hs2
theorem Own.sl {l : List X} {k : Nat} (o : Own h n 1 l v) (hk : l.length = k) (h0 : 0 < k) : ∃ id, v = .sl id 0 k k 2 ∧ h.get id = some (.cells l) ∧ id.num < n.num := by
  rcases o with ⟨rfl, rfl⟩ | ⟨id, k', rfl, h2, h3, h4, h5⟩
  · simp at hk; omega
  · rw [Nat.mul_one] at h2
    exact ⟨id, by rw [show k' = k by omega], h4, h5⟩
/-- An element of a list of integers. -/
theorem op_st_map {F : Nat → X} {j w : Nat} {call : CallT} (hF : ∀ w, inCells (F w) = some [F w]) (ha : ev t a = some (.ptr id (0 + j * 1))) (hb : ev t b = some (F w)) (hg : h.get id = some (.cells (l.map F))) (hj : j < l.length) : opW (.store 1 a b) call t h n = some (.tup [], h.put id (.cells ((l.set j w).map F)), n) := by
  rw [op_st (cs := l.map F) ha hb (hF w) hg (by rw [List.length_map]; omega), List.map_set, Nat.zero_add, Nat.mul_one]
end
end Go.Ex

/- Calls told by a table of functions that leave everything as it was. Nothing here speaks of one program. -/
set_option linter.unusedVariables false
set_option linter.unusedSimpArgs false
namespace Go.Ex
section
variable {P : Program} {eqs : Env} {nt : Nat} {t : T X} {h : H} {n : Pt} {Q : E → T X → H → Pt → Prop} {l : List J} {ll : List (J × List Nat)} {HS : List (Nat × H)}
/-- A table of calls that leave everything as it was. -/
def CallTab (G : GEnv) (P : Program) (tab : FuncId → List X → Option X) : Prop := ∀ f args x, tab f args = some x → Pure1 G P f args x
def tabC (tab : FuncId → List X → Option X) : CallT := fun f args h n => match tab f args with
  | some x => some (x, h, n)
  | none => none
theorem tab_ok {G : GEnv} {tab : FuncId → List X → Option X} (ht : CallTab G P tab) : CallOk G P (tabC tab) := by
  intro f args h n x h' n' hc
  unfold tabC at hc
  cases hq : tab f args with
  | none => rw [hq] at hc; cases hc
  | some y => rw [hq] at hc; cases hc; exact ht f args _ hq h n
theorem XK.regS (S : Ok P eqs) {tab : FuncId → List X → Option X} (ht : CallTab eqs.gs P tab) (hx : OpsGo (tabC tab) l t h n (Q .normal)) : XK P eqs nt (.reg l) t h n Q := by
  obtain ⟨t1, h1, n1, h3, h4⟩ := hx
  exact XK.run S (tab_ok ht) (fu := 0) h3 h4
theorem XK.drS (S : Ok P eqs) {tab : FuncId → List X → Option X} {m : Nat} (ht : CallTab eqs.gs P tab) (hx : SeqGo (tabC tab) h ll t (skipN n m) fun t n => Q .normal t h n) : XK P eqs nt (.draw m ll) t h n Q := by
  obtain ⟨t1, n1, h3, h4⟩ := hx
  exact XK.run S (tab_ok ht) (fu := 0) (draw_seq h3) h4
theorem XK.dsS (S : Ok P eqs) {tab : FuncId → List X → Option X} {m : Nat} (ht : CallTab eqs.gs P tab) (hx : DGo (tabC tab) HS ll ⟨t, h, skipN n m, n, 0, 0, [(0, h)]⟩ (Q .normal)) : XK P eqs nt (.draw m ll) t h n Q := by
  obtain ⟨s', h1, rfl, h3⟩ := hx
  exact XK.drawG S (tab_ok ht) h1 h3
theorem ntt {b : Bool} (h : b = true) : some (X.bool (!b)) = some (X.bool false) := by rw [h]; rfl
theorem ntf {b : Bool} (h : b = false) : some (X.bool (!b)) = some (X.bool true) := by rw [h]; rfl
theorem op_subI {t : T X} {a b : D} {m k : Int} (ha : ev t a = some (I6 m)) (hb : ev t b = some (I6 k)) (h1 : -9223372036854775808 ≤ m - k) (h2 : m - k < 9223372036854775808) : opP (.bin .sub a b) t = some (I6 (m - k)) :=
  op_bin ha hb (congrArg (fun z => some (X.int .i64 z)) (wrap64 h1 h2))
end
end Go.Ex

/- What a call leaves behind is left out. Nothing here speaks of one program. -/
set_option linter.unusedVariables false
set_option linter.unusedSimpArgs false
namespace Go.Ex
section
variable {P : Program} {eqs : Env} {nt : Nat} {k : K} {t : T X} {h h1 h' h'' : H} {n n' : Pt} {Q : E → T X → H → Pt → Prop} {f : FuncId} {args : List X} {x : X}
theorem CallOne.keep (c : CallOne eqs.gs P f args h n x h' n') (hk : (∀ id o, h.get id = some o → id.num < n.num) → Le h'' h') : CallOne eqs.gs P f args h n x h'' n' :=
  ⟨c.1, fun w φ vals hp hv => (c.2 w φ vals hp hv).mono fun e w' ⟨v, φ', h1, h2, h3⟩ => ⟨v, φ', h1, h2.less (hk hp.dom), h3⟩⟩
/-- A call that reads, and leaves all as it was but for numbers used up. -/
def Reads (G : GEnv) (P : Program) (f : FuncId) (args : List X) (h : H) (n : Pt) (x : X) : Prop := ∃ n', n.num ≤ n'.num ∧ CallOne G P f args h n x h n'
theorem XF.reads (k : XF P eqs f args h n (fun y h' n' => y = x ∧ n.num ≤ n'.num ∧ ∀ id, id.num < n.num → h'.get id = h.get id)) : Reads eqs.gs P f args h n x := by
  obtain ⟨y, h', n', c, rfl, h1, h2⟩ := k
  exact ⟨n', h1, c.keep fun hd p o hp => by rw [h2 p (hd p o hp)]; exact hp⟩
variable {a b : D} {cs new l : List X} {id : Pt} {size i : Nat} {rs : List R} {xs : List X} {p : Pt} {call : CallT}
theorem op_stA (ha : ev t a = some (.ptr id 0)) (hb : ev t b = some (.agg new)) (hn : new.length = size) (hg : h.get id = some (.cells cs)) (hc : cs.length = size) : opW (.store size a b) call t h n = some (.tup [], h.put id (.cells new), n) := by
  show rStore size a b call t h n = _
  unfold rStore; rw [ha, hb]
  show (bif Nat.beq new.length size then putX h n id 0 new (.tup []) else none) = _
  rw [hn, Nat.beq_refl, cond_true]
  unfold putX
  rw [hg]; simp only
  have : lput cs 0 new = some new := by
    unfold lput
    rw [show Nat.ble (0 + new.length) cs.length = true from Nat.ble_eq_true_of_le (by omega)]
    simp; omega
  rw [this]
theorem res_cellA (ht : t.get p = some (.ptr id 0)) (hg : h.get id = some (.cells l)) (hl : l.length = size) (hr : resX t h rs = some xs) : resX t h (.cellA p size :: rs) = some (.agg l :: xs) := by
  have : rLoadA size (.t p) t h = some (.agg l) := by
    unfold rLoadA
    rw [show ev t (.t p) = some (.ptr id 0) from ht]; simp only; rw [hg]; simp only
    have : lgetL l 0 size = some l := by
      unfold lgetL
      rw [show Nat.ble (0 + size) l.length = true from Nat.ble_eq_true_of_le (by omega), cond_true, List.drop_zero, List.take_of_length_le (by omega)]
    rw [this]
  simp only [resX]; rw [this, hr]
theorem res_tmp (ht : t.get p = some x) (hr : resX t h rs = some xs) : resX t h (.tmp p :: rs) = some (x :: xs) := by
  simp only [resX]; rw [ht, hr]
theorem res_nil : resX t h [] = some [] := rfl
end
section
variable {P : Program} {eqs : Env} {nt : Nat} {t : T X} {h : H} {n : Pt} {Q : E → T X → H → Pt → Prop} {f f' : FuncId} {args args' : List X} {x x' : X} {l : List (J × List Nat)} {HS : List (Nat × H)}
theorem XK.ds2 (S : Ok P eqs) {m : Nat} (hq : Pure1 eqs.gs P f args x) (hr : Pure1 eqs.gs P f' args' x') (hne : f ≠ f' ∨ args ≠ args' ∨ x = x') (hx : ∀ call, call f args h (skipN n m) = some (x, h, skipN n m) → call f' args' h (skipN n m) = some (x', h, skipN n m) → DGo call HS l ⟨t, h, skipN n m, n, 0, 0, [(0, h)]⟩ (Q .normal)) : XK P eqs nt (.draw m l) t h n Q := by
  obtain ⟨call, h1, h2, h2'⟩ := two_calls (G := eqs.gs) ⟨f, args, h, skipN n m, x, h, skipN n m⟩ ⟨f', args', h, skipN n m, x', h, skipN n m⟩ (hq h _) (hr h _) (by
    by_cases hc : f' = f ∧ args' = args
    · right
      rcases hne with h1 | h1 | h1
      · exact absurd hc.1.symm h1
      · exact absurd hc.2.symm h1
      · exact ⟨h1.symm, rfl, rfl⟩
    · left; exact fun hh => hc ⟨hh.1, hh.2.1⟩)
  obtain ⟨s', h4, rfl, h5⟩ := hx call h2 h2'
  exact XK.drawG S h1 h4 h5
variable {a b : D} {N : Nat}
theorem rep_map {α : Type} (f : Nat → α) (N v : Nat) : (List.replicate N [f v]).flatten = (List.replicate N v).map f := by
  induction N with
  | zero => rfl
  | succ N ih => simp only [List.replicate_succ, List.flatten_cons, List.map_cons, ih]; rfl
theorem op_mkS {bytes : Nat} (ha : ev t a = some (N6 N)) (hN : N ≤ 1000) (hb : bytes ≤ 1000) : opA (.mkS [B8 0] bytes a a) t n = some (.sl n 0 N N 0, .cells ((List.replicate N 0).map B8)) := by
  show rMkS [B8 0] bytes a a t n = _
  unfold rMkS; rw [ha]
  show (bif Nat.ble N N && (Nat.ble N 1000000 && Nat.ble (N * bytes) 1000000000) then some (X.sl n 0 N N 0, O.cells (repL N [B8 0])) else none) = _
  have : N * bytes ≤ 1000 * 1000 := Nat.mul_le_mul hN hb
  rw [Nat.ble_eq_true_of_le (Nat.le_refl N), Nat.ble_eq_true_of_le (by omega : N ≤ 1000000), Nat.ble_eq_true_of_le (by omega : N * bytes ≤ 1000000000)]
  show some (X.sl n 0 N N 0, O.cells (repL N [B8 0])) = _
  rw [show repL N [B8 0] = (List.replicate N 0).map B8 from rep_map B8 N 0]
theorem XK.regC (S : Ok P eqs) {h1 h' : H} {n1 n' : Pt} {jl : List J} (c : CallOne eqs.gs P f args h1 n1 x h' n') (hx : ∀ call, call f args h1 n1 = some (x, h', n') → OpsGo call jl t h n (Q .normal)) : XK P eqs nt (.reg jl) t h n Q := by
  obtain ⟨call, h2, h3⟩ := one_call (G := eqs.gs) ⟨f, args, h1, n1, x, h', n'⟩ c
  obtain ⟨t1, hh, nn, h4, h5⟩ := hx call h3
  exact XK.run S h2 (fu := 0) h4 h5
theorem XK.dsC (S : Ok P eqs) {m : Nat} {h1 h' : H} {n1 n' : Pt} (c : CallOne eqs.gs P f args h1 n1 x h' n') (hx : ∀ call, call f args h1 n1 = some (x, h', n') → DGo call HS l ⟨t, h, skipN n m, n, 0, 0, [(0, h)]⟩ (Q .normal)) : XK P eqs nt (.draw m l) t h n Q := by
  obtain ⟨call, h2, h3⟩ := one_call (G := eqs.gs) ⟨f, args, h1, n1, x, h', n'⟩ c
  obtain ⟨s', h4, rfl, h5⟩ := hx call h3
  exact XK.drawG S h2 h4 h5
end
end Go.Ex

