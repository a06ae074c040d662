/- What the run by hand is made from: types, operands, operations, code. Nothing here speaks of one program. -/
import Derived.Test.YtnnohkbgjdmjdaaGreatEx3
set_option linter.unusedVariables false
namespace Go.Ex

inductive TK where
  | bool | ptr | func | int (k : IntKind) | slice (e : TypeId) | array (len : Nat) (e : TypeId) | map (k e : TypeId) | struct (fs : List (Nat × TypeId)) | other
structure TI where
  size : Nat
  bytes : Nat
  agg : Bool
  kind : TK
  zero : Option (List X)
  zv : Option X
abbrev Tab := T TI

def ofV1 : Value → Option X
  | .bool b => some (.bool b)
  | .int k n => some (.int k n)
  | .string s => some (.str s.data.toList)
  | .pointer none => some .nilp
  | .slice none 0 0 => some .nils
  | .map none => some .nilm
  | .nilFunc => some .nilf
  | .nilIface => some .nili
  | _ => none
def ofVL : List Value → Option (List X)
  | [] => some []
  | v :: vs => match ofV1 v, ofVL vs with
    | some x, some xs => some (x :: xs)
    | _, _ => none
def ofV : Value → Option X
  | .agg cs => match ofVL cs.toList with
    | some l => some (.agg l)
    | none => none
  | .tuple ⟨[]⟩ => some (.tup [])
  | v => ofV1 v

theorem ofV1_ok {v : Value} {x : X} (h : ofV1 v = some x) (φ : Pl) : VR φ x v ∧ v.oneCell' = true := by
  unfold ofV1 at h
  split at h <;> first | (cases h; refine ⟨?_, rfl⟩; constructor) | cases h
theorem ofVL_ok {φ : Pl} : ∀ {vs : List Value} {xs : List X}, ofVL vs = some xs → CR φ xs vs := by
  intro vs
  induction vs with
  | nil => intro xs h; simp [ofVL] at h; subst h; exact ⟨VRL.nil, fun v hv => by cases hv⟩
  | cons v vs ih =>
    intro xs h
    unfold ofVL at h
    split at h
    · rename_i x xs' h1 h2
      cases h
      obtain ⟨g1, g2⟩ := ofV1_ok h1 φ
      obtain ⟨g3, g4⟩ := ih h2
      refine ⟨g3.cons g1, fun u hu => ?_⟩
      rcases List.mem_cons.1 hu with h5 | h5
      · subst h5; exact g2
      · exact g4 u h5
    · cases h
theorem ofV_ok {v : Value} {x : X} (h : ofV v = some x) (φ : Pl) : VR φ x v := by
  unfold ofV at h
  split at h
  · rename_i cs
    split at h
    · rename_i l h1
      cases h
      obtain ⟨g1, g2⟩ := ofVL_ok (φ := φ) h1
      have := VR.agg (φ := φ) l cs.toList g1.1 g2 g1.2
      simpa using this
    · cases h
  · cases h; exact .tup [] [] rfl (fun i c v h => by simp at h)
  · exact (ofV1_ok h φ).1

def kindOf : TypeDesc → TK
  | .bool => .bool
  | .pointer _ => .ptr
  | .func _ _ _ => .func
  | .int k => .int k
  | .slice e => .slice e
  | .array n e => .array n e
  | .map k e => .map k e
  | .struct fs => .struct (fs.toList.map fun f => (f.offset, f.type))
  | _ => .other
def aggOf : TypeDesc → Bool
  | .struct _ => true
  | .array _ _ => true
  | _ => false
def zeroX : Option Value → Option (List X)
  | none => none
  | some v => ofVL v.cells.toList
def zvX : Option Value → Option X
  | none => none
  | some v => ofV v
def tiOf (i : TypeInfo) (u : TypeDesc) : TI := ⟨i.size, i.bytes, aggOf u, kindOf u, zeroX i.zero, zvX i.zero⟩

noncomputable def mkTabGo (P : Program) : List TypeInfo → Nat → Tab → Tab
  | [], _, t => t
  | i :: is, k, t => mkTabGo P is (k + 1) (match P.underlying k with | some u => t.put (.ofNat k) (tiOf i u) | none => t)
noncomputable def mkTab (P : Program) : Tab := mkTabGo P P.types.toList 0 .e

def TabOk (P : Program) (tab : Tab) : Prop := ∀ t ti, tab.get (.ofNat t) = some ti → ∃ i u, P.info? t = some i ∧ P.underlying t = some u ∧ ti = tiOf i u

theorem mkTabGo_ok (P : Program) : ∀ (l : List TypeInfo) (k : Nat) (t : Tab), (∀ j i, l[j]? = some i → P.types[k + j]? = some i) → TabOk P t → TabOk P (mkTabGo P l k t) := by
  intro l
  induction l with
  | nil => intro k t _ h; exact h
  | cons i l ih =>
    intro k t hl h
    unfold mkTabGo
    refine ih (k + 1) _ (fun j i' h1 => by rw [Nat.add_assoc, Nat.add_comm 1 j]; exact hl (j + 1) i' (by simpa using h1)) ?_
    have h0 := hl 0 i rfl
    cases hu : P.underlying k with
    | none => exact h
    | some u =>
      intro t' ti ht
      simp only at ht
      rw [get_put] at ht
      split at ht
      · rename_i he
        have := ofNat_inj he
        subst this
        cases ht
        have h0' : P.types[t']? = some i := by simpa using h0
        have hlt : t' < P.types.size := (Array.getElem?_eq_some_iff.1 h0').1
        exact ⟨i, u, by unfold Tables.info?; rw [if_pos hlt]; exact h0', hu, rfl⟩
      · exact h t' ti ht
theorem mkTab_ok (P : Program) : TabOk P (mkTab P) := mkTabGo_ok P _ 0 _ (fun j i h => by simpa using h) fun t ti h => by rw [get_e] at h; cases h

section
variable (tab : Tab) (eqs : List (TypeId × List IntKind))
noncomputable def ty (t : TypeId) : Option TI := tab.get (.ofNat t)
def cD : Operand → Option D
  | .tmp i => some (.t (.ofNat i))
  | .const v => match ofV v with | some x => some (.c x) | none => none
  | .global _ => none
  | .func f => some (.c (.fn f []))
def cDL : List Operand → Option (List D)
  | [] => some []
  | o :: os => match cD o, cDL os with
    | some x, some xs => some (x :: xs)
    | _, _ => none
def cDO : Option Operand → Option (Option D)
  | none => some none
  | some o => match cD o with | some d => some (some d) | none => none
noncomputable def cPs (place : Nat → Option (Nat × Nat)) : List (Nat × Operand) → Option (List (Nat × Nat × D))
  | [] => some []
  | (i, o) :: os => match place i, cD o, cPs place os with
    | some (off, size), some d, some l => some ((off, size, d) :: l)
    | _, _, _ => none

inductive CI where
  | p (i : IP) | r (i : IR) | a (i : IA) | w (i : IW)

/-- The beginning and the size of a struct's field. -/
noncomputable def place (fs : List (Nat × TypeId)) (i : Nat) : Option (Nat × Nat) := match fs[i]? with
  | some (off, ft) => match ty tab ft with
    | some fi => some (off, fi.size)
    | none => none
  | none => none
/-- Every field's type is known. -/
noncomputable def allTy : List (Nat × TypeId) → Bool
  | [] => true
  | f :: fs => (match ty tab f.2 with | some _ => true | none => false) && allTy fs
noncomputable def cBuild (e : TypeId) (ps : List (Nat × Operand)) : Option CI := match ty tab e with
  | some ⟨_, _, _, .struct fs, some zs, _⟩ => match cPs (place tab fs) ps with
    | some l => bif allTy tab fs then some (.p (.build zs l)) else none
    | none => none
  | some ⟨_, _, _, .array _ el, some zs, _⟩ => match ty tab el with
    | some ei => match cPs (fun i => some (i * ei.size, ei.size)) ps with
      | some l => some (.p (.build zs l))
      | none => none
    | none => none
  | _ => none
noncomputable def cBuildS (e : TypeId) (len : Nat) (ps : List (Nat × Operand)) : Option CI := match ty tab e with
  | some ⟨_, _, _, .slice el, _, _⟩ => match ty tab el with
    | some ⟨size, _, _, _, some zs, _⟩ => match cPs (fun i => some (i * size, size)) ps with
      | some l => bif Nat.ble (len * size) 1000000 && (Nat.beq zs.length size && Nat.blt 0 size) then some (.a (.buildS zs len l)) else none
      | none => none
    | _ => none
  | _ => none
noncomputable def cBuiltin (b : Builtin) (tys : List TypeId) (args : List Operand) : Option CI := match b, tys, args with
  | .len, [t], [x] => match ty tab t, cD x with
    | some ⟨_, _, _, .slice _, _, _⟩, some x => some (.p (.len x))
    | _, _ => none
  | .append, [t, u], [s, x] => match ty tab t, cD s, cD x with
    | some ⟨_, _, _, .slice el, _, _⟩, some s, some x => match ty tab el with
      | some ⟨size, bytes, _, _, some zs, _⟩ => bif Nat.beq t u && (Nat.beq zs.length size && Nat.blt 0 size) then some (.w (.app size bytes s x)) else none
      | _ => none
    | _, _, _ => none
  | .copy, [t, u], [s, x] => match ty tab t, cD s, cD x with
    | some ⟨_, _, _, .slice el, _, _⟩, some s, some x => match ty tab el with
      | some ei => some (.w (.copy ei.size s x))
      | none => none
    | _, _, _ => none
  | .max, [_, _], [x, y] => match cD x, cD y with
    | some x, some y => some (.p (.max x y))
    | _, _ => none
  | .min, [_, _], [x, y] => match cD x, cD y with
    | some x, some y => some (.p (.min x y))
    | _, _ => none
  | _, _, _ => none
noncomputable def cSlice (e : TypeId) (x : Operand) (lo hi mx : Option Operand) : Option CI := match ty tab e, cD x, cDO lo, cDO hi, cDO mx with
  | some ⟨_, _, _, .slice el, _, _⟩, some x, some lo, some hi, some mx => match ty tab el with
    | some ei => some (.p (.slS ei.size x lo hi mx))
    | none => none
  | _, _, _, _, _ => none
noncomputable def cOp : Op → Option CI
  | .move x => match cD x with | some x => some (.p (.mov x)) | none => none
  | .assign x => match cD x with | some x => some (.p (.mov x)) | none => none
  | .pick c a b => match cD c, cD a, cD b with
    | some c, some a, some b => some (.p (.pick c a b))
    | _, _, _ => none
  | .alloc e => match ty tab e with
    | some ⟨_, _, _, _, some zs, _⟩ => some (.a (.new zs))
    | _ => none
  | .box e x => match cD x with | some x => some (.a (.box x)) | none => none
  | .build e ps => cBuild tab e ps.toList
  | .buildSlice e len ps => cBuildS tab e len ps.toList
  | .load e a => match ty tab e, cD a with
    | some ti, some a => some (.r (bif ti.agg then .loadA ti.size a else .load1 a))
    | _, _ => none
  | .store e a x => match ty tab e, cD a, cD x with
    | some ti, some a, some x => some (.w (.store ti.size a x))
    | _, _, _ => none
  | .nilCheck x => match cD x with | some x => some (.p (.nilc x)) | none => none
  | .binOp op t x y _ => match ty tab t, cD x, cD y with
    | some ⟨_, _, _, .int _, _, _⟩, some x, some y => some (.p (.bin op x y))
    | some ⟨_, _, _, .bool, _, _⟩, some x, some y => some (.p (.binb op x y))
    | some ⟨_, _, _, .slice _, _, _⟩, some x, some (.c .nils) => match op with
      | .eql => some (.p (.isnilS false x))
      | .neq => some (.p (.isnilS true x))
      | _ => none
    | some ⟨_, _, _, .ptr, _, _⟩, some x, some (.c .nilp) => match op with
      | .eql => some (.p (.isnilP false x))
      | .neq => some (.p (.isnilP true x))
      | _ => none
    | some ⟨_, _, _, .func, _, _⟩, some x, some (.c .nilf) => match op with
      | .eql => some (.p (.isnilF false x))
      | .neq => some (.p (.isnilF true x))
      | _ => none
    | some _, some x, some y => match eqs.find? (fun q => Nat.beq q.1 t) with
      | some (_, ks) => match op with
        | .eql => some (.p (.eqa false ks x y))
        | .neq => some (.p (.eqa true ks x y))
        | _ => none
      | none => none
    | _, _, _ => none
  | .unOp .not _ x => match cD x with | some x => some (.p (.not x)) | none => none
  | .unOp .neg _ x => match cD x with | some x => some (.p (.neg x)) | none => none
  | .convert s dst x => match ty tab s, ty tab dst, cD x with
    | some ⟨_, _, _, .int _, _, _⟩, some ⟨_, _, _, .int k, _, _⟩, some x => some (.p (.conv k x))
    | _, _, _ => none
  | .makeFunc (.func f) ⟨[]⟩ b => match cDL b.toList with
    | some b => some (.p (.mkF f b))
    | none => none
  | .makeMap t none => match ty tab t with
    | some ⟨_, _, _, .map k _, _, _⟩ => match ty tab k with
      | some ⟨_, _, _, .int k, _, _⟩ => some (.a (.mkM k))
      | some _ => match eqs.find? (fun q => Nat.beq q.1 k) with
        | some (_, ks) => some (.a (.mkMA ks))
        | none => none
      | none => none
    | _ => none
  | .makeSlice e l c => match ty tab e, cD l, cD c with
    | some ⟨_, _, _, .slice el, _, _⟩, some l, some c => match ty tab el with
      | some ⟨size, bytes, _, _, some zs, _⟩ => bif Nat.beq zs.length size && Nat.blt 0 size then some (.a (.mkS zs bytes l c)) else none
      | _ => none
    | _, _, _ => none
  | .slice e x lo hi mx => cSlice tab e x lo hi mx
  | .fieldAddr e x f => match ty tab e, cD x with
    | some ⟨_, _, _, .struct fs, _, _⟩, some x => match place tab fs f with
      | some (o, size) => bif Nat.blt 0 size then some (.p (.faddr o x)) else none
      | none => none
    | _, _ => none
  | .field e x f => match ty tab e, cD x with
    | some ⟨_, _, _, .struct fs, _, _⟩, some x => match fs[f]? with
      | some (o, ft) => match ty tab ft with
        | some fi => some (.p (.fld fi.agg o fi.size x))
        | none => none
      | none => none
    | _, _ => none
  | .indexAddr e x i => match ty tab e, cD x, cD i with
    | some ⟨_, _, _, .array n el, _, _⟩, some x, some i => match ty tab el with
      | some ei => some (.p (.iaddrA n ei.size x i))
      | none => none
    | some ⟨_, _, _, .slice el, _, _⟩, some x, some i => match ty tab el with
      | some ei => some (.p (.iaddrS ei.size x i))
      | none => none
    | _, _, _ => none
  | .lookup e m k ok => match ty tab e, cD m, cD k with
    | some ⟨_, _, _, .map kt el, _, _⟩, some m, some k => match ty tab kt, ty tab el with
      | some ⟨_, _, _, .int _, _, _⟩, some ⟨_, _, _, _, _, some z⟩ => some (.r (.look z ok m k))
      | _, _ => none
    | _, _, _ => none
  | .mapUpdate e m k v => match ty tab e, cD m, cD k, cD v with
    | some ⟨_, _, _, .map kt _, _, _⟩, some m, some k, some v => match ty tab kt with
      | some ⟨_, _, _, .int _, _, _⟩ => some (.w (.upd m k v))
      | _ => none
    | _, _, _, _ => none
  | .extract x i => match cD x with | some x => some (.p (.ext x i)) | none => none
  | .call ⟨.value (.func f), args, _⟩ => match cDL args.toList with
    | some args => some (.w (.call f args))
    | none => none
  | .call ⟨.value f, args, _⟩ => match cD f, cDL args.toList with
    | some f, some args => some (.w (.callv f args))
    | _, _ => none
  | .call ⟨.builtin b, args, tys⟩ => cBuiltin tab b tys.toList args.toList
  | _ => none

def okD (nt : Nat) (d : Option Tmp) : Bool := match d with | some d => Nat.blt d nt | none => true
noncomputable def cJ0 (nt : Nat) (o : Oper) : Option J := match cOp tab eqs o.op with
  | some (.p i) => match o.dst with
    | some d => bif Nat.blt d nt then some (.p (.ofNat d) i) else none
    | none => none
  | some (.r i) => match o.dst with
    | some d => bif Nat.blt d nt then some (.r (.ofNat d) i) else none
    | none => none
  | some (.a i) => match o.dst with
    | some d => bif Nat.blt d nt then some (.a (.ofNat d) i) else none
    | none => none
  | some (.w i) => match o.dst with
    | some d => bif Nat.blt d nt then some (.w (some (.ofNat d)) i) else none
    | none => some (.w none i)
  | none => none
noncomputable def cJ1 (nt : Nat) (ops : Array Oper) (o : Oper) : Option J := match o.guard with
  | none => cJ0 tab eqs nt o
  | some (j, want) => match (ops[j]?).bind (·.dst), cJ0 tab eqs nt o with
    | some g, some i => match o.dst with
      | some d => bif Nat.blt g nt && Nat.blt d nt then some (.g (.ofNat g) want (some (.ofNat d)) i) else none
      | none => bif Nat.blt g nt then some (.g (.ofNat g) want none i) else none
    | _, _ => none
/-- What is made of an operation; what is not known here is refused when it is run. -/
noncomputable def cJ (nt : Nat) (ops : Array Oper) (o : Oper) : J := match cJ1 tab eqs nt ops o with
  | some j => j
  | none => .p .z .bad
noncomputable def cJL (nt : Nat) (ops : Array Oper) : List Oper → List J
  | [] => []
  | o :: os => cJ tab eqs nt ops o :: cJL nt ops os
end
end Go.Ex
