/- How the memory of the run by hand lies in the model's. Nothing here speaks of one program. -/
import Derived.Test.YtnnohkbgjdmjdaaGreatEx2
import Derived.Laws.Tables
import Derived.Laws.Cells
import Derived.Below
import Derived.Laws.CopyRow
import Derived.Laws.AppendOwn
set_option linter.unusedVariables false
namespace Go.Ex

/-- Where the blocks lie, and of how many cells they are. -/
abbrev Pl := Pt → Option (Nat × Nat)

inductive VR (φ : Pl) : X → Value → Prop
  | bool (b : Bool) : VR φ (.bool b) (.bool b)
  | int (k : IntKind) (n : Int) : VR φ (.int k n) (.int k n)
  | str (s : ByteArray) : VR φ (.str s.data.toList) (.string s)
  | nilp : VR φ .nilp (.pointer none)
  | nilm : VR φ .nilm (.map none)
  | nilf : VR φ .nilf .nilFunc
  | nili : VR φ .nili .nilIface
  | nils : VR φ .nils (.slice none 0 0)
  | ptr (id : Pt) (off b s : Nat) (h : φ id = some (b, s)) : VR φ (.ptr id off) (.pointer (some ⟨b, off, none⟩))
  | sl0 (id : Pt) (off len cap b s : Nat) (h : φ id = some (b, s)) (h1 : len ≤ cap) : VR φ (.sl id off len cap 0) (.slice (some ⟨b, off, none⟩) len cap)
  | sl1 (id : Pt) (off len c z cap b s : Nat) (h : φ id = some (b, s)) (h1 : len ≤ c) (h2 : c ≤ cap) (h3 : off + cap * z = s) (h4 : cap ≤ maxLen) : VR φ (.sl id off len c (z + 1)) (.slice (some ⟨b, off, none⟩) len cap)
  | map (id : Pt) (b s : Nat) (h : φ id = some (b, s)) : VR φ (.map id) (.map (some b))
  | fn (f : FuncId) (cs : List X) (vs : List Value) (hl : cs.length = vs.length)
      (h : ∀ (i : Nat) c v, cs[i]? = some c → vs[i]? = some v → VR φ c v) : VR φ (.fn f cs) (.func (.func f) #[] vs.toArray)
  | ifc (t : TypeId) (x : X) (v : Value) (h : VR φ x v) : VR φ (.ifc t x) (.iface t v)
  | agg (cs : List X) (vs : List Value) (hl : cs.length = vs.length) (h1 : ∀ v ∈ vs, v.oneCell' = true)
      (h : ∀ (i : Nat) c v, cs[i]? = some c → vs[i]? = some v → VR φ c v) : VR φ (.agg cs) (.agg vs.toArray)
  | tup (cs : List X) (vs : List Value) (hl : cs.length = vs.length)
      (h : ∀ (i : Nat) c v, cs[i]? = some c → vs[i]? = some v → VR φ c v) : VR φ (.tup cs) (.tuple vs.toArray)

def VRL (φ : Pl) (cs : List X) (vs : List Value) : Prop := cs.length = vs.length ∧ ∀ (i : Nat) c v, cs[i]? = some c → vs[i]? = some v → VR φ c v

def Ex (φ φ' : Pl) : Prop := ∀ id p, φ id = some p → φ' id = some p
theorem Ex.refl (φ : Pl) : Ex φ φ := fun _ _ h => h
theorem Ex.trans {φ φ' φ'' : Pl} (h : Ex φ φ') (h' : Ex φ' φ'') : Ex φ φ'' := fun id p hp => h' id p (h id p hp)

theorem VR.mono {φ φ' : Pl} {x v} (h : VR φ x v) (he : Ex φ φ') : VR φ' x v := by
  induction h with
  | bool b => exact .bool b
  | int k n => exact .int k n
  | str s => exact .str s
  | nilp => exact .nilp
  | nilm => exact .nilm
  | nilf => exact .nilf
  | nili => exact .nili
  | nils => exact .nils
  | ptr id off b s h => exact .ptr id off b s (he _ _ h)
  | sl0 id off len cap b s h h1 => exact .sl0 id off len cap b s (he _ _ h) h1
  | sl1 id off len c z cap b s h h1 h2 h3 h4 => exact .sl1 id off len c z cap b s (he _ _ h) h1 h2 h3 h4
  | map id b s h => exact .map id b s (he _ _ h)
  | fn f cs vs hl _ ih => exact .fn f cs vs hl ih
  | ifc t x v _ ih => exact .ifc t x v ih
  | agg cs vs hl h1 _ ih => exact .agg cs vs hl h1 ih
  | tup cs vs hl _ ih => exact .tup cs vs hl ih
theorem VRL.mono {φ φ' : Pl} {cs vs} (h : VRL φ cs vs) (he : Ex φ φ') : VRL φ' cs vs := ⟨h.1, fun i c v hc hv => (h.2 i c v hc hv).mono he⟩
theorem VRL.nil {φ : Pl} : VRL φ [] [] := ⟨rfl, fun i c v h => by simp at h⟩
theorem VRL.cons {φ : Pl} {c v cs vs} (h : VR φ c v) (h' : VRL φ cs vs) : VRL φ (c :: cs) (v :: vs) := ⟨by simp [h'.1], fun i c' v' hc hv => by
  cases i with
  | zero => simp at hc hv; subst hc; subst hv; exact h
  | succ i => simp at hc hv; exact h'.2 i c' v' hc hv⟩
theorem VRL.append {φ : Pl} {cs vs ds ws} (h : VRL φ cs vs) (h' : VRL φ ds ws) : VRL φ (cs ++ ds) (vs ++ ws) := ⟨by simp [h.1, h'.1], fun i c v hc hv => by
  by_cases hi : i < cs.length
  · rw [List.getElem?_append_left hi] at hc
    rw [List.getElem?_append_left (by rw [← h.1]; exact hi)] at hv
    exact h.2 i c v hc hv
  · rw [List.getElem?_append_right (by omega)] at hc
    rw [List.getElem?_append_right (by rw [← h.1]; omega), ← h.1] at hv
    exact h'.2 _ c v hc hv⟩
theorem VRL.drop {φ : Pl} {cs vs} (h : VRL φ cs vs) (n : Nat) : VRL φ (cs.drop n) (vs.drop n) := ⟨by simp [h.1], fun i c v hc hv => by
  rw [List.getElem?_drop] at hc hv; exact h.2 _ c v hc hv⟩
theorem VRL.take {φ : Pl} {cs vs} (h : VRL φ cs vs) (n : Nat) : VRL φ (cs.take n) (vs.take n) := ⟨by simp [h.1], fun i c v hc hv => by
  rw [List.getElem?_take] at hc hv
  split at hc
  · rename_i hi; rw [if_pos hi] at hv; exact h.2 i c v hc hv
  · cases hc⟩
/-- .. and each the value of one cell. -/
def CR (φ : Pl) (cs : List X) (vs : List Value) : Prop := VRL φ cs vs ∧ ∀ v ∈ vs, v.oneCell' = true
theorem CR.mono {φ φ' : Pl} {cs vs} (h : CR φ cs vs) (he : Ex φ φ') : CR φ' cs vs := ⟨h.1.mono he, h.2⟩
theorem CR.append {φ : Pl} {cs vs ds ws} (h : CR φ cs vs) (h' : CR φ ds ws) : CR φ (cs ++ ds) (vs ++ ws) := ⟨h.1.append h'.1, fun v hv => by
  rcases List.mem_append.1 hv with h2 | h2
  · exact h.2 v h2
  · exact h'.2 v h2⟩
theorem CR.drop {φ : Pl} {cs vs} (h : CR φ cs vs) (n : Nat) : CR φ (cs.drop n) (vs.drop n) := ⟨h.1.drop n, fun v hv => h.2 v (List.mem_of_mem_drop hv)⟩
theorem CR.take {φ : Pl} {cs vs} (h : CR φ cs vs) (n : Nat) : CR φ (cs.take n) (vs.take n) := ⟨h.1.take n, fun v hv => h.2 v (List.mem_of_mem_take hv)⟩
theorem CR.rep {φ : Pl} {cs vs} (h : CR φ cs vs) : ∀ n, CR φ (List.replicate n cs).flatten (List.replicate n vs).flatten := by
  intro n
  induction n with
  | zero => exact ⟨VRL.nil, fun v hv => by simp at hv⟩
  | succ n ih => simp only [List.replicate_succ, List.flatten_cons]; exact h.append ih

def intVals : List IntKind → List Int → List Value
  | k :: ks, n :: ns => .int k n :: intVals ks ns
  | _, _ => []
def ObjR (φ : Pl) (w : World) (b s : Nat) : O → Prop
  | .cells cs => ∃ vs ty, w.heap[b]? = some (.cells vs ty (0, 0)) ∧ vs.size = s ∧ cs.length ≤ s ∧ CR φ cs (vs.toList.take cs.length)
  | .map es k => ∃ res clock, w.heap[b]? = some (.map res clock) ∧ res.size = es.length ∧
      ∀ (i : Nat) e r, es[i]? = some e → res[i]? = some r → r.key = .int k e.1 ∧ VR φ e.2 r.val
  | .mapA es ks => ∃ res clock, w.heap[b]? = some (.map res clock) ∧ res.size = es.length ∧
      ∀ (i : Nat) e r, es[i]? = some e → res[i]? = some r → r.key = .agg (intVals ks e.1).toArray ∧ e.1.length = ks.length ∧ VR φ e.2 r.val

/-- The memory h, whose blocks are numbered below n, lies in w. -/
structure Hp (h : H) (n : Pt) (w : World) (φ : Pl) : Prop where
  lt : ∀ id b s, φ id = some (b, s) → b < w.heap.size
  fresh : ∀ id p, φ id = some p → id.num < n.num
  dom : ∀ id o, h.get id = some o → id.num < n.num
  inj : ∀ id id' b s s', φ id = some (b, s) → φ id' = some (b, s') → (h.get id).isSome = true → (h.get id').isSome = true → id = id'
  obj : ∀ id b s o, φ id = some (b, s) → h.get id = some o → ObjR φ w b s o

/-- The block belongs to the memory h. -/
def Live (φ : Pl) (h : H) (b : Nat) : Prop := ∃ id s, φ id = some (b, s) ∧ (h.get id).isSome = true

/-- Blocks of which T does not say so are as they were. -/
structure Kept (w : World) (T : Nat → Prop) (w' : World) : Prop where
  os : w'.os = w.os
  tape : w'.tape = w.tape
  output : w'.output = w.output
  size : w.heap.size ≤ w'.heap.size
  block : ∀ k, k < w.heap.size → ¬ T k → w'.heap[k]? = w.heap[k]?
theorem Kept.refl (w : World) (T : Nat → Prop) : Kept w T w := ⟨rfl, rfl, rfl, Nat.le_refl _, fun _ _ _ => rfl⟩
theorem Kept.drew {w w' : World} {T : Nat → Prop} (h : Kept w T w') : Kept w T { w' with drawn := w'.drawn + 1 } := ⟨h.os, h.tape, h.output, h.size, h.block⟩

/-- From one state of the memory to another: what is new is numbered from n on; what was there and is no part of h is as it was. -/
structure Step (φ : Pl) (h : H) (n : Pt) (w : World) (φ' : Pl) (h' : H) (n' : Pt) (w' : World) : Prop where
  ex : Ex φ φ'
  new : ∀ id p, φ' id = some p → φ id = some p ∨ n.num ≤ id.num
  le : n.num ≤ n'.num
  hp : Hp h' n' w' φ'
  kept : Kept w (Live φ h) w'
  mine : ∀ b, Live φ' h' b → w.heap.size ≤ b ∨ Live φ h b
  grow : ∀ id o, h'.get id = some o → (h.get id).isSome = true ∨ n.num ≤ id.num

theorem Step.refl {φ h n w} (hp : Hp h n w φ) : Step φ h n w φ h n w := ⟨Ex.refl _, fun _ _ h => .inl h, Nat.le_refl _, hp, Kept.refl _ _, fun _ h => .inr h, fun id o h => .inl (by rw [h]; rfl)⟩
theorem Step.trans {φ h n w φ' h' n' w' φ'' h'' n'' w''} (s : Step φ h n w φ' h' n' w') (t : Step φ' h' n' w' φ'' h'' n'' w'') : Step φ h n w φ'' h'' n'' w'' where
  ex := s.ex.trans t.ex
  new id p hp := by
    rcases t.new id p hp with h1 | h1
    · exact s.new id p h1
    · exact .inr (Nat.le_trans s.le h1)
  le := Nat.le_trans s.le t.le
  hp := t.hp
  kept := ⟨t.kept.os.trans s.kept.os, t.kept.tape.trans s.kept.tape, t.kept.output.trans s.kept.output, Nat.le_trans s.kept.size t.kept.size, fun k hk hl => by
    rw [t.kept.block k (Nat.lt_of_lt_of_le hk s.kept.size) fun hl' => ?_, s.kept.block k hk hl]
    rcases s.mine k hl' with h1 | h1
    · omega
    · exact hl h1⟩
  mine b hb := by
    rcases t.mine b hb with h1 | h1
    · exact .inl (Nat.le_trans s.kept.size h1)
    · exact s.mine b h1
  grow id o ho := by
    rcases t.grow id o ho with h1 | h1
    · obtain ⟨o', h2⟩ := Option.isSome_iff_exists.1 h1
      exact s.grow id o' h2
    · exact .inr (Nat.le_trans s.le h1)
theorem Hp.drew {h n w φ} (hp : Hp h n w φ) : Hp h n { w with drawn := w.drawn + 1 } φ := ⟨hp.lt, hp.fresh, hp.dom, hp.inj, fun id b s o h1 h2 => by
  have := hp.obj id b s o h1 h2
  cases o with
  | cells cs => exact this
  | map es k => exact this
  | mapA es k => exact this⟩
theorem Step.drew {φ h n w} (hp : Hp h n w φ) : Step φ h n w φ h n { w with drawn := w.drawn + 1 } := { Step.refl hp with hp := hp.drew, kept := (Kept.refl _ _).drew }

/-- What is told of an object holds whatever becomes of other blocks. -/
theorem ObjR.mono {φ φ' : Pl} {w w' : World} {b s : Nat} {o : O} (h : ObjR φ w b s o) (he : Ex φ φ') (hb : w'.heap[b]? = w.heap[b]?) : ObjR φ' w' b s o := by
  cases o with
  | cells cs => obtain ⟨vs, ty, h1, h2, h3, h4⟩ := h; exact ⟨vs, ty, by rw [hb]; exact h1, h2, h3, h4.mono he⟩
  | mapA es k => obtain ⟨res, clock, h1, h2, h3⟩ := h; exact ⟨res, clock, by rw [hb]; exact h1, h2, fun i e r h4 h5 => ⟨(h3 i e r h4 h5).1, (h3 i e r h4 h5).2.1, (h3 i e r h4 h5).2.2.mono he⟩⟩
  | map es k => obtain ⟨res, clock, h1, h2, h3⟩ := h; exact ⟨res, clock, by rw [hb]; exact h1, h2, fun i e r h4 h5 => ⟨(h3 i e r h4 h5).1, (h3 i e r h4 h5).2.mono he⟩⟩

theorem heap_new (w : World) (o : Obj) : (w.alloc o).heap[w.heap.size]? = some o := heap_alloc_new w o
theorem heap_old (w : World) (o : Obj) {b : Nat} (h : b < w.heap.size) : (w.alloc o).heap[b]? = w.heap[b]? := heap_alloc_old w o b h

def addPl (φ : Pl) (n : Pt) (p : Nat × Nat) : Pl := fun id => if id = n then some p else φ id
theorem addPl_ex {φ : Pl} {n : Pt} {p} (hn : φ n = none) : Ex φ (addPl φ n p) := fun id q h => by
  unfold addPl
  rw [if_neg (fun e => by subst e; rw [hn] at h; cases h)]; exact h
theorem Hp.none {h n w φ} (hp : Hp h n w φ) {m : Pt} (hm : n.num ≤ m.num) : φ m = none := by
  cases h1 : φ m with
  | none => rfl
  | some p => have := hp.fresh m p h1; omega

/-- A block is made. -/
theorem Step.alloc {φ h n w} (hp : Hp h n w φ) {m : Pt} (hm : n.num ≤ m.num) {k : Pt} (hk : m.num < k.num) {o : O} {obj : Obj} {s : Nat}
    (ho : ∀ φ', Ex φ φ' → ObjR φ' (w.alloc obj) w.heap.size s o) : Step φ h n w (addPl φ m (w.heap.size, s)) (h.put m o) k (w.alloc obj) := by
  have hn := hp.none hm
  have hex : Ex φ (addPl φ m (w.heap.size, s)) := addPl_ex hn
  have hcase : ∀ id p, addPl φ m (w.heap.size, s) id = some p → (id = m ∧ p = (w.heap.size, s)) ∨ (id ≠ m ∧ φ id = some p) := fun id p h1 => by
    unfold addPl at h1
    split at h1
    · rename_i h2; exact .inl ⟨h2, by cases h1; rfl⟩
    · rename_i h2; exact .inr ⟨h2, h1⟩
  have hlive : ∀ id, id ≠ m → (h.put m o).get id = h.get id := fun id h1 => by rw [get_put, if_neg h1]
  refine ⟨hex, fun id p h1 => ?_, by omega, ⟨fun id b s' h1 => ?_, fun id p h1 => ?_, fun id o' h1 => ?_, fun id id' b s1 s2 h1 h2 h3 h4 => ?_, fun id b s' o' h1 h2 => ?_⟩, ⟨rfl, rfl, rfl, by simp, fun k hk _ => heap_old w obj hk⟩, fun b ⟨id, s', h1, h2⟩ => ?_, fun id o' h1 => ?_⟩
  · rcases hcase id p h1 with ⟨h2, _⟩ | ⟨_, h2⟩
    · subst h2; exact .inr hm
    · exact .inl h2
  · rcases hcase id _ h1 with ⟨_, h2⟩ | ⟨_, h2⟩
    · cases h2; simp
    · have := hp.lt id b s' h2; simp; omega
  · rcases hcase id p h1 with ⟨h2, _⟩ | ⟨_, h2⟩
    · subst h2; exact hk
    · have := hp.fresh id p h2; omega
  · by_cases h2 : id = m
    · subst h2; exact hk
    · rw [hlive id h2] at h1
      have := hp.dom id o' h1; omega
  · rcases hcase id _ h1 with ⟨g1, g2⟩ | ⟨g1, g2⟩
    · rcases hcase id' _ h2 with ⟨g3, g4⟩ | ⟨g3, g4⟩
      · rw [g1, g3]
      · cases g2; have := hp.lt id' _ _ g4; omega
    · rcases hcase id' _ h2 with ⟨g3, g4⟩ | ⟨g3, g4⟩
      · cases g4; have := hp.lt id _ _ g2; omega
      · rw [hlive id g1] at h3; rw [hlive id' g3] at h4
        exact hp.inj id id' b s1 s2 g2 g4 h3 h4
  · rcases hcase id _ h1 with ⟨g1, g2⟩ | ⟨g1, g2⟩
    · subst g1; cases g2
      rw [get_put, if_pos rfl] at h2
      cases h2
      exact ho _ hex
    · rw [hlive id g1] at h2
      exact (hp.obj id b s' o' g2 h2).mono hex (heap_old w obj (hp.lt id b s' g2))
  · rcases hcase id _ h1 with ⟨g1, g2⟩ | ⟨g1, g2⟩
    · cases g2; exact .inl (Nat.le_refl _)
    · rw [hlive id g1] at h2; exact .inr ⟨id, s', g2, h2⟩
  · by_cases h2 : id = m
    · subst h2; exact .inr hm
    · rw [hlive id h2] at h1; exact .inl (by rw [h1]; rfl)

/-- A block holds something else. -/
theorem Step.change {φ h n w} (hp : Hp h n w φ) {id : Pt} {b s : Nat} (hb : φ id = some (b, s)) (hl : (h.get id).isSome = true) {o : O} {w' : World}
    (hos : w'.os = w.os) (htape : w'.tape = w.tape) (hout : w'.output = w.output) (hsize : w'.heap.size = w.heap.size) (hother : ∀ k, k ≠ b → w'.heap[k]? = w.heap[k]?)
    (ho : ObjR φ w' b s o) : Step φ h n w φ (h.put id o) n w' := by
  have hal : ∀ id', ((h.put id o).get id').isSome = true → (h.get id').isSome = true := fun id' h1 => by
    rw [get_put] at h1
    split at h1
    · rename_i h2; subst h2; exact hl
    · exact h1
  refine ⟨Ex.refl _, fun _ _ h => .inl h, Nat.le_refl _, ⟨fun id b s h1 => by rw [hsize]; exact hp.lt id b s h1, hp.fresh, fun id' o' h1 => (by obtain ⟨o2, h2⟩ := Option.isSome_iff_exists.1 (hal id' (by rw [h1]; rfl)); exact hp.dom id' o2 h2), fun id id' b s s' h1 h2 h3 h4 => hp.inj id id' b s s' h1 h2 (hal _ h3) (hal _ h4), fun id' b' s' o' h1 h2 => ?_⟩,
    ⟨hos, htape, hout, by omega, fun k hk hlive => hother k fun e => hlive ⟨id, s, by rw [e]; exact hb, hl⟩⟩, fun b ⟨id', s', h1, h2⟩ => .inr ⟨id', s', h1, hal _ h2⟩, fun id' o' h1 => .inl (hal id' (by rw [h1]; rfl))⟩
  rw [get_put] at h2
  split at h2
  · rename_i h3
    subst h3
    cases h2
    have : (b', s') = (b, s) := Option.some.inj (h1.symm.trans hb)
    cases this
    exact ho
  · rename_i h3
    have hne : b' ≠ b := fun e => h3 (by subst e; exact hp.inj id' id b' s' s h1 hb (by rw [h2]; rfl) hl)
    exact (hp.obj id' b' s' o' h1 h2).mono (Ex.refl _) (hother b' hne)
end Go.Ex
