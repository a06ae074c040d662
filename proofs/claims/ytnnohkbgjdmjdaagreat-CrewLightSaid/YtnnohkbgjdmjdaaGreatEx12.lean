/- Calls, append and copy; all operations that may change what was there. Nothing here speaks of one program. -/
import Derived.Test.YtnnohkbgjdmjdaaGreatEx11
set_option linter.unusedVariables false
set_option linter.unusedSimpArgs false
namespace Go.Ex

/-- The function f has a body. -/
def Body (P : Program) (f : FuncId) : Prop := ∀ (args : Array Value) (w : World), (callFunc f args).run P w = .ok (.enter f args) w

/-- What calls do by hand they do in the model, in whatever memory in which that of the run by hand lies. -/
def CallOk (P : Program) (call : CallT) : Prop := ∀ f args h n x h' n', call f args h n = some (x, h', n') → Body P f ∧
  ∀ w φ vals, Hp h n w φ → VRL φ args vals → Calls P f vals.toArray w fun e w' => ∃ v φ', e = .returned v ∧ Step φ h n w φ' h' n' w' ∧ VR φ' x v

theorem Step.del {φ h n w} (hp : Hp h n w φ) (id : Pt) : Step φ h n w φ (h.del id) n w := by
  have hal : ∀ id', ((h.del id).get id').isSome = true → (h.get id').isSome = true := fun id' h1 => by
    rw [get_del] at h1
    split at h1
    · cases h1
    · exact h1
  refine ⟨Ex.refl _, fun _ _ h => .inl h, Nat.le_refl _, ⟨hp.lt, hp.fresh, fun id' o' h1 => (by obtain ⟨o2, h2⟩ := Option.isSome_iff_exists.1 (hal id' (by rw [h1]; rfl)); exact hp.dom id' o2 h2), fun id id' b s s' h1 h2 h3 h4 => hp.inj id id' b s s' h1 h2 (hal _ h3) (hal _ h4), fun id' b s o h1 h2 => ?_⟩, Kept.refl _ _, fun b ⟨id', s, h1, h2⟩ => .inr ⟨id', s, h1, hal _ h2⟩, fun id' o' h1 => .inl (hal id' (by rw [h1]; rfl))⟩
  rw [get_del] at h2
  split at h2
  · cases h2
  · exact hp.obj id' b s o h1 h2

/-- A block goes on under another number. -/
theorem Step.move {φ h n w} (hp : Hp h n w φ) {id : Pt} {b s : Nat} (hb : φ id = some (b, s)) (hl : (h.get id).isSome = true) {o : O} {w' : World}
    (hos : w'.os = w.os) (htape : w'.tape = w.tape) (hout : w'.output = w.output) (hsize : w'.heap.size = w.heap.size) (hother : ∀ k, k ≠ b → w'.heap[k]? = w.heap[k]?)
    (ho : ∀ φ', Ex φ φ' → ObjR φ' w' b s o) : Step φ h n w (addPl φ n (b, s)) ((h.del id).put n o) n.inc w' := by
  have hn := hp.none (Nat.le_refl _)
  have hex : Ex φ (addPl φ n (b, s)) := addPl_ex hn
  have hidn : id ≠ n := fun e => by subst e; rw [hn] at hb; cases hb
  have hcase : ∀ id' p, addPl φ n (b, s) id' = some p → (id' = n ∧ p = (b, s)) ∨ (id' ≠ n ∧ φ id' = some p) := fun id' p h1 => by
    unfold addPl at h1
    split at h1
    · rename_i h2; exact .inl ⟨h2, by cases h1; rfl⟩
    · rename_i h2; exact .inr ⟨h2, h1⟩
  have hal : ∀ id', id' ≠ n → (((h.del id).put n o).get id').isSome = true → id' ≠ id ∧ (h.get id').isSome = true := fun id' h1 h2 => by
    rw [get_put, if_neg h1, get_del] at h2
    split at h2
    · cases h2
    · rename_i h3; exact ⟨h3, h2⟩
  refine ⟨hex, fun id' p h1 => ?_, by rw [num_inc]; omega, ⟨fun id' b' s' h1 => ?_, fun id' p h1 => ?_, fun id' o' h1 => ?_, fun id1 id2 b' s1 s2 h1 h2 h3 h4 => ?_, fun id' b' s' o' h1 h2 => ?_⟩,
    ⟨hos, htape, hout, by omega, fun k hk hlive => hother k fun e => hlive ⟨id, s, by rw [e]; exact hb, hl⟩⟩, fun b' ⟨id', s', h1, h2⟩ => ?_, fun id' o' h1 => ?_⟩
  · rcases hcase id' p h1 with ⟨h2, _⟩ | ⟨_, h2⟩
    · subst h2; exact .inr (Nat.le_refl _)
    · exact .inl h2
  · rw [hsize]
    rcases hcase id' _ h1 with ⟨_, h2⟩ | ⟨_, h2⟩
    · cases h2; exact hp.lt id _ _ hb
    · exact hp.lt id' b' s' h2
  · rw [num_inc]
    rcases hcase id' p h1 with ⟨h2, _⟩ | ⟨_, h2⟩
    · subst h2; omega
    · have := hp.fresh id' p h2; omega
  · rw [num_inc]
    by_cases h2 : id' = n
    · subst h2; omega
    · obtain ⟨o2, h3⟩ := Option.isSome_iff_exists.1 (hal id' h2 (by rw [h1]; rfl)).2
      have := hp.dom id' o2 h3; omega
  · rcases hcase id1 _ h1 with ⟨g1, g2⟩ | ⟨g1, g2⟩
    · rcases hcase id2 _ h2 with ⟨g3, g4⟩ | ⟨g3, g4⟩
      · rw [g1, g3]
      · cases g2
        obtain ⟨k1, k2⟩ := hal id2 g3 h4
        exact absurd (hp.inj id2 id b s2 s g4 hb k2 hl) k1
    · obtain ⟨k1, k2⟩ := hal id1 g1 h3
      rcases hcase id2 _ h2 with ⟨g3, g4⟩ | ⟨g3, g4⟩
      · cases g4
        exact absurd (hp.inj id1 id b s1 s g2 hb k2 hl) k1
      · exact hp.inj id1 id2 b' s1 s2 g2 g4 k2 (hal id2 g3 h4).2
  · rcases hcase id' _ h1 with ⟨g1, g2⟩ | ⟨g1, g2⟩
    · subst g1; cases g2
      rw [get_put, if_pos rfl] at h2
      cases h2
      exact ho _ hex
    · rw [get_put, if_neg g1, get_del] at h2
      split at h2
      · cases h2
      · rename_i g3
        have hne : b' ≠ b := fun e => g3 (by subst e; exact hp.inj id' id b' s' s g2 hb (by rw [h2]; rfl) hl)
        exact (hp.obj id' b' s' o' g2 h2).mono hex (hother b' hne)
  · rcases hcase id' _ h1 with ⟨g1, g2⟩ | ⟨g1, g2⟩
    · cases g2; exact .inr ⟨id, s, hb, hl⟩
    · exact .inr ⟨id', s', g2, (hal id' g1 h2).2⟩
  · by_cases h2 : id' = n
    · subst h2; exact .inr (Nat.le_refl _)
    · exact .inl (hal id' h2 (by rw [h1]; rfl)).2

section
variable {φ : Pl} {t : T X} {a : Act} {P : Program} {tab : Tab} {eqs : List (TypeId × List IntKind)} {dst : Option Tmp} {type : TypeId} {pos : String} {after : Array Edge} {guard : Option (Nat × Bool)} {h : H} {n : Pt} {w : World}

theorem call_ok (hp : Hp h n w φ) (hm : TmR φ t a) {call : CallT} (hcall : CallOk P call) {f : FuncId} {args : Array Operand} {tys : Array TypeId} {ds : List D} {r : X} {h' : H} {n' : Pt} (hc : cDL args.toList = some ds)
    (hr : rCall f ds call t h n = some (r, h', n')) : Wr P φ a ⟨dst, .call ⟨.value (.func f), args, tys⟩, type, pos, after, guard⟩ h n w r h' n' := fun K Q hK => by
  unfold rCall at hr
  split at hr
  · rename_i xs h1
    have hvals := evL_ok hm hc h1
    obtain ⟨hb, hcl⟩ := hcall f xs h n r h' n' hr
    have hrun : (execOp a.eval ⟨dst, .call ⟨.value (.func f), args, tys⟩, type, pos, after, guard⟩).run P w = .ok (.enter f (args.map a.eval)) w := by
      simp [execOp, resolve, Deferred.ofValue, Act.eval, invoke]
      exact hb _ _
    unfold Oper.wp
    rw [hrun, Oper.upon_enter]
    have h2 := hcl w φ (args.toList.map a.eval) hp hvals
    have harr : (args.toList.map a.eval).toArray = args.map a.eval := by apply Array.ext'; simp
    rw [harr] at h2
    refine h2.mono fun e w' ⟨v, φ', he, hs, hv⟩ => ?_
    subst he
    exact hK v w' φ' hs hv
  · cases hr

theorem callv_ok (hp : Hp h n w φ) (hm : TmR φ t a) {call : CallT} (hcall : CallOk P call) {f : Operand} {args : Array Operand} {tys : Array TypeId} {d : D} {ds : List D} {r : X} {h' : H} {n' : Pt} (hf : cD f = some d) (hc : cDL args.toList = some ds)
    (hr : rCallv d ds call t h n = some (r, h', n')) : Wr P φ a ⟨dst, .call ⟨.value f, args, tys⟩, type, pos, after, guard⟩ h n w r h' n' := fun K Q hK => by
  unfold rCallv at hr
  split at hr
  · rename_i g caps xs h0 h1
    have hvals := evL_ok hm hc h1
    obtain ⟨vs, h3, h4⟩ := inv_fn (ev_ok hm hf h0)
    obtain ⟨hb, hcl⟩ := hcall g (xs ++ caps) h n r h' n' hr
    have hrun : (execOp a.eval ⟨dst, .call ⟨.value f, args, tys⟩, type, pos, after, guard⟩).run P w = .ok (.enter g (args.map a.eval ++ vs.toArray)) w := by
      simp [execOp, resolve, Deferred.ofValue, h4, invoke]
      exact hb _ _
    unfold Oper.wp
    rw [hrun, Oper.upon_enter]
    have h2 := hcl w φ (args.toList.map a.eval ++ vs) hp (hvals.append h3)
    have harr : (args.toList.map a.eval ++ vs).toArray = args.map a.eval ++ vs.toArray := by apply Array.ext'; simp
    rw [harr] at h2
    refine h2.mono fun e w' ⟨v, φ', he, hs, hv⟩ => ?_
    subst he
    exact hK v w' φ' hs hv
  · cases hr

theorem srcX_ok (hp : Hp h n w φ) {z k : Nat} {x : X} {new : List X} (hs : srcX h z x = some (k, new)) {v : Value} (hv : VR φ x v) :
    (v = .slice none 0 0 ∧ k = 0) ∨ ∃ b off c us, v = .slice (some ⟨b, off, none⟩) k c ∧ us.length = k * z ∧ CR φ new us ∧ ∀ (j : Nat) u, us[j]? = some u → w.cell? ((⟨b, off, none⟩ : Addr).add j) = some u := by
  unfold srcX at hs
  split at hs
  · cases hs; exact .inl ⟨inv_nils hv, rfl⟩
  · rename_i id off k' c z'
    split at hs
    · rename_i cs h1
      split at hs
      · rename_i l hl
        cases hs
        obtain ⟨b, s, c', h2, h3, _⟩ := inv_sl hv
        obtain ⟨us, g1, g2, g3⟩ := (hp.obj id b s _ h2 h1).row hl
        exact .inr ⟨b, off, c', us, h3, g1, g2, g3⟩
      · cases hs
    · cases hs
  · cases hs

end
end Go.Ex
namespace Go.Ex
section
variable {φ : Pl} {t : T X} {a : Act} {P : Program} {tab : Tab} {eqs : List (TypeId × List IntKind)} {dst : Option Tmp} {type : TypeId} {pos : String} {after : Array Edge} {guard : Option (Nat × Bool)} {h : H} {n : Pt} {w : World}

theorem appN_eq {z bytes k : Nat} {new : List X} {x : X} {h' : H} {n' : Pt} (hr : appN z bytes k new h n = some (x, h', n')) :
    k ≤ 1000000 ∧ k * bytes ≤ 1000000000 ∧ x = .sl n 0 k k (z + 1) ∧ h' = h.put n (.cells new) ∧ n' = n.inc := by
  unfold appN at hr
  cases hb : (Nat.ble k 1000000 && Nat.ble (k * bytes) 1000000000) with
  | false => rw [hb] at hr; cases hr
  | true =>
    rw [hb] at hr
    simp only [cond_true, incK_eq, Option.some.injEq, Prod.mk.injEq] at hr
    simp only [Bool.and_eq_true] at hb
    exact ⟨Nat.le_of_ble_eq_true hb.1, Nat.le_of_ble_eq_true hb.2, hr.1.symm, hr.2.1.symm, hr.2.2.symm⟩

/-- The block of a slice that has grown. -/
theorem grown_step (hp : Hp h n w φ) {e : TypeId} {z cap k : Nat} {new : List X} {vs : Array Value} {us : List Value} (hl : us.length = k * z) (hc : CR φ new us) (hs : vs.size = cap * z) (htake : vs.toList.take (k * z) = us) (hk : k ≤ cap) (hm : cap ≤ maxLen) :
    Step φ h n w (addPl φ n (w.heap.size, cap * z)) (h.put n (.cells new)) n.inc (w.drew.alloc (.cells vs e)) ∧ VR (addPl φ n (w.heap.size, cap * z)) (.sl n 0 k k (z + 1)) (.slice (some ⟨w.heap.size, 0, none⟩) k cap) := by
  have hlen : new.length = k * z := by rw [hc.1.1, hl]
  refine ⟨(Step.drew hp).trans (Step.alloc (w := w.drew) hp.drew (Nat.le_refl _) (by rw [num_inc]; omega) fun φ' he => ?_), .sl1 n 0 k k z cap _ (cap * z) (by simp [addPl]) (Nat.le_refl _) hk (by omega) hm⟩
  refine ⟨vs, e, heap_new w.drew _, hs, ?_, ?_⟩
  · rw [hlen]; exact Nat.mul_le_mul_right _ hk
  · rw [hlen, htake]; exact hc.mono he
end
end Go.Ex
