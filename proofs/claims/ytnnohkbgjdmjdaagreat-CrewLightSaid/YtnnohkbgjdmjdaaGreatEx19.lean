/- Regions of any order: one operation more. Nothing here speaks of one program. -/
import Derived.Test.YtnnohkbgjdmjdaaGreatEx18
set_option linter.unusedVariables false
set_option linter.unusedSimpArgs false
namespace Go.Ex
section
variable {nt : Nat} {P : Program} {tab : Tab} {eqs : List (TypeId × List IntKind)} {call : CallT} {ops : Array Oper} {js : List J} {al : List (List Nat)} {st : Nat → DS} {φ0 : Pl} {h0 : H} {n0 : Pt} {w0 : World} {S : Nat → Bool} {q : Nat} {φ : Pl} {a : Act} {w : World}

/-- A value is put, nothing else. -/
theorem rs_val (F : SF ops js al) (T : Tr call js st h0 n0) (R : RS nt js st φ0 h0 n0 w0 S q φ a w) {i : Nat} {j : J} (hj : js[i]? = some j) (hk : j.kind ≠ 3) (hm : ¬ Made st i) {dst : Option Tmp} (hd : j.dst = dst.map .ofNat) (hlt : ∀ p, dst = some p → p < nt) {x : X} {v : Value} (hv : VR φ x v)
    (hx : (st (i + 1)).t = putO (st i).t j.dst x) : RS nt js st φ0 h0 n0 w0 (add S i) q φ (a.put dst v) w := by
  have hal : ∀ id, Al js st (add S i) q id → Al js st S q id := fun id h => by
    rcases h with h | ⟨k, h1, h2, h3, h4, h5⟩
    · exact .inl h
    · exact .inr ⟨k, h1, h2, add_true h3 (fun e => hm (by rw [← e]; exact h2)), h4, h5⟩
  exact {
    defers := by rw [put_defers]; exact R.defers
    size := by rw [put_size]; exact R.size
    tm := tm_put F T R hj hd hlt (Ex.refl φ) hv hx
    tm0 := tm0_put F R hj hd hlt (Ex.refl φ)
    lt := R.lt
    fresh := R.fresh
    resv := fun k h1 h2 h3 => R.resv k h1 (add_false h2).2 h3
    old := R.old
    new := fun k o b s h1 h2 h3 h4 h5 h6 => R.new k o b s h1 h2 (add_true h3 (fun e => hm (by rw [← e]; exact h2))) h4 h5 h6
    inj := fun id id' b s s' h1 h2 h3 h4 => R.inj id id' b s s' h1 h2 (hal _ h3) (hal _ h4)
    ex := R.ex
    nw := R.nw
    kept := R.kept
    mine := fun id b s h1 h2 => R.mine id b s h1 (hal _ h2)
    domq := R.domq
    dlt := R.dlt
    le := R.le
    cur := fun k j' h1 h2 => by
      rw [add_ne (fun e => by subst e; rw [hj] at h1; cases h1; exact hk h2)]
      exact R.cur k j' h1 h2
    curq := R.curq }

/-- A block is made. -/
theorem rs_alc (F : SF ops js al) (T : Tr call js st h0 n0) (h00 : ∀ id o, h0.get id = some o → id.num < n0.num) (R : RS nt js st φ0 h0 n0 w0 S q φ a w) {i : Nat} {j : J} (hj : js[i]? = some j) (hk : j.kind = 2) (hun : S i = false) (hm : Made st i) {dst : Option Tmp} (hd : j.dst = dst.map .ofNat) (hlt : ∀ p, dst = some p → p < nt)
    {x : X} {v : Value} {obj : Obj} {s : Nat} {ob : O} (hob : (st (i + 1)).h.get (st i).na = some ob) (ho : ∀ φ', Ex φ φ' → ObjR φ' (w.alloc obj) w.heap.size s ob) (hv : ∀ φ', φ' (st i).na = some (w.heap.size, s) → VR φ' x v)
    (hlate : i < q → ∀ o, (st q).h.get (st i).na = some o → o = ob) (hx : (st (i + 1)).t = putO (st i).t j.dst x) : RS nt js st φ0 h0 n0 w0 (add S i) q (addPl φ (st i).na (w.heap.size, s)) (a.put dst v) (w.alloc obj) := by
  have hi : i < js.length := (List.getElem?_eq_some_iff.1 hj).1
  have hrg := T.made_lt hi
  have hno : φ (st i).na = none := R.resv i hi hun hm
  have hex : Ex φ (addPl φ (st i).na (w.heap.size, s)) := addPl_ex hno
  have hcase : ∀ id p, addPl φ (st i).na (w.heap.size, s) id = some p → (id = (st i).na ∧ p = (w.heap.size, s)) ∨ (id ≠ (st i).na ∧ φ id = some p) := fun id p h1 => by
    unfold addPl at h1
    split at h1
    · rename_i h2; exact .inl ⟨h2, by cases h1; rfl⟩
    · rename_i h2; exact .inr ⟨h2, h1⟩
  have hsz : w0.heap.size ≤ w.heap.size := R.kept.size
  have hal : ∀ id, id ≠ (st i).na → Al js st (add S i) q id → Al js st S q id := fun id hne h => by
    rcases h with h | ⟨k, h1, h2, h3, h4, h5⟩
    · exact .inl h
    · exact .inr ⟨k, h1, h2, add_true h3 (fun e => hne (by rw [h5, e])), h4, h5⟩
  exact {
    defers := by rw [put_defers]; exact R.defers
    size := by rw [put_size]; exact R.size
    tm := tm_put F T R hj hd hlt hex (hv _ (by simp [addPl])) hx
    tm0 := tm0_put F R hj hd hlt hex
    lt := fun id b s' h1 => by
      rcases hcase id _ h1 with ⟨_, h2⟩ | ⟨_, h2⟩
      · cases h2; simp
      · have := R.lt id b s' h2; simp; omega
    fresh := fun id p h1 => by
      rcases hcase id p h1 with ⟨h2, _⟩ | ⟨_, h2⟩
      · subst h2; have := R.le; omega
      · exact R.fresh id p h2
    resv := fun k h1 h2 h3 => by
      obtain ⟨g1, g2⟩ := add_false h2
      have hne : (st k).na ≠ (st i).na := fun e => g1 (T.made_inj h1 hi h3 hm e)
      unfold addPl
      rw [if_neg hne]
      exact R.resv k h1 g2 h3
    old := fun id b s' o h1 h2 => by
      rcases hcase id _ h1 with ⟨g1, g2⟩ | ⟨g1, g2⟩
      · subst g1; cases g2
        rcases Nat.lt_or_ge i q with h3 | h3
        · rw [hlate h3 o h2]; exact ho _ hex
        · rw [own_none T h00 R hi hm h3] at h2; cases h2
      · exact (R.old id b s' o g2 h2).mono hex (heap_old w obj (R.lt id b s' g2))
    new := fun k o b s' h1 h2 h3 h4 h5 h6 => by
      rcases hcase _ _ h5 with ⟨g1, g2⟩ | ⟨g1, g2⟩
      · have := T.made_inj h1 hi h2 hm g1
        subst this
        cases g2
        rw [hob] at h6; cases h6
        exact ho _ hex
      · have hki : k ≠ i := fun e => g1 (by rw [e])
        exact (R.new k o b s' h1 h2 (add_true h3 hki) h4 g2 h6).mono hex (heap_old w obj (R.lt _ b s' g2))
    inj := fun id id' b s1 s2 h1 h2 h3 h4 => by
      rcases hcase id _ h1 with ⟨g1, g2⟩ | ⟨g1, g2⟩
      · rcases hcase id' _ h2 with ⟨g3, g4⟩ | ⟨g3, g4⟩
        · rw [g1, g3]
        · cases g2; have := R.lt id' _ _ g4; omega
      · rcases hcase id' _ h2 with ⟨g3, g4⟩ | ⟨g3, g4⟩
        · cases g4; have := R.lt id _ _ g2; omega
        · exact R.inj id id' b s1 s2 g2 g4 (hal _ g1 h3) (hal _ g3 h4)
    ex := R.ex.trans hex
    nw := fun id p h1 => by
      rcases hcase id p h1 with ⟨h2, _⟩ | ⟨_, h2⟩
      · subst h2; exact .inr hrg.1
      · exact R.nw id p h2
    kept := ⟨R.kept.os, R.kept.tape, R.kept.output, by simp; omega, fun k hk hl => by rw [heap_old w obj (by omega)]; exact R.kept.block k hk hl⟩
    mine := fun id b s' h1 h2 => by
      rcases hcase id _ h1 with ⟨_, g2⟩ | ⟨g1, g2⟩
      · cases g2; exact .inl hsz
      · exact R.mine id b s' g2 (hal _ g1 h2)
    domq := R.domq
    dlt := R.dlt
    le := R.le
    cur := fun k j' h1 h2 => by
      rw [add_ne (fun e => by subst e; rw [hj] at h1; cases h1; omega)]
      exact R.cur k j' h1 h2
    curq := R.curq }

/-- What was there may have changed. -/
theorem rs_wr (F : SF ops js al) (T : Tr call js st h0 n0) (h00 : ∀ id o, h0.get id = some o → id.num < n0.num) (R : RS nt js st φ0 h0 n0 w0 S q φ a w) {i : Nat} {j : J} (hj : js[i]? = some j) (hk : j.kind = 3) (r : Rdy ops S i) (hq : q = (st i).q)
    {t1 : Go.Ex.T X} (htk : ∀ p, ((∃ i j, js[i]? = some j ∧ j.dst = some p ∧ S i = false) → t1.get p = (st 0).t.get p) ∧ ((∀ i j, js[i]? = some j → j.dst = some p → S i = true) → t1.get p = (st js.length).t.get p)) {x : X} {φ' : Pl} {a' : Act} {w' : World}
    (hs : Step φ (st i).h (st i).n w φ' (st (i + 1)).h (st (i + 1)).n w') (hst : St nt φ' (putO t1 j.dst x) (st (i + 1)).h (st (i + 1)).n a' w') (hx : (st (i + 1)).t = putO (st i).t j.dst x) (hqi : (st (i + 1)).q = i + 1) : RS nt js st φ0 h0 n0 w0 (add S i) (i + 1) φ' a' w' := by
  have hi : i < js.length := (List.getElem?_eq_some_iff.1 hj).1
  have hnn : (st i).n = (st q).n := by rw [hq]; exact T.nn i (by omega)
  have hqle : q ≤ i := by rw [hq]; exact (T.qq i (by omega)).1
  have hal0 : ∀ id p, φ id = some p → ((st i).h.get id).isSome = true → Al js st S q id := fun id p h1 h2 => al_text T R (by omega) hq h1 h2
  -- a block of the region's own that the text makes later is not there
  have hnone : ∀ k, k < js.length → Made st k → i + 1 ≤ k → (st i).h.get (st k).na = none := fun k h1 h2 h3 => by
    cases h : (st i).h.get (st k).na with
    | none => rfl
    | some o =>
      exfalso
      rcases T.hh i (by omega) _ o h with h4 | ⟨k', h4, h5, h6, h7, _⟩
      · rw [← hq, own_none T h00 R h1 h2 (by omega)] at h4; cases h4
      · have := T.made_inj h1 (by omega) h2 h6 h7; omega
  have hback : ∀ k p, k < js.length → Made st k → φ' (st k).na = some p → φ (st k).na = some p := fun k p h1 h2 h3 => by
    rcases hs.new _ p h3 with h4 | h4
    · exact h4
    · have h5 := T.made_lt h1
      have h6 := R.le
      rw [hnn] at h4; omega
  -- its block is none of those that the operation may change
  have hapart : ∀ k b s, k < js.length → Made st k → S k = true → i + 1 ≤ k → φ (st k).na = some (b, s) → ¬ Live φ (st i).h b := fun k b s h1 h2 h3 h4 h5 ⟨id, s', h6, h7⟩ => by
    have h8 := R.inj id (st k).na b s' s h6 h5 (hal0 id _ h6 h7) (.inr ⟨k, h1, h2, h3, by omega, rfl⟩)
    rw [h8, hnone k h1 h2 h4] at h7
    cases h7
  have hnew : ∀ k, k < js.length → Made st k → add S i k = true → i + 1 ≤ k → S k = true := fun k _ _ h3 h4 => add_true h3 (by omega)
  exact {
    defers := hst.defers
    size := hst.size
    tm := fun d y hall hy => by
      by_cases hdd : j.dst = some (Pt.ofNat d)
      · have hs2 : (st js.length).t.get (.ofNat d) = (st (i + 1)).t.get (.ofNat d) := T.slot js.length (by omega) (Nat.le_refl _) fun l j' h1 h2 h3 h4 => by
          have := F.uniq l i j' j (.ofNat d) h3 hj h4 hdd; omega
        rw [hs2, hx, hdd] at hy
        have hy2 : ((st i).t.put (Pt.ofNat d) x).get (.ofNat d) = some y := hy
        rw [get_put, if_pos rfl] at hy2
        cases hy2
        refine hst.tm d x ?_
        rw [hdd]
        show (t1.put (Pt.ofNat d) x).get _ = _
        rw [get_put, if_pos rfl]
      · refine hst.tm d y ?_
        have : (putO t1 j.dst x).get (.ofNat d) = t1.get (.ofNat d) := by
          cases hjd : j.dst with
          | none => rfl
          | some p => show (t1.put p x).get _ = _; rw [get_put, if_neg (fun e => hdd (by rw [hjd, e]))]
        rw [this, (htk (.ofNat d)).2 fun i' j' h1 h2 => add_true (hall i' j' h1 h2) (fun e => by subst e; rw [hj] at h1; cases h1; exact hdd h2)]
        exact hy
    tm0 := fun d y ⟨i', j', h1, h2, h3⟩ hy => by
      obtain ⟨hne, hS⟩ := add_false h3
      refine hst.tm d y ?_
      have : (putO t1 j.dst x).get (.ofNat d) = t1.get (.ofNat d) := by
        cases hjd : j.dst with
        | none => rfl
        | some p => show (t1.put p x).get _ = _; rw [get_put, if_neg (fun e => hne (F.uniq i' i j' j _ h1 hj h2 (by rw [hjd, e])))]
      rw [this, (htk (.ofNat d)).1 ⟨i', j', h1, h2, hS⟩]
      exact hy
    lt := hst.hp.lt
    fresh := hst.hp.fresh
    resv := fun k h1 h2 h3 => by
      cases h : φ' (st k).na with
      | none => rfl
      | some p =>
        have h4 := hback k p h1 h3 h
        rw [R.resv k h1 (add_false h2).2 h3] at h4; cases h4
    old := hst.hp.obj
    new := fun k o b s h1 h2 h3 h4 h5 h6 => by
      have hS := hnew k h1 h2 h3 h4
      have h7 := hback k _ h1 h2 h5
      exact (R.new k o b s h1 h2 hS (by omega) h7 h6).mono hs.ex (hs.kept.block b (R.lt _ b s h7) (hapart k b s h1 h2 hS h4 h7))
    inj := fun id id' b s s' h1 h2 h3 h4 => by
      have cross : ∀ id b s k s', φ' id = some (b, s) → ((st (i + 1)).h.get id).isSome = true → k < js.length → Made st k → add S i k = true → i + 1 ≤ k → φ' (st k).na = some (b, s') → False := fun id b s k s' g1 g2 g3 g4 g5 g6 g7 => by
        have hS := hnew k g3 g4 g5 g6
        have g8 := hback k _ g3 g4 g7
        rcases hs.mine b ⟨id, s, g1, g2⟩ with g9 | g9
        · have := R.lt _ _ _ g8; omega
        · exact hapart k b s' g3 g4 hS g6 g8 g9
      rcases h3 with h3 | ⟨k, k1, k2, k3, k4, k5⟩
      · rcases h4 with h4 | ⟨k, k1, k2, k3, k4, k5⟩
        · exact hst.hp.inj id id' b s s' h1 h2 h3 h4
        · subst k5; exact (cross id b s k s' h1 h3 k1 k2 k3 k4 h2).elim
      · rcases h4 with h4 | ⟨k', l1, l2, l3, l4, l5⟩
        · subst k5; exact (cross id' b s' k s h2 h4 k1 k2 k3 k4 h1).elim
        · subst k5; subst l5
          exact R.inj _ _ b s s' (hback k _ k1 k2 h1) (hback k' _ l1 l2 h2) (.inr ⟨k, k1, k2, hnew k k1 k2 k3 k4, by omega, rfl⟩) (.inr ⟨k', l1, l2, hnew k' l1 l2 l3 l4, by omega, rfl⟩)
    ex := R.ex.trans hs.ex
    nw := fun id p h1 => by
      rcases hs.new id p h1 with h2 | h2
      · exact R.nw id p h2
      · have := R.le; rw [hnn] at h2; exact .inr (by omega)
    kept := ⟨hs.kept.os.trans R.kept.os, hs.kept.tape.trans R.kept.tape, hs.kept.output.trans R.kept.output, Nat.le_trans R.kept.size hs.kept.size, fun k hk hl => by
      rw [hs.kept.block k (Nat.lt_of_lt_of_le hk R.kept.size) fun ⟨id, s, h1, h2⟩ => ?_]
      · exact R.kept.block k hk hl
      · rcases R.mine id k s h1 (hal0 id _ h1 h2) with h3 | h3
        · omega
        · exact hl h3⟩
    mine := fun id b s h1 h2 => by
      rcases h2 with h2 | ⟨k, k1, k2, k3, k4, k5⟩
      · rcases hs.mine b ⟨id, s, h1, h2⟩ with h3 | ⟨id', s', h3, h4⟩
        · exact .inl (Nat.le_trans R.kept.size h3)
        · exact R.mine id' b s' h3 (hal0 id' _ h3 h4)
      · subst k5
        exact R.mine _ b s (hback k _ k1 k2 h1) (.inr ⟨k, k1, k2, hnew k k1 k2 k3 k4, by omega, rfl⟩)
    domq := fun id o h1 => by
      rcases hs.grow id o h1 with h2 | h2
      · obtain ⟨o', h3⟩ := Option.isSome_iff_exists.1 h2
        rcases T.hh i (by omega) id o' h3 with h4 | ⟨k, h4, h5, h6, h7, _⟩
        · rw [← hq] at h4
          rcases R.domq id o' h4 with h5 | ⟨k, k1, k2, k3, k4⟩ | h5
          · exact .inl h5
          · exact .inr (.inl ⟨k, by omega, k2, k3, k4⟩)
          · exact .inr (.inr h5)
        · exact .inr (.inl ⟨k, by omega, by omega, h6, h7⟩)
      · have := R.le; rw [hnn] at h2; exact .inr (.inr (by omega))
    dlt := hst.hp.dom
    le := by have h1 := R.le; have h2 := hs.le; rw [hnn] at h2; omega
    cur := fun k j' h1 h2 => by
      rcases Nat.lt_trichotomy k i with h3 | h3 | h3
      · rw [add_ne (by omega)]
        have h4 : S k = true := r.anc (F.chain k i j' j h1 hj h2 hk h3)
        exact ⟨fun _ => by omega, fun _ => h4⟩
      · subst h3; rw [add_self]; exact ⟨fun _ => by omega, fun _ => rfl⟩
      · rw [add_ne (by omega)]
        refine ⟨fun h4 => (r.noDesc h4 (F.chain i k j j' hj h1 hk h2 h3)).elim, fun h4 => by omega⟩
    curq := ⟨by omega, .inr ⟨j, by simpa using hj, hk⟩⟩ }
end
end Go.Ex
