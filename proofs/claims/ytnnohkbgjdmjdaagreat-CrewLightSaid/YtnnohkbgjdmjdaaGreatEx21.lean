/- Regions of any order, whole. Nothing here speaks of one program. -/
import Derived.Test.YtnnohkbgjdmjdaaGreatEx20
set_option linter.unusedVariables false
set_option linter.unusedSimpArgs false
namespace Go.Ex

def cnt (S : Nat → Bool) : Nat → Nat
  | 0 => 0
  | n + 1 => cnt S n + bif S n then 0 else 1
theorem bltT {i n : Nat} (h : i < n) : Nat.blt i n = true := Nat.ble_eq_true_of_le h
theorem bltF {i n : Nat} (h : ¬ i < n) : Nat.blt i n = false := by
  cases hb : Nat.blt i n with
  | false => rfl
  | true => exact absurd (Nat.le_of_ble_eq_true hb) h
theorem cnt_add {S : Nat → Bool} {i : Nat} (hi : S i = false) : ∀ n, cnt S n = cnt (add S i) n + bif Nat.blt i n then 1 else 0 := by
  intro n
  induction n with
  | zero => rw [bltF (by omega)]; rfl
  | succ n ih =>
    simp only [cnt]
    rw [ih]
    by_cases h : n = i
    · subst h
      rw [add_self, hi, bltF (by omega), bltT (by omega)]
      simp
    · rw [add_ne h]
      by_cases h3 : i < n
      · rw [bltT h3, bltT (by omega)]; simp only [cond_true]; omega
      · rw [bltF h3, bltF (by omega)]; simp only [cond_false]; omega
theorem cnt_zero {S : Nat → Bool} : ∀ {n}, cnt S n = 0 → ∀ j, j < n → S j = true := by
  intro n
  induction n with
  | zero => intro _ j h; omega
  | succ n ih =>
    intro h j hj
    simp only [cnt] at h
    cases hS : S n with
    | false => rw [hS] at h; simp at h
    | true =>
      rw [hS] at h
      rcases Nat.lt_or_ge j n with h1 | h1
      · exact ih (by simpa using h) j h1
      · have : j = n := by omega
        rw [this]; exact hS
theorem cnt_pos {S : Nat → Bool} : ∀ {n}, cnt S n ≠ 0 → ∃ j, j < n ∧ S j = false ∧ ∀ i, i < j → S i = true := by
  intro n
  induction n with
  | zero => intro h; exact absurd rfl h
  | succ n ih =>
    intro h
    by_cases h1 : cnt S n = 0
    · have h2 := cnt_zero h1
      simp only [cnt, h1] at h
      cases hS : S n with
      | true => rw [hS] at h; simp at h
      | false => exact ⟨n, by omega, hS, h2⟩
    · obtain ⟨j, g1, g2, g3⟩ := ih h1
      exact ⟨j, by omega, g2, g3⟩

theorem mem_ready' {ops : Array Oper} {listed : Array Bool} {i : Nat} : i ∈ Region.ready .any ops listed ↔ i < ops.size ∧ listed.getD i true = false ∧ ∃ o, ops[i]? = some o ∧ ∀ e ∈ o.after, Region.binds .any e = true → listed.getD e.on false = true := by
  unfold Region.ready
  rw [List.mem_filter, List.mem_range]
  constructor
  · intro ⟨h1, h2⟩
    simp only [Bool.and_eq_true, Bool.not_eq_true'] at h2
    refine ⟨h1, h2.1, ops[i], Array.getElem?_eq_getElem h1, fun e he hb => ?_⟩
    have h3 := h2.2
    rw [Array.getElem?_eq_getElem h1] at h3
    simp only [Option.map_some, Option.getD_some] at h3
    have := Array.all_eq_true_iff_forall_mem.1 h3 e he
    simpa [hb] using this
  · intro ⟨h1, h2, o, h3, h4⟩
    refine ⟨h1, ?_⟩
    simp only [h2, h3, Bool.not_false, Bool.true_and, Option.map_some, Option.getD_some]
    refine Array.all_eq_true_iff_forall_mem.2 fun e he => ?_
    cases hb : Region.binds .any e with
    | false => rfl
    | true => simp [h4 e he hb]

section
variable {nt : Nat} {P : Program} {tab : Tab} {eqs : List (TypeId × List IntKind)} {call : CallT} {ops : Array Oper} {js : List J} {al : List (List Nat)} {st : Nat → DS} {φ0 : Pl} {h0 : H} {n0 : Pt} {w0 : World} {S : Nat → Bool} {q : Nat} {φ : Pl} {a : Act} {w : World}

theorem rs_end (F : SF ops js al) (T : Tr call js st h0 n0) (R : RS nt js st φ0 h0 n0 w0 S q φ a w) (hall : ∀ j, j < js.length → S j = true) :
    Step φ0 h0 n0 w0 φ (st js.length).h (st js.length).n w ∧ St nt φ (st js.length).t (st js.length).h (st js.length).n a w := by
  have hqq : q = (st js.length).q := by
    obtain ⟨g1, g2, g3⟩ := T.qq js.length (Nat.le_refl _)
    rcases Nat.lt_trichotomy q (st js.length).q with h1 | h1 | h1
    · exfalso
      rcases g3 with h2 | ⟨j', h2, h3⟩
      · omega
      · have hlt : (st js.length).q - 1 < js.length := (List.getElem?_eq_some_iff.1 h2).1
        have := (R.cur _ j' h2 h3).1 (hall _ hlt)
        omega
    · exact h1
    · exfalso
      rcases R.curq.2 with h2 | ⟨j', h2, h3⟩
      · omega
      · have hlt : q - 1 < js.length := (List.getElem?_eq_some_iff.1 h2).1
        exact g2 (q - 1) j' (by omega) hlt h2 h3
  have hnn : (st js.length).n = (st q).n := by rw [hqq]; exact T.nn _ (Nat.le_refl _)
  have hp := hp_text T R (Nat.le_refl _) hqq
  rw [← hnn] at hp
  refine ⟨⟨R.ex, R.nw, by have := R.le; rw [hnn]; omega, hp, R.kept, fun b ⟨id, s, h1, h2⟩ => R.mine id b s h1 (al_text T R (Nat.le_refl _) hqq h1 h2), fun id o ho => ?_⟩, ⟨R.defers, R.size, fun d x hx => R.tm d x (fun i j h1 _ => hall i (List.getElem?_eq_some_iff.1 h1).1) hx, hp⟩⟩
  rcases T.hh _ (Nat.le_refl _) id o ho with h1 | ⟨k, h1, h2, h3, h4, _⟩
  · rw [← hqq] at h1
    rcases R.domq id o h1 with h2 | ⟨k, h2, h3, h4, h5⟩ | h2
    · exact .inl h2
    · exact .inr (by rw [h5]; exact (T.made_lt h3).1)
    · exact .inr (by omega)
  · exact .inr (by rw [h4]; exact (T.made_lt h2).1)

theorem rs_any (ht : TabOk P tab) (hq : EqsOk P eqs) (hcall : CallOk P call) (hjs : ∀ (i : Nat) (o : Oper), ops[i]? = some o → js[i]? = some (cJ tab eqs nt ops o)) (F : SF ops js al) (T : Tr call js st h0 n0) (h00 : ∀ id o, h0.get id = some o → id.num < n0.num)
    (C : ∀ (i : Nat) (j : J), js[i]? = some j → Chk call (st js.length).hs (j, (al[i]?).getD []) (st i) (st (i + 1))) (Q : Exit → Act → World → Prop)
    (hQ : ∀ a' w' φ', Step φ0 h0 n0 w0 φ' (st js.length).h (st js.length).n w' → St nt φ' (st js.length).t (st js.length).h (st js.length).n a' w' → Q .normal a' w') :
    ∀ (k : Nat) (listed : Array Bool) (a : Act) (w : World) (q : Nat) (φ : Pl), listed.size = ops.size → Closed ops (fun j => listed.getD j false) → cnt (fun j => listed.getD j false) ops.size = k →
      RS nt js st φ0 h0 n0 w0 (fun j => listed.getD j false) q φ a w → wpAny P .any ops Q k listed a w := by
  intro k
  induction k with
  | zero =>
    intro listed a w q φ hsz hcl hc R
    have hall := cnt_zero hc
    refine ⟨?_, ?_⟩
    · rw [List.eq_nil_iff_forall_not_mem]
      intro i hi
      obtain ⟨h1, h2, _⟩ := mem_ready'.1 hi
      have h3 := hall i h1
      have h4 : i < listed.size := by omega
      simp [Array.getD, h4] at h2 h3
      rw [h2] at h3; cases h3
    · obtain ⟨g1, g2⟩ := rs_end F T R (fun j hj => hall j (by rw [← F.len]; exact hj))
      exact hQ a w φ g1 g2
  | succ k ih =>
    intro listed a w q φ hsz hcl hc R
    refine ⟨fun hno => ?_, fun i hi => ?_⟩
    · exfalso
      obtain ⟨j, h1, h2, h3⟩ := cnt_pos (S := fun j => listed.getD j false) (n := ops.size) (by omega)
      have : j ∈ Region.ready .any ops listed := by
        refine mem_ready'.2 ⟨h1, ?_, ops[j], Array.getElem?_eq_getElem h1, fun e he hb => h3 e.on (F.down j _ (Array.getElem?_eq_getElem h1) e he hb)⟩
        have h4 : j < listed.size := by omega
        simp [Array.getD, h4] at h2 ⊢
        exact h2
      rw [hno] at this; cases this
    · obtain ⟨h1, h2, o, h3, h4⟩ := mem_ready'.1 hi
      have hil : i < listed.size := by omega
      have hun : (fun j => listed.getD j false) i = false := by simp [Array.getD, hil] at h2 ⊢; exact h2
      have r : Rdy ops (fun j => listed.getD j false) i := ⟨hcl, hun, fun o' ho' e he hb => by rw [h3] at ho'; cases ho'; exact h4 e he hb⟩
      have hS : (fun j => (listed.setIfInBounds i true).getD j false) = add (fun j => listed.getD j false) i := by
        funext j
        by_cases hj : j = i
        · subst hj; rw [add_self]; simp [Array.getD, hil]
        · rw [add_ne hj]
          simp only [Array.getD_eq_getD_getElem?, Array.getElem?_setIfInBounds, if_neg (Ne.symm hj)]
      refine rs_step ht hq hcall hjs F T h00 C R r h3 _ Q fun q' φ' a' w' R' => ih (listed.setIfInBounds i true) a' w' q' φ' (by simp [hsz]) ?_ ?_ ?_
      · rw [hS]
        intro i' o' ho' hS' e he hb
        by_cases hii : i' = i
        · subst hii
          rw [h3] at ho'; cases ho'
          have := h4 e he hb
          by_cases heo : e.on = i'
          · rw [heo]; exact add_self _ _
          · rw [add_ne heo]; exact this
        · have := hcl i' o' ho' (add_true hS' hii) e he hb
          by_cases heo : e.on = i
          · rw [heo]; exact add_self _ _
          · rw [add_ne heo]; exact this
      · rw [hS]
        have h5 := cnt_add (S := fun j => listed.getD j false) (i := i) hun ops.size
        have h6 : Nat.blt i ops.size = true := bltT h1
        rw [h6] at h5
        simp only [cond_true] at h5
        omega
      · rw [hS]; exact R'

theorem num_skip (n : Pt) : ∀ m, (skipN n m).num = n.num + m := by
  intro m
  induction m with
  | zero => rfl
  | succ m ih => show (skipN n m).inc.num = _; rw [num_inc, ih]; omega

theorem draw_ok (ht : TabOk P tab) (hq : EqsOk P eqs) (hcall : CallOk P call) (hmx : P.follows .mixedOrders = true) {l : List (J × List Nat)} (hjs : ∀ (i : Nat) (o : Oper), ops[i]? = some o → (l.map (·.1))[i]? = some (cJ tab eqs nt ops o)) (F : SF ops (l.map (·.1)) (l.map (·.2))) {t t' : T X} {h h' : H} {n n' : Pt} {e : E}
    (hx : drawX call l.length l t h n = .go e t' h' n') (st0 : St nt φ t h n a w) (Q : Exit → Act → World → Prop) (hQ : ∀ a' w' φ', Step φ h n w φ' h' n' w' → St nt φ' t' h' n' a' w' → Q .normal a' w') (id : Nat) :
    e = .normal ∧ (Code.region id ops true).wp P Q a w := by
  unfold drawX at hx
  split at hx
  · cases hx
  · rename_i s hgo
    cases hre : drawRe call s.hs l ⟨t, h, skipN n l.length, n, 0, 0, [(0, h)]⟩ with
    | false => rw [hre] at hx; cases hx
    | true =>
      rw [hre] at hx
      cases hx
      refine ⟨rfl, wp_region_any hmx ?_⟩
      obtain ⟨st, g1, g2, g3⟩ := drawGo_tr l _ _ hgo
      have hlen : (l.map (·.1)).length = l.length := by simp
      have hfin : ∀ (i : Nat) (j : J), (l.map (·.1))[i]? = some j → j.fine := fun i j hj => by
        have hi : i < ops.size := by rw [← F.len]; exact (List.getElem?_eq_some_iff.1 hj).1
        rw [hjs i _ (Array.getElem?_eq_getElem hi)] at hj
        cases hj; exact cJ_fine
      have T : Tr call (l.map (·.1)) st h n := {
        i0 := by rw [g1]
        q0 := by rw [g1]
        h00 := by rw [g1]
        n00 := by rw [g1]; simp only [num_skip, hlen]
        na0 := by rw [g1]
        hs0 := by rw [g1]
        go := fun i j hj => by
          have hj' := hj
          rw [List.getElem?_map, Option.map_eq_some_iff] at hj'
          obtain ⟨p, hp, rfl⟩ := hj'
          exact dStep_d1 (hfin i _ hj) (g3 i p hp) }
      have hchk := drawRe_chk l _ st hre g1 g3
      have hend : st (l.map (·.1)).length = s := by rw [hlen]; exact g2
      have C : ∀ (i : Nat) (j : J), (l.map (·.1))[i]? = some j → Chk call (st (l.map (·.1)).length).hs (j, ((l.map (·.2))[i]?).getD []) (st i) (st (i + 1)) := fun i j hj => by
        rw [List.getElem?_map, Option.map_eq_some_iff] at hj
        obtain ⟨p, hp, rfl⟩ := hj
        rw [hend]
        have := hchk i p hp
        have he : ((l.map (·.2))[i]?).getD [] = p.2 := by simp [hp]
        rw [he]
        exact this
      have hS0 : (fun j => (Array.replicate ops.size false).getD j false) = fun _ => false := by
        funext j
        by_cases hj : j < ops.size
        · simp [Array.getD, hj]
        · simp [Array.getD, hj]
      have hcnt : ∀ n, cnt (fun _ => false) n = n := by
        intro n
        induction n with
        | zero => rfl
        | succ n ih => simp only [cnt, ih]; rfl
      refine rs_any (φ0 := φ) (h0 := h) (n0 := n) (w0 := w) ht hq hcall hjs F T st0.hp.dom C Q (fun a' w' φ' k1 k2 => hQ a' w' φ' (by rw [← hend]; exact k1) (by rw [← hend]; exact k2)) ops.size (Array.replicate ops.size false) a _ 0 φ (by simp) ?_ ?_ ?_
      · rw [hS0]; intro i o _ h1; cases h1
      · rw [hS0]; exact hcnt _
      · rw [hS0]
        have hd := st0.hp.drew
        have hn0 : (st 0).n.num = n.num + (l.map (·.1)).length := T.n00
        exact {
          defers := st0.defers
          size := st0.size
          tm := fun d x hall hx => by
            have hs := T.slot (i := 0) (p := .ofNat d) (l.map (·.1)).length (Nat.zero_le _) (Nat.le_refl _) fun k j _ _ h3 h4 => by have := hall k j h3 h4; cases this
            rw [hs, g1] at hx
            exact st0.tm d x hx
          tm0 := fun d x _ hx => by rw [g1] at hx; exact st0.tm d x hx
          lt := st0.hp.lt
          fresh := fun id p h1 => by have := st0.hp.fresh id p h1; omega
          resv := fun i h1 _ _ => st0.hp.none (T.na i (by omega)).1
          old := fun id b s o h1 h2 => by rw [T.h00] at h2; exact hd.obj id b s o h1 h2
          new := fun i o b s _ _ h3 => by cases h3
          inj := fun id id' b s s' h1 h2 h3 h4 => by
            have f : ∀ id, Al (l.map (·.1)) st (fun _ => false) 0 id → (h.get id).isSome = true := fun id h => by
              rcases h with h | ⟨_, _, _, h, _⟩
              · rw [T.h00] at h; exact h
              · cases h
            exact st0.hp.inj id id' b s s' h1 h2 (f id h3) (f id' h4)
          ex := Ex.refl _
          nw := fun _ _ h => .inl h
          kept := (Kept.refl _ _).drew
          mine := fun id b s h1 h2 => by
            rcases h2 with h2 | ⟨_, _, _, h2, _⟩
            · rw [T.h00] at h2; exact .inr ⟨id, s, h1, h2⟩
            · cases h2
          domq := fun id o h1 => by rw [T.h00] at h1; exact .inl (by rw [h1]; rfl)
          dlt := fun id o h1 => by rw [T.h00] at h1; have := st0.hp.dom id o h1; omega
          le := by omega
          cur := fun i j _ _ => ⟨fun h => (by cases h), fun h => (by omega)⟩
          curq := ⟨Nat.zero_le _, .inl rfl⟩ }
end
end Go.Ex
