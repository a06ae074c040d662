/- Regions of any order. Nothing here speaks of one program. -/
import Derived.Test.YtnnohkbgjdmjdaaGreatEx19
set_option linter.unusedVariables false
set_option linter.unusedSimpArgs false
namespace Go.Ex

theorem cJ_fine {tab : Tab} {eqs : List (TypeId × List IntKind)} {nt : Nat} {ops : Array Oper} {o : Oper} : (cJ tab eqs nt ops o).fine := by
  unfold cJ
  split
  · rename_i j1 h1
    unfold cJ1 at h1
    split at h1
    · exact (cJ0_dst h1).1
    · split at h1
      · rename_i g j0 hq h0
        obtain ⟨g1, g2, g3⟩ := cJ0_dst h0
        split at h1
        · rename_i d hd
          cases hb : (Nat.blt g nt && Nat.blt d nt) with
          | false => rw [hb] at h1; cases h1
          | true => rw [hb] at h1; cases h1; exact ⟨by rw [g2, hd]; rfl, g1⟩
        · rename_i hd
          cases hb : Nat.blt g nt with
          | false => rw [hb] at h1; cases h1
          | true => rw [hb] at h1; cases h1; exact ⟨by rw [g2, hd]; rfl, g1⟩
      · cases h1
  · trivial

theorem eff_a {call : CallT} {t : T X} {h : H} {n : Pt} {d : Pt} {i : IA} {x : X} {h' : H} {n' : Pt} (he : Eff call t h n (.a d i) x h' n') : n' = n.inc := by
  generalize hj : J.a d i = j at he
  cases he with
  | a => rfl
  | _ => cases hj

section
variable {nt : Nat} {P : Program} {tab : Tab} {eqs : List (TypeId × List IntKind)} {call : CallT} {ops : Array Oper} {js : List J} {al : List (List Nat)} {st : Nat → DS} {φ0 : Pl} {h0 : H} {n0 : Pt} {w0 : World} {S : Nat → Bool} {q : Nat} {φ : Pl} {a : Act} {w : World}

theorem rs_step (ht : TabOk P tab) (hq : EqsOk P eqs) (hcall : CallOk P call) (hjs : ∀ (i : Nat) (o : Oper), ops[i]? = some o → js[i]? = some (cJ tab eqs nt ops o)) (F : SF ops js al) (T : Tr call js st h0 n0) (h00 : ∀ id o, h0.get id = some o → id.num < n0.num)
    (C : ∀ (i : Nat) (j : J), js[i]? = some j → Chk call (st js.length).hs (j, (al[i]?).getD []) (st i) (st (i + 1))) (R : RS nt js st φ0 h0 n0 w0 S q φ a w) {i : Nat} (r : Rdy ops S i) {o : Oper} (ho : ops[i]? = some o)
    (K : Act → World → Prop) (Q : Exit → Act → World → Prop) (hK : ∀ q' φ' a' w', RS nt js st φ0 h0 n0 w0 (add S i) q' φ' a' w' → K a' w') : wpOp P ops Q i K a w := by
  have hj := hjs i o ho
  have hi : i < js.length := (List.getElem?_eq_some_iff.1 hj).1
  have hji : js[i] = cJ tab eqs nt ops o := by rw [List.getElem?_eq_getElem hi] at hj; exact Option.some.inj hj
  obtain ⟨t1, htk⟩ := known js (st js.length).t (st 0).t S
  have hdone : ∀ p, (∀ i j, js[i]? = some j → j.dst = some p → S i = true) ∨ ∃ i j, js[i]? = some j ∧ j.dst = some p ∧ S i = false := fun p => by
    by_cases h : ∃ i j, js[i]? = some j ∧ j.dst = some p ∧ S i = false
    · exact .inr h
    · refine .inl fun i' j' h1 h2 => ?_
      cases hS : S i' with
      | true => rfl
      | false => exact absurd ⟨i', j', h1, h2, hS⟩ h
  have htm : TmR φ t1 a := fun d x hx => by
    rcases hdone (.ofNat d) with hall | hex
    · rw [(htk (.ofNat d)).2 hall] at hx
      exact R.tm d x hall hx
    · rw [(htk (.ofNat d)).1 hex] at hx
      exact R.tm0 d x hex hx
  -- what an operand held, whatever has come since
  have hboth : ∀ p ∈ (cJ tab eqs nt ops o).uses, t1.get p = (st i).t.get p ∧ t1.get p = (st (i + 1)).t.get p := fun p hp => by
    rcases hdone p with hall | ⟨i', j', h1, h2, h3⟩
    · have hw : ∀ i' j', js[i']? = some j' → j'.dst = some p → i' < i := fun i' j' h1 h2 => by
        rcases F.reads i _ p hj hp i' j' h1 h2 with g | ⟨_, g⟩
        · exact g.1
        · exact (r.noDesc (hall i' j' h1 h2) g).elim
      rw [(htk p).2 hall]
      exact ⟨T.slot js.length (by omega) (Nat.le_refl _) fun l j' g1 g2 g3 g4 => (by have := hw l j' g3 g4; omega),
        T.slot js.length (by omega) (Nat.le_refl _) fun l j' g1 g2 g3 g4 => (by have := hw l j' g3 g4; omega)⟩
    · have hw : i < i' := by
        rcases F.reads i _ p hj hp i' j' h1 h2 with ⟨_, g⟩ | g
        · rw [r.anc g] at h3; cases h3
        · exact g.1
      rw [(htk p).1 ⟨i', j', h1, h2, h3⟩]
      exact ⟨(T.slot i (Nat.zero_le _) (by omega) fun l j'' g1 g2 g3 g4 => (by have := F.uniq l i' j'' j' p g3 h1 g4 h2; omega)).symm,
        (T.slot (i + 1) (Nat.zero_le _) (by omega) fun l j'' g1 g2 g3 g4 => (by have := F.uniq l i' j'' j' p g3 h1 g4 h2; omega)).symm⟩
  have hsameF : Same (st (i + 1)).t t1 (cJ tab eqs nt ops o).uses := fun p hp => (hboth p hp).2
  have hsame : Same (st i).t t1 (cJ tab eqs nt ops o).uses := fun p hp => (hboth p hp).1
  have hD := T.go i _ hj
  generalize hs1 : st (i + 1) = s1 at hD
  cases hD with
  | val x hk he =>
    have hm : ¬ Made st i := fun h => by unfold Made at h; rw [hs1] at h; exact h rfl
    have hxt : (st (i + 1)).t = putO (st i).t (cJ tab eqs nt ops o).dst x := by rw [hs1]
    obtain ⟨_, hd, hlt, _⟩ := cJ_form rfl he
    have hk3 : (cJ tab eqs nt ops o).kind ≠ 3 := by rcases hk with hk | hk <;> omega
    rcases hk with hk | hk
    · obtain ⟨v, g1, g2⟩ := real_val (w := w) ht hq ho rfl (.inl hk) (he.same hsame) htm R.size (fun h => by omega)
      exact g2 K Q (hK q φ _ w (rs_val F T R hj hk3 hm hd hlt g1 hxt))
    · -- it looks into memory
      have main : ∀ hh, Eff call t1 hh (st q).n (cJ tab eqs nt ops o) x hh (st q).n → Hp hh (st q).n w φ → wpOp P ops Q i K a w := fun hh he' hp => by
        obtain ⟨v, g1, g2⟩ := real_val (w := w) ht hq ho rfl (.inr hk) he' htm R.size (fun _ => hp)
        exact g2 K Q (hK q φ _ w (rs_val F T R hj hk3 hm hd hlt g1 hxt))
      by_cases hqq : q = (st i).q
      · exact main _ ((he.read hk (st q).n).same hsame) (hp_text T R (by omega) hqq)
      · have hfl := in_flag F R r hj (.inl hk)
        have hc := reAll_mem ((C i _ hj).1 hk) q (st q).h (T.hs_mem R.curq.1 R.curq.2) (by simp only [hfl, beq_ff hqq]; rfl)
        -- its value on this memory is what it was
        unfold reR at hc
        cases hdst : (cJ tab eqs nt ops o).dst with
        | none => rw [hdst] at hc; cases hc
        | some d =>
          rw [hdst] at hc
          simp only at hc
          split at hc
          · rename_i x0 t2 h2 n2 hx0 hst2
            split at hc
            · rename_i y hy
              obtain ⟨y', e1, e2⟩ := step_eff cJ_fine hst2
              rw [e2, hdst] at hy
              have hy2 : ((st (i + 1)).t.put d y').get d = some y := hy
              rw [get_put, if_pos rfl] at hy2
              cases hy2
              have hyx := beqX_eq hc
              subst hyx
              -- x0 is x
              have hxx : y = x := by
                rw [hxt, hdst] at hx0
                have : ((st i).t.put d x).get d = some y := hx0
                rw [get_put, if_pos rfl] at this
                exact (Option.some.inj this).symm
              subst hxx
              obtain ⟨rfl, rfl⟩ := e1.value (.inr hk)
              exact main _ ((e1.read hk (st q).n).same hsameF) (hp_cur T R)
            · cases hc
          · cases hc
  | pass x hk he =>
    have hm : ¬ Made st i := fun h => by unfold Made at h; rw [hs1] at h; exact h rfl
    have hxt : (st (i + 1)).t = putO (st i).t (cJ tab eqs nt ops o).dst x := by rw [hs1]
    obtain ⟨_, hd, hlt, _⟩ := cJ_form rfl (he .e .z)
    obtain ⟨j0, h0', hk0, hc⟩ := cJ_comes (φ := φ) rfl ((he .e .z).same hsame) htm R.size
    rcases hc with ⟨hw, he0⟩ | ⟨hw, g1, _, _⟩
    · -- it would make a block
      exfalso
      have hk2 : j0.kind = 2 := by rw [hk0, hk]
      unfold cJ0 at h0'
      split at h0'
      · split at h0'
        · rename_i d _
          cases hb : Nat.blt d nt with
          | false => rw [hb] at h0'; cases h0'
          | true => rw [hb] at h0'; cases h0'; simp [kind_p] at hk2
        · cases h0'
      · split at h0'
        · rename_i d _
          cases hb : Nat.blt d nt with
          | false => rw [hb] at h0'; cases h0'
          | true => rw [hb] at h0'; cases h0'; simp [kind_r] at hk2
        · cases h0'
      · split at h0'
        · rename_i d _
          cases hb : Nat.blt d nt with
          | false => rw [hb] at h0'; cases h0'
          | true =>
            rw [hb] at h0'; cases h0'
            have := congrArg Pt.num (eff_a he0); rw [num_inc] at this; omega
        · cases h0'
      · split at h0'
        · rename_i d _
          cases hb : Nat.blt d nt with
          | false => rw [hb] at h0'; cases h0'
          | true => rw [hb] at h0'; cases h0'; simp [kind_w] at hk2
        · cases h0'; simp [kind_w] at hk2
      · cases h0'
    · subst g1
      unfold wpOp
      simp only [ho]
      rw [if_neg (by rw [hw]; simp)]
      exact hK q φ _ w (rs_val F T R hj (by omega) hm hd hlt (.tup [] [] rfl (fun i c v h => by simp at h)) hxt)
  | alc x ob hk he =>
    have hm : Made st i := by
      unfold Made; rw [hs1]; intro e
      have := congrArg Pt.num e
      simp only [num_inc] at this
      omega
    have hxt : (st (i + 1)).t = putO (st i).t (cJ tab eqs nt ops o).dst x := by rw [hs1]
    have hob : (st (i + 1)).h.get (st i).na = some ob := by rw [hs1]; simp [get_put]
    obtain ⟨_, hd, hlt, _⟩ := cJ_form rfl (he .e)
    obtain ⟨v, obj, s, g1, g2, g3⟩ := real_alc (w := w) ht ho rfl hk ((he .e).same hsame) htm R.size
    refine g3 K Q (hK q _ _ _ (rs_alc F T h00 R hj hk r.un hm hd hlt hob g1 g2 (fun hlate o' ho' => ?_) hxt))
    have hfl := in_flag F R r hj (.inr hk)
    have hqi := (T.qq i (by omega)).1
    have hc := reAll_mem ((C i _ hj).2 hk ob hob) q (st q).h (T.hs_mem R.curq.1 R.curq.2) (by
      simp only [hfl, Bool.true_and]
      exact Nat.ble_eq_true_of_le (show (st i).q + 1 ≤ q by omega))
    unfold reA at hc
    rw [ho'] at hc
    exact (beqO_eq hc).symm
  | wr x h' n' hk he =>
    have hii := T.ii i (by omega)
    have hxt : (st (i + 1)).t = putO (st i).t (cJ tab eqs nt ops o).dst x := by rw [hs1]
    have hqq : q = (st i).q := by
      obtain ⟨g1, g2, g3⟩ := T.qq i (by omega)
      rcases Nat.lt_trichotomy q (st i).q with h1 | h1 | h1
      · exfalso
        rcases g3 with h2 | ⟨j', h2, h3⟩
        · omega
        · have hS : S ((st i).q - 1) = true := r.anc (F.chain _ i j' _ h2 hj h3 hk (by omega))
          have := (R.cur _ j' h2 h3).1 hS
          omega
      · exact h1
      · exfalso
        rcases R.curq.2 with h2 | ⟨j', h2, h3⟩
        · omega
        · have hS := (R.cur (q - 1) j' h2 h3).2 (by omega)
          rcases Nat.lt_trichotomy (q - 1) i with h4 | h4 | h4
          · exact g2 (q - 1) j' (by omega) h4 h2 h3
          · rw [h4, r.un] at hS; cases hS
          · exact r.noDesc hS (F.chain i (q - 1) _ j' hj h2 hk h3 h4)
    have hnn : (st i).n = (st q).n := by rw [hqq]; exact T.nn i (by omega)
    have hp := hp_text T R (by omega) hqq
    rw [← hnn] at hp
    have hSt : St nt φ t1 (st i).h (st i).n a w := ⟨R.defers, R.size, htm, hp⟩
    refine real_wr ht hq hcall ho rfl (he.same hsame) hSt K Q fun a' w' φ' k1 k2 => hK (i + 1) φ' a' w' ?_
    refine rs_wr F T h00 R hj hk r hqq htk (x := x) ?_ ?_ hxt (by rw [hs1]; simp [hii])
    · rw [hs1]; exact k1
    · rw [hs1]; exact k2
end
end Go.Ex
