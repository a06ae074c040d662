/- Z2. -/
import Derived.Test.YtelenedgaoglaaaGreatDoorZ1
set_option linter.unusedSimpArgs false
set_option linter.unusedVariables false
namespace Go.Proofs.YtelenedgaoglaaaGreatDoor
open Go.Ab
open Go.Pil
def cwB (p : Plw) (w : List Sp) (l x : List Int) : Bool := (List.range x.length).all fun k => fitB p w l x k
def cwE (p : Plw) (w : List Sp) (l x : List Int) (e : Int) : Int := if e ≠ 0 then e else if x.length ≠ l.length then 32 else if cwB p w l x = true then 0 else 32
theorem fit_bd {p : Plw} (hp : OkP p) {w l x} {k : Nat} (h : fitB p w l x k = true) : 0 ≤ x.getD k 0 ∧ x.getD k 0 ≤ 65536 := by
  have h1 := hasS_iff.1 h
  have h2 := hp.allow_in ((k : Nat) : Int).toNat (l.getD k 0)
  unfold reachP at h1
  by_cases hk : ((k : Nat) : Int) = 0
  · rw [if_pos hk] at h1; simp only [Sp.Has] at h1; omega
  · rw [if_neg hk] at h1; simp only [Sp.Has, Sp.meet] at h1; omega
theorem cwB_yes {p w l x} (h : ∀ k, k < x.length → fitB p w l x k = true) : cwB p w l x = true := List.all_eq_true.2 fun k hk => h k (List.mem_range.1 hk)
theorem cwB_no {p w l x} {k : Nat} (hk : k < x.length) (h : fitB p w l x k = false) : ¬ cwB p w l x = true := fun hc => by
  have := List.all_eq_true.1 hc k (List.mem_range.2 hk)
  rw [h] at this; cases this
set_option maxRecDepth 20000 in
theorem CheckWitness_ok (p : Plw) (w : List Sp) (l x : List Int) (hw1 : w.length ≤ 9223372036854775807) (hl1 : l.length ≤ 9223372036854775807) (he : okP p = true) (hq : okW p w = true) : FSpec Tryz.prog 31 [.agg (eP p), .sl (sps w), .sl (ints l), .sl (ints x)] (I (cwE p w l x (caseE p l))) (none) := by
  refine FSpec.of_body Tryz.func31 rfl (leB rfl) fun w0 M0 => ?_
  have hil := ints_len l
  have hix := ints_len x
  refine AWP.seq ?_
  refine AWP.region ?_
  refine AOps.call (o_box _ rfl rfl rfl) ?_
  refine AOps.call (o_assign _ rfl rfl) ?_
  refine AOps.nil ?_
  refine AWP.seq ?_
  refine AWP.region ?_
  refine AOps.call (o_loadRef _ rfl rfl Tryz.sizeOf24 Tryz.isAgg24 rfl rfl rfl) ?_
  refine AOps.call (o_move _ rfl rfl) ?_
  refine AOps.call (o_move _ rfl rfl) ?_
  refine AOps.call (o_call (readCase_ok p w l hw1 hl1 he hq) Tryz.call69 rfl rfl) ?_
  refine AOps.call (o_move _ rfl rfl) ?_
  refine AOps.call (o_extract _ rfl rfl rfl rfl) ?_
  refine AOps.call (o_extract _ rfl rfl rfl rfl) ?_
  refine AOps.call (o_alloc ze91 rfl rfl) ?_
  refine AOps.cons (o_store _ _ rfl rfl Tryz.sizeOf91 rfl rfl rfl rfl rfl) ?_
  refine AOps.call (o_assign _ rfl rfl) ?_
  refine AOps.nil ?_
  refine AWP.seq ?_
  refine AWP.seq ?_
  refine AWP.region ?_
  refine AOps.call (o_move _ rfl rfl) ?_
  refine AOps.call (o_bin _ _ rfl rfl (fun _ => rfl) rfl) ?_
  refine AOps.nil ?_
  refine AWP.cond _ rfl (fun h11 => ?_) (fun h11 => ?_)
  · skip
    have hne : caseE p l ≠ 0 := by simpa using h11
    have hE : cwE p w l x (caseE p l) = caseE p l := if_pos hne
    refine AWP.seq ?_
    refine AWP.region ?_
    refine AOps.call (o_move _ rfl rfl) ?_
    refine AOps.call (o_assign _ rfl rfl) ?_
    refine AOps.nil ?_
    refine AWP.ret ?_
    refine postQ.ret1 Tryz.results31 rfl ?_
    rw [hE]
    rfl
  · skip
    have hz : caseE p l = 0 := by simpa using h11
    obtain ⟨hp, hll, hrt⟩ := caseE_0 hz
    have h32 := hp.len
    refine AWP.skip ?_
    refine AWP.seq ?_
    refine AWP.seq ?_
    refine AWP.region ?_
    refine AOps.call (o_move _ rfl rfl) ?_
    refine AOps.call (o_len _ Tryz.underlying25 rfl rfl) ?_
    refine AOps.call (o_move _ rfl rfl) ?_
    refine AOps.call (o_len _ Tryz.underlying25 rfl rfl) ?_
    refine AOps.call (o_bin _ _ rfl rfl (fun _ => rfl) rfl) ?_
    refine AOps.nil ?_
    refine AWP.cond _ rfl (fun h17 => ?_) (fun h17 => ?_)
    · skip
      have hxn : x.length ≠ l.length := by
        have h : ¬ ((ints x).length : Int) = (ints l).length := by simpa using h17
        omega
      have hE : cwE p w l x (caseE p l) = 32 := (if_neg (by rw [hz]; decide)).trans (if_pos hxn)
      refine AWP.seq ?_
      refine AWP.region ?_
      refine AOps.call (o_assign _ rfl rfl) ?_
      refine AOps.nil ?_
      refine AWP.ret ?_
      refine postQ.ret1 Tryz.results31 rfl ?_
      rw [hE]
      rfl
    · skip
      have hxl : x.length = l.length := by
        have h : ((ints x).length : Int) = (ints l).length := by simpa using h17
        omega
      refine AWP.skip ?_
      refine AWP.seq ?_
      refine AWP.region ?_
      refine AOps.call (o_loadRef _ rfl rfl Tryz.sizeOf91 Tryz.isAgg91 rfl rfl rfl) ?_
      refine AOps.call (o_move _ rfl rfl) ?_
      refine AOps.call (o_move _ rfl rfl) ?_
      refine AOps.call (o_call (possible_s p w l x) Tryz.call72 rfl rfl) ?_
      refine AOps.call (o_assign _ rfl rfl) ?_
      refine AOps.nil ?_
      refine AWP.seq ?_
      refine AWP.seq ?_
      refine AWP.region ?_
      refine AOps.call (o_move _ rfl rfl) ?_
      refine AOps.call (o_len _ Tryz.underlying25 rfl rfl) ?_
      refine AOps.call (o_move _ rfl rfl) ?_
      refine AOps.nil ?_
      refine AWP.block ?_
      refine AWP.loop (ι := Nat) (fun i => AS.mk' 42 [(11, .clo 100 [.rd [.sl (ints x)], .rd (eR p w), .rd [.sl (ints l)]]), (33, I (ints x).length), (34, I i)] [] [] []) (fun i => i ≤ x.length ∧ ∀ j, j < i → fitB p w l x j = true) (fun i => x.length - i) (0) (Weak.mk' rfl ⟨⟨.refl rfl, rfl⟩, ⟨⟨.refl rfl, rfl⟩, ⟨⟨.refl rfl, rfl⟩, trivial⟩⟩⟩ trivial trivial) (⟨Nat.zero_le _, fun j h => absurd h (Nat.not_lt_zero _)⟩) ?_
      rintro k ⟨hk, hall⟩
      try dsimp only at *
      refine AWP.seq ?_
      refine AWP.region ?_
      refine AOps.call (o_bin _ _ rfl rfl (fun _ => rfl) rfl) ?_
      refine AOps.nil ?_
      refine AWP.seq ?_
      refine AWP.cond _ rfl (fun h27 => ?_) (fun h27 => ?_)
      · skip
        have hlt : k < x.length := by have := of_decide_eq_true h27; omega
        refine AWP.skip ?_
        refine AWP.seq ?_
        refine AWP.block ?_
        refine AWP.seq ?_
        refine AWP.region ?_
        refine AOps.call (o_move _ rfl rfl) ?_
        refine AOps.call (o_assign _ rfl rfl) ?_
        refine AOps.nil ?_
        refine AWP.seq ?_
        refine AWP.region ?_
        refine AOps.call (o_move _ rfl rfl) ?_
        refine AOps.call (o_move _ rfl rfl) ?_
        refine AOps.call (o_callV (cl := [I k]) (ccl := [.rd [.sl (ints x)], .rd (eR p w), .rd [.sl (ints l)]]) _ rfl (possible1_s p w l x hp hq hll hxl k (by omega) (fun h => fit_bd hp (hall (k - 1) (by omega)))) Tryz.call100 rfl rfl rfl) ?_
        refine AOps.call (o_un _ rfl (fun _ => rfl) rfl) ?_
        refine AOps.nil ?_
        refine AWP.cond _ rfl (fun h30 => ?_) (fun h30 => ?_)
        · skip
          have hfit : fitB p w l x k = false := by simpa using h30
          have hE : cwE p w l x (caseE p l) = 32 := (if_neg (by rw [hz]; decide)).trans ((if_neg (fun h => h hxl)).trans (if_neg (cwB_no hlt hfit)))
          refine AWP.seq ?_
          refine AWP.region ?_
          refine AOps.call (o_assign _ rfl rfl) ?_
          refine AOps.nil ?_
          refine AWP.ret ?_
          refine postQ.ret1 Tryz.results31 rfl ?_
          rw [hE]
          rfl
        · skip
          have hfit : fitB p w l x k = true := by simpa using h30
          refine AWP.skip ?_
          refine AWP.region ?_
          refine AOps.call (o_add _ _ rfl rfl ⟨by (try dsimp only); omega, by (try dsimp only); omega⟩ rfl) ?_
          refine AOps.call (o_move _ rfl rfl) ?_
          refine AOps.nil ?_
          refine ⟨k + 1, ?_, (Weak.mk' rfl ⟨⟨.refl rfl, rfl⟩, ⟨⟨.refl rfl, rfl⟩, ⟨⟨.refl rfl, rfl⟩, trivial⟩⟩⟩ trivial trivial)⟩
          refine ⟨⟨by omega, fun j hj => ?_⟩, by omega⟩
          by_cases e : j = k
          · subst e; exact hfit
          · exact hall j (by omega)
      · skip
        have hkl : k = x.length := by have := of_decide_eq_false h27; omega
        subst hkl
        have hE : cwE p w l x (caseE p l) = 0 := (if_neg (by rw [hz]; decide)).trans ((if_neg (fun h => h hxl)).trans (if_pos (cwB_yes hall)))
        refine AWP.exit ?_
        refine AWP.seq ?_
        refine AWP.region ?_
        refine AOps.call (o_assign _ rfl rfl) ?_
        refine AOps.nil ?_
        refine AWP.ret ?_
        refine postQ.ret1 Tryz.results31 rfl ?_
        rw [hE]
        rfl
set_option maxRecDepth 20000 in
theorem CheckWitness_log (p : Plw) (w : List Sp) (l x : List Int) (hw1 : w.length ≤ 9223372036854775807) (hl1 : l.length ≤ 9223372036854775807) (he : okP p = false) : FSpec Tryz.prog 31 [.agg (eP p), .sl (sps w), .sl (ints l), .sl (ints x)] (I 30) (none) := by
  refine FSpec.of_body Tryz.func31 rfl (leB rfl) fun w0 M0 => ?_
  refine AWP.seq ?_
  refine AWP.region ?_
  refine AOps.call (o_box _ rfl rfl rfl) ?_
  refine AOps.call (o_assign _ rfl rfl) ?_
  refine AOps.nil ?_
  refine AWP.seq ?_
  refine AWP.region ?_
  refine AOps.call (o_loadRef _ rfl rfl Tryz.sizeOf24 Tryz.isAgg24 rfl rfl rfl) ?_
  refine AOps.call (o_move _ rfl rfl) ?_
  refine AOps.call (o_move _ rfl rfl) ?_
  refine AOps.call (o_call (readCase_log p w l hw1 hl1 he) Tryz.call69 rfl rfl) ?_
  refine AOps.call (o_move _ rfl rfl) ?_
  refine AOps.call (o_extract _ rfl rfl rfl rfl) ?_
  refine AOps.call (o_extract _ rfl rfl rfl rfl) ?_
  refine AOps.call (o_alloc ze91 rfl rfl) ?_
  refine AOps.cons (o_store _ _ rfl rfl Tryz.sizeOf91 rfl rfl rfl rfl rfl) ?_
  refine AOps.call (o_assign _ rfl rfl) ?_
  refine AOps.nil ?_
  refine AWP.seq ?_
  refine AWP.seq ?_
  refine AWP.region ?_
  refine AOps.call (o_move _ rfl rfl) ?_
  refine AOps.call (o_bin _ _ rfl rfl (fun _ => rfl) rfl) ?_
  refine AOps.nil ?_
  refine AWP.cond _ rfl (fun h11 => ?_) (fun h11 => ?_)
  · skip
    refine AWP.seq ?_
    refine AWP.region ?_
    refine AOps.call (o_move _ rfl rfl) ?_
    refine AOps.call (o_assign _ rfl rfl) ?_
    refine AOps.nil ?_
    refine AWP.ret ?_
    exact postQ.ret1 Tryz.results31 rfl rfl
  · skip
    exfalso
    exact absurd h11 (by decide)
set_option maxRecDepth 20000 in
theorem CheckWitness_arg (p : Plw) (w : List Sp) (l x : List Int) (hw1 : w.length ≤ 9223372036854775807) (hl1 : l.length ≤ 9223372036854775807) (he : okP p = true) (hq : okW p w = false) : FSpec Tryz.prog 31 [.agg (eP p), .sl (sps w), .sl (ints l), .sl (ints x)] (I 1) (none) := by
  refine FSpec.of_body Tryz.func31 rfl (leB rfl) fun w0 M0 => ?_
  refine AWP.seq ?_
  refine AWP.region ?_
  refine AOps.call (o_box _ rfl rfl rfl) ?_
  refine AOps.call (o_assign _ rfl rfl) ?_
  refine AOps.nil ?_
  refine AWP.seq ?_
  refine AWP.region ?_
  refine AOps.call (o_loadRef _ rfl rfl Tryz.sizeOf24 Tryz.isAgg24 rfl rfl rfl) ?_
  refine AOps.call (o_move _ rfl rfl) ?_
  refine AOps.call (o_move _ rfl rfl) ?_
  refine AOps.call (o_call (readCase_arg p w l hw1 hl1 he hq) Tryz.call69 rfl rfl) ?_
  refine AOps.call (o_move _ rfl rfl) ?_
  refine AOps.call (o_extract _ rfl rfl rfl rfl) ?_
  refine AOps.call (o_extract _ rfl rfl rfl rfl) ?_
  refine AOps.call (o_alloc ze91 rfl rfl) ?_
  refine AOps.cons (o_store _ _ rfl rfl Tryz.sizeOf91 rfl rfl rfl rfl rfl) ?_
  refine AOps.call (o_assign _ rfl rfl) ?_
  refine AOps.nil ?_
  refine AWP.seq ?_
  refine AWP.seq ?_
  refine AWP.region ?_
  refine AOps.call (o_move _ rfl rfl) ?_
  refine AOps.call (o_bin _ _ rfl rfl (fun _ => rfl) rfl) ?_
  refine AOps.nil ?_
  refine AWP.cond _ rfl (fun h11 => ?_) (fun h11 => ?_)
  · skip
    refine AWP.seq ?_
    refine AWP.region ?_
    refine AOps.call (o_move _ rfl rfl) ?_
    refine AOps.call (o_assign _ rfl rfl) ?_
    refine AOps.nil ?_
    refine AWP.ret ?_
    exact postQ.ret1 Tryz.results31 rfl rfl
  · skip
    exfalso
    exact absurd h11 (by decide)
theorem CheckWitness_s (p : Plw) (w : List Sp) (l x : List Int) (hw1 : w.length ≤ 9223372036854775807) (hl1 : l.length ≤ 9223372036854775807) : FSpec Tryz.prog 31 [.agg (eP p), .sl (sps w), .sl (ints l), .sl (ints x)] (I (cwE p w l x (rcE p w l))) none := by
  by_cases he : okP p = true
  · by_cases hq : okW p w = true
    · have h := CheckWitness_ok p w l x hw1 hl1 he hq
      have e : rcE p w l = caseE p l := by unfold rcE; rw [if_neg (by rw [he]; decide), if_neg (by rw [hq]; decide)]
      rw [e]; exact h
    · have h := CheckWitness_arg p w l x hw1 hl1 he (by simpa using hq)
      have e : rcE p w l = 1 := by unfold rcE; rw [if_neg (by rw [he]; decide), if_pos (by simpa using hq)]
      rw [e]; exact h
  · have h := CheckWitness_log p w l x hw1 hl1 (by simpa using he)
    have e : rcE p w l = 30 := by unfold rcE; rw [if_pos (by simpa using he)]
    rw [e]; exact h
end Go.Proofs.YtelenedgaoglaaaGreatDoor
