/- R13. -/
import Derived.Test.YtelenedgaoglaaaGreatDoorR12
set_option linter.unusedSimpArgs false
set_option linter.unusedVariables false
namespace Go.Proofs.YtelenedgaoglaaaGreatDoor
open Go.Ab
open Go.Pil
def rcE (p : Plw) (w : List Sp) (l : List Int) : Int := if okP p = false then 30 else if okW p w = false then 1 else caseE p l
theorem rcE_0 {p w l} : rcE p w l = 0 ↔ okP p = true ∧ okW p w = true ∧ l.length = p.log.length ∧ Rt (p.pb []) l := by
  unfold rcE caseE
  cases h1 : okP p <;> cases h2 : okW p w <;> simp
theorem caseE_0 {p l} (h : caseE p l = 0) : OkP p ∧ l.length = p.log.length ∧ Rt (p.pb []) l := by
  unfold caseE at h
  cases h1 : okP p with
  | false => simp [h1] at h
  | true =>
    simp only [h1, Bool.true_eq_false, if_false] at h
    by_cases h2 : l.length = p.log.length ∧ Rt (p.pb []) l
    · exact ⟨okP_iff.1 h1, h2⟩
    · rw [if_neg h2] at h; omega
theorem find_first {α : Type} {lt : α → α → Prop} {q : α → Bool} : ∀ {l : List α} {x : α}, l.Pairwise lt → x ∈ l → q x = true → (∀ y ∈ l, lt y x → q y = false) → l.find? q = some x := by
  intro l
  induction l with
  | nil => intro x _ h; cases h
  | cons y l ih =>
    intro x hp hx hq hno
    obtain ⟨h1, h2⟩ := List.pairwise_cons.1 hp
    by_cases e : y = x
    · subst e; exact List.find?_cons_of_pos hq
    · have hx' : x ∈ l := by
        rcases List.mem_cons.1 hx with h | h
        · exact absurd h.symm e
        · exact h
      rw [List.find?_cons_of_neg (by rw [hno y List.mem_cons_self (h1 x hx')]; decide)]
      exact ih h2 hx' hq fun z hz => hno z (List.mem_cons_of_mem _ hz)
def lexP (a b : Nat × Nat) : Prop := a.1 < b.1 ∨ a.1 = b.1 ∧ a.2 < b.2
theorem pairs_lex (n : Nat) : (pairs n).Pairwise lexP := by
  unfold pairs
  rw [List.pairwise_flatMap]
  refine ⟨fun i _ => ?_, ?_⟩
  · rw [List.pairwise_map]
    exact (List.pairwise_lt_range.filter _).imp fun {a b} h => .inr ⟨rfl, h⟩
  · refine List.pairwise_lt_range.imp fun {a b} h x hx y hy => ?_
    obtain ⟨k, _, rfl⟩ := List.mem_map.1 hx
    obtain ⟨j, _, rfl⟩ := List.mem_map.1 hy
    exact .inl h
theorem refute_first {p w l} {i k : Nat} (h1 : i < k) (h2 : k < l.length) (h : againstP p w l i k) (hno : ∀ a b, a < b → b < l.length → lexP (a, b) (i, k) → ¬ againstP p w l a b) : refuteP p w l = some (i, k) := by
  unfold refuteP
  refine find_first (lt := lexP) (pairs_lex _) (mem_pairs.2 ⟨h1, h2⟩) (decide_eq_true h) fun y hy hl => ?_
  obtain ⟨g1, g2⟩ := mem_pairs.1 hy
  exact decide_eq_false (hno y.1 y.2 g1 g2 hl)
theorem refute_none' {p w l} (hno : ∀ a b, a < b → b < l.length → ¬ againstP p w l a b) : refuteP p w l = none := by
  unfold refuteP
  rw [List.find?_eq_none]
  intro y hy
  obtain ⟨g1, g2⟩ := mem_pairs.1 hy
  simpa using hno y.1 y.2 g1 g2
def refA (x : Option (Nat × Nat)) : AV := match x with | none => .agg [I 0, I 0] | some (i, k) => .agg [I i, I k]
set_option maxRecDepth 20000 in
theorem Alive_ok (p : Plw) (w : List Sp) (l : List Int) (hw1 : w.length ≤ 9223372036854775807) (hl1 : l.length ≤ 9223372036854775807) (he : okP p = true) (hq : okW p w = true) : FSpec Tryz.prog 25 [.agg (eP p), .sl (sps w), .sl (ints l)] (.tup [B (decide (caseE p l = 0 ∧ aliveP p w l)), I (caseE p l)]) (none) := by
  refine FSpec.of_body Tryz.func25 rfl (leB rfl) fun w0 M0 => ?_
  refine AWP.seq ?_
  refine AWP.region ?_
  refine AOps.call (o_box _ rfl rfl rfl) ?_
  refine AOps.call (o_assign _ rfl rfl) ?_
  refine AOps.call (o_assign _ rfl rfl) ?_
  refine AOps.nil ?_
  refine AWP.seq ?_
  refine AWP.region ?_
  refine AOps.call (o_loadRef _ rfl rfl Tryz.sizeOf24 Tryz.isAgg24 rfl rfl rfl) ?_
  refine AOps.call (o_move _ rfl rfl) ?_
  refine AOps.call (o_move _ rfl rfl) ?_
  refine AOps.call (o_call (readCase_ok p w l hw1 hl1 he hq) Tryz.call69 rfl rfl) ?_
  refine AOps.call (o_move _ rfl rfl) ?_
  refine AOps.call (o_extract _ rfl rfl rfl rfl) ?_
  refine AOps.call (o_extract _ rfl rfl rfl rfl) ?_
  refine AOps.call (o_alloc ze91 rfl rfl) ?_
  refine AOps.cons (o_store _ _ rfl rfl Tryz.sizeOf91 rfl rfl rfl rfl rfl) ?_
  refine AOps.call (o_assign _ rfl rfl) ?_
  refine AOps.nil ?_
  refine AWP.seq ?_
  refine AWP.seq ?_
  refine AWP.region ?_
  refine AOps.call (o_move _ rfl rfl) ?_
  refine AOps.call (o_bin _ _ rfl rfl (fun _ => rfl) rfl) ?_
  refine AOps.nil ?_
  refine AWP.cond _ rfl (fun h11 => ?_) (fun h11 => ?_)
  · skip
    have hne : caseE p l ≠ 0 := by simpa using h11
    refine AWP.seq ?_
    refine AWP.region ?_
    refine AOps.call (o_move _ rfl rfl) ?_
    refine AOps.call (o_assign _ rfl rfl) ?_
    refine AOps.call (o_assign _ rfl rfl) ?_
    refine AOps.nil ?_
    refine AWP.ret ?_
    refine postQ.ret2 Tryz.results25 rfl rfl ?_
    first
    | (rw [decide_eq_false (fun h => hne h.1)]; rfl)
    | (simp only [hz, true_and]; rfl)
  · skip
    have hz : caseE p l = 0 := by simpa using h11
    obtain ⟨hp, hll, hrt⟩ := caseE_0 hz
    refine AWP.skip ?_
    refine AWP.seq ?_
    refine AWP.region ?_
    refine AOps.call (o_loadRef _ rfl rfl Tryz.sizeOf91 Tryz.isAgg91 rfl rfl rfl) ?_
    refine AOps.call (o_move _ rfl rfl) ?_
    refine AOps.call (o_call (loads_s p w l hp hq hll) Tryz.call70 rfl rfl) ?_
    refine AOps.call (o_move _ rfl rfl) ?_
    refine AOps.call (o_extract _ rfl rfl rfl rfl) ?_
    refine AOps.call (o_extract _ rfl rfl rfl rfl) ?_
    refine AOps.call (o_assign _ rfl rfl) ?_
    refine AOps.call (o_assign _ rfl rfl) ?_
    refine AOps.nil ?_
    refine AWP.seq ?_
    refine AWP.region ?_
    refine AOps.call (o_move _ rfl rfl) ?_
    refine AOps.call (o_assign _ rfl rfl) ?_
    refine AOps.call (o_assign _ rfl rfl) ?_
    refine AOps.nil ?_
    refine AWP.ret ?_
    refine postQ.ret2 Tryz.results25 rfl rfl ?_
    first
    | (rw [decide_eq_false (fun h => hne h.1)]; rfl)
    | (simp only [hz, true_and]; rfl)
set_option maxRecDepth 20000 in
theorem Alive_log (p : Plw) (w : List Sp) (l : List Int) (hw1 : w.length ≤ 9223372036854775807) (hl1 : l.length ≤ 9223372036854775807) (he : okP p = false) : FSpec Tryz.prog 25 [.agg (eP p), .sl (sps w), .sl (ints l)] (.tup [B false, I 30]) (none) := by
  refine FSpec.of_body Tryz.func25 rfl (leB rfl) fun w0 M0 => ?_
  refine AWP.seq ?_
  refine AWP.region ?_
  refine AOps.call (o_box _ rfl rfl rfl) ?_
  refine AOps.call (o_assign _ rfl rfl) ?_
  refine AOps.call (o_assign _ rfl rfl) ?_
  refine AOps.nil ?_
  refine AWP.seq ?_
  refine AWP.region ?_
  refine AOps.call (o_loadRef _ rfl rfl Tryz.sizeOf24 Tryz.isAgg24 rfl rfl rfl) ?_
  refine AOps.call (o_move _ rfl rfl) ?_
  refine AOps.call (o_move _ rfl rfl) ?_
  refine AOps.call (o_call (readCase_log p w l hw1 hl1 he) Tryz.call69 rfl rfl) ?_
  refine AOps.call (o_move _ rfl rfl) ?_
  refine AOps.call (o_extract _ rfl rfl rfl rfl) ?_
  refine AOps.call (o_extract _ rfl rfl rfl rfl) ?_
  refine AOps.call (o_alloc ze91 rfl rfl) ?_
  refine AOps.cons (o_store _ _ rfl rfl Tryz.sizeOf91 rfl rfl rfl rfl rfl) ?_
  refine AOps.call (o_assign _ rfl rfl) ?_
  refine AOps.nil ?_
  refine AWP.seq ?_
  refine AWP.seq ?_
  refine AWP.region ?_
  refine AOps.call (o_move _ rfl rfl) ?_
  refine AOps.call (o_bin _ _ rfl rfl (fun _ => rfl) rfl) ?_
  refine AOps.nil ?_
  refine AWP.cond _ rfl (fun h11 => ?_) (fun h11 => ?_)
  · skip
    refine AWP.seq ?_
    refine AWP.region ?_
    refine AOps.call (o_move _ rfl rfl) ?_
    refine AOps.call (o_assign _ rfl rfl) ?_
    refine AOps.call (o_assign _ rfl rfl) ?_
    refine AOps.nil ?_
    refine AWP.ret ?_
    exact postQ.ret2 Tryz.results25 rfl rfl rfl
  · skip
    exfalso
    exact absurd h11 (by decide)
set_option maxRecDepth 20000 in
theorem Alive_arg (p : Plw) (w : List Sp) (l : List Int) (hw1 : w.length ≤ 9223372036854775807) (hl1 : l.length ≤ 9223372036854775807) (he : okP p = true) (hq : okW p w = false) : FSpec Tryz.prog 25 [.agg (eP p), .sl (sps w), .sl (ints l)] (.tup [B false, I 1]) (none) := by
  refine FSpec.of_body Tryz.func25 rfl (leB rfl) fun w0 M0 => ?_
  refine AWP.seq ?_
  refine AWP.region ?_
  refine AOps.call (o_box _ rfl rfl rfl) ?_
  refine AOps.call (o_assign _ rfl rfl) ?_
  refine AOps.call (o_assign _ rfl rfl) ?_
  refine AOps.nil ?_
  refine AWP.seq ?_
  refine AWP.region ?_
  refine AOps.call (o_loadRef _ rfl rfl Tryz.sizeOf24 Tryz.isAgg24 rfl rfl rfl) ?_
  refine AOps.call (o_move _ rfl rfl) ?_
  refine AOps.call (o_move _ rfl rfl) ?_
  refine AOps.call (o_call (readCase_arg p w l hw1 hl1 he hq) Tryz.call69 rfl rfl) ?_
  refine AOps.call (o_move _ rfl rfl) ?_
  refine AOps.call (o_extract _ rfl rfl rfl rfl) ?_
  refine AOps.call (o_extract _ rfl rfl rfl rfl) ?_
  refine AOps.call (o_alloc ze91 rfl rfl) ?_
  refine AOps.cons (o_store _ _ rfl rfl Tryz.sizeOf91 rfl rfl rfl rfl rfl) ?_
  refine AOps.call (o_assign _ rfl rfl) ?_
  refine AOps.nil ?_
  refine AWP.seq ?_
  refine AWP.seq ?_
  refine AWP.region ?_
  refine AOps.call (o_move _ rfl rfl) ?_
  refine AOps.call (o_bin _ _ rfl rfl (fun _ => rfl) rfl) ?_
  refine AOps.nil ?_
  refine AWP.cond _ rfl (fun h11 => ?_) (fun h11 => ?_)
  · skip
    refine AWP.seq ?_
    refine AWP.region ?_
    refine AOps.call (o_move _ rfl rfl) ?_
    refine AOps.call (o_assign _ rfl rfl) ?_
    refine AOps.call (o_assign _ rfl rfl) ?_
    refine AOps.nil ?_
    refine AWP.ret ?_
    exact postQ.ret2 Tryz.results25 rfl rfl rfl
  · skip
    exfalso
    exact absurd h11 (by decide)
theorem Alive_s (p : Plw) (w : List Sp) (l : List Int) (hw1 : w.length ≤ 9223372036854775807) (hl1 : l.length ≤ 9223372036854775807) : FSpec Tryz.prog 25 [.agg (eP p), .sl (sps w), .sl (ints l)] (.tup [B (decide (rcE p w l = 0 ∧ aliveP p w l)), I (rcE p w l)]) none := by
  by_cases he : okP p = true
  · by_cases hq : okW p w = true
    · have h := Alive_ok p w l hw1 hl1 he hq
      have e : rcE p w l = caseE p l := by unfold rcE; rw [if_neg (by rw [he]; decide), if_neg (by rw [hq]; decide)]
      rw [e]; exact h
    · have h := Alive_arg p w l hw1 hl1 he (by simpa using hq)
      have e : rcE p w l = 1 := by unfold rcE; rw [if_neg (by rw [he]; decide), if_pos (by simpa using hq)]
      rw [e]; rw [decide_eq_false (fun h => absurd h.1 (by decide))]; exact h
  · have h := Alive_log p w l hw1 hl1 (by simpa using he)
    have e : rcE p w l = 30 := by unfold rcE; rw [if_pos (by simpa using he)]
    rw [e]; rw [decide_eq_false (fun h => absurd h.1 (by decide))]; exact h
def ldE (p : Plw) (w : List Sp) (l : List Int) (e : Int) : Int := if e = 0 ∧ ¬ aliveP p w l then 33 else e
def ldL (p : Plw) (w : List Sp) (l : List Int) (e : Int) : List Sp := if e = 0 ∧ aliveP p w l then endsP p w l else []
set_option maxRecDepth 20000 in
theorem Loads_ok (p : Plw) (w : List Sp) (l : List Int) (hw1 : w.length ≤ 9223372036854775807) (hl1 : l.length ≤ 9223372036854775807) (he : okP p = true) (hq : okW p w = true) : FSpec Tryz.prog 27 [.agg (eP p), .sl (sps w), .sl (ints l)] (.tup [.sl (sps (ldL p w l (caseE p l))), I (ldE p w l (caseE p l))]) (none) := by
  refine FSpec.of_body Tryz.func27 rfl (leB rfl) fun w0 M0 => ?_
  refine AWP.seq ?_
  refine AWP.region ?_
  refine AOps.call (o_box _ rfl rfl rfl) ?_
  refine AOps.call (o_nil (z := 2) (e := 54) rfl) ?_
  refine AOps.call (o_assign _ rfl rfl) ?_
  refine AOps.nil ?_
  refine AWP.seq ?_
  refine AWP.region ?_
  refine AOps.call (o_loadRef _ rfl rfl Tryz.sizeOf24 Tryz.isAgg24 rfl rfl rfl) ?_
  refine AOps.call (o_move _ rfl rfl) ?_
  refine AOps.call (o_move _ rfl rfl) ?_
  refine AOps.call (o_call (readCase_ok p w l hw1 hl1 he hq) Tryz.call69 rfl rfl) ?_
  refine AOps.call (o_move _ rfl rfl) ?_
  refine AOps.call (o_extract _ rfl rfl rfl rfl) ?_
  refine AOps.call (o_extract _ rfl rfl rfl rfl) ?_
  refine AOps.call (o_alloc ze91 rfl rfl) ?_
  refine AOps.cons (o_store _ _ rfl rfl Tryz.sizeOf91 rfl rfl rfl rfl rfl) ?_
  refine AOps.call (o_assign _ rfl rfl) ?_
  refine AOps.nil ?_
  refine AWP.seq ?_
  refine AWP.seq ?_
  refine AWP.region ?_
  refine AOps.call (o_move _ rfl rfl) ?_
  refine AOps.call (o_bin _ _ rfl rfl (fun _ => rfl) rfl) ?_
  refine AOps.nil ?_
  refine AWP.cond _ rfl (fun h12 => ?_) (fun h12 => ?_)
  · skip
    have hne : caseE p l ≠ 0 := by simpa using h12
    refine AWP.seq ?_
    refine AWP.region ?_
    refine AOps.call (o_move _ rfl rfl) ?_
    refine AOps.call (o_nil (z := 2) (e := 54) rfl) ?_
    refine AOps.call (o_assign _ rfl rfl) ?_
    refine AOps.nil ?_
    refine AWP.ret ?_
    refine postQ.ret2 Tryz.results27 rfl rfl ?_
    first
    | (rw [show ldL p w l (caseE p l) = [] from if_neg (fun h => hne h.1), show ldE p w l (caseE p l) = caseE p l from if_neg (fun h => hne h.1)]; rfl)
    | (rw [show ldL p w l (caseE p l) = [] from if_neg (fun h => hna h.2), show ldE p w l (caseE p l) = 33 from if_pos ⟨hz, hna⟩]; rfl)
    | (rw [show ldL p w l (caseE p l) = endsP p w l from if_pos ⟨hz, hna⟩, show ldE p w l (caseE p l) = 0 from (if_neg (fun h => h.2 hna)).trans hz, if_pos hna]; rfl)
  · skip
    have hz : caseE p l = 0 := by simpa using h12
    obtain ⟨hp, hll, hrt⟩ := caseE_0 hz
    refine AWP.skip ?_
    refine AWP.seq ?_
    refine AWP.region ?_
    refine AOps.call (o_loadRef _ rfl rfl Tryz.sizeOf91 Tryz.isAgg91 rfl rfl rfl) ?_
    refine AOps.call (o_move _ rfl rfl) ?_
    refine AOps.call (o_call (loads_s p w l hp hq hll) Tryz.call70 rfl rfl) ?_
    refine AOps.call (o_move _ rfl rfl) ?_
    refine AOps.call (o_extract _ rfl rfl rfl rfl) ?_
    refine AOps.call (o_extract _ rfl rfl rfl rfl) ?_
    refine AOps.call (o_assign _ rfl rfl) ?_
    refine AOps.call (o_assign _ rfl rfl) ?_
    refine AOps.nil ?_
    refine AWP.seq ?_
    refine AWP.seq ?_
    refine AWP.region ?_
    refine AOps.call (o_move _ rfl rfl) ?_
    refine AOps.call (o_un _ rfl (fun _ => rfl) rfl) ?_
    refine AOps.nil ?_
    refine AWP.cond _ rfl (fun h20 => ?_) (fun h20 => ?_)
    · skip
      have hna : ¬ aliveP p w l := by simpa using h20
      refine AWP.seq ?_
      refine AWP.region ?_
      refine AOps.call (o_nil (z := 2) (e := 54) rfl) ?_
      refine AOps.call (o_assign _ rfl rfl) ?_
      refine AOps.nil ?_
      refine AWP.ret ?_
      refine postQ.ret2 Tryz.results27 rfl rfl ?_
      first
      | (rw [show ldL p w l (caseE p l) = [] from if_neg (fun h => hne h.1), show ldE p w l (caseE p l) = caseE p l from if_neg (fun h => hne h.1)]; rfl)
      | (rw [show ldL p w l (caseE p l) = [] from if_neg (fun h => hna h.2), show ldE p w l (caseE p l) = 33 from if_pos ⟨hz, hna⟩]; rfl)
      | (rw [show ldL p w l (caseE p l) = endsP p w l from if_pos ⟨hz, hna⟩, show ldE p w l (caseE p l) = 0 from (if_neg (fun h => h.2 hna)).trans hz, if_pos hna]; rfl)
    · skip
      have hna : aliveP p w l := by simpa using h20
      refine AWP.skip ?_
      refine AWP.seq ?_
      refine AWP.region ?_
      refine AOps.call (o_move _ rfl rfl) ?_
      refine AOps.call (o_assign _ rfl rfl) ?_
      refine AOps.call (o_assign _ rfl rfl) ?_
      refine AOps.nil ?_
      refine AWP.ret ?_
      refine postQ.ret2 Tryz.results27 rfl rfl ?_
      first
      | (rw [show ldL p w l (caseE p l) = [] from if_neg (fun h => hne h.1), show ldE p w l (caseE p l) = caseE p l from if_neg (fun h => hne h.1)]; rfl)
      | (rw [show ldL p w l (caseE p l) = [] from if_neg (fun h => hna h.2), show ldE p w l (caseE p l) = 33 from if_pos ⟨hz, hna⟩]; rfl)
      | (rw [show ldL p w l (caseE p l) = endsP p w l from if_pos ⟨hz, hna⟩, show ldE p w l (caseE p l) = 0 from (if_neg (fun h => h.2 hna)).trans hz, if_pos hna]; rfl)
set_option maxRecDepth 20000 in
theorem Loads_log (p : Plw) (w : List Sp) (l : List Int) (hw1 : w.length ≤ 9223372036854775807) (hl1 : l.length ≤ 9223372036854775807) (he : okP p = false) : FSpec Tryz.prog 27 [.agg (eP p), .sl (sps w), .sl (ints l)] (.tup [.sl [], I 30]) (none) := by
  refine FSpec.of_body Tryz.func27 rfl (leB rfl) fun w0 M0 => ?_
  refine AWP.seq ?_
  refine AWP.region ?_
  refine AOps.call (o_box _ rfl rfl rfl) ?_
  refine AOps.call (o_nil (z := 2) (e := 54) rfl) ?_
  refine AOps.call (o_assign _ rfl rfl) ?_
  refine AOps.nil ?_
  refine AWP.seq ?_
  refine AWP.region ?_
  refine AOps.call (o_loadRef _ rfl rfl Tryz.sizeOf24 Tryz.isAgg24 rfl rfl rfl) ?_
  refine AOps.call (o_move _ rfl rfl) ?_
  refine AOps.call (o_move _ rfl rfl) ?_
  refine AOps.call (o_call (readCase_log p w l hw1 hl1 he) Tryz.call69 rfl rfl) ?_
  refine AOps.call (o_move _ rfl rfl) ?_
  refine AOps.call (o_extract _ rfl rfl rfl rfl) ?_
  refine AOps.call (o_extract _ rfl rfl rfl rfl) ?_
  refine AOps.call (o_alloc ze91 rfl rfl) ?_
  refine AOps.cons (o_store _ _ rfl rfl Tryz.sizeOf91 rfl rfl rfl rfl rfl) ?_
  refine AOps.call (o_assign _ rfl rfl) ?_
  refine AOps.nil ?_
  refine AWP.seq ?_
  refine AWP.seq ?_
  refine AWP.region ?_
  refine AOps.call (o_move _ rfl rfl) ?_
  refine AOps.call (o_bin _ _ rfl rfl (fun _ => rfl) rfl) ?_
  refine AOps.nil ?_
  refine AWP.cond _ rfl (fun h12 => ?_) (fun h12 => ?_)
  · skip
    refine AWP.seq ?_
    refine AWP.region ?_
    refine AOps.call (o_move _ rfl rfl) ?_
    refine AOps.call (o_nil (z := 2) (e := 54) rfl) ?_
    refine AOps.call (o_assign _ rfl rfl) ?_
    refine AOps.nil ?_
    refine AWP.ret ?_
    exact postQ.ret2 Tryz.results27 rfl rfl rfl
  · skip
    exfalso
    exact absurd h12 (by decide)
set_option maxRecDepth 20000 in
theorem Loads_arg (p : Plw) (w : List Sp) (l : List Int) (hw1 : w.length ≤ 9223372036854775807) (hl1 : l.length ≤ 9223372036854775807) (he : okP p = true) (hq : okW p w = false) : FSpec Tryz.prog 27 [.agg (eP p), .sl (sps w), .sl (ints l)] (.tup [.sl [], I 1]) (none) := by
  refine FSpec.of_body Tryz.func27 rfl (leB rfl) fun w0 M0 => ?_
  refine AWP.seq ?_
  refine AWP.region ?_
  refine AOps.call (o_box _ rfl rfl rfl) ?_
  refine AOps.call (o_nil (z := 2) (e := 54) rfl) ?_
  refine AOps.call (o_assign _ rfl rfl) ?_
  refine AOps.nil ?_
  refine AWP.seq ?_
  refine AWP.region ?_
  refine AOps.call (o_loadRef _ rfl rfl Tryz.sizeOf24 Tryz.isAgg24 rfl rfl rfl) ?_
  refine AOps.call (o_move _ rfl rfl) ?_
  refine AOps.call (o_move _ rfl rfl) ?_
  refine AOps.call (o_call (readCase_arg p w l hw1 hl1 he hq) Tryz.call69 rfl rfl) ?_
  refine AOps.call (o_move _ rfl rfl) ?_
  refine AOps.call (o_extract _ rfl rfl rfl rfl) ?_
  refine AOps.call (o_extract _ rfl rfl rfl rfl) ?_
  refine AOps.call (o_alloc ze91 rfl rfl) ?_
  refine AOps.cons (o_store _ _ rfl rfl Tryz.sizeOf91 rfl rfl rfl rfl rfl) ?_
  refine AOps.call (o_assign _ rfl rfl) ?_
  refine AOps.nil ?_
  refine AWP.seq ?_
  refine AWP.seq ?_
  refine AWP.region ?_
  refine AOps.call (o_move _ rfl rfl) ?_
  refine AOps.call (o_bin _ _ rfl rfl (fun _ => rfl) rfl) ?_
  refine AOps.nil ?_
  refine AWP.cond _ rfl (fun h12 => ?_) (fun h12 => ?_)
  · skip
    refine AWP.seq ?_
    refine AWP.region ?_
    refine AOps.call (o_move _ rfl rfl) ?_
    refine AOps.call (o_nil (z := 2) (e := 54) rfl) ?_
    refine AOps.call (o_assign _ rfl rfl) ?_
    refine AOps.nil ?_
    refine AWP.ret ?_
    exact postQ.ret2 Tryz.results27 rfl rfl rfl
  · skip
    exfalso
    exact absurd h12 (by decide)
theorem Loads_s (p : Plw) (w : List Sp) (l : List Int) (hw1 : w.length ≤ 9223372036854775807) (hl1 : l.length ≤ 9223372036854775807) : FSpec Tryz.prog 27 [.agg (eP p), .sl (sps w), .sl (ints l)] (.tup [.sl (sps (ldL p w l (rcE p w l))), I (ldE p w l (rcE p w l))]) none := by
  by_cases he : okP p = true
  · by_cases hq : okW p w = true
    · have h := Loads_ok p w l hw1 hl1 he hq
      have e : rcE p w l = caseE p l := by unfold rcE; rw [if_neg (by rw [he]; decide), if_neg (by rw [hq]; decide)]
      rw [e]; exact h
    · have h := Loads_arg p w l hw1 hl1 he (by simpa using hq)
      have e : rcE p w l = 1 := by unfold rcE; rw [if_neg (by rw [he]; decide), if_pos (by simpa using hq)]
      rw [e]; unfold ldL ldE; rw [if_neg (fun h => absurd h.1 (by decide)), if_neg (fun h => absurd h.1 (by decide))]; exact h
  · have h := Loads_log p w l hw1 hl1 (by simpa using he)
    have e : rcE p w l = 30 := by unfold rcE; rw [if_pos (by simpa using he)]
    rw [e]; unfold ldL ldE; rw [if_neg (fun h => absurd h.1 (by decide)), if_neg (fun h => absurd h.1 (by decide))]; exact h
set_option maxRecDepth 20000 in
theorem Refute_ok (p : Plw) (w : List Sp) (l : List Int) (hw1 : w.length ≤ 9223372036854775807) (hl1 : l.length ≤ 9223372036854775807) (he : okP p = true) (hq : okW p w = true) : FSpec Tryz.prog 35 [.agg (eP p), .sl (sps w), .sl (ints l)] (.tup [refA (if caseE p l = 0 then refuteP p w l else none), B (decide (caseE p l = 0) && (refuteP p w l).isSome), I (caseE p l)]) (none) := by
  refine FSpec.of_body Tryz.func35 rfl (leB rfl) fun w0 M0 => ?_
  have hil := ints_len l
  refine AWP.seq ?_
  refine AWP.region ?_
  refine AOps.call (o_box _ rfl rfl rfl) ?_
  refine AOps.call (o_alloc ze56 rfl rfl) ?_
  refine AOps.call (o_assign _ rfl rfl) ?_
  refine AOps.call (o_assign _ rfl rfl) ?_
  refine AOps.nil ?_
  refine AWP.seq ?_
  refine AWP.region ?_
  refine AOps.call (o_loadRef _ rfl rfl Tryz.sizeOf24 Tryz.isAgg24 rfl rfl rfl) ?_
  refine AOps.call (o_move _ rfl rfl) ?_
  refine AOps.call (o_move _ rfl rfl) ?_
  refine AOps.call (o_call (readCase_ok p w l hw1 hl1 he hq) Tryz.call69 rfl rfl) ?_
  refine AOps.call (o_move _ rfl rfl) ?_
  refine AOps.call (o_extract _ rfl rfl rfl rfl) ?_
  refine AOps.call (o_extract _ rfl rfl rfl rfl) ?_
  refine AOps.call (o_alloc ze91 rfl rfl) ?_
  refine AOps.cons (o_store _ _ rfl rfl Tryz.sizeOf91 rfl rfl rfl rfl rfl) ?_
  refine AOps.call (o_assign _ rfl rfl) ?_
  refine AOps.nil ?_
  refine AWP.seq ?_
  refine AWP.seq ?_
  refine AWP.region ?_
  refine AOps.call (o_move _ rfl rfl) ?_
  refine AOps.call (o_bin _ _ rfl rfl (fun _ => rfl) rfl) ?_
  refine AOps.nil ?_
  refine AWP.cond _ rfl (fun h12 => ?_) (fun h12 => ?_)
  · skip
    have hne : caseE p l ≠ 0 := by simpa using h12
    refine AWP.seq ?_
    refine AWP.region ?_
    refine AOps.call (o_build bu56 rfl rfl rfl) ?_
    refine AOps.call (o_move _ rfl rfl) ?_
    refine AOps.cons (o_store _ _ rfl rfl Tryz.sizeOf56 rfl rfl rfl rfl rfl) ?_
    refine AOps.call (o_assign _ rfl rfl) ?_
    refine AOps.call (o_assign _ rfl rfl) ?_
    refine AOps.nil ?_
    refine AWP.ret ?_
    refine postQ.retC2 Tryz.results35 rfl rfl Tryz.sizeOf56 Tryz.isAgg56 rfl rfl rfl ?_
    first
    | (rw [if_neg hne, decide_eq_false hne]; rfl)
    | (rw [if_pos hz, decide_eq_true hz, hsome, hz]; rfl)
    | (rw [if_pos hz, decide_eq_true hz, hnone, hz]; rfl)
  · skip
    have hz : caseE p l = 0 := by simpa using h12
    obtain ⟨hp, hll, hrt⟩ := caseE_0 hz
    have h32 := hp.len
    refine AWP.skip ?_
    refine AWP.seq ?_
    refine AWP.region ?_
    refine AOps.call (o_loadRef _ rfl rfl Tryz.sizeOf91 Tryz.isAgg91 rfl rfl rfl) ?_
    refine AOps.call (o_move _ rfl rfl) ?_
    refine AOps.call (o_call (contradiction_s p w l) Tryz.call74 rfl rfl) ?_
    refine AOps.call (o_assign _ rfl rfl) ?_
    refine AOps.nil ?_
    refine AWP.seq ?_
    refine AWP.seq ?_
    refine AWP.region ?_
    refine AOps.call (o_move _ rfl rfl) ?_
    refine AOps.call (o_len _ Tryz.underlying25 rfl rfl) ?_
    refine AOps.call (o_move _ rfl rfl) ?_
    refine AOps.nil ?_
    refine AWP.block ?_
    refine AWP.loop (ι := Nat) (fun i => AS.mk' 50 [(2, .sl (ints l)), (6, .ref (6, 0) 0), (11, .clo 104 [.rd [.clo 102 [.rd (eR p w), .rd [.sl (ints l)]]], .rd (eR p w)]), (29, I (ints l).length), (30, I i)] [((6, 0), [I 0, I 0])] [] [(6, 1)]) (fun i => i ≤ l.length ∧ ∀ a b, a < i → a < b → b < l.length → ¬ againstP p w l a b) (fun i => l.length - i) (0) (Weak.mk' rfl ⟨⟨.refl rfl, rfl⟩, ⟨⟨.refl rfl, rfl⟩, ⟨⟨.refl rfl, rfl⟩, ⟨⟨.refl rfl, rfl⟩, ⟨⟨.refl rfl, rfl⟩, trivial⟩⟩⟩⟩⟩ ⟨⟨rfl, rfl, rfl⟩, trivial⟩ trivial) (⟨Nat.zero_le _, fun a b h => absurd h (Nat.not_lt_zero _)⟩) ?_
    rintro k ⟨hk, hno⟩
    try dsimp only at *
    refine AWP.seq ?_
    refine AWP.region ?_
    refine AOps.call (o_bin _ _ rfl rfl (fun _ => rfl) rfl) ?_
    refine AOps.nil ?_
    refine AWP.seq ?_
    refine AWP.cond _ rfl (fun h21 => ?_) (fun h21 => ?_)
    · skip
      have hlt : k < l.length := by have := of_decide_eq_true h21; omega
      refine AWP.skip ?_
      refine AWP.seq ?_
      refine AWP.block ?_
      refine AWP.seq ?_
      refine AWP.region ?_
      refine AOps.call (o_move _ rfl rfl) ?_
      refine AOps.call (o_assign _ rfl rfl) ?_
      refine AOps.nil ?_
      refine AWP.seq ?_
      refine AWP.region ?_
      refine AOps.call (o_move _ rfl rfl) ?_
      refine AOps.call (o_add _ _ rfl rfl ⟨by (try dsimp only); omega, by (try dsimp only); omega⟩ rfl) ?_
      refine AOps.call (o_assign _ rfl rfl) ?_
      refine AOps.nil ?_
      refine AWP.block ?_
      refine AWP.loop (ι := Nat) (fun i => AS.mk' 50 [(2, .sl (ints l)), (6, .ref (6, 0) 0), (11, .clo 104 [.rd [.clo 102 [.rd (eR p w), .rd [.sl (ints l)]]], .rd (eR p w)]), (12, I k), (13, I i), (29, I (ints l).length), (30, I k)] [((6, 0), [I 0, I 0])] [] [(6, 1)]) (fun i => k < i ∧ i ≤ l.length ∧ ∀ b, k < b → b < i → ¬ againstP p w l k b) (fun i => l.length - i) (k + 1) (Weak.mk' rfl ⟨⟨.refl rfl, rfl⟩, ⟨⟨.refl rfl, rfl⟩, ⟨⟨.refl rfl, rfl⟩, ⟨⟨.refl rfl, rfl⟩, ⟨⟨.refl (congrArg I (by (try dsimp only); omega)), rfl⟩, ⟨⟨.refl rfl, rfl⟩, ⟨⟨.refl rfl, rfl⟩, trivial⟩⟩⟩⟩⟩⟩⟩ ⟨⟨rfl, rfl, rfl⟩, trivial⟩ trivial) (⟨by omega, by omega, fun b h1 h2 => by omega⟩) ?_
      rintro m ⟨hm0, hm, hno2⟩
      try dsimp only at *
      refine AWP.seq ?_
      refine AWP.seq ?_
      refine AWP.region ?_
      refine AOps.call (o_move _ rfl rfl) ?_
      refine AOps.call (o_move _ rfl rfl) ?_
      refine AOps.call (o_len _ Tryz.underlying25 rfl rfl) ?_
      refine AOps.call (o_bin _ _ rfl rfl (fun _ => rfl) rfl) ?_
      refine AOps.nil ?_
      refine AWP.cond _ rfl (fun h26 => ?_) (fun h26 => ?_)
      · skip
        have hmt : m < l.length := by have := of_decide_eq_true h26; omega
        refine AWP.skip ?_
        refine AWP.seq ?_
        refine AWP.block ?_
        refine AWP.seq ?_
        refine AWP.region ?_
        refine AOps.call (o_move _ rfl rfl) ?_
        refine AOps.call (o_move _ rfl rfl) ?_
        refine AOps.call (o_move _ rfl rfl) ?_
        refine AOps.call (o_callV (cl := [I k, I m]) (ccl := [.rd [.clo 102 [.rd (eR p w), .rd [.sl (ints l)]]], .rd (eR p w)]) _ rfl (contr2_s p w l hp hq hll k m (by omega) (by omega)) Tryz.call104 rfl rfl rfl) ?_
        refine AOps.nil ?_
        refine AWP.cond _ rfl (fun h28 => ?_) (fun h28 => ?_)
        · skip
          have hag : againstP p w l k m := of_decide_eq_true h28
          have hsome : refuteP p w l = some (k, m) := refute_first hm0 hmt hag fun a b h1 h2 h3 => by
            rcases h3 with h3 | ⟨h3, h4⟩
            · exact hno a b h3 h1 h2
            · have h5 : a = k := h3
              subst h5
              exact hno2 b h1 h4
          refine AWP.seq ?_
          refine AWP.region ?_
          refine AOps.call (o_move _ rfl rfl) ?_
          refine AOps.call (o_move _ rfl rfl) ?_
          refine AOps.call (o_build bu56 rfl rfl rfl) ?_
          refine AOps.cons (o_store _ _ rfl rfl Tryz.sizeOf56 rfl rfl rfl rfl rfl) ?_
          refine AOps.call (o_assign _ rfl rfl) ?_
          refine AOps.call (o_assign _ rfl rfl) ?_
          refine AOps.nil ?_
          refine AWP.ret ?_
          refine postQ.retC2 Tryz.results35 rfl rfl Tryz.sizeOf56 Tryz.isAgg56 rfl rfl rfl ?_
          first
          | (rw [if_neg hne, decide_eq_false hne]; rfl)
          | (rw [if_pos hz, decide_eq_true hz, hsome, hz]; rfl)
          | (rw [if_pos hz, decide_eq_true hz, hnone, hz]; rfl)
        · skip
          have hnk : ¬ againstP p w l k m := of_decide_eq_false h28
          refine AWP.skip ?_
          refine AWP.region ?_
          refine AOps.call (o_move _ rfl rfl) ?_
          refine AOps.call (o_add _ _ rfl rfl ⟨by (try dsimp only); omega, by (try dsimp only); omega⟩ rfl) ?_
          refine AOps.call (o_assign _ rfl rfl) ?_
          refine AOps.nil ?_
          refine ⟨m + 1, ?_, (Weak.mk' rfl ⟨⟨.refl rfl, rfl⟩, ⟨⟨.refl rfl, rfl⟩, ⟨⟨.refl rfl, rfl⟩, ⟨⟨.refl rfl, rfl⟩, ⟨⟨.refl (congrArg I (by (try dsimp only); omega)), rfl⟩, ⟨⟨.refl rfl, rfl⟩, ⟨⟨.refl rfl, rfl⟩, trivial⟩⟩⟩⟩⟩⟩⟩ ⟨⟨rfl, rfl, rfl⟩, trivial⟩ trivial)⟩
          refine ⟨⟨by omega, by omega, fun b h1 h2 => ?_⟩, by omega⟩
          by_cases e : b = m
          · subst e; exact hnk
          · exact hno2 b h1 (by omega)
      · skip
        have hmm : m = l.length := by have := of_decide_eq_false h26; omega
        refine AWP.exit ?_
        refine AWP.region ?_
        refine AOps.call (o_add _ _ rfl rfl ⟨by (try dsimp only); omega, by (try dsimp only); omega⟩ rfl) ?_
        refine AOps.call (o_move _ rfl rfl) ?_
        refine AOps.nil ?_
        refine ⟨k + 1, ?_, (Weak.mk' rfl ⟨⟨.refl rfl, rfl⟩, ⟨⟨.refl rfl, rfl⟩, ⟨⟨.refl rfl, rfl⟩, ⟨⟨.refl rfl, rfl⟩, ⟨⟨.refl rfl, rfl⟩, trivial⟩⟩⟩⟩⟩ ⟨⟨rfl, rfl, rfl⟩, trivial⟩ trivial)⟩
        exact ⟨⟨by omega, fun a b h1 h2 h3 => by
          by_cases e : a = k
          · subst e; exact hno2 b h2 (by omega) 
          · exact hno a b (by omega) h2 h3⟩, by omega⟩
    · skip
      have hnone : refuteP p w l = none := refute_none' fun a b h1 h2 => hno a b (by have := of_decide_eq_false h21; omega) h1 h2
      refine AWP.exit ?_
      refine AWP.seq ?_
      refine AWP.region ?_
      refine AOps.call (o_build bu56 rfl rfl rfl) ?_
      refine AOps.cons (o_store _ _ rfl rfl Tryz.sizeOf56 rfl rfl rfl rfl rfl) ?_
      refine AOps.call (o_assign _ rfl rfl) ?_
      refine AOps.call (o_assign _ rfl rfl) ?_
      refine AOps.nil ?_
      refine AWP.ret ?_
      refine postQ.retC2 Tryz.results35 rfl rfl Tryz.sizeOf56 Tryz.isAgg56 rfl rfl rfl ?_
      first
      | (rw [if_neg hne, decide_eq_false hne]; rfl)
      | (rw [if_pos hz, decide_eq_true hz, hsome, hz]; rfl)
      | (rw [if_pos hz, decide_eq_true hz, hnone, hz]; rfl)
set_option maxRecDepth 20000 in
theorem Refute_log (p : Plw) (w : List Sp) (l : List Int) (hw1 : w.length ≤ 9223372036854775807) (hl1 : l.length ≤ 9223372036854775807) (he : okP p = false) : FSpec Tryz.prog 35 [.agg (eP p), .sl (sps w), .sl (ints l)] (.tup [.agg [I 0, I 0], B false, I 30]) (none) := by
  refine FSpec.of_body Tryz.func35 rfl (leB rfl) fun w0 M0 => ?_
  refine AWP.seq ?_
  refine AWP.region ?_
  refine AOps.call (o_box _ rfl rfl rfl) ?_
  refine AOps.call (o_alloc ze56 rfl rfl) ?_
  refine AOps.call (o_assign _ rfl rfl) ?_
  refine AOps.call (o_assign _ rfl rfl) ?_
  refine AOps.nil ?_
  refine AWP.seq ?_
  refine AWP.region ?_
  refine AOps.call (o_loadRef _ rfl rfl Tryz.sizeOf24 Tryz.isAgg24 rfl rfl rfl) ?_
  refine AOps.call (o_move _ rfl rfl) ?_
  refine AOps.call (o_move _ rfl rfl) ?_
  refine AOps.call (o_call (readCase_log p w l hw1 hl1 he) Tryz.call69 rfl rfl) ?_
  refine AOps.call (o_move _ rfl rfl) ?_
  refine AOps.call (o_extract _ rfl rfl rfl rfl) ?_
  refine AOps.call (o_extract _ rfl rfl rfl rfl) ?_
  refine AOps.call (o_alloc ze91 rfl rfl) ?_
  refine AOps.cons (o_store _ _ rfl rfl Tryz.sizeOf91 rfl rfl rfl rfl rfl) ?_
  refine AOps.call (o_assign _ rfl rfl) ?_
  refine AOps.nil ?_
  refine AWP.seq ?_
  refine AWP.seq ?_
  refine AWP.region ?_
  refine AOps.call (o_move _ rfl rfl) ?_
  refine AOps.call (o_bin _ _ rfl rfl (fun _ => rfl) rfl) ?_
  refine AOps.nil ?_
  refine AWP.cond _ rfl (fun h12 => ?_) (fun h12 => ?_)
  · skip
    refine AWP.seq ?_
    refine AWP.region ?_
    refine AOps.call (o_build bu56 rfl rfl rfl) ?_
    refine AOps.call (o_move _ rfl rfl) ?_
    refine AOps.cons (o_store _ _ rfl rfl Tryz.sizeOf56 rfl rfl rfl rfl rfl) ?_
    refine AOps.call (o_assign _ rfl rfl) ?_
    refine AOps.call (o_assign _ rfl rfl) ?_
    refine AOps.nil ?_
    refine AWP.ret ?_
    exact postQ.retC2 Tryz.results35 rfl rfl Tryz.sizeOf56 Tryz.isAgg56 rfl rfl rfl rfl
  · skip
    exfalso
    exact absurd h12 (by decide)
set_option maxRecDepth 20000 in
theorem Refute_arg (p : Plw) (w : List Sp) (l : List Int) (hw1 : w.length ≤ 9223372036854775807) (hl1 : l.length ≤ 9223372036854775807) (he : okP p = true) (hq : okW p w = false) : FSpec Tryz.prog 35 [.agg (eP p), .sl (sps w), .sl (ints l)] (.tup [.agg [I 0, I 0], B false, I 1]) (none) := by
  refine FSpec.of_body Tryz.func35 rfl (leB rfl) fun w0 M0 => ?_
  refine AWP.seq ?_
  refine AWP.region ?_
  refine AOps.call (o_box _ rfl rfl rfl) ?_
  refine AOps.call (o_alloc ze56 rfl rfl) ?_
  refine AOps.call (o_assign _ rfl rfl) ?_
  refine AOps.call (o_assign _ rfl rfl) ?_
  refine AOps.nil ?_
  refine AWP.seq ?_
  refine AWP.region ?_
  refine AOps.call (o_loadRef _ rfl rfl Tryz.sizeOf24 Tryz.isAgg24 rfl rfl rfl) ?_
  refine AOps.call (o_move _ rfl rfl) ?_
  refine AOps.call (o_move _ rfl rfl) ?_
  refine AOps.call (o_call (readCase_arg p w l hw1 hl1 he hq) Tryz.call69 rfl rfl) ?_
  refine AOps.call (o_move _ rfl rfl) ?_
  refine AOps.call (o_extract _ rfl rfl rfl rfl) ?_
  refine AOps.call (o_extract _ rfl rfl rfl rfl) ?_
  refine AOps.call (o_alloc ze91 rfl rfl) ?_
  refine AOps.cons (o_store _ _ rfl rfl Tryz.sizeOf91 rfl rfl rfl rfl rfl) ?_
  refine AOps.call (o_assign _ rfl rfl) ?_
  refine AOps.nil ?_
  refine AWP.seq ?_
  refine AWP.seq ?_
  refine AWP.region ?_
  refine AOps.call (o_move _ rfl rfl) ?_
  refine AOps.call (o_bin _ _ rfl rfl (fun _ => rfl) rfl) ?_
  refine AOps.nil ?_
  refine AWP.cond _ rfl (fun h12 => ?_) (fun h12 => ?_)
  · skip
    refine AWP.seq ?_
    refine AWP.region ?_
    refine AOps.call (o_build bu56 rfl rfl rfl) ?_
    refine AOps.call (o_move _ rfl rfl) ?_
    refine AOps.cons (o_store _ _ rfl rfl Tryz.sizeOf56 rfl rfl rfl rfl rfl) ?_
    refine AOps.call (o_assign _ rfl rfl) ?_
    refine AOps.call (o_assign _ rfl rfl) ?_
    refine AOps.nil ?_
    refine AWP.ret ?_
    exact postQ.retC2 Tryz.results35 rfl rfl Tryz.sizeOf56 Tryz.isAgg56 rfl rfl rfl rfl
  · skip
    exfalso
    exact absurd h12 (by decide)
theorem Refute_s (p : Plw) (w : List Sp) (l : List Int) (hw1 : w.length ≤ 9223372036854775807) (hl1 : l.length ≤ 9223372036854775807) : FSpec Tryz.prog 35 [.agg (eP p), .sl (sps w), .sl (ints l)] (.tup [refA (if rcE p w l = 0 then refuteP p w l else none), B (decide (rcE p w l = 0) && (refuteP p w l).isSome), I (rcE p w l)]) none := by
  by_cases he : okP p = true
  · by_cases hq : okW p w = true
    · have h := Refute_ok p w l hw1 hl1 he hq
      have e : rcE p w l = caseE p l := by unfold rcE; rw [if_neg (by rw [he]; decide), if_neg (by rw [hq]; decide)]
      rw [e]; exact h
    · have h := Refute_arg p w l hw1 hl1 he (by simpa using hq)
      have e : rcE p w l = 1 := by unfold rcE; rw [if_neg (by rw [he]; decide), if_pos (by simpa using hq)]
      rw [e]; rw [if_neg (by decide), decide_eq_false (by decide)]; exact h
  · have h := Refute_log p w l hw1 hl1 (by simpa using he)
    have e : rcE p w l = 30 := by unfold rcE; rw [if_pos (by simpa using he)]
    rw [e]; rw [if_neg (by decide), decide_eq_false (by decide)]; exact h
end Go.Proofs.YtelenedgaoglaaaGreatDoor
