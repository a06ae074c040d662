import Derived.Test.YtphoomnonenalaaDoorC2
set_option linter.unusedSimpArgs false
set_option linter.unusedVariables false
namespace Go.Proofs.YtphoomnonenalaaDoor
open Go.Ab

set_option maxRecDepth 20000 in
theorem Apart_s (s : Scl) : FSpec Tryd.prog 13 [.agg (eS s)] (if scaleB s then (match pairs s.rate s.tests 0 with | some (i, j) => .tup [.agg [I i, I j], B true, I 0] | none => .tup [.agg [I 0, I 0], B false, I 0]) else .tup [.agg [I 0, I 0], B false, I 11]) (none) := by
  refine FSpec.of_body Tryd.func13 rfl (leB rfl) fun w0 M0 => ?_
  refine AWP.seq ?_
  refine AWP.region ?_
  refine AOps.call (o_box _ rfl rfl rfl) ?_
  refine AOps.call (o_alloc ze28 rfl rfl) ?_
  refine AOps.call (o_assign _ rfl rfl) ?_
  refine AOps.call (o_assign _ rfl rfl) ?_
  refine AOps.nil ?_
  refine AWP.seq ?_
  refine AWP.seq ?_
  refine AWP.region ?_
  refine AOps.call (o_loadRef _ rfl rfl Tryd.sizeOf24 Tryd.isAgg24 rfl rfl rfl) ?_
  refine AOps.call (o_call (validScale_s s) Tryd.call66 rfl rfl) ?_
  refine AOps.call (o_un _ rfl (fun _ => rfl) rfl) ?_
  refine AOps.nil ?_
  refine AWP.cond _ rfl (fun h7 => ?_) (fun h7 => ?_)
  · skip
    have hsb : scaleB s = false := by simpa using h7
    refine AWP.seq ?_
    refine AWP.region ?_
    refine AOps.call (o_build bu28 rfl rfl rfl) ?_
    refine AOps.cons (o_store _ _ rfl rfl Tryd.sizeOf28 rfl rfl rfl rfl rfl) ?_
    refine AOps.call (o_assign _ rfl rfl) ?_
    refine AOps.call (o_assign _ rfl rfl) ?_
    refine AOps.nil ?_
    refine AWP.ret ?_
    refine postQ.retC2 Tryd.results13 rfl rfl Tryd.sizeOf28 Tryd.isAgg28 rfl rfl rfl ?_
    rw [hsb]
    first
    | rfl
    | (cases hp : pairs s.rate s.tests 0 with
       | none => rw [hp] at hcase; obtain ⟨rfl, rfl, rfl⟩ := hcase; rfl
       | some q => obtain ⟨a, b⟩ := q; rw [hp] at hcase; obtain ⟨rfl, rfl, rfl⟩ := hcase; rfl)
  · skip
    have hsb : scaleB s = true := by simpa using h7
    have FA0 := firstApart_s s.rate s.tests (scaleB_rate hsb) (by have := scaleB_len hsb; omega) (scaleB_tests hsb)
    obtain ⟨i, j, is, FA, hcase⟩ : ∃ (i j : Int) (is : Bool), FSpec Tryd.prog 67 [I s.rate, .sl (tests s.tests)] (.tup [.agg [I i, I j], B is]) none ∧ (match pairs s.rate s.tests 0 with | some (a, b) => i = a ∧ j = b ∧ is = true | none => i = 0 ∧ j = 0 ∧ is = false) := by
      cases hp : pairs s.rate s.tests 0 with
      | none => rw [hp] at FA0; exact ⟨0, 0, false, FA0, rfl, rfl, rfl⟩
      | some q => obtain ⟨a, b⟩ := q; rw [hp] at FA0; exact ⟨a, b, true, FA0, rfl, rfl, rfl⟩
    refine AWP.skip ?_
    refine AWP.seq ?_
    refine AWP.region ?_
    refine AOps.call (o_fieldRef _ rfl fa24_1 rfl rfl) ?_
    refine AOps.call (o_loadRef _ rfl rfl Tryd.sizeOf3 Tryd.isAgg3 rfl rfl rfl) ?_
    refine AOps.call (o_fieldRef _ rfl fa24_2 rfl rfl) ?_
    refine AOps.call (o_loadRef _ rfl rfl Tryd.sizeOf22 Tryd.isAgg22 rfl rfl rfl) ?_
    refine AOps.call (o_call (FA) Tryd.call67 rfl rfl) ?_
    refine AOps.call (o_move _ rfl rfl) ?_
    refine AOps.call (o_extract _ rfl rfl rfl rfl) ?_
    refine AOps.call (o_extract _ rfl rfl rfl rfl) ?_
    refine AOps.call (o_alloc ze28 rfl rfl) ?_
    refine AOps.cons (o_store _ _ rfl rfl Tryd.sizeOf28 rfl rfl rfl rfl rfl) ?_
    refine AOps.call (o_assign _ rfl rfl) ?_
    refine AOps.nil ?_
    refine AWP.seq ?_
    refine AWP.region ?_
    refine AOps.call (o_loadRef _ rfl rfl Tryd.sizeOf28 Tryd.isAgg28 rfl rfl rfl) ?_
    refine AOps.call (o_move _ rfl rfl) ?_
    refine AOps.cons (o_store _ _ rfl rfl Tryd.sizeOf28 rfl rfl rfl rfl rfl) ?_
    refine AOps.call (o_assign _ rfl rfl) ?_
    refine AOps.call (o_assign _ rfl rfl) ?_
    refine AOps.nil ?_
    refine AWP.ret ?_
    refine postQ.retC2 Tryd.results13 rfl rfl Tryd.sizeOf28 Tryd.isAgg28 rfl rfl rfl ?_
    rw [hsb]
    first
    | rfl
    | (cases hp : pairs s.rate s.tests 0 with
       | none => rw [hp] at hcase; obtain ⟨rfl, rfl, rfl⟩ := hcase; rfl
       | some q => obtain ⟨a, b⟩ := q; rw [hp] at hcase; obtain ⟨rfl, rfl, rfl⟩ := hcase; rfl)

set_option maxRecDepth 20000 in
theorem CheckScale_s (s : Scl) : FSpec Tryd.prog 19 [.agg (eS s)] (I (scaleE s)) (none) := by
  refine FSpec.of_body Tryd.func19 rfl (leB rfl) fun w0 M0 => ?_
  have AP0 := Apart_s s
  obtain ⟨i, j, is, e, AP, hcase⟩ : ∃ (i j : Int) (is : Bool) (e : Int), FSpec Tryd.prog 13 [.agg (eS s)] (.tup [.agg [I i, I j], B is, I e]) none ∧ e = (if scaleB s then 0 else 11) ∧ is = (scaleB s && (pairs s.rate s.tests 0).isSome) := by
    cases hs : scaleB s with
    | false => rw [hs] at AP0; exact ⟨0, 0, false, 11, AP0, rfl, rfl⟩
    | true =>
      rw [hs] at AP0
      cases hp : pairs s.rate s.tests 0 with
      | none => rw [hp] at AP0; exact ⟨0, 0, false, 0, AP0, rfl, rfl⟩
      | some q => obtain ⟨a, b⟩ := q; rw [hp] at AP0; exact ⟨a, b, true, 0, AP0, rfl, rfl⟩
  obtain ⟨rfl, rfl⟩ := hcase
  refine AWP.seq ?_
  refine AWP.region ?_
  refine AOps.call (o_box _ rfl rfl rfl) ?_
  refine AOps.call (o_assign _ rfl rfl) ?_
  refine AOps.nil ?_
  refine AWP.seq ?_
  refine AWP.region ?_
  refine AOps.call (o_loadRef _ rfl rfl Tryd.sizeOf24 Tryd.isAgg24 rfl rfl rfl) ?_
  refine AOps.call (o_call (AP) Tryd.call13 rfl rfl) ?_
  refine AOps.call (o_move _ rfl rfl) ?_
  refine AOps.call (o_extract _ rfl rfl rfl rfl) ?_
  refine AOps.call (o_extract _ rfl rfl rfl rfl) ?_
  refine AOps.call (o_extract _ rfl rfl rfl rfl) ?_
  refine AOps.call (o_alloc ze28 rfl rfl) ?_
  refine AOps.cons (o_store _ _ rfl rfl Tryd.sizeOf28 rfl rfl rfl rfl rfl) ?_
  refine AOps.call (o_assign _ rfl rfl) ?_
  refine AOps.call (o_assign _ rfl rfl) ?_
  refine AOps.nil ?_
  refine AWP.seq ?_
  refine AWP.seq ?_
  refine AWP.region ?_
  refine AOps.call (o_move _ rfl rfl) ?_
  refine AOps.call (o_bin _ _ rfl rfl (fun _ => rfl) rfl) ?_
  refine AOps.nil ?_
  refine AWP.cond _ rfl (fun h10 => ?_) (fun h10 => ?_)
  · skip
    refine AWP.seq ?_
    refine AWP.region ?_
    refine AOps.call (o_move _ rfl rfl) ?_
    refine AOps.call (o_assign _ rfl rfl) ?_
    refine AOps.nil ?_
    refine AWP.ret ?_
    refine postQ.ret1 Tryd.results19 rfl ?_
    unfold scaleE
    cases hs : scaleB s <;> cases hp : (pairs s.rate s.tests 0).isSome <;> simp_all [AV.close, I]
  · skip
    refine AWP.skip ?_
    refine AWP.seq ?_
    refine AWP.seq ?_
    refine AWP.region ?_
    refine AOps.call (o_move _ rfl rfl) ?_
    refine AOps.nil ?_
    refine AWP.cond _ rfl (fun h11 => ?_) (fun h11 => ?_)
    · skip
      refine AWP.seq ?_
      refine AWP.region ?_
      refine AOps.call (o_assign _ rfl rfl) ?_
      refine AOps.nil ?_
      refine AWP.ret ?_
      refine postQ.ret1 Tryd.results19 rfl ?_
      unfold scaleE
      cases hs : scaleB s <;> cases hp : (pairs s.rate s.tests 0).isSome <;> simp_all [AV.close, I]
    · skip
      refine AWP.skip ?_
      refine AWP.seq ?_
      refine AWP.region ?_
      refine AOps.call (o_assign _ rfl rfl) ?_
      refine AOps.nil ?_
      refine AWP.ret ?_
      refine postQ.ret1 Tryd.results19 rfl ?_
      unfold scaleE
      cases hs : scaleB s <;> cases hp : (pairs s.rate s.tests 0).isSome <;> simp_all [AV.close, I]

set_option maxRecDepth 20000 in
theorem knows_s (d n : Int) : FSpec Tryd.prog 116 [I d, I n] (B (decide (n ≤ d))) (none) := by
  refine FSpec.of_body Tryd.func116 rfl (leB rfl) fun w0 M0 => ?_
  refine AWP.seq ?_
  refine AWP.region ?_
  refine AOps.call (o_assign _ rfl rfl) ?_
  refine AOps.nil ?_
  refine AWP.seq ?_
  refine AWP.region ?_
  refine AOps.call (o_move _ rfl rfl) ?_
  refine AOps.call (o_move _ rfl rfl) ?_
  refine AOps.call (o_bin _ _ rfl rfl (fun _ => rfl) rfl) ?_
  refine AOps.call (o_assign _ rfl rfl) ?_
  refine AOps.nil ?_
  refine AWP.ret ?_
  exact postQ.ret1 Tryd.results116 rfl rfl

set_option maxRecDepth 20000 in
theorem knownTests_s (s : Scl) (d : Int) (hl : s.tests.length ≤ 1000) : FSpec Tryd.prog 77 [.agg (eS s), I d] (.own (0, 0) (tests (knownL s d))) (some ((tests (knownL s d)).length, 4, 26)) := by
  refine FSpec.of_body Tryd.func77 rfl (leB rfl) fun w0 M0 => ?_
  refine AWP.seq ?_
  refine AWP.region ?_
  refine AOps.call (o_box _ rfl rfl rfl) ?_
  refine AOps.call (o_nil (z := 4) (e := 26) rfl) ?_
  refine AOps.nil ?_
  refine AWP.seq ?_
  refine AWP.region ?_
  refine AOps.call (o_move _ rfl rfl) ?_
  refine AOps.call (o_makeFuncX rfl rfl rfl) ?_
  refine AOps.call (o_assign _ rfl rfl) ?_
  refine AOps.nil ?_
  refine AWP.seq ?_
  refine AWP.region ?_
  refine AOps.call (o_nil (z := 4) (e := 26) rfl) ?_
  refine AOps.nil ?_
  refine AWP.seq ?_
  refine AWP.seq ?_
  refine AWP.region ?_
  refine AOps.call (o_fieldRef _ rfl fa24_2 rfl rfl) ?_
  refine AOps.call (o_loadRef _ rfl rfl Tryd.sizeOf22 Tryd.isAgg22 rfl rfl rfl) ?_
  refine AOps.call (o_len _ Tryd.underlying22 rfl rfl) ?_
  refine AOps.call (o_move _ rfl rfl) ?_
  refine AOps.nil ?_
  refine AWP.block ?_
  refine AWP.loop (ι := Nat × List Tst) (fun i => AS.mk' 28 [(2, .ref (2, 0) 0), (5, .sc (.func (.func 116) #[.int .i64 d] #[])), (6, .own (6, 0) (tests i.2)), (12, .sl (tests s.tests)), (13, I (tests s.tests).length), (14, I i.1)] [((2, 0), eS s)] [((6, 0), ((tests i.2).length, 4, 26))] [(2, 1), (6, 1)]) (fun i => i.1 ≤ s.tests.length ∧ i.2 = (s.tests.take i.1).filter (fun t => decide (t.known ≤ d))) (fun i => s.tests.length - i.1) (0, []) (Weak.mk' rfl ⟨⟨.refl rfl, rfl⟩, ⟨⟨.refl rfl, rfl⟩, ⟨⟨.refl rfl, rfl⟩, ⟨⟨.refl rfl, rfl⟩, ⟨⟨.refl rfl, rfl⟩, ⟨⟨.refl rfl, rfl⟩, trivial⟩⟩⟩⟩⟩⟩ ⟨⟨rfl, rfl, rfl⟩, trivial⟩ ⟨⟨rfl, rfl⟩, trivial⟩) (⟨Nat.zero_le _, by simp⟩) ?_
  rintro ⟨k, acc⟩ ⟨hk, hacc⟩
  try dsimp only at *
  refine AWP.seq ?_
  refine AWP.region ?_
  refine AOps.call (o_bin _ _ rfl rfl (fun _ => rfl) rfl) ?_
  refine AOps.nil ?_
  refine AWP.seq ?_
  refine AWP.cond _ rfl (fun h11 => ?_) (fun h11 => ?_)
  · skip
    have hlt : k < s.tests.length := by simpa [tests] using h11
    have hel := tests_get hlt
    refine AWP.skip ?_
    refine AWP.seq ?_
    refine AWP.block ?_
    refine AWP.seq ?_
    refine AWP.region ?_
    refine AOps.call (o_index _ _ Tryd.underlying22 Tryd.sizeOf26 rfl rfl (by omega) (by assumption) rfl rfl) ?_
    refine AOps.call (o_loadRd _ rfl Tryd.sizeOf26 Tryd.isAgg26 rfl rfl rfl) ?_
    refine AOps.call (o_alloc ze26 rfl rfl) ?_
    refine AOps.cons (o_store _ _ rfl rfl Tryd.sizeOf26 rfl rfl rfl rfl rfl) ?_
    refine AOps.nil ?_
    refine AWP.seq ?_
    refine AWP.region ?_
    refine AOps.call (o_move _ rfl rfl) ?_
    refine AOps.call (o_fieldRef _ rfl fa26_1 rfl rfl) ?_
    refine AOps.call (o_loadRef _ rfl rfl Tryd.sizeOf3 Tryd.isAgg3 rfl rfl rfl) ?_
    refine AOps.call (o_callX (cl := [I s.tests[k].known]) _ rfl (knows_s _ _) Tryd.call116 rfl rfl) ?_
    refine AOps.nil ?_
    refine AWP.cond _ rfl (fun h18 => ?_) (fun h18 => ?_)
    · skip
      refine AWP.region ?_
      refine AOps.call (o_move _ rfl rfl) ?_
      refine AOps.call (o_loadRef _ rfl rfl Tryd.sizeOf26 Tryd.isAgg26 rfl rfl rfl) ?_
      refine AOps.call (o_lit Tryd.underlying22 Tryd.sizeOf26 Tryd.zeroValue26 rfl rfl rfl rfl rfl rfl rfl) ?_
      refine AOps.cons (o_append _ _ Tryd.underlying22 info26 rfl rfl rfl rfl rfl rfl rfl rfl (fun c hc => by simp at hc; subst hc; rfl) tests_z (by
          have h1 : acc.length ≤ s.tests.length := by rw [hacc]; exact Nat.le_trans (List.length_filter_le _ _) (by rw [List.length_take]; omega)
          rw [tests_len]; simp only [List.length_cons, List.length_nil, Nat.zero_add]; unfold Tryd.t26; simp only []; omega) rfl (tests_snoc acc s.tests[k]) rfl) ?_
      refine AOps.call (o_assign _ rfl rfl) ?_
      refine AOps.nil ?_
      refine AWP.region ?_
      refine AOps.call (o_add _ _ rfl rfl ⟨by omega, by omega⟩ rfl) ?_
      refine AOps.call (o_move _ rfl rfl) ?_
      refine AOps.nil ?_
      refine ⟨(k + 1, _), ?_, (Weak.mk' rfl ⟨⟨.refl rfl, rfl⟩, ⟨⟨.refl rfl, rfl⟩, ⟨⟨.refl rfl, rfl⟩, ⟨⟨.refl rfl, rfl⟩, ⟨⟨.refl rfl, rfl⟩, ⟨⟨.refl rfl, rfl⟩, trivial⟩⟩⟩⟩⟩⟩ ⟨⟨rfl, rfl, rfl⟩, trivial⟩ ⟨⟨rfl, rfl⟩, trivial⟩)⟩
      refine ⟨⟨by omega, ?_⟩, by omega⟩
      rw [known_take hlt, ← hacc]
      simp_all
    · skip
      refine AWP.skip ?_
      refine AWP.region ?_
      refine AOps.call (o_add _ _ rfl rfl ⟨by omega, by omega⟩ rfl) ?_
      refine AOps.call (o_move _ rfl rfl) ?_
      refine AOps.nil ?_
      refine ⟨(k + 1, _), ?_, (Weak.mk' rfl ⟨⟨.refl rfl, rfl⟩, ⟨⟨.refl rfl, rfl⟩, ⟨⟨.refl rfl, rfl⟩, ⟨⟨.refl rfl, rfl⟩, ⟨⟨.refl rfl, rfl⟩, ⟨⟨.refl rfl, rfl⟩, trivial⟩⟩⟩⟩⟩⟩ ⟨⟨rfl, rfl, rfl⟩, trivial⟩ ⟨⟨rfl, rfl⟩, trivial⟩)⟩
      refine ⟨⟨by omega, ?_⟩, by omega⟩
      rw [known_take hlt, ← hacc]
      simp_all
  · skip
    have hkl : k = s.tests.length := by simp [tests] at h11 hk; omega
    subst hkl
    rw [List.take_length] at hacc
    subst hacc
    refine AWP.exit ?_
    refine AWP.seq ?_
    refine AWP.region ?_
    refine AOps.call (o_move _ rfl rfl) ?_
    refine AOps.call (o_assign _ rfl rfl) ?_
    refine AOps.nil ?_
    refine AWP.ret ?_
    exact postQ.retF Tryd.results77 rfl rfl rfl

end Go.Proofs.YtphoomnonenalaaDoor
