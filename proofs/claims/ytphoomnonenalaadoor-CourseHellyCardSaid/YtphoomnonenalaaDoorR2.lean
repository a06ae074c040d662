import Derived.Test.YtphoomnonenalaaDoorR1
import Derived.Test.YtphoomnonenalaaDoorEq1
set_option linter.unusedSimpArgs false
set_option linter.unusedVariables false
namespace Go.Proofs.YtphoomnonenalaaDoor
open Go.Ab
theorem postQ.retCF {P : Program} {σ : AS} {fn : Func} {t ty off sz : Nat} {id id' : OId} {ag : Bool} {cs : List AV} {v r : AV} {tr : Nat × Nat × TypeId} (hf : fn.results = #[.cell t ty]) (h1 : nf (σ.tm t) = some (.ref id off)) (h2 : σ.va id = some cs) (h3 : ∀ w, (sizeOf ty).run P w = .ok sz w)
    (h4 : ∀ w, (isAgg ty).run P w = .ok ag w) (h5 : partA ag sz (cs.drop off) = some v) (hg : σ.gr id' = some tr) (hr : v.exp id' = some r) : postQ P fn r (some tr) .ret σ :=
  ⟨[v], by rw [hf]; exact ⟨ResV.cell h1 h2 h3 h4 h5, trivial⟩, id', hg, hr⟩
theorem scaleE_pairs {s : Scl} (h : scaleE s = 0) : pairs s.rate s.tests 0 = none := by
  unfold scaleE at h
  rw [if_pos (scaleE_0 h)] at h
  cases hp : pairs s.rate s.tests 0 with
  | none => rfl
  | some q => rw [hp] at h; simp at h
theorem pairs_snoc (r : Int) (t : Tst) : ∀ (l : List Tst) (i : Nat), pairs r l i = none → (pairs r (l ++ [t]) i).isSome = l.any (fun x => contraB r x t) := by
  intro l
  induction l with
  | nil => intro i _; rfl
  | cons a l ih =>
    intro i h
    simp only [pairs] at h
    cases hf : l.findIdx? (contraB r a) with
    | some j => rw [hf] at h; cases h
    | none =>
      rw [hf] at h
      have h2 := ih (i + 1) h
      have h3 : (l ++ [t]).findIdx? (contraB r a) = if contraB r a t then some l.length else none := by
        rw [List.findIdx?_append, hf]
        cases hc : contraB r a t <;> simp [List.findIdx?_cons, hc]
      simp only [List.cons_append, pairs, h3, List.any_cons]
      cases hc : contraB r a t with
      | true => rfl
      | false => simpa using h2
theorem g26 : Tryd.prog.eqGuardType Tryd.prog.depth 26 = false := by kernel_rfl
theorem s26 : Tryd.prog.stoodInHeld 26 = false := by kernel_rfl
set_option maxRecDepth 20000 in
theorem testEqIn (k : Nat) (a b c d : Int) (w : World) : (Op.equalIn (k + 2) 26 (.agg #[.int .i64 a, .int .i64 b, .int .i64 c, .int .i64 d]) (.agg #[.int .i64 a, .int .i64 b, .int .i64 c, .int .i64 d])).run Tryd.prog w = .ok true w := by
  have hf : Tryd.prog.fieldsOf 26 = (match Tryd.prog.underlying 26 with | some (.struct fs) => fs | _ => #[]) := rfl
  rw [Tryd.underlying26] at hf
  have hu : Tryd.prog.underlying 26 = some (.struct (Tryd.prog.fieldsOf 26)) := by rw [hf]; exact Tryd.underlying26
  rw [run_equalIn_struct w (k + 1) 26 _ _ hu s26, hf]
  have hi : ∀ x y w, (Op.equalIn (k + 1) 3 (.int .i64 x) (.int .i64 y)).run Tryd.prog w = .ok (x == y) w := fun x y w => run_equalIn_int w k 3 .i64 .i64 x y Tryd.underlying3
  simp [Op.eqFields, part, Tryd.isAgg3, Tryd.sizeOf3, hi, Result.andThen]
theorem testEqual (a b c d : Int) (w : World) : (Op.equal 26 (.agg #[.int .i64 a, .int .i64 b, .int .i64 c, .int .i64 d]) (.agg #[.int .i64 a, .int .i64 b, .int .i64 c, .int .i64 d])).run Tryd.prog w = .ok true w := testEqIn 9998 a b c d w
theorem testNe (x y : Operand) (a b c d : Int) (w : World) : (do eqGuard .neq 26 x y (.agg #[.int .i64 a, .int .i64 b, .int .i64 c, .int .i64 d]) (.agg #[.int .i64 a, .int .i64 b, .int .i64 c, .int .i64 d]); binOp .neq 26 (.agg #[.int .i64 a, .int .i64 b, .int .i64 c, .int .i64 d]) (.agg #[.int .i64 a, .int .i64 b, .int .i64 c, .int .i64 d]) : Sem Value).run Tryd.prog w = .ok (.bool false) w := by
  simp [eqGuard, binOp, g26, testEqual, Result.andThen]

set_option maxRecDepth 20000 in
theorem rApart_s (s : Scl) : FSpec Tryd.prog 14 [.agg (eS s)] (if scaleB s then (match pairs s.rate s.tests 0 with | some (i, j) => .tup [.agg [I i, I j], B true, I 0] | none => .tup [.agg [I 0, I 0], B false, I 0]) else .tup [.agg [I 0, I 0], B false, I 11]) (none) := by
  refine FSpec.of_body Tryd.func14 rfl (leB rfl) fun w0 M0 => ?_
  refine AWP.seq ?_
  refine AWP.region ?_
  refine AOps.call (o_box _ rfl rfl rfl) ?_
  refine AOps.call (o_alloc ze28 rfl rfl) ?_
  refine AOps.call (o_assign _ rfl rfl) ?_
  refine AOps.call (o_assign _ rfl rfl) ?_
  refine AOps.nil ?_
  refine AWP.seq ?_
  refine AWP.region ?_
  refine AOps.call (o_loadRef _ rfl rfl Tryd.sizeOf24 Tryd.isAgg24 rfl rfl rfl) ?_
  refine AOps.call (o_call (rvalid_s s) Tryd.call68 rfl rfl) ?_
  refine AOps.call (o_assign _ rfl rfl) ?_
  refine AOps.nil ?_
  refine AWP.seq ?_
  refine AWP.seq ?_
  refine AWP.region ?_
  refine AOps.call (o_move _ rfl rfl) ?_
  refine AOps.call (o_un _ rfl (fun _ => rfl) rfl) ?_
  refine AOps.nil ?_
  refine AWP.cond _ rfl (fun h7 => ?_) (fun h7 => ?_)
  · skip
    have hsb : scaleB s = false := by simpa using h7
    refine AWP.seq ?_
    refine AWP.region ?_
    refine AOps.call (o_build bu28 rfl rfl rfl) ?_
    refine AOps.cons (o_store _ _ rfl rfl Tryd.sizeOf28 rfl rfl rfl rfl rfl) ?_
    refine AOps.call (o_assign _ rfl rfl) ?_
    refine AOps.call (o_assign _ rfl rfl) ?_
    refine AOps.nil ?_
    refine AWP.ret ?_
    refine postQ.retC2 Tryd.results14 rfl rfl Tryd.sizeOf28 Tryd.isAgg28 rfl rfl rfl ?_
    rw [hsb]
    first
    | rfl
    | (cases hp : pairs s.rate s.tests 0 with
       | none => rw [hp] at hcase; obtain ⟨rfl, rfl, rfl⟩ := hcase; rfl
       | some q => obtain ⟨a, b⟩ := q; rw [hp] at hcase; obtain ⟨rfl, rfl, rfl⟩ := hcase; rfl)
  · skip
    have hsb : scaleB s = true := by simpa using h7
    have FA0 := rpair_s s (scaleB_rate hsb) (by have := scaleB_len hsb; omega) (scaleB_tests hsb)
    obtain ⟨i, j, is, FA, hcase⟩ : ∃ (i j : Int) (is : Bool), FSpec Tryd.prog 69 [.agg (eS s)] (.tup [.agg [I i, I j], B is]) none ∧ (match pairs s.rate s.tests 0 with | some (a, b) => i = a ∧ j = b ∧ is = true | none => i = 0 ∧ j = 0 ∧ is = false) := by
      cases hp : pairs s.rate s.tests 0 with
      | none => rw [hp] at FA0; exact ⟨0, 0, false, FA0, rfl, rfl, rfl⟩
      | some q => obtain ⟨a, b⟩ := q; rw [hp] at FA0; exact ⟨a, b, true, FA0, rfl, rfl, rfl⟩
    refine AWP.skip ?_
    refine AWP.seq ?_
    refine AWP.region ?_
    refine AOps.call (o_loadRef _ rfl rfl Tryd.sizeOf24 Tryd.isAgg24 rfl rfl rfl) ?_
    refine AOps.call (o_call (FA) Tryd.call69 rfl rfl) ?_
    refine AOps.call (o_move _ rfl rfl) ?_
    refine AOps.call (o_extract _ rfl rfl rfl rfl) ?_
    refine AOps.call (o_extract _ rfl rfl rfl rfl) ?_
    refine AOps.call (o_alloc ze28 rfl rfl) ?_
    refine AOps.cons (o_store _ _ rfl rfl Tryd.sizeOf28 rfl rfl rfl rfl rfl) ?_
    refine AOps.call (o_assign _ rfl rfl) ?_
    refine AOps.nil ?_
    refine AWP.seq ?_
    refine AWP.region ?_
    refine AOps.call (o_loadRef _ rfl rfl Tryd.sizeOf28 Tryd.isAgg28 rfl rfl rfl) ?_
    refine AOps.call (o_move _ rfl rfl) ?_
    refine AOps.cons (o_store _ _ rfl rfl Tryd.sizeOf28 rfl rfl rfl rfl rfl) ?_
    refine AOps.call (o_assign _ rfl rfl) ?_
    refine AOps.call (o_assign _ rfl rfl) ?_
    refine AOps.nil ?_
    refine AWP.ret ?_
    refine postQ.retC2 Tryd.results14 rfl rfl Tryd.sizeOf28 Tryd.isAgg28 rfl rfl rfl ?_
    rw [hsb]
    first
    | rfl
    | (cases hp : pairs s.rate s.tests 0 with
       | none => rw [hp] at hcase; obtain ⟨rfl, rfl, rfl⟩ := hcase; rfl
       | some q => obtain ⟨a, b⟩ := q; rw [hp] at hcase; obtain ⟨rfl, rfl, rfl⟩ := hcase; rfl)

set_option maxRecDepth 20000 in
theorem rCheckScale_s (s : Scl) : FSpec Tryd.prog 20 [.agg (eS s)] (I (scaleE s)) (none) := by
  refine FSpec.of_body Tryd.func20 rfl (leB rfl) fun w0 M0 => ?_
  refine AWP.seq ?_
  refine AWP.region ?_
  refine AOps.call (o_box _ rfl rfl rfl) ?_
  refine AOps.call (o_assign _ rfl rfl) ?_
  refine AOps.nil ?_
  refine AWP.seq ?_
  refine AWP.region ?_
  refine AOps.call (o_loadRef _ rfl rfl Tryd.sizeOf24 Tryd.isAgg24 rfl rfl rfl) ?_
  refine AOps.call (o_call (rvalid_s s) Tryd.call68 rfl rfl) ?_
  refine AOps.call (o_assign _ rfl rfl) ?_
  refine AOps.nil ?_
  refine AWP.seq ?_
  refine AWP.seq ?_
  refine AWP.region ?_
  refine AOps.call (o_move _ rfl rfl) ?_
  refine AOps.call (o_un _ rfl (fun _ => rfl) rfl) ?_
  refine AOps.nil ?_
  refine AWP.cond _ rfl (fun h6 => ?_) (fun h6 => ?_)
  · skip
    have hsb : scaleB s = false := by simpa using h6
    refine AWP.seq ?_
    refine AWP.region ?_
    refine AOps.call (o_assign _ rfl rfl) ?_
    refine AOps.nil ?_
    refine AWP.ret ?_
    refine postQ.ret1 Tryd.results20 rfl ?_
    unfold scaleE
    rw [hsb]
    first
    | rfl
    | (cases hp : pairs s.rate s.tests 0 with
       | none => rw [hp] at hcase; obtain ⟨rfl, rfl, rfl⟩ := hcase; simp_all [AV.close, I]
       | some q => obtain ⟨a, b⟩ := q; rw [hp] at hcase; obtain ⟨rfl, rfl, rfl⟩ := hcase; simp_all [AV.close, I])
  · skip
    have hsb : scaleB s = true := by simpa using h6
    have FA0 := rpair_s s (scaleB_rate hsb) (by have := scaleB_len hsb; omega) (scaleB_tests hsb)
    obtain ⟨i, j, is, FA, hcase⟩ : ∃ (i j : Int) (is : Bool), FSpec Tryd.prog 69 [.agg (eS s)] (.tup [.agg [I i, I j], B is]) none ∧ (match pairs s.rate s.tests 0 with | some (a, b) => i = a ∧ j = b ∧ is = true | none => i = 0 ∧ j = 0 ∧ is = false) := by
      cases hp : pairs s.rate s.tests 0 with
      | none => rw [hp] at FA0; exact ⟨0, 0, false, FA0, rfl, rfl, rfl⟩
      | some q => obtain ⟨a, b⟩ := q; rw [hp] at FA0; exact ⟨a, b, true, FA0, rfl, rfl, rfl⟩
    refine AWP.skip ?_
    refine AWP.seq ?_
    refine AWP.region ?_
    refine AOps.call (o_loadRef _ rfl rfl Tryd.sizeOf24 Tryd.isAgg24 rfl rfl rfl) ?_
    refine AOps.call (o_call (FA) Tryd.call69 rfl rfl) ?_
    refine AOps.call (o_move _ rfl rfl) ?_
    refine AOps.call (o_extract _ rfl rfl rfl rfl) ?_
    refine AOps.call (o_extract _ rfl rfl rfl rfl) ?_
    refine AOps.call (o_alloc ze28 rfl rfl) ?_
    refine AOps.cons (o_store _ _ rfl rfl Tryd.sizeOf28 rfl rfl rfl rfl rfl) ?_
    refine AOps.call (o_assign _ rfl rfl) ?_
    refine AOps.nil ?_
    refine AWP.seq ?_
    refine AWP.seq ?_
    refine AWP.region ?_
    refine AOps.call (o_move _ rfl rfl) ?_
    refine AOps.nil ?_
    refine AWP.cond _ rfl (fun h13 => ?_) (fun h13 => ?_)
    · skip
      refine AWP.seq ?_
      refine AWP.region ?_
      refine AOps.call (o_assign _ rfl rfl) ?_
      refine AOps.nil ?_
      refine AWP.ret ?_
      refine postQ.ret1 Tryd.results20 rfl ?_
      unfold scaleE
      rw [hsb]
      first
      | rfl
      | (cases hp : pairs s.rate s.tests 0 with
         | none => rw [hp] at hcase; obtain ⟨rfl, rfl, rfl⟩ := hcase; simp_all [AV.close, I]
         | some q => obtain ⟨a, b⟩ := q; rw [hp] at hcase; obtain ⟨rfl, rfl, rfl⟩ := hcase; simp_all [AV.close, I])
    · skip
      refine AWP.skip ?_
      refine AWP.seq ?_
      refine AWP.region ?_
      refine AOps.call (o_assign _ rfl rfl) ?_
      refine AOps.nil ?_
      refine AWP.ret ?_
      refine postQ.ret1 Tryd.results20 rfl ?_
      unfold scaleE
      rw [hsb]
      first
      | rfl
      | (cases hp : pairs s.rate s.tests 0 with
         | none => rw [hp] at hcase; obtain ⟨rfl, rfl, rfl⟩ := hcase; simp_all [AV.close, I]
         | some q => obtain ⟨a, b⟩ := q; rw [hp] at hcase; obtain ⟨rfl, rfl, rfl⟩ := hcase; simp_all [AV.close, I])

set_option maxRecDepth 20000 in
theorem rCopyScale_s (s : Scl) (hl : s.tests.length ≤ 1000) : FSpec Tryd.prog 71 [.agg (eS s)] (.agg [I s.no, I s.rate, .own (0, 0) (tests s.tests)]) (some ((tests s.tests).length, 4, 26)) := by
  refine FSpec.of_body Tryd.func71 rfl (leB rfl) fun w0 M0 => ?_
  refine AWP.seq ?_
  refine AWP.region ?_
  refine AOps.call (o_box _ rfl rfl rfl) ?_
  refine AOps.call (o_alloc ze24 rfl rfl) ?_
  refine AOps.nil ?_
  refine AWP.seq ?_
  refine AWP.region ?_
  refine AOps.call (o_nil (z := 4) (e := 26) rfl) ?_
  refine AOps.nil ?_
  refine AWP.seq ?_
  refine AWP.region ?_
  refine AOps.call (o_move _ rfl rfl) ?_
  refine AOps.call (o_fieldRef _ rfl fa24_2 rfl rfl) ?_
  refine AOps.call (o_loadRef _ rfl rfl Tryd.sizeOf22 Tryd.isAgg22 rfl rfl rfl) ?_
  refine AOps.cons (o_append _ _ Tryd.underlying22 info26 rfl rfl rfl rfl rfl rfl rfl rfl tests_z (fun c hc => by cases hc) (by
      rw [tests_len]; simp only [List.length_nil, Nat.zero_add]; unfold Tryd.t26; simp only []; omega) rfl (List.nil_append _) rfl) ?_
  refine AOps.call (o_assign _ rfl rfl) ?_
  refine AOps.nil ?_
  refine AWP.seq ?_
  refine AWP.region ?_
  refine AOps.call (o_move _ rfl rfl) ?_
  refine AOps.call (o_fieldRef _ rfl fa24_2 rfl rfl) ?_
  refine AOps.cons (o_store _ _ rfl rfl Tryd.sizeOf22 rfl rfl rfl rfl rfl) ?_
  refine AOps.nil ?_
  refine AWP.seq ?_
  refine AWP.region ?_
  refine AOps.call (o_loadRef _ rfl rfl Tryd.sizeOf24 Tryd.isAgg24 rfl rfl rfl) ?_
  refine AOps.cons (o_store _ _ rfl rfl Tryd.sizeOf24 rfl rfl rfl rfl rfl) ?_
  refine AOps.nil ?_
  refine AWP.ret ?_
  exact postQ.retCF (id' := (3, 0)) Tryd.results71 rfl rfl Tryd.sizeOf24 Tryd.isAgg24 rfl rfl rfl

set_option maxRecDepth 20000 in
theorem rAddTest_s (s : Scl) (t : Tst) : FSpec Tryd.prog 16 [.agg (eS s), .agg (eT t)] (if addE s t = 0 then .tup [.agg [I s.no, I s.rate, .sl (tests (s.tests ++ [t]))], I 0] else .tup [.agg [I 0, I 0, .sc (.slice none 0 0)], I (addE s t)]) (none) := by
  refine FSpec.of_body Tryd.func16 rfl (leB rfl) fun w0 M0 => ?_
  refine AWP.seq ?_
  refine AWP.region ?_
  refine AOps.call (o_box _ rfl rfl rfl) ?_
  refine AOps.call (o_box _ rfl rfl rfl) ?_
  refine AOps.call (o_alloc ze24 rfl rfl) ?_
  refine AOps.call (o_assign _ rfl rfl) ?_
  refine AOps.nil ?_
  refine AWP.seq ?_
  refine AWP.region ?_
  refine AOps.call (o_loadRef _ rfl rfl Tryd.sizeOf24 Tryd.isAgg24 rfl rfl rfl) ?_
  refine AOps.call (o_call (rCheckScale_s s) Tryd.call20 rfl rfl) ?_
  refine AOps.call (o_assign _ rfl rfl) ?_
  refine AOps.nil ?_
  refine AWP.seq ?_
  refine AWP.seq ?_
  refine AWP.region ?_
  refine AOps.call (o_move _ rfl rfl) ?_
  refine AOps.call (o_bin _ _ rfl rfl (fun _ => rfl) rfl) ?_
  refine AOps.nil ?_
  refine AWP.cond _ rfl (fun h8 => ?_) (fun h8 => ?_)
  · skip
    have hz : ¬ scaleE s = 0 := by simpa using h8
    have hE : addE s t = scaleE s := if_neg hz
    refine AWP.seq ?_
    refine AWP.region ?_
    refine AOps.call (o_build bu24 rfl rfl rfl) ?_
    refine AOps.call (o_move _ rfl rfl) ?_
    refine AOps.cons (o_store _ _ rfl rfl Tryd.sizeOf24 rfl rfl rfl rfl rfl) ?_
    refine AOps.call (o_assign _ rfl rfl) ?_
    refine AOps.nil ?_
    refine AWP.ret ?_
    refine postQ.retC1 Tryd.results16 rfl rfl Tryd.sizeOf24 Tryd.isAgg24 rfl rfl ?_
    first
    | (rw [if_pos hE]; rfl)
    | (rw [if_neg (show ¬ addE s t = 0 by rw [hE]; first | exact hz | omega), hE]; rfl)
    | (rw [if_neg (show ¬ addE s t = 0 by rw [hE]; omega), hE, ht]; rfl)
  · skip
    have hz : scaleE s = 0 := by simpa using h8
    have hs := scaleE_0 hz
    refine AWP.skip ?_
    refine AWP.seq ?_
    refine AWP.region ?_
    refine AOps.call (o_loadRef _ rfl rfl Tryd.sizeOf26 Tryd.isAgg26 rfl rfl rfl) ?_
    refine AOps.call (o_call (rCheckTest_s t) Tryd.call18 rfl rfl) ?_
    refine AOps.call (o_assign _ rfl rfl) ?_
    refine AOps.nil ?_
    refine AWP.seq ?_
    refine AWP.seq ?_
    refine AWP.region ?_
    refine AOps.call (o_move _ rfl rfl) ?_
    refine AOps.call (o_bin _ _ rfl rfl (fun _ => rfl) rfl) ?_
    refine AOps.nil ?_
    refine AWP.cond _ rfl (fun h13 => ?_) (fun h13 => ?_)
    · skip
      have ht : testB t = false := by
        cases hh : testB t with
        | false => rfl
        | true => rw [hh] at h13; simp at h13
      have hE : addE s t = 10 := by unfold addE; rw [if_pos hz, ht]; rfl
      refine AWP.seq ?_
      refine AWP.region ?_
      refine AOps.call (o_build bu24 rfl rfl rfl) ?_
      refine AOps.call (o_move _ rfl rfl) ?_
      refine AOps.cons (o_store _ _ rfl rfl Tryd.sizeOf24 rfl rfl rfl rfl rfl) ?_
      refine AOps.call (o_assign _ rfl rfl) ?_
      refine AOps.nil ?_
      refine AWP.ret ?_
      refine postQ.retC1 Tryd.results16 rfl rfl Tryd.sizeOf24 Tryd.isAgg24 rfl rfl ?_
      first
      | (rw [if_pos hE]; rfl)
      | (rw [if_neg (show ¬ addE s t = 0 by rw [hE]; first | exact hz | omega), hE]; rfl)
      | (rw [if_neg (show ¬ addE s t = 0 by rw [hE]; omega), hE, ht]; rfl)
    · skip
      have ht : testB t = true := by
        cases hh : testB t with
        | true => rfl
        | false => rw [hh] at h13; simp at h13
      refine AWP.skip ?_
      refine AWP.seq ?_
      refine AWP.region ?_
      refine AOps.call (o_fieldRef _ rfl fa24_2 rfl rfl) ?_
      refine AOps.call (o_loadRef _ rfl rfl Tryd.sizeOf22 Tryd.isAgg22 rfl rfl rfl) ?_
      refine AOps.call (o_len _ Tryd.underlying22 rfl rfl) ?_
      refine AOps.call (o_assign _ rfl rfl) ?_
      refine AOps.nil ?_
      refine AWP.seq ?_
      refine AWP.seq ?_
      refine AWP.region ?_
      refine AOps.call (o_move _ rfl rfl) ?_
      refine AOps.call (o_bin _ _ rfl rfl (fun _ => rfl) rfl) ?_
      refine AOps.nil ?_
      refine AWP.cond _ rfl (fun h19 => ?_) (fun h19 => ?_)
      · skip
        have h64 : s.tests.length = 64 := by have := scaleB_len hs; simp [tests_len] at h19; omega
        have hE : addE s t = 2 := by unfold addE; rw [if_pos hz, if_pos ht, if_pos h64]
        refine AWP.seq ?_
        refine AWP.region ?_
        refine AOps.call (o_build bu24 rfl rfl rfl) ?_
        refine AOps.cons (o_store _ _ rfl rfl Tryd.sizeOf24 rfl rfl rfl rfl rfl) ?_
        refine AOps.call (o_assign _ rfl rfl) ?_
        refine AOps.nil ?_
        refine AWP.ret ?_
        refine postQ.retC1 Tryd.results16 rfl rfl Tryd.sizeOf24 Tryd.isAgg24 rfl rfl ?_
        first
        | (rw [if_pos hE]; rfl)
        | (rw [if_neg (show ¬ addE s t = 0 by rw [hE]; first | exact hz | omega), hE]; rfl)
        | (rw [if_neg (show ¬ addE s t = 0 by rw [hE]; omega), hE, ht]; rfl)
      · skip
        have h64 : ¬ s.tests.length = 64 := by simp [tests_len] at h19; omega
        have hl64 := scaleB_len hs
        have htl := tests_len s.tests
        refine AWP.skip ?_
        refine AWP.seq ?_
        refine AWP.seq ?_
        refine AWP.drawn 14 mixed (by kernel_rfl) ?_
        refine AHead.call (o_move _ rfl rfl) rfl ?_
        refine AHead.call (o_bin _ _ rfl rfl (fun _ => rfl) rfl) rfl ?_
        refine AHead.call (o_move _ rfl rfl) rfl ?_
        refine AHead.split rfl rfl rfl (fun h23 => ?_) (fun h23 => ?_)
        · skip
          have hn0 : s.tests.length - 1 < s.tests.length := by simp [tests_len] at h23; omega
          have hlast := lastBad_at (t := t) hn0
          have hel1 : (tests s.tests)[(((tests s.tests).length : Int) - 1).toNat]? = some (eT s.tests[s.tests.length - 1]) := by
            have := tests_get hn0
            rw [tests_len]
            rwa [show (((s.tests.length - 1 : Nat)) : Int) = (s.tests.length : Int) - 1 by omega] at this
          refine AHead.go rfl rfl rfl h23 (o_fieldRef _ rfl fa26_1 rfl rfl) rfl ?_
          refine AHead.go rfl rfl rfl h23 (o_loadRef _ rfl rfl Tryd.sizeOf3 Tryd.isAgg3 rfl rfl rfl) rfl ?_
          refine AHead.go rfl rfl rfl h23 (o_fieldRef _ rfl fa24_2 rfl rfl) rfl ?_
          refine AHead.go rfl rfl rfl h23 (o_loadRef _ rfl rfl Tryd.sizeOf22 Tryd.isAgg22 rfl rfl rfl) rfl ?_
          refine AHead.go rfl rfl rfl h23 (o_move _ rfl rfl) rfl ?_
          refine AHead.go rfl rfl rfl h23 (o_sub _ _ rfl rfl ⟨by rw [tests_len]; omega, by rw [tests_len]; omega⟩ rfl) rfl ?_
          refine AHead.go rfl rfl rfl h23 (o_index _ _ Tryd.underlying22 Tryd.sizeOf26 rfl rfl (by rw [tests_len]; omega) hel1 rfl rfl) rfl ?_
          refine AHead.go rfl rfl rfl h23 (o_fieldRd _ rfl fa26_1 rfl) rfl ?_
          refine AHead.go rfl rfl rfl h23 (o_loadRd _ rfl Tryd.sizeOf3 Tryd.isAgg3 rfl rfl rfl) rfl ?_
          refine AHead.go rfl rfl rfl h23 (o_bin _ _ rfl rfl (fun _ => rfl) rfl) rfl ?_
          refine AHead.call (o_pickT _ _ _ rfl h23 rfl rfl) rfl ?_
          refine AHead.nil ?_
          refine AOps.nil ?_
          refine AWP.cond _ rfl (fun h33 => ?_) (fun h33 => ?_)
          · skip
            have hlb : lastBad s.tests t = true := by simp_all
            have hE : addE s t = 1 := by unfold addE; rw [if_pos hz, if_pos ht, if_neg h64, if_pos hlb]
            refine AWP.seq ?_
            refine AWP.region ?_
            refine AOps.call (o_build bu24 rfl rfl rfl) ?_
            refine AOps.cons (o_store _ _ rfl rfl Tryd.sizeOf24 rfl rfl rfl rfl rfl) ?_
            refine AOps.call (o_assign _ rfl rfl) ?_
            refine AOps.nil ?_
            refine AWP.ret ?_
            refine postQ.retC1 Tryd.results16 rfl rfl Tryd.sizeOf24 Tryd.isAgg24 rfl rfl ?_
            first
            | (rw [if_pos hE]; rfl)
            | (rw [if_neg (show ¬ addE s t = 0 by rw [hE]; first | exact hz | omega), hE]; rfl)
            | (rw [if_neg (show ¬ addE s t = 0 by rw [hE]; omega), hE, ht]; rfl)
          · skip
            have hlb : lastBad s.tests t = false := by
              first
              | exact hnil
              | simp_all
            have hE0 : addE s t = if s.tests.any (fun x => contraB s.rate x t) then 13 else 0 := by unfold addE; rw [if_pos hz, if_pos ht, if_neg h64, hlb]; rfl
            have hpn := scaleE_pairs hz
            have FA0 := rpair_s ⟨s.no, s.rate, s.tests ++ [t]⟩ (show 0 ≤ s.rate ∧ s.rate ≤ 1000 from scaleB_rate hs) (by simp; omega) (fun x hx => by
              rcases List.mem_append.1 hx with h | h
              · exact scaleB_tests hs x h
              · simp at h; subst h; exact ht)
            obtain ⟨i, j, FA⟩ : ∃ (i j : Int), FSpec Tryd.prog 69 [.agg (eS ⟨s.no, s.rate, s.tests ++ [t]⟩)] (.tup [.agg [I i, I j], B (s.tests.any fun x => contraB s.rate x t)]) none := by
              have hsn := pairs_snoc s.rate t s.tests 0 hpn
              cases hp : pairs s.rate (s.tests ++ [t]) 0 with
              | none => rw [hp] at FA0 hsn; rw [← hsn]; exact ⟨0, 0, FA0⟩
              | some q => obtain ⟨a, b⟩ := q; rw [hp] at FA0 hsn; rw [← hsn]; exact ⟨a, b, FA0⟩
            refine AWP.skip ?_
            refine AWP.seq ?_
            refine AWP.region ?_
            refine AOps.call (o_loadRef _ rfl rfl Tryd.sizeOf24 Tryd.isAgg24 rfl rfl rfl) ?_
            refine AOps.call (o_call (rCopyScale_s s (by omega)) Tryd.call71 rfl rfl) ?_
            refine AOps.call (o_alloc ze24 rfl rfl) ?_
            refine AOps.cons (o_store _ _ rfl rfl Tryd.sizeOf24 rfl rfl rfl rfl rfl) ?_
            refine AOps.nil ?_
            refine AWP.seq ?_
            refine AWP.region ?_
            refine AOps.call (o_fieldRef _ rfl fa24_2 rfl rfl) ?_
            refine AOps.call (o_loadRef _ rfl rfl Tryd.sizeOf22 Tryd.isAgg22 rfl rfl rfl) ?_
            refine AOps.call (o_loadRef _ rfl rfl Tryd.sizeOf26 Tryd.isAgg26 rfl rfl rfl) ?_
            refine AOps.call (o_lit Tryd.underlying22 Tryd.sizeOf26 Tryd.zeroValue26 rfl rfl rfl rfl rfl rfl rfl) ?_
            refine AOps.cons (o_append _ _ Tryd.underlying22 info26 rfl rfl rfl rfl rfl rfl rfl rfl (fun c hc => by simp at hc; subst hc; rfl) tests_z (by
                rw [tests_len]; simp only [List.length_cons, List.length_nil, Nat.zero_add]; unfold Tryd.t26; simp only []; omega) rfl (tests_snoc s.tests t) rfl) ?_
            refine AOps.call (o_fieldRef _ rfl fa24_2 rfl rfl) ?_
            refine AOps.cons (o_store _ _ rfl rfl Tryd.sizeOf22 rfl rfl rfl rfl rfl) ?_
            refine AOps.nil ?_
            refine AWP.seq ?_
            refine AWP.region ?_
            refine AOps.call (o_loadRef _ rfl rfl Tryd.sizeOf24 Tryd.isAgg24 rfl rfl rfl) ?_
            refine AOps.call (o_call (FA) Tryd.call69 rfl rfl) ?_
            refine AOps.call (o_move _ rfl rfl) ?_
            refine AOps.call (o_extract _ rfl rfl rfl rfl) ?_
            refine AOps.call (o_extract _ rfl rfl rfl rfl) ?_
            refine AOps.call (o_alloc ze28 rfl rfl) ?_
            refine AOps.cons (o_store _ _ rfl rfl Tryd.sizeOf28 rfl rfl rfl rfl rfl) ?_
            refine AOps.call (o_assign _ rfl rfl) ?_
            refine AOps.nil ?_
            refine AWP.seq ?_
            refine AWP.seq ?_
            refine AWP.region ?_
            refine AOps.call (o_move _ rfl rfl) ?_
            refine AOps.nil ?_
            refine AWP.cond _ rfl (fun h50 => ?_) (fun h50 => ?_)
            · skip
              have hE : addE s t = 13 := by rw [hE0]; exact if_pos h50
              refine AWP.seq ?_
              refine AWP.region ?_
              refine AOps.call (o_build bu24 rfl rfl rfl) ?_
              refine AOps.cons (o_store _ _ rfl rfl Tryd.sizeOf24 rfl rfl rfl rfl rfl) ?_
              refine AOps.call (o_assign _ rfl rfl) ?_
              refine AOps.nil ?_
              refine AWP.ret ?_
              refine postQ.retC1 Tryd.results16 rfl rfl Tryd.sizeOf24 Tryd.isAgg24 rfl rfl ?_
              first
              | (rw [if_pos hE]; rfl)
              | (rw [if_neg (show ¬ addE s t = 0 by rw [hE]; first | exact hz | omega), hE]; rfl)
              | (rw [if_neg (show ¬ addE s t = 0 by rw [hE]; omega), hE, ht]; rfl)
            · skip
              have hE : addE s t = 0 := by rw [hE0]; exact if_neg (by rw [h50]; simp)
              refine AWP.skip ?_
              refine AWP.seq ?_
              refine AWP.region ?_
              refine AOps.call (o_loadRef _ rfl rfl Tryd.sizeOf24 Tryd.isAgg24 rfl rfl rfl) ?_
              refine AOps.cons (o_store _ _ rfl rfl Tryd.sizeOf24 rfl rfl rfl rfl rfl) ?_
              refine AOps.call (o_assign _ rfl rfl) ?_
              refine AOps.nil ?_
              refine AWP.ret ?_
              refine postQ.retC1 Tryd.results16 rfl rfl Tryd.sizeOf24 Tryd.isAgg24 rfl rfl ?_
              first
              | (rw [if_pos hE]; rfl)
              | (rw [if_neg (show ¬ addE s t = 0 by rw [hE]; first | exact hz | omega), hE]; rfl)
              | (rw [if_neg (show ¬ addE s t = 0 by rw [hE]; omega), hE, ht]; rfl)
        · skip
          have hnil : lastBad s.tests t = false := lastBad_nil (by simpa [tests_len] using h23)
          refine AHead.pass rfl rfl rfl h23 rfl ?_
          refine AHead.pass rfl rfl rfl h23 rfl ?_
          refine AHead.pass rfl rfl rfl h23 rfl ?_
          refine AHead.pass rfl rfl rfl h23 rfl ?_
          refine AHead.pass rfl rfl rfl h23 rfl ?_
          refine AHead.pass rfl rfl rfl h23 rfl ?_
          refine AHead.pass rfl rfl rfl h23 rfl ?_
          refine AHead.pass rfl rfl rfl h23 rfl ?_
          refine AHead.pass rfl rfl rfl h23 rfl ?_
          refine AHead.pass rfl rfl rfl h23 rfl ?_
          refine AHead.call (o_pickF _ _ _ rfl h23 rfl rfl) rfl ?_
          refine AHead.nil ?_
          refine AOps.nil ?_
          refine AWP.condF rfl ?_
          have hlb : lastBad s.tests t = false := hnil
          have hE0 : addE s t = if s.tests.any (fun x => contraB s.rate x t) then 13 else 0 := by unfold addE; rw [if_pos hz, if_pos ht, if_neg h64, hlb]; rfl
          have hpn := scaleE_pairs hz
          have FA0 := rpair_s ⟨s.no, s.rate, s.tests ++ [t]⟩ (show 0 ≤ s.rate ∧ s.rate ≤ 1000 from scaleB_rate hs) (by simp; omega) (fun x hx => by
            rcases List.mem_append.1 hx with h | h
            · exact scaleB_tests hs x h
            · simp at h; subst h; exact ht)
          obtain ⟨i, j, FA⟩ : ∃ (i j : Int), FSpec Tryd.prog 69 [.agg (eS ⟨s.no, s.rate, s.tests ++ [t]⟩)] (.tup [.agg [I i, I j], B (s.tests.any fun x => contraB s.rate x t)]) none := by
            have hsn := pairs_snoc s.rate t s.tests 0 hpn
            cases hp : pairs s.rate (s.tests ++ [t]) 0 with
            | none => rw [hp] at FA0 hsn; rw [← hsn]; exact ⟨0, 0, FA0⟩
            | some q => obtain ⟨a, b⟩ := q; rw [hp] at FA0 hsn; rw [← hsn]; exact ⟨a, b, FA0⟩
          refine AWP.skip ?_
          refine AWP.seq ?_
          refine AWP.region ?_
          refine AOps.call (o_loadRef _ rfl rfl Tryd.sizeOf24 Tryd.isAgg24 rfl rfl rfl) ?_
          refine AOps.call (o_call (rCopyScale_s s (by omega)) Tryd.call71 rfl rfl) ?_
          refine AOps.call (o_alloc ze24 rfl rfl) ?_
          refine AOps.cons (o_store _ _ rfl rfl Tryd.sizeOf24 rfl rfl rfl rfl rfl) ?_
          refine AOps.nil ?_
          refine AWP.seq ?_
          refine AWP.region ?_
          refine AOps.call (o_fieldRef _ rfl fa24_2 rfl rfl) ?_
          refine AOps.call (o_loadRef _ rfl rfl Tryd.sizeOf22 Tryd.isAgg22 rfl rfl rfl) ?_
          refine AOps.call (o_loadRef _ rfl rfl Tryd.sizeOf26 Tryd.isAgg26 rfl rfl rfl) ?_
          refine AOps.call (o_lit Tryd.underlying22 Tryd.sizeOf26 Tryd.zeroValue26 rfl rfl rfl rfl rfl rfl rfl) ?_
          refine AOps.cons (o_append _ _ Tryd.underlying22 info26 rfl rfl rfl rfl rfl rfl rfl rfl (fun c hc => by simp at hc; subst hc; rfl) tests_z (by
              rw [tests_len]; simp only [List.length_cons, List.length_nil, Nat.zero_add]; unfold Tryd.t26; simp only []; omega) rfl (tests_snoc s.tests t) rfl) ?_
          refine AOps.call (o_fieldRef _ rfl fa24_2 rfl rfl) ?_
          refine AOps.cons (o_store _ _ rfl rfl Tryd.sizeOf22 rfl rfl rfl rfl rfl) ?_
          refine AOps.nil ?_
          refine AWP.seq ?_
          refine AWP.region ?_
          refine AOps.call (o_loadRef _ rfl rfl Tryd.sizeOf24 Tryd.isAgg24 rfl rfl rfl) ?_
          refine AOps.call (o_call (FA) Tryd.call69 rfl rfl) ?_
          refine AOps.call (o_move _ rfl rfl) ?_
          refine AOps.call (o_extract _ rfl rfl rfl rfl) ?_
          refine AOps.call (o_extract _ rfl rfl rfl rfl) ?_
          refine AOps.call (o_alloc ze28 rfl rfl) ?_
          refine AOps.cons (o_store _ _ rfl rfl Tryd.sizeOf28 rfl rfl rfl rfl rfl) ?_
          refine AOps.call (o_assign _ rfl rfl) ?_
          refine AOps.nil ?_
          refine AWP.seq ?_
          refine AWP.seq ?_
          refine AWP.region ?_
          refine AOps.call (o_move _ rfl rfl) ?_
          refine AOps.nil ?_
          refine AWP.cond _ rfl (fun h69 => ?_) (fun h69 => ?_)
          · skip
            have hE : addE s t = 13 := by rw [hE0]; exact if_pos h69
            refine AWP.seq ?_
            refine AWP.region ?_
            refine AOps.call (o_build bu24 rfl rfl rfl) ?_
            refine AOps.cons (o_store _ _ rfl rfl Tryd.sizeOf24 rfl rfl rfl rfl rfl) ?_
            refine AOps.call (o_assign _ rfl rfl) ?_
            refine AOps.nil ?_
            refine AWP.ret ?_
            refine postQ.retC1 Tryd.results16 rfl rfl Tryd.sizeOf24 Tryd.isAgg24 rfl rfl ?_
            first
            | (rw [if_pos hE]; rfl)
            | (rw [if_neg (show ¬ addE s t = 0 by rw [hE]; first | exact hz | omega), hE]; rfl)
            | (rw [if_neg (show ¬ addE s t = 0 by rw [hE]; omega), hE, ht]; rfl)
          · skip
            have hE : addE s t = 0 := by rw [hE0]; exact if_neg (by rw [h69]; simp)
            refine AWP.skip ?_
            refine AWP.seq ?_
            refine AWP.region ?_
            refine AOps.call (o_loadRef _ rfl rfl Tryd.sizeOf24 Tryd.isAgg24 rfl rfl rfl) ?_
            refine AOps.cons (o_store _ _ rfl rfl Tryd.sizeOf24 rfl rfl rfl rfl rfl) ?_
            refine AOps.call (o_assign _ rfl rfl) ?_
            refine AOps.nil ?_
            refine AWP.ret ?_
            refine postQ.retC1 Tryd.results16 rfl rfl Tryd.sizeOf24 Tryd.isAgg24 rfl rfl ?_
            first
            | (rw [if_pos hE]; rfl)
            | (rw [if_neg (show ¬ addE s t = 0 by rw [hE]; first | exact hz | omega), hE]; rfl)
            | (rw [if_neg (show ¬ addE s t = 0 by rw [hE]; omega), hE, ht]; rfl)

set_option maxRecDepth 20000 in
theorem SameScale_s (s : Scl) (hl : s.tests.length ≤ 1000) : FSpec Tryd.prog 21 [.agg (eS s), .agg (eS s)] (B true) (none) := by
  refine FSpec.of_body Tryd.func21 rfl (leB rfl) fun w0 M0 => ?_
  refine AWP.seq ?_
  refine AWP.region ?_
  refine AOps.call (o_box _ rfl rfl rfl) ?_
  refine AOps.call (o_box _ rfl rfl rfl) ?_
  refine AOps.call (o_assign _ rfl rfl) ?_
  refine AOps.nil ?_
  refine AWP.seq ?_
  refine AWP.seq ?_
  refine AWP.region ?_
  refine AOps.call (o_fieldRef _ rfl fa24_0 rfl rfl) ?_
  refine AOps.call (o_loadRef _ rfl rfl Tryd.sizeOf3 Tryd.isAgg3 rfl rfl rfl) ?_
  refine AOps.call (o_fieldRef _ rfl fa24_0 rfl rfl) ?_
  refine AOps.call (o_loadRef _ rfl rfl Tryd.sizeOf3 Tryd.isAgg3 rfl rfl rfl) ?_
  refine AOps.call (o_bin _ _ rfl rfl (fun _ => rfl) rfl) ?_
  refine AOps.call (o_move _ rfl rfl) ?_
  refine AOps.split rfl rfl rfl (fun h8 => ?_) (fun h8 => ?_)
  · skip
    refine AOps.go rfl rfl rfl h8 (o_fieldRef _ rfl fa24_1 rfl rfl) ?_
    refine AOps.go rfl rfl rfl h8 (o_loadRef _ rfl rfl Tryd.sizeOf3 Tryd.isAgg3 rfl rfl rfl) ?_
    refine AOps.go rfl rfl rfl h8 (o_fieldRef _ rfl fa24_1 rfl rfl) ?_
    refine AOps.go rfl rfl rfl h8 (o_loadRef _ rfl rfl Tryd.sizeOf3 Tryd.isAgg3 rfl rfl rfl) ?_
    refine AOps.go rfl rfl rfl h8 (o_bin _ _ rfl rfl (fun _ => rfl) rfl) ?_
    refine AOps.call (o_pickF _ _ _ rfl h8 rfl rfl) ?_
    refine AOps.call (o_move _ rfl rfl) ?_
    refine AOps.split rfl rfl rfl (fun h14 => ?_) (fun h14 => ?_)
    · skip
      refine AOps.go rfl rfl rfl h14 (o_fieldRef _ rfl fa24_2 rfl rfl) ?_
      refine AOps.go rfl rfl rfl h14 (o_loadRef _ rfl rfl Tryd.sizeOf22 Tryd.isAgg22 rfl rfl rfl) ?_
      refine AOps.go rfl rfl rfl h14 (o_len _ Tryd.underlying22 rfl rfl) ?_
      refine AOps.go rfl rfl rfl h14 (o_fieldRef _ rfl fa24_2 rfl rfl) ?_
      refine AOps.go rfl rfl rfl h14 (o_loadRef _ rfl rfl Tryd.sizeOf22 Tryd.isAgg22 rfl rfl rfl) ?_
      refine AOps.go rfl rfl rfl h14 (o_len _ Tryd.underlying22 rfl rfl) ?_
      refine AOps.go rfl rfl rfl h14 (o_bin _ _ rfl rfl (fun _ => rfl) rfl) ?_
      refine AOps.call (o_pickF _ _ _ rfl h14 rfl rfl) ?_
      refine AOps.nil ?_
      refine AWP.cond _ rfl (fun h22 => ?_) (fun h22 => ?_)
      · skip
        refine AWP.seq ?_
        refine AWP.region ?_
        refine AOps.call (o_assign _ rfl rfl) ?_
        refine AOps.nil ?_
        refine AWP.ret ?_
        first
        | exact postQ.ret1 Tryd.results21 rfl rfl
        | (exfalso; simp at *; done)
        | (exfalso; simp_all; done)
      · skip
        refine AWP.skip ?_
        refine AWP.seq ?_
        refine AWP.seq ?_
        refine AWP.region ?_
        refine AOps.call (o_assign _ rfl rfl) ?_
        refine AOps.nil ?_
        refine AWP.block ?_
        refine AWP.loop (ι := Nat) (fun i => AS.mk' 45 [(2, .ref (2, 0) 0), (3, .ref (3, 0) 0), (5, I i)] [((2, 0), eS s), ((3, 0), eS s)] [] [(2, 1), (3, 1)]) (fun i => i ≤ s.tests.length) (fun i => s.tests.length - i) (0) (Weak.mk' rfl ⟨⟨.refl rfl, rfl⟩, ⟨⟨.refl rfl, rfl⟩, ⟨⟨.refl rfl, rfl⟩, trivial⟩⟩⟩ ⟨⟨rfl, rfl, rfl⟩, ⟨⟨rfl, rfl, rfl⟩, trivial⟩⟩ trivial) (Nat.zero_le _) ?_
        rintro k hk
        try dsimp only at *
        refine AWP.seq ?_
        refine AWP.seq ?_
        refine AWP.region ?_
        refine AOps.call (o_move _ rfl rfl) ?_
        refine AOps.call (o_fieldRef _ rfl fa24_2 rfl rfl) ?_
        refine AOps.call (o_loadRef _ rfl rfl Tryd.sizeOf22 Tryd.isAgg22 rfl rfl rfl) ?_
        refine AOps.call (o_len _ Tryd.underlying22 rfl rfl) ?_
        refine AOps.call (o_bin _ _ rfl rfl (fun _ => rfl) rfl) ?_
        refine AOps.nil ?_
        refine AWP.cond _ rfl (fun h28 => ?_) (fun h28 => ?_)
        · skip
          have hlt : k < s.tests.length := by simpa [tests] using h28
          have hel := tests_get hlt
          refine AWP.skip ?_
          refine AWP.seq ?_
          refine AWP.block ?_
          refine AWP.seq ?_
          refine AWP.drawn 11 mixed (by kernel_rfl) ?_
          refine AHead.call (o_fieldRef _ rfl fa24_2 rfl rfl) rfl ?_
          refine AHead.call (o_loadRef _ rfl rfl Tryd.sizeOf22 Tryd.isAgg22 rfl rfl rfl) rfl ?_
          refine AHead.call (o_move _ rfl rfl) rfl ?_
          refine AHead.call (o_index _ _ Tryd.underlying22 Tryd.sizeOf26 rfl rfl (by omega) (by assumption) rfl rfl) rfl ?_
          refine AHead.call (o_loadRd _ rfl Tryd.sizeOf26 Tryd.isAgg26 rfl rfl rfl) rfl ?_
          refine AHead.call (o_fieldRef _ rfl fa24_2 rfl rfl) rfl ?_
          refine AHead.call (o_loadRef _ rfl rfl Tryd.sizeOf22 Tryd.isAgg22 rfl rfl rfl) rfl ?_
          refine AHead.call (o_move _ rfl rfl) rfl ?_
          refine AHead.call (o_index _ _ Tryd.underlying22 Tryd.sizeOf26 rfl rfl (by omega) (by assumption) rfl rfl) rfl ?_
          refine AHead.call (o_loadRd _ rfl Tryd.sizeOf26 Tryd.isAgg26 rfl rfl rfl) rfl ?_
          refine AHead.call (o_bin _ _ rfl rfl (testNe _ _ _ _ _ _) rfl) rfl ?_
          refine AHead.nil ?_
          refine AOps.nil ?_
          refine AWP.cond _ rfl (fun h38 => ?_) (fun h38 => ?_)
          · skip
            refine AWP.seq ?_
            refine AWP.region ?_
            refine AOps.call (o_assign _ rfl rfl) ?_
            refine AOps.nil ?_
            refine AWP.ret ?_
            first
            | exact postQ.ret1 Tryd.results21 rfl rfl
            | (exfalso; simp at *; done)
            | (exfalso; simp_all; done)
          · skip
            refine AWP.skip ?_
            refine AWP.region ?_
            refine AOps.call (o_move _ rfl rfl) ?_
            refine AOps.call (o_add _ _ rfl rfl ⟨by (try dsimp only); omega, by (try dsimp only); omega⟩ rfl) ?_
            refine AOps.call (o_assign _ rfl rfl) ?_
            refine AOps.nil ?_
            refine ⟨k + 1, ?_, (Weak.mk' rfl ⟨⟨.refl rfl, rfl⟩, ⟨⟨.refl rfl, rfl⟩, ⟨⟨.refl rfl, rfl⟩, trivial⟩⟩⟩ ⟨⟨rfl, rfl, rfl⟩, ⟨⟨rfl, rfl, rfl⟩, trivial⟩⟩ trivial)⟩
            exact ⟨by omega, by omega⟩
        · skip
          refine AWP.exit ?_
          refine AWP.seq ?_
          refine AWP.region ?_
          refine AOps.call (o_assign _ rfl rfl) ?_
          refine AOps.nil ?_
          refine AWP.ret ?_
          first
          | exact postQ.ret1 Tryd.results21 rfl rfl
          | (exfalso; simp at *; done)
          | (exfalso; simp_all; done)
    · skip
      refine AOps.pass rfl rfl rfl h14 rfl ?_
      refine AOps.pass rfl rfl rfl h14 rfl ?_
      refine AOps.pass rfl rfl rfl h14 rfl ?_
      refine AOps.pass rfl rfl rfl h14 rfl ?_
      refine AOps.pass rfl rfl rfl h14 rfl ?_
      refine AOps.pass rfl rfl rfl h14 rfl ?_
      refine AOps.pass rfl rfl rfl h14 rfl ?_
      refine AOps.call (o_pickT _ _ _ rfl h14 rfl rfl) ?_
      refine AOps.nil ?_
      refine AWP.condT rfl ?_
      refine AWP.seq ?_
      refine AWP.region ?_
      refine AOps.call (o_assign _ rfl rfl) ?_
      refine AOps.nil ?_
      refine AWP.ret ?_
      first
      | exact postQ.ret1 Tryd.results21 rfl rfl
      | (exfalso; simp at *; done)
      | (exfalso; simp_all; done)
  · skip
    refine AOps.pass rfl rfl rfl h8 rfl ?_
    refine AOps.pass rfl rfl rfl h8 rfl ?_
    refine AOps.pass rfl rfl rfl h8 rfl ?_
    refine AOps.pass rfl rfl rfl h8 rfl ?_
    refine AOps.pass rfl rfl rfl h8 rfl ?_
    refine AOps.call (o_pickT _ _ _ rfl h8 rfl rfl) ?_
    refine AOps.call (o_move _ rfl rfl) ?_
    refine AOps.pass rfl rfl rfl rfl rfl ?_
    refine AOps.pass rfl rfl rfl rfl rfl ?_
    refine AOps.pass rfl rfl rfl rfl rfl ?_
    refine AOps.pass rfl rfl rfl rfl rfl ?_
    refine AOps.pass rfl rfl rfl rfl rfl ?_
    refine AOps.pass rfl rfl rfl rfl rfl ?_
    refine AOps.pass rfl rfl rfl rfl rfl ?_
    refine AOps.call (o_pickT _ _ _ rfl rfl rfl rfl) ?_
    refine AOps.nil ?_
    refine AWP.condT rfl ?_
    refine AWP.seq ?_
    refine AWP.region ?_
    refine AOps.call (o_assign _ rfl rfl) ?_
    refine AOps.nil ?_
    refine AWP.ret ?_
    first
    | exact postQ.ret1 Tryd.results21 rfl rfl
    | (exfalso; simp at *; done)
    | (exfalso; simp_all; done)

end Go.Proofs.YtphoomnonenalaaDoor
