import Derived.Test.YtphoomnonenalaaGreatDoorR1
import Derived.Test.YtphoomnonenalaaGreatDoorEq1
set_option linter.unusedSimpArgs false
set_option linter.unusedVariables false
namespace Go.Proofs.YtphoomnonenalaaGreatDoor
open Go.Ab
theorem postQ.retCF {P : Program} {σ : AS} {fn : Func} {t ty off sz : Nat} {id id' : OId} {ag : Bool} {cs : List AV} {v r : AV} {tr : Nat × Nat × TypeId} (hf : fn.results = #[.cell t ty]) (h1 : nf (σ.tm t) = some (.ref id off)) (h2 : σ.va id = some cs) (h3 : ∀ w, (sizeOf ty).run P w = .ok sz w)
    (h4 : ∀ w, (isAgg ty).run P w = .ok ag w) (h5 : partA ag sz (cs.drop off) = some v) (hg : σ.gr id' = some tr) (hr : v.exp id' = some r) : postQ P fn r (some tr) .ret σ :=
  ⟨[v], by rw [hf]; exact ⟨ResV.cell h1 h2 h3 h4 h5, trivial⟩, id', hg, hr⟩
theorem scaleE_pairs {s : Scl} (h : scaleE s = 0) : pairs s.rate s.tests 0 = none := by
  unfold scaleE at h
  rw [if_pos (scaleE_0 h)] at h
  cases hp : pairs s.rate s.tests 0 with
  | none => rfl
  | some q => rw [hp] at h; simp at h
theorem pairs_snoc (r : Int) (t : Tst) : ∀ (l : List Tst) (i : Nat), pairs r l i = none → (pairs r (l ++ [t]) i).isSome = l.any (fun x => contraB r x t) := by
  intro l
  induction l with
  | nil => intro i _; rfl
  | cons a l ih =>
    intro i h
    simp only [pairs] at h
    cases hf : l.findIdx? (contraB r a) with
    | some j => rw [hf] at h; cases h
    | none =>
      rw [hf] at h
      have h2 := ih (i + 1) h
      have h3 : (l ++ [t]).findIdx? (contraB r a) = if contraB r a t then some l.length else none := by
        rw [List.findIdx?_append, hf]
        cases hc : contraB r a t <;> simp [List.findIdx?_cons, hc]
      simp only [List.cons_append, pairs, h3, List.any_cons]
      cases hc : contraB r a t with
      | true => rfl
      | false => simpa using h2
theorem g26 : Tryz.prog.eqGuardType Tryz.prog.depth 37 = false := by kernel_rfl
theorem s26 : Tryz.prog.stoodInHeld 37 = false := by kernel_rfl
set_option maxRecDepth 20000 in
theorem testEqIn (k : Nat) (a b c d : Int) (w : World) : (Op.equalIn (k + 2) 37 (.agg #[.int .i64 a, .int .i64 b, .int .i64 c, .int .i64 d]) (.agg #[.int .i64 a, .int .i64 b, .int .i64 c, .int .i64 d])).run Tryz.prog w = .ok true w := by
  have hf : Tryz.prog.fieldsOf 37 = (match Tryz.prog.underlying 37 with | some (.struct fs) => fs | _ => #[]) := rfl
  rw [Tryz.underlying37] at hf
  have hu : Tryz.prog.underlying 37 = some (.struct (Tryz.prog.fieldsOf 37)) := by rw [hf]; exact Tryz.underlying37
  rw [run_equalIn_struct w (k + 1) 37 _ _ hu s26, hf]
  have hi : ∀ x y w, (Op.equalIn (k + 1) 3 (.int .i64 x) (.int .i64 y)).run Tryz.prog w = .ok (x == y) w := fun x y w => run_equalIn_int w k 3 .i64 .i64 x y Tryz.underlying3
  simp [Op.eqFields, part, Tryz.isAgg3, Tryz.sizeOf3, hi, Result.andThen]
theorem testEqual (a b c d : Int) (w : World) : (Op.equal 37 (.agg #[.int .i64 a, .int .i64 b, .int .i64 c, .int .i64 d]) (.agg #[.int .i64 a, .int .i64 b, .int .i64 c, .int .i64 d])).run Tryz.prog w = .ok true w := testEqIn 9998 a b c d w
theorem testNe (x y : Operand) (a b c d : Int) (w : World) : (do eqGuard .neq 37 x y (.agg #[.int .i64 a, .int .i64 b, .int .i64 c, .int .i64 d]) (.agg #[.int .i64 a, .int .i64 b, .int .i64 c, .int .i64 d]); binOp .neq 37 (.agg #[.int .i64 a, .int .i64 b, .int .i64 c, .int .i64 d]) (.agg #[.int .i64 a, .int .i64 b, .int .i64 c, .int .i64 d]) : Sem Value).run Tryz.prog w = .ok (.bool false) w := by
  simp [eqGuard, binOp, g26, testEqual, Result.andThen]

set_option maxRecDepth 20000 in
theorem rCheckScale_s (s : Scl) : FSpec Tryz.prog 44 [.agg (eS s)] (I (scaleE s)) (none) := by
  refine FSpec.of_body Tryz.func44 rfl (leB rfl) fun w0 M0 => ?_
  refine AWP.seq ?_
  refine AWP.region ?_
  refine AOps.call (o_box _ rfl rfl rfl) ?_
  refine AOps.call (o_assign _ rfl rfl) ?_
  refine AOps.nil ?_
  refine AWP.seq ?_
  refine AWP.region ?_
  refine AOps.call (o_loadRef _ rfl rfl Tryz.sizeOf24 Tryz.isAgg24 rfl rfl rfl) ?_
  refine AOps.call (o_call (rvalid_s s) Tryz.call80 rfl rfl) ?_
  refine AOps.call (o_assign _ rfl rfl) ?_
  refine AOps.nil ?_
  refine AWP.seq ?_
  refine AWP.seq ?_
  refine AWP.region ?_
  refine AOps.call (o_move _ rfl rfl) ?_
  refine AOps.call (o_un _ rfl (fun _ => rfl) rfl) ?_
  refine AOps.nil ?_
  refine AWP.cond _ rfl (fun h6 => ?_) (fun h6 => ?_)
  · skip
    have hsb : scaleB s = false := by simpa using h6
    refine AWP.seq ?_
    refine AWP.region ?_
    refine AOps.call (o_assign _ rfl rfl) ?_
    refine AOps.nil ?_
    refine AWP.ret ?_
    refine postQ.ret1 Tryz.results44 rfl ?_
    unfold scaleE
    rw [hsb]
    first
    | rfl
    | (cases hp : pairs s.rate s.tests 0 with
       | none => rw [hp] at hcase; obtain ⟨rfl, rfl, rfl⟩ := hcase; simp_all [AV.close, I]
       | some q => obtain ⟨a, b⟩ := q; rw [hp] at hcase; obtain ⟨rfl, rfl, rfl⟩ := hcase; simp_all [AV.close, I])
  · skip
    have hsb : scaleB s = true := by simpa using h6
    have FA0 := rpair_s s (scaleB_rate hsb) (by have := scaleB_len hsb; omega) (scaleB_tests hsb)
    obtain ⟨i, j, is, FA, hcase⟩ : ∃ (i j : Int) (is : Bool), FSpec Tryz.prog 81 [.agg (eS s)] (.tup [.agg [I i, I j], B is]) none ∧ (match pairs s.rate s.tests 0 with | some (a, b) => i = a ∧ j = b ∧ is = true | none => i = 0 ∧ j = 0 ∧ is = false) := by
      cases hp : pairs s.rate s.tests 0 with
      | none => rw [hp] at FA0; exact ⟨0, 0, false, FA0, rfl, rfl, rfl⟩
      | some q => obtain ⟨a, b⟩ := q; rw [hp] at FA0; exact ⟨a, b, true, FA0, rfl, rfl, rfl⟩
    refine AWP.skip ?_
    refine AWP.seq ?_
    refine AWP.region ?_
    refine AOps.call (o_loadRef _ rfl rfl Tryz.sizeOf24 Tryz.isAgg24 rfl rfl rfl) ?_
    refine AOps.call (o_call (FA) Tryz.call81 rfl rfl) ?_
    refine AOps.call (o_move _ rfl rfl) ?_
    refine AOps.call (o_extract _ rfl rfl rfl rfl) ?_
    refine AOps.call (o_extract _ rfl rfl rfl rfl) ?_
    refine AOps.call (o_alloc ze112 rfl rfl) ?_
    refine AOps.cons (o_store _ _ rfl rfl Tryz.sizeOf112 rfl rfl rfl rfl rfl) ?_
    refine AOps.call (o_assign _ rfl rfl) ?_
    refine AOps.nil ?_
    refine AWP.seq ?_
    refine AWP.seq ?_
    refine AWP.region ?_
    refine AOps.call (o_move _ rfl rfl) ?_
    refine AOps.nil ?_
    refine AWP.cond _ rfl (fun h13 => ?_) (fun h13 => ?_)
    · skip
      refine AWP.seq ?_
      refine AWP.region ?_
      refine AOps.call (o_assign _ rfl rfl) ?_
      refine AOps.nil ?_
      refine AWP.ret ?_
      refine postQ.ret1 Tryz.results44 rfl ?_
      unfold scaleE
      rw [hsb]
      first
      | rfl
      | (cases hp : pairs s.rate s.tests 0 with
         | none => rw [hp] at hcase; obtain ⟨rfl, rfl, rfl⟩ := hcase; simp_all [AV.close, I]
         | some q => obtain ⟨a, b⟩ := q; rw [hp] at hcase; obtain ⟨rfl, rfl, rfl⟩ := hcase; simp_all [AV.close, I])
    · skip
      refine AWP.skip ?_
      refine AWP.seq ?_
      refine AWP.region ?_
      refine AOps.call (o_assign _ rfl rfl) ?_
      refine AOps.nil ?_
      refine AWP.ret ?_
      refine postQ.ret1 Tryz.results44 rfl ?_
      unfold scaleE
      rw [hsb]
      first
      | rfl
      | (cases hp : pairs s.rate s.tests 0 with
         | none => rw [hp] at hcase; obtain ⟨rfl, rfl, rfl⟩ := hcase; simp_all [AV.close, I]
         | some q => obtain ⟨a, b⟩ := q; rw [hp] at hcase; obtain ⟨rfl, rfl, rfl⟩ := hcase; simp_all [AV.close, I])

end Go.Proofs.YtphoomnonenalaaGreatDoor
