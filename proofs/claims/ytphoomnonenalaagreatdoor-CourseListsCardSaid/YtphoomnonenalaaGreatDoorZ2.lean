import Derived.Test.YtphoomnonenalaaGreatDoorZ1
import Derived.Test.YtphoomnonenalaaGreatDoorC14
set_option linter.unusedSimpArgs false
set_option linter.unusedVariables false
namespace Go.Proofs.YtphoomnonenalaaGreatDoor
open Go.Ab
theorem eqB_self (x : List Int) : eqB x x = true := by
  induction x with
  | nil => rfl
  | cons a x ih => simp only [eqB, ih, decide_true, Bool.and_self]

def firstI (p : Sht → Bool) : List Sht → Nat → Int
  | [], _ => -1
  | s :: l, j => if p s then j else firstI p l (j + 1)
theorem firstI_at {p : Sht → Bool} {l : List Sht} {k : Nat} (h : k < l.length) : firstI p (l.drop k) k = if p l[k] then (k : Int) else firstI p (l.drop (k + 1)) (k + 1) := by
  rw [List.drop_eq_getElem_cons h]; rfl
theorem firstI_any {p : Sht → Bool} : ∀ (l : List Sht) (j : Nat), decide (firstI p l j ≥ 0) = l.any p := by
  intro l
  induction l with
  | nil => intro j; rfl
  | cons a l ih =>
    intro j
    have hf : firstI p (a :: l) j = if p a = true then (j : Int) else firstI p l (j + 1) := rfl
    rw [Bool.eq_iff_iff, decide_eq_true_eq, hf, List.any_cons]
    by_cases h : p a = true
    · rw [if_pos h, h]; simp
    · have h2 : p a = false := by simpa using h
      rw [if_neg h, h2, Bool.false_or, ← ih (j + 1), decide_eq_true_eq]
def bigS (s : Sht) : Bool := decide (100 < s.stakes.length)

set_option maxRecDepth 20000 in
theorem short1_s (s : Sht) : FSpec Tryz.prog 31 [.agg (eH s)] (B (bigS s)) (none) := by
  refine FSpec.of_body Tryz.func31 rfl (leB rfl) fun w0 M0 => ?_
  refine AWP.seq ?_
  refine AWP.region ?_
  refine AOps.call (o_box _ rfl rfl rfl) ?_
  refine AOps.call (o_assign _ rfl rfl) ?_
  refine AOps.nil ?_
  refine AWP.seq ?_
  refine AWP.region ?_
  refine AOps.call (o_fieldRef _ rfl fa40_8 rfl rfl) ?_
  refine AOps.call (o_loadRef _ rfl rfl Tryz.sizeOf38 Tryz.isAgg38 rfl rfl rfl) ?_
  refine AOps.call (o_len _ Tryz.underlying38 rfl rfl) ?_
  refine AOps.call (o_bin _ _ rfl rfl (fun _ => rfl) rfl) ?_
  refine AOps.call (o_assign _ rfl rfl) ?_
  refine AOps.nil ?_
  refine AWP.ret ?_
  refine postQ.ret1 Tryz.results31 rfl ?_
  have hd : decide (((stakes s.stakes).length : Int) > 100) = bigS s := by unfold bigS; rw [decide_eq_decide, stakes_len]; omega
  rw [hd]; rfl

set_option maxRecDepth 20000 in
theorem IndexBig_s (l : List Sht) (hl : l.length ≤ 1000000) : FSpec Tryz.prog 74 [.sl (shts l), .clo 31 []] (I (firstI bigS l 0)) (none) := by
  refine FSpec.of_body Tryz.func74 rfl (leB rfl) fun w0 M0 => ?_
  refine AWP.seq ?_
  refine AWP.region ?_
  refine AOps.call (o_assign _ rfl rfl) ?_
  refine AOps.nil ?_
  refine AWP.seq ?_
  refine AWP.seq ?_
  refine AWP.region ?_
  refine AOps.call (o_move _ rfl rfl) ?_
  refine AOps.call (o_len _ Tryz.underlying25 rfl rfl) ?_
  refine AOps.call (o_move _ rfl rfl) ?_
  refine AOps.nil ?_
  refine AWP.block ?_
  refine AWP.loop (ι := Nat) (fun i => AS.mk' 19 [(0, .sl (shts l)), (1, .clo 31 []), (7, I (shts l).length), (8, I i)] [] [] []) (fun i => i ≤ l.length ∧ firstI bigS l 0 = firstI bigS (l.drop i) i) (fun i => l.length - i) (0) (Weak.mk' rfl ⟨⟨.refl rfl, rfl⟩, ⟨⟨.refl rfl, rfl⟩, ⟨⟨.refl rfl, rfl⟩, ⟨⟨.refl rfl, rfl⟩, trivial⟩⟩⟩⟩ trivial trivial) (⟨Nat.zero_le _, rfl⟩) ?_
  rintro k ⟨hk, hinv⟩
  try dsimp only at *
  refine AWP.seq ?_
  refine AWP.region ?_
  refine AOps.call (o_bin _ _ rfl rfl (fun _ => rfl) rfl) ?_
  refine AOps.nil ?_
  refine AWP.seq ?_
  refine AWP.cond _ rfl (fun h6 => ?_) (fun h6 => ?_)
  · skip
    have hlt : k < l.length := by simp [shts_len] at h6; omega
    have hel := shts_get hlt
    refine AWP.skip ?_
    refine AWP.seq ?_
    refine AWP.block ?_
    refine AWP.seq ?_
    refine AWP.region ?_
    refine AOps.call (o_move _ rfl rfl) ?_
    refine AOps.call (o_assign _ rfl rfl) ?_
    refine AOps.nil ?_
    refine AWP.seq ?_
    refine AWP.region ?_
    refine AOps.call (o_move _ rfl rfl) ?_
    refine AOps.call (o_move _ rfl rfl) ?_
    refine AOps.call (o_move _ rfl rfl) ?_
    refine AOps.call (o_index _ _ Tryz.underlying25 Tryz.sizeOf40 rfl rfl (by omega) (by assumption) rfl rfl) ?_
    refine AOps.call (o_loadRd _ rfl Tryz.sizeOf40 Tryz.isAgg40 rfl rfl rfl) ?_
    refine AOps.call (o_callV (cl := [.agg (eH l[k])]) (ccl := []) _ rfl (short1_s l[k]) Tryz.call31 rfl rfl rfl) ?_
    refine AOps.nil ?_
    refine AWP.cond _ rfl (fun h12 => ?_) (fun h12 => ?_)
    · skip
      have hq : bigS l[k] = true := h12
      refine AWP.seq ?_
      refine AWP.region ?_
      refine AOps.call (o_move _ rfl rfl) ?_
      refine AOps.call (o_assign _ rfl rfl) ?_
      refine AOps.nil ?_
      refine AWP.ret ?_
      refine postQ.ret1 Tryz.results74 rfl ?_
      first
      | (rw [hinv, firstI_at hlt, hq]; rfl)
      | (rw [hinv]; rfl)
    · skip
      have hq : bigS l[k] = false := h12
      refine AWP.skip ?_
      refine AWP.region ?_
      refine AOps.call (o_add _ _ rfl rfl ⟨by (try dsimp only); omega, by (try dsimp only); omega⟩ rfl) ?_
      refine AOps.call (o_move _ rfl rfl) ?_
      refine AOps.nil ?_
      refine ⟨k + 1, ?_, (Weak.mk' rfl ⟨⟨.refl rfl, rfl⟩, ⟨⟨.refl rfl, rfl⟩, ⟨⟨.refl rfl, rfl⟩, ⟨⟨.refl rfl, rfl⟩, trivial⟩⟩⟩⟩ trivial trivial)⟩
      refine ⟨⟨by omega, ?_⟩, by omega⟩
      rw [hinv, firstI_at hlt, hq]; rfl
  · skip
    have hkl : k = l.length := by simp [shts_len] at h6; omega
    subst hkl
    rw [List.drop_length] at hinv
    refine AWP.exit ?_
    refine AWP.seq ?_
    refine AWP.region ?_
    refine AOps.call (o_assign _ rfl rfl) ?_
    refine AOps.nil ?_
    refine AWP.ret ?_
    refine postQ.ret1 Tryz.results74 rfl ?_
    first
    | (rw [hinv, firstI_at hlt, hq]; rfl)
    | (rw [hinv]; rfl)

set_option maxRecDepth 20000 in
theorem ContainsBig_s (l : List Sht) (hl : l.length ≤ 1000000) : FSpec Tryz.prog 30 [.sl (shts l), .clo 31 []] (B (l.any bigS)) (none) := by
  refine FSpec.of_body Tryz.func30 rfl (leB rfl) fun w0 M0 => ?_
  refine AWP.seq ?_
  refine AWP.region ?_
  refine AOps.call (o_assign _ rfl rfl) ?_
  refine AOps.nil ?_
  refine AWP.seq ?_
  refine AWP.region ?_
  refine AOps.call (o_move _ rfl rfl) ?_
  refine AOps.call (o_move _ rfl rfl) ?_
  refine AOps.call (o_call (IndexBig_s l hl) Tryz.call74 rfl rfl) ?_
  refine AOps.call (o_bin _ _ rfl rfl (fun _ => rfl) rfl) ?_
  refine AOps.call (o_assign _ rfl rfl) ?_
  refine AOps.nil ?_
  refine AWP.ret ?_
  refine postQ.ret1 Tryz.results30 rfl ?_
  have hd : decide (firstI bigS l 0 ≥ 0) = l.any bigS := firstI_any l 0
  rw [← hd]; rfl

set_option maxRecDepth 20000 in
theorem short_s (l : List Sht) : FSpec Tryz.prog 6 [.sl (shts l)] (B (decide (l.length ≤ 300) && !l.any bigS)) (none) := by
  refine FSpec.of_body Tryz.func6 rfl (leB rfl) fun w0 M0 => ?_
  refine AWP.seq ?_
  refine AWP.region ?_
  refine AOps.call (o_assign _ rfl rfl) ?_
  refine AOps.nil ?_
  refine AWP.seq ?_
  refine AWP.region ?_
  refine AOps.call (o_move _ rfl rfl) ?_
  refine AOps.call (o_len _ Tryz.underlying25 rfl rfl) ?_
  refine AOps.call (o_bin _ _ rfl rfl (fun _ => rfl) rfl) ?_
  refine AOps.call (o_move _ rfl rfl) ?_
  refine AOps.split rfl rfl rfl (fun h4 => ?_) (fun h4 => ?_)
  · skip
    have h300 : l.length ≤ 300 := by simp [shts_len] at h4; omega
    refine AOps.go rfl rfl rfl h4 (o_move _ rfl rfl) ?_
    refine AOps.go rfl rfl rfl h4 (o_call (ContainsBig_s l (by omega)) Tryz.call30 rfl rfl) ?_
    refine AOps.go rfl rfl rfl h4 (o_un _ rfl (fun _ => rfl) rfl) ?_
    refine AOps.call (o_pickT _ _ _ rfl h4 rfl rfl) ?_
    refine AOps.call (o_assign _ rfl rfl) ?_
    refine AOps.nil ?_
    refine AWP.ret ?_
    refine postQ.ret1 Tryz.results6 rfl ?_
    first
    | (rw [decide_eq_true h300, Bool.true_and]; rfl)
    | (rw [decide_eq_false h300]; simp_all [AV.close, B, shts_len]; done)
    | (rw [decide_eq_false h300]; rfl)
  · skip
    have h300 : ¬ l.length ≤ 300 := by simp [shts_len] at h4; omega
    refine AOps.pass rfl rfl rfl h4 rfl ?_
    refine AOps.pass rfl rfl rfl h4 rfl ?_
    refine AOps.pass rfl rfl rfl h4 rfl ?_
    refine AOps.call (o_pickF _ _ _ rfl h4 rfl rfl) ?_
    refine AOps.call (o_assign _ rfl rfl) ?_
    refine AOps.nil ?_
    refine AWP.ret ?_
    refine postQ.ret1 Tryz.results6 rfl ?_
    first
    | (rw [decide_eq_true h300, Bool.true_and]; rfl)
    | (rw [decide_eq_false h300]; simp_all [AV.close, B, shts_len]; done)
    | (rw [decide_eq_false h300]; rfl)

set_option maxRecDepth 20000 in
theorem CourseLists_s (c : Scl) (l : List Sht) (wd : List Int) (d0 d1 d2 : Int) : FSpecG Tryz.prog TAB 3 [.agg (eS c), .sl (shts l), .sl (ints wd), .agg [I d0, I d1, I d2]] (B true) (none) := by
  refine FSpecG.of_body tab_stable Tryz.func3 rfl (leB rfl) fun w0 M0 hG => ?_
  refine AWP.seq ?_
  refine AWP.region ?_
  refine AOps.call (o_box _ rfl rfl rfl) ?_
  refine AOps.call (o_box _ rfl rfl rfl) ?_
  refine AOps.call (o_assign _ rfl rfl) ?_
  refine AOps.nil ?_
  refine AWP.seq ?_
  refine AWP.seq ?_
  refine AWP.region ?_
  refine AOps.call (o_callG (sane_s) hG Tryz.call5 rfl rfl) ?_
  refine AOps.call (o_un _ rfl (fun _ => rfl) rfl) ?_
  refine AOps.nil ?_
  refine AWP.cond _ rfl (fun h5 => ?_) (fun h5 => ?_)
  · skip
    refine AWP.seq ?_
    refine AWP.region ?_
    refine AOps.call (o_assign _ rfl rfl) ?_
    refine AOps.nil ?_
    refine AWP.ret ?_
    first
    | exact postQ.ret1 Tryz.results3 rfl rfl
    | (exfalso; simp at *; done)
    | (exfalso; simp_all; done)
    | (refine postQ.ret1 Tryz.results3 rfl ?_; simp [AV.close, B]; done)
  · skip
    refine AWP.skip ?_
    refine AWP.seq ?_
    refine AWP.seq ?_
    refine AWP.region ?_
    refine AOps.call (o_fieldRef _ rfl fa24_2 rfl rfl) ?_
    refine AOps.call (o_loadRef _ rfl rfl Tryz.sizeOf22 Tryz.isAgg22 rfl rfl rfl) ?_
    refine AOps.call (o_len _ Tryz.underlying22 rfl rfl) ?_
    refine AOps.call (o_bin _ _ rfl rfl (fun _ => rfl) rfl) ?_
    refine AOps.call (o_move _ rfl rfl) ?_
    refine AOps.split rfl rfl rfl (fun h10 => ?_) (fun h10 => ?_)
    · skip
      refine AOps.go rfl rfl rfl h10 (o_move _ rfl rfl) ?_
      refine AOps.go rfl rfl rfl h10 (o_call (short_s l) Tryz.call6 rfl rfl) ?_
      refine AOps.go rfl rfl rfl h10 (o_un _ rfl (fun _ => rfl) rfl) ?_
      refine AOps.call (o_pickF _ _ _ rfl h10 rfl rfl) ?_
      refine AOps.call (o_move _ rfl rfl) ?_
      refine AOps.split rfl rfl rfl (fun h14 => ?_) (fun h14 => ?_)
      · skip
        refine AOps.go rfl rfl rfl h14 (o_move _ rfl rfl) ?_
        refine AOps.go rfl rfl rfl h14 (o_len _ Tryz.underlying26 rfl rfl) ?_
        refine AOps.go rfl rfl rfl h14 (o_bin _ _ rfl rfl (fun _ => rfl) rfl) ?_
        refine AOps.call (o_pickF _ _ _ rfl h14 rfl rfl) ?_
        refine AOps.nil ?_
        refine AWP.cond _ rfl (fun h18 => ?_) (fun h18 => ?_)
        · skip
          refine AWP.seq ?_
          refine AWP.region ?_
          refine AOps.call (o_assign _ rfl rfl) ?_
          refine AOps.nil ?_
          refine AWP.ret ?_
          first
          | exact postQ.ret1 Tryz.results3 rfl rfl
          | (exfalso; simp at *; done)
          | (exfalso; simp_all; done)
          | (refine postQ.ret1 Tryz.results3 rfl ?_; simp [AV.close, B]; done)
        · skip
          have hl300 : l.length ≤ 300 := by
            have hx : (!(decide (l.length ≤ 300) && !l.any bigS)) = false := by assumption
            simp only [Bool.not_eq_false', Bool.and_eq_true, decide_eq_true_eq] at hx
            exact hx.1
          have hw5 : wd.length ≤ 5000 := by simp [ints_len] at h18; omega
          obtain ⟨x, e, hxl, hA, hB⟩ : ∃ (x : List Int) (e : Int), x.length ≤ 1000000 ∧ FSpec Tryz.prog 7 [.sl (shts l), .sl (ints wd), I d0] (.tup [.sl (ints x), I e]) none ∧ FSpec Tryz.prog 8 [.sl (shts l), .sl (ints wd), I d0] (.tup [.sl (ints x), I e]) none := by
            have h1 := Standing_s l wd d0 (by omega) (by omega)
            have h2 := rStanding_s l wd d0 (by omega) (by omega)
            by_cases hz : standE l wd d0 = 0
            · rw [if_pos hz] at h1 h2; exact ⟨_, _, Nat.le_trans (pickL_len _ _) (by omega), h1, h2⟩
            · rw [if_neg hz] at h1 h2; exact ⟨[], _, Nat.zero_le _, h1, h2⟩
          obtain ⟨y, f, hyl, hC, hD⟩ : ∃ (y : List Int) (f : Int), y.length ≤ 1000000 ∧ FSpec Tryz.prog 9 [.agg (eS c), .sl (shts l), I d1, I d2] (.tup [.sl (ints y), I f]) none ∧ FSpec Tryz.prog 10 [.agg (eS c), .sl (shts l), I d1, I d2] (.tup [.sl (ints y), I f]) none := by
            have h1 := Corrected_s c l d1 d2 (by omega)
            have h2 := rCorrected_s c l d1 d2 (by omega)
            by_cases hz : corE c l d1 d2 = 0
            · rw [if_pos hz] at h1 h2; exact ⟨_, _, Nat.le_trans (pickL_len _ _) (by omega), h1, h2⟩
            · rw [if_neg hz] at h1 h2; exact ⟨[], _, Nat.zero_le _, h1, h2⟩
          have hEq := Equal_s x x (by omega)
          rw [eqB_self] at hEq
          have hEq2 := Equal_s y y (by omega)
          rw [eqB_self] at hEq2
          refine AWP.skip ?_
          refine AWP.seq ?_
          refine AWP.region ?_
          refine AOps.call (o_move _ rfl rfl) ?_
          refine AOps.call (o_move _ rfl rfl) ?_
          refine AOps.call (ok_indexAddr_arr _ _ Tryz.underlying27 Tryz.sizeOf3 rfl rfl (by omega) (by omega) (okD rfl)) ?_
          refine AOps.call (o_loadRef _ rfl rfl Tryz.sizeOf3 Tryz.isAgg3 rfl rfl rfl) ?_
          refine AOps.call (o_call (hA) Tryz.call7 rfl rfl) ?_
          refine AOps.call (o_move _ rfl rfl) ?_
          refine AOps.call (o_extract _ rfl rfl rfl rfl) ?_
          refine AOps.call (o_extract _ rfl rfl rfl rfl) ?_
          refine AOps.call (o_assign _ rfl rfl) ?_
          refine AOps.call (o_assign _ rfl rfl) ?_
          refine AOps.nil ?_
          refine AWP.seq ?_
          refine AWP.region ?_
          refine AOps.call (o_move _ rfl rfl) ?_
          refine AOps.call (o_move _ rfl rfl) ?_
          refine AOps.call (ok_indexAddr_arr _ _ Tryz.underlying27 Tryz.sizeOf3 rfl rfl (by omega) (by omega) (okD rfl)) ?_
          refine AOps.call (o_loadRef _ rfl rfl Tryz.sizeOf3 Tryz.isAgg3 rfl rfl rfl) ?_
          refine AOps.call (o_call (hB) Tryz.call8 rfl rfl) ?_
          refine AOps.call (o_move _ rfl rfl) ?_
          refine AOps.call (o_extract _ rfl rfl rfl rfl) ?_
          refine AOps.call (o_extract _ rfl rfl rfl rfl) ?_
          refine AOps.call (o_assign _ rfl rfl) ?_
          refine AOps.call (o_assign _ rfl rfl) ?_
          refine AOps.nil ?_
          refine AWP.seq ?_
          refine AWP.region ?_
          refine AOps.call (o_loadRef _ rfl rfl Tryz.sizeOf24 Tryz.isAgg24 rfl rfl rfl) ?_
          refine AOps.call (o_move _ rfl rfl) ?_
          refine AOps.call (ok_indexAddr_arr _ _ Tryz.underlying27 Tryz.sizeOf3 rfl rfl (by omega) (by omega) (okD rfl)) ?_
          refine AOps.call (o_loadRef _ rfl rfl Tryz.sizeOf3 Tryz.isAgg3 rfl rfl rfl) ?_
          refine AOps.call (ok_indexAddr_arr _ _ Tryz.underlying27 Tryz.sizeOf3 rfl rfl (by omega) (by omega) (okD rfl)) ?_
          refine AOps.call (o_loadRef _ rfl rfl Tryz.sizeOf3 Tryz.isAgg3 rfl rfl rfl) ?_
          refine AOps.call (o_call (hC) Tryz.call9 rfl rfl) ?_
          refine AOps.call (o_move _ rfl rfl) ?_
          refine AOps.call (o_extract _ rfl rfl rfl rfl) ?_
          refine AOps.call (o_extract _ rfl rfl rfl rfl) ?_
          refine AOps.call (o_assign _ rfl rfl) ?_
          refine AOps.call (o_assign _ rfl rfl) ?_
          refine AOps.nil ?_
          refine AWP.seq ?_
          refine AWP.region ?_
          refine AOps.call (o_loadRef _ rfl rfl Tryz.sizeOf24 Tryz.isAgg24 rfl rfl rfl) ?_
          refine AOps.call (o_move _ rfl rfl) ?_
          refine AOps.call (ok_indexAddr_arr _ _ Tryz.underlying27 Tryz.sizeOf3 rfl rfl (by omega) (by omega) (okD rfl)) ?_
          refine AOps.call (o_loadRef _ rfl rfl Tryz.sizeOf3 Tryz.isAgg3 rfl rfl rfl) ?_
          refine AOps.call (ok_indexAddr_arr _ _ Tryz.underlying27 Tryz.sizeOf3 rfl rfl (by omega) (by omega) (okD rfl)) ?_
          refine AOps.call (o_loadRef _ rfl rfl Tryz.sizeOf3 Tryz.isAgg3 rfl rfl rfl) ?_
          refine AOps.call (o_call (hD) Tryz.call10 rfl rfl) ?_
          refine AOps.call (o_move _ rfl rfl) ?_
          refine AOps.call (o_extract _ rfl rfl rfl rfl) ?_
          refine AOps.call (o_extract _ rfl rfl rfl rfl) ?_
          refine AOps.call (o_assign _ rfl rfl) ?_
          refine AOps.call (o_assign _ rfl rfl) ?_
          refine AOps.nil ?_
          refine AWP.seq ?_
          refine AWP.region ?_
          refine AOps.call (o_move _ rfl rfl) ?_
          refine AOps.call (o_move _ rfl rfl) ?_
          refine AOps.call (o_call (hEq) Tryz.call11 rfl rfl) ?_
          refine AOps.call (o_move _ rfl rfl) ?_
          refine AOps.split rfl rfl rfl (fun h52 => ?_) (fun h52 => ?_)
          · skip
            refine AOps.go rfl rfl rfl h52 (o_move _ rfl rfl) ?_
            refine AOps.go rfl rfl rfl h52 (o_move _ rfl rfl) ?_
            refine AOps.go rfl rfl rfl h52 (o_bin _ _ rfl rfl (fun _ => rfl) rfl) ?_
            refine AOps.call (o_pickT _ _ _ rfl h52 rfl rfl) ?_
            refine AOps.call (o_move _ rfl rfl) ?_
            refine AOps.split rfl rfl rfl (fun h54 => ?_) (fun h54 => ?_)
            · skip
              refine AOps.go rfl rfl rfl h54 (o_move _ rfl rfl) ?_
              refine AOps.go rfl rfl rfl h54 (o_move _ rfl rfl) ?_
              refine AOps.go rfl rfl rfl h54 (o_call (hEq2) Tryz.call11 rfl rfl) ?_
              refine AOps.call (o_pickT _ _ _ rfl h54 rfl rfl) ?_
              refine AOps.call (o_move _ rfl rfl) ?_
              refine AOps.split rfl rfl rfl (fun h56 => ?_) (fun h56 => ?_)
              · skip
                refine AOps.go rfl rfl rfl h56 (o_move _ rfl rfl) ?_
                refine AOps.go rfl rfl rfl h56 (o_move _ rfl rfl) ?_
                refine AOps.go rfl rfl rfl h56 (o_bin _ _ rfl rfl (fun _ => rfl) rfl) ?_
                refine AOps.call (o_pickT _ _ _ rfl h56 rfl rfl) ?_
                refine AOps.call (o_assign _ rfl rfl) ?_
                refine AOps.nil ?_
                refine AWP.ret ?_
                first
                | exact postQ.ret1 Tryz.results3 rfl rfl
                | (exfalso; simp at *; done)
                | (exfalso; simp_all; done)
                | (refine postQ.ret1 Tryz.results3 rfl ?_; simp [AV.close, B]; done)
              · skip
                refine AOps.pass rfl rfl rfl h56 rfl ?_
                refine AOps.pass rfl rfl rfl h56 rfl ?_
                refine AOps.pass rfl rfl rfl h56 rfl ?_
                refine AOps.call (o_pickF _ _ _ rfl h56 rfl rfl) ?_
                refine AOps.call (o_assign _ rfl rfl) ?_
                refine AOps.nil ?_
                refine AWP.ret ?_
                first
                | exact postQ.ret1 Tryz.results3 rfl rfl
                | (exfalso; simp at *; done)
                | (exfalso; simp_all; done)
                | (refine postQ.ret1 Tryz.results3 rfl ?_; simp [AV.close, B]; done)
            · skip
              refine AOps.pass rfl rfl rfl h54 rfl ?_
              refine AOps.pass rfl rfl rfl h54 rfl ?_
              refine AOps.pass rfl rfl rfl h54 rfl ?_
              refine AOps.call (o_pickF _ _ _ rfl h54 rfl rfl) ?_
              refine AOps.call (o_move _ rfl rfl) ?_
              refine AOps.pass rfl rfl rfl rfl rfl ?_
              refine AOps.pass rfl rfl rfl rfl rfl ?_
              refine AOps.pass rfl rfl rfl rfl rfl ?_
              refine AOps.call (o_pickF _ _ _ rfl rfl rfl rfl) ?_
              refine AOps.call (o_assign _ rfl rfl) ?_
              refine AOps.nil ?_
              refine AWP.ret ?_
              first
              | exact postQ.ret1 Tryz.results3 rfl rfl
              | (exfalso; simp at *; done)
              | (exfalso; simp_all; done)
              | (refine postQ.ret1 Tryz.results3 rfl ?_; simp [AV.close, B]; done)
          · skip
            refine AOps.pass rfl rfl rfl h52 rfl ?_
            refine AOps.pass rfl rfl rfl h52 rfl ?_
            refine AOps.pass rfl rfl rfl h52 rfl ?_
            refine AOps.call (o_pickF _ _ _ rfl h52 rfl rfl) ?_
            refine AOps.call (o_move _ rfl rfl) ?_
            refine AOps.pass rfl rfl rfl rfl rfl ?_
            refine AOps.pass rfl rfl rfl rfl rfl ?_
            refine AOps.pass rfl rfl rfl rfl rfl ?_
            refine AOps.call (o_pickF _ _ _ rfl rfl rfl rfl) ?_
            refine AOps.call (o_move _ rfl rfl) ?_
            refine AOps.pass rfl rfl rfl rfl rfl ?_
            refine AOps.pass rfl rfl rfl rfl rfl ?_
            refine AOps.pass rfl rfl rfl rfl rfl ?_
            refine AOps.call (o_pickF _ _ _ rfl rfl rfl rfl) ?_
            refine AOps.call (o_assign _ rfl rfl) ?_
            refine AOps.nil ?_
            refine AWP.ret ?_
            first
            | exact postQ.ret1 Tryz.results3 rfl rfl
            | (exfalso; simp at *; done)
            | (exfalso; simp_all; done)
            | (refine postQ.ret1 Tryz.results3 rfl ?_; simp [AV.close, B]; done)
      · skip
        refine AOps.pass rfl rfl rfl h14 rfl ?_
        refine AOps.pass rfl rfl rfl h14 rfl ?_
        refine AOps.pass rfl rfl rfl h14 rfl ?_
        refine AOps.call (o_pickT _ _ _ rfl h14 rfl rfl) ?_
        refine AOps.nil ?_
        refine AWP.condT rfl ?_
        refine AWP.seq ?_
        refine AWP.region ?_
        refine AOps.call (o_assign _ rfl rfl) ?_
        refine AOps.nil ?_
        refine AWP.ret ?_
        first
        | exact postQ.ret1 Tryz.results3 rfl rfl
        | (exfalso; simp at *; done)
        | (exfalso; simp_all; done)
        | (refine postQ.ret1 Tryz.results3 rfl ?_; simp [AV.close, B]; done)
    · skip
      refine AOps.pass rfl rfl rfl h10 rfl ?_
      refine AOps.pass rfl rfl rfl h10 rfl ?_
      refine AOps.pass rfl rfl rfl h10 rfl ?_
      refine AOps.call (o_pickT _ _ _ rfl h10 rfl rfl) ?_
      refine AOps.call (o_move _ rfl rfl) ?_
      refine AOps.pass rfl rfl rfl rfl rfl ?_
      refine AOps.pass rfl rfl rfl rfl rfl ?_
      refine AOps.pass rfl rfl rfl rfl rfl ?_
      refine AOps.call (o_pickT _ _ _ rfl rfl rfl rfl) ?_
      refine AOps.nil ?_
      refine AWP.condT rfl ?_
      refine AWP.seq ?_
      refine AWP.region ?_
      refine AOps.call (o_assign _ rfl rfl) ?_
      refine AOps.nil ?_
      refine AWP.ret ?_
      first
      | exact postQ.ret1 Tryz.results3 rfl rfl
      | (exfalso; simp at *; done)
      | (exfalso; simp_all; done)
      | (refine postQ.ret1 Tryz.results3 rfl ?_; simp [AV.close, B]; done)

end Go.Proofs.YtphoomnonenalaaGreatDoor
