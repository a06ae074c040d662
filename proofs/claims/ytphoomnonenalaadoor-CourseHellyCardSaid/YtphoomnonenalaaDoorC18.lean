import Derived.Test.YtphoomnonenalaaDoorM10
import Derived.Test.YtphoomnonenalaaDoorC17
set_option linter.unusedSimpArgs false
set_option linter.unusedVariables false
namespace Go.Proofs.YtphoomnonenalaaDoor
open Go.Ab

def firstA {α : Type} (p : α → Bool) : List α → Nat → Int
  | [], _ => -1
  | s :: l, j => if p s then j else firstA p l (j + 1)
theorem firstA_at {α : Type} {p : α → Bool} {l : List α} {k : Nat} (h : k < l.length) : firstA p (l.drop k) k = if p l[k] then (k : Int) else firstA p (l.drop (k + 1)) (k + 1) := by
  rw [List.drop_eq_getElem_cons h]; rfl
theorem firstA_any {α : Type} {p : α → Bool} : ∀ (l : List α) (j : Nat), decide (firstA p l j ≥ 0) = l.any p := by
  intro l
  induction l with
  | nil => intro j; rfl
  | cons a l ih =>
    intro j
    have hf : firstA p (a :: l) j = if p a = true then (j : Int) else firstA p l (j + 1) := rfl
    rw [Bool.eq_iff_iff, decide_eq_true_eq, hf, List.any_cons]
    by_cases h : p a = true
    · rw [if_pos h, h]; simp
    · have h2 : p a = false := by simpa using h
      rw [if_neg h, h2, Bool.false_or, ← ih (j + 1), decide_eq_true_eq]
theorem ints_at {l : List Int} {k : Nat} (h : k < l.length) : (ints l)[((k : Nat) : Int).toNat]? = some [I l[k]] := by simp [ints, h]
theorem hasNo_at {l : List Sht} {s : Sht} {x : Int} (h : x.toNat < l.length) : hasNo l s x = decide (l[x.toNat].no = s.no) := by
  unfold hasNo; rw [List.getElem?_eq_getElem h]; rfl
theorem shts_at {l : List Sht} {x : Int} (h : x.toNat < l.length) : (shts l)[x.toNat]? = some (eH l[x.toNat]) := by simp [shts, h]
def bigS (s : Sht) : Bool := decide (100 < s.stakes.length)
def actB (s : Sht) (k : Int) (x : Sht) : Bool := (x.no == s.no) && decide (x.known ≤ k)

set_option maxRecDepth 20000 in
theorem Own57_s (l : List Sht) (s : Sht) (x : Int) (h0 : 0 ≤ x) (hx : x.toNat < l.length) : FSpec Tryd.prog 57 [I x, .rd [.sl (shts l)], .rd (eH s)] (B (hasNo l s x)) (none) := by
  refine FSpec.of_body Tryd.func57 rfl (leB rfl) fun w0 M0 => ?_
  have hll := shts_len l
  have hel := shts_at hx
  refine AWP.seq ?_
  refine AWP.region ?_
  refine AOps.call (o_assign _ rfl rfl) ?_
  refine AOps.nil ?_
  refine AWP.seq ?_
  refine AWP.drawn 9 mixed (by kernel_rfl) ?_
  refine AHead.call (o_loadRd _ rfl Tryd.sizeOf80 Tryd.isAgg80 rfl rfl rfl) rfl ?_
  refine AHead.call (o_move _ rfl rfl) rfl ?_
  refine AHead.call (o_index _ _ Tryd.underlying80 Tryd.sizeOf54 rfl rfl (by omega) (by assumption) rfl rfl) rfl ?_
  refine AHead.call (o_fieldRd _ rfl fa54_0 rfl) rfl ?_
  refine AHead.call (o_loadRd _ rfl Tryd.sizeOf3 Tryd.isAgg3 rfl rfl rfl) rfl ?_
  refine AHead.call (o_fieldRd _ rfl fa54_0 rfl) rfl ?_
  refine AHead.call (o_loadRd _ rfl Tryd.sizeOf3 Tryd.isAgg3 rfl rfl rfl) rfl ?_
  refine AHead.call (o_bin _ _ rfl rfl (fun _ => rfl) rfl) rfl ?_
  refine AHead.call (o_assign _ rfl rfl) rfl ?_
  refine AHead.nil ?_
  refine AOps.nil ?_
  refine AWP.ret ?_
  refine postQ.ret1 Tryd.results57 rfl ?_
  rw [hasNo_at hx]; rfl

set_option maxRecDepth 20000 in
theorem Act59_s (x s : Sht) (d0 d1 d2 : Int) : FSpec Tryd.prog 59 [.agg (eH x), .rd (eH s), .rd [I d0, I d1, I d2]] (B (actB s d0 x)) (none) := by
  refine FSpec.of_body Tryd.func59 rfl (leB rfl) fun w0 M0 => ?_
  refine AWP.seq ?_
  refine AWP.region ?_
  refine AOps.call (o_box _ rfl rfl rfl) ?_
  refine AOps.call (o_assign _ rfl rfl) ?_
  refine AOps.nil ?_
  refine AWP.seq ?_
  refine AWP.region ?_
  refine AOps.call (o_fieldRef _ rfl fa54_0 rfl rfl) ?_
  refine AOps.call (o_loadRef _ rfl rfl Tryd.sizeOf3 Tryd.isAgg3 rfl rfl rfl) ?_
  refine AOps.call (o_fieldRd _ rfl fa54_0 rfl) ?_
  refine AOps.call (o_loadRd _ rfl Tryd.sizeOf3 Tryd.isAgg3 rfl rfl rfl) ?_
  refine AOps.call (o_bin _ _ rfl rfl (fun _ => rfl) rfl) ?_
  refine AOps.call (o_move _ rfl rfl) ?_
  refine AOps.split rfl rfl rfl (fun h7 => ?_) (fun h7 => ?_)
  · skip
    refine AOps.go rfl rfl rfl h7 (o_fieldRef _ rfl fa54_3 rfl rfl) ?_
    refine AOps.go rfl rfl rfl h7 (o_loadRef _ rfl rfl Tryd.sizeOf3 Tryd.isAgg3 rfl rfl rfl) ?_
    refine AOps.go rfl rfl rfl h7 (o_indexArrRd _ _ Tryd.underlying38 Tryd.sizeOf3 rfl rfl (by omega) (by omega) rfl rfl) ?_
    refine AOps.go rfl rfl rfl h7 (o_loadRd _ rfl Tryd.sizeOf3 Tryd.isAgg3 rfl rfl rfl) ?_
    refine AOps.go rfl rfl rfl h7 (o_bin _ _ rfl rfl (fun _ => rfl) rfl) ?_
    refine AOps.call (o_pickT _ _ _ rfl h7 rfl rfl) ?_
    refine AOps.call (o_assign _ rfl rfl) ?_
    refine AOps.nil ?_
    refine AWP.ret ?_
    refine postQ.ret1 Tryd.results59 rfl ?_
    unfold actB
    simp_all [AV.close, B]
    try (intros; omega)
  · skip
    refine AOps.pass rfl rfl rfl h7 rfl ?_
    refine AOps.pass rfl rfl rfl h7 rfl ?_
    refine AOps.pass rfl rfl rfl h7 rfl ?_
    refine AOps.pass rfl rfl rfl h7 rfl ?_
    refine AOps.pass rfl rfl rfl h7 rfl ?_
    refine AOps.call (o_pickF _ _ _ rfl h7 rfl rfl) ?_
    refine AOps.call (o_assign _ rfl rfl) ?_
    refine AOps.nil ?_
    refine AWP.ret ?_
    refine postQ.ret1 Tryd.results59 rfl ?_
    unfold actB
    simp_all [AV.close, B]
    try (intros; omega)

set_option maxRecDepth 20000 in
theorem short1_s (s : Sht) : FSpec Tryd.prog 112 [.agg (eH s)] (B (bigS s)) (none) := by
  refine FSpec.of_body Tryd.func112 rfl (leB rfl) fun w0 M0 => ?_
  refine AWP.seq ?_
  refine AWP.region ?_
  refine AOps.call (o_box _ rfl rfl rfl) ?_
  refine AOps.call (o_assign _ rfl rfl) ?_
  refine AOps.nil ?_
  refine AWP.seq ?_
  refine AWP.region ?_
  refine AOps.call (o_fieldRef _ rfl fa54_8 rfl rfl) ?_
  refine AOps.call (o_loadRef _ rfl rfl Tryd.sizeOf52 Tryd.isAgg52 rfl rfl rfl) ?_
  refine AOps.call (o_len _ Tryd.underlying52 rfl rfl) ?_
  refine AOps.call (o_bin _ _ rfl rfl (fun _ => rfl) rfl) ?_
  refine AOps.call (o_assign _ rfl rfl) ?_
  refine AOps.nil ?_
  refine AWP.ret ?_
  refine postQ.ret1 Tryd.results112 rfl ?_
  have hd : decide (((stakes s.stakes).length : Int) > 100) = bigS s := by unfold bigS; rw [decide_eq_decide, stakes_len]; omega
  rw [hd]; rfl

set_option maxRecDepth 20000 in
theorem Index57_s (ls : List Sht) (s : Sht) (l : List Int) (hx : ∀ x ∈ l, 0 ≤ x ∧ x.toNat < ls.length) (hl : l.length ≤ 1000000) : FSpec Tryd.prog 117 [.sl (ints l), .clo 57 [.rd [.sl (shts ls)], .rd (eH s)]] (I (firstA (hasNo ls s) l 0)) (none) := by
  refine FSpec.of_body Tryd.func117 rfl (leB rfl) fun w0 M0 => ?_
  refine AWP.seq ?_
  refine AWP.region ?_
  refine AOps.call (o_assign _ rfl rfl) ?_
  refine AOps.nil ?_
  refine AWP.seq ?_
  refine AWP.seq ?_
  refine AWP.region ?_
  refine AOps.call (o_move _ rfl rfl) ?_
  refine AOps.call (o_len _ Tryd.underlying45 rfl rfl) ?_
  refine AOps.call (o_move _ rfl rfl) ?_
  refine AOps.nil ?_
  refine AWP.block ?_
  refine AWP.loop (ι := Nat) (fun i => AS.mk' 19 [(0, .sl (ints l)), (1, .clo 57 [.rd [.sl (shts ls)], .rd (eH s)]), (7, I (ints l).length), (8, I i)] [] [] []) (fun i => i ≤ l.length ∧ firstA (hasNo ls s) l 0 = firstA (hasNo ls s) (l.drop i) i) (fun i => l.length - i) (0) (Weak.mk' rfl ⟨⟨.refl rfl, rfl⟩, ⟨⟨.refl rfl, rfl⟩, ⟨⟨.refl rfl, rfl⟩, ⟨⟨.refl rfl, rfl⟩, trivial⟩⟩⟩⟩ trivial trivial) (⟨Nat.zero_le _, rfl⟩) ?_
  rintro k ⟨hk, hinv⟩
  try dsimp only at *
  refine AWP.seq ?_
  refine AWP.region ?_
  refine AOps.call (o_bin _ _ rfl rfl (fun _ => rfl) rfl) ?_
  refine AOps.nil ?_
  refine AWP.seq ?_
  refine AWP.cond _ rfl (fun h6 => ?_) (fun h6 => ?_)
  · skip
    have hlt : k < l.length := by simp [ints_len] at h6; omega
    have hel := ints_at hlt
    refine AWP.skip ?_
    refine AWP.seq ?_
    refine AWP.block ?_
    refine AWP.seq ?_
    refine AWP.region ?_
    refine AOps.call (o_move _ rfl rfl) ?_
    refine AOps.call (o_assign _ rfl rfl) ?_
    refine AOps.nil ?_
    refine AWP.seq ?_
    refine AWP.region ?_
    refine AOps.call (o_move _ rfl rfl) ?_
    refine AOps.call (o_move _ rfl rfl) ?_
    refine AOps.call (o_move _ rfl rfl) ?_
    refine AOps.call (o_index _ _ Tryd.underlying45 Tryd.sizeOf3 rfl rfl (by omega) (by assumption) rfl rfl) ?_
    refine AOps.call (o_loadRd _ rfl Tryd.sizeOf3 Tryd.isAgg3 rfl rfl rfl) ?_
    refine AOps.call (o_callV (cl := [I l[k]]) (ccl := [.rd [.sl (shts ls)], .rd (eH s)]) _ rfl (Own57_s ls s l[k] (hx _ (List.getElem_mem hlt)).1 (hx _ (List.getElem_mem hlt)).2) Tryd.call57 rfl rfl rfl) ?_
    refine AOps.nil ?_
    refine AWP.cond _ rfl (fun h12 => ?_) (fun h12 => ?_)
    · skip
      have hq : (hasNo ls s) l[k] = true := h12
      refine AWP.seq ?_
      refine AWP.region ?_
      refine AOps.call (o_move _ rfl rfl) ?_
      refine AOps.call (o_assign _ rfl rfl) ?_
      refine AOps.nil ?_
      refine AWP.ret ?_
      refine postQ.ret1 Tryd.results117 rfl ?_
      first
      | (rw [hinv, firstA_at hlt, hq]; rfl)
      | (rw [hinv]; rfl)
    · skip
      have hq : (hasNo ls s) l[k] = false := h12
      refine AWP.skip ?_
      refine AWP.region ?_
      refine AOps.call (o_add _ _ rfl rfl ⟨by (try dsimp only); omega, by (try dsimp only); omega⟩ rfl) ?_
      refine AOps.call (o_move _ rfl rfl) ?_
      refine AOps.nil ?_
      refine ⟨k + 1, ?_, (Weak.mk' rfl ⟨⟨.refl rfl, rfl⟩, ⟨⟨.refl rfl, rfl⟩, ⟨⟨.refl rfl, rfl⟩, ⟨⟨.refl rfl, rfl⟩, trivial⟩⟩⟩⟩ trivial trivial)⟩
      refine ⟨⟨by omega, ?_⟩, by omega⟩
      rw [hinv, firstA_at hlt, hq]; rfl
  · skip
    have hkl : k = l.length := by simp [ints_len] at h6; omega
    subst hkl
    rw [List.drop_length] at hinv
    refine AWP.exit ?_
    refine AWP.seq ?_
    refine AWP.region ?_
    refine AOps.call (o_assign _ rfl rfl) ?_
    refine AOps.nil ?_
    refine AWP.ret ?_
    refine postQ.ret1 Tryd.results117 rfl ?_
    first
    | (rw [hinv, firstA_at hlt, hq]; rfl)
    | (rw [hinv]; rfl)

set_option maxRecDepth 20000 in
theorem Contains57_s (ls : List Sht) (s : Sht) (l : List Int) (hx : ∀ x ∈ l, 0 ≤ x ∧ x.toNat < ls.length) (hl : l.length ≤ 1000000) : FSpec Tryd.prog 56 [.sl (ints l), .clo 57 [.rd [.sl (shts ls)], .rd (eH s)]] (B (l.any (hasNo ls s))) (none) := by
  refine FSpec.of_body Tryd.func56 rfl (leB rfl) fun w0 M0 => ?_
  refine AWP.seq ?_
  refine AWP.region ?_
  refine AOps.call (o_assign _ rfl rfl) ?_
  refine AOps.nil ?_
  refine AWP.seq ?_
  refine AWP.region ?_
  refine AOps.call (o_move _ rfl rfl) ?_
  refine AOps.call (o_move _ rfl rfl) ?_
  refine AOps.call (o_call (Index57_s ls s l hx hl) Tryd.call117 rfl rfl) ?_
  refine AOps.call (o_bin _ _ rfl rfl (fun _ => rfl) rfl) ?_
  refine AOps.call (o_assign _ rfl rfl) ?_
  refine AOps.nil ?_
  refine AWP.ret ?_
  refine postQ.ret1 Tryd.results56 rfl ?_
  have hd : decide (firstA (hasNo ls s) l 0 ≥ 0) = l.any (hasNo ls s) := firstA_any l 0
  rw [← hd]; rfl

set_option maxRecDepth 20000 in
theorem Index59_s (s : Sht) (d0 d1 d2 : Int) (l : List Sht) (hl : l.length ≤ 1000000) : FSpec Tryd.prog 118 [.sl (shts l), .clo 59 [.rd (eH s), .rd [I d0, I d1, I d2]]] (I (firstA (actB s d0) l 0)) (none) := by
  refine FSpec.of_body Tryd.func118 rfl (leB rfl) fun w0 M0 => ?_
  refine AWP.seq ?_
  refine AWP.region ?_
  refine AOps.call (o_assign _ rfl rfl) ?_
  refine AOps.nil ?_
  refine AWP.seq ?_
  refine AWP.seq ?_
  refine AWP.region ?_
  refine AOps.call (o_move _ rfl rfl) ?_
  refine AOps.call (o_len _ Tryd.underlying80 rfl rfl) ?_
  refine AOps.call (o_move _ rfl rfl) ?_
  refine AOps.nil ?_
  refine AWP.block ?_
  refine AWP.loop (ι := Nat) (fun i => AS.mk' 19 [(0, .sl (shts l)), (1, .clo 59 [.rd (eH s), .rd [I d0, I d1, I d2]]), (7, I (shts l).length), (8, I i)] [] [] []) (fun i => i ≤ l.length ∧ firstA (actB s d0) l 0 = firstA (actB s d0) (l.drop i) i) (fun i => l.length - i) (0) (Weak.mk' rfl ⟨⟨.refl rfl, rfl⟩, ⟨⟨.refl rfl, rfl⟩, ⟨⟨.refl rfl, rfl⟩, ⟨⟨.refl rfl, rfl⟩, trivial⟩⟩⟩⟩ trivial trivial) (⟨Nat.zero_le _, rfl⟩) ?_
  rintro k ⟨hk, hinv⟩
  try dsimp only at *
  refine AWP.seq ?_
  refine AWP.region ?_
  refine AOps.call (o_bin _ _ rfl rfl (fun _ => rfl) rfl) ?_
  refine AOps.nil ?_
  refine AWP.seq ?_
  refine AWP.cond _ rfl (fun h6 => ?_) (fun h6 => ?_)
  · skip
    have hlt : k < l.length := by simp [shts_len] at h6; omega
    have hel := shts_get hlt
    refine AWP.skip ?_
    refine AWP.seq ?_
    refine AWP.block ?_
    refine AWP.seq ?_
    refine AWP.region ?_
    refine AOps.call (o_move _ rfl rfl) ?_
    refine AOps.call (o_assign _ rfl rfl) ?_
    refine AOps.nil ?_
    refine AWP.seq ?_
    refine AWP.region ?_
    refine AOps.call (o_move _ rfl rfl) ?_
    refine AOps.call (o_move _ rfl rfl) ?_
    refine AOps.call (o_move _ rfl rfl) ?_
    refine AOps.call (o_index _ _ Tryd.underlying80 Tryd.sizeOf54 rfl rfl (by omega) (by assumption) rfl rfl) ?_
    refine AOps.call (o_loadRd _ rfl Tryd.sizeOf54 Tryd.isAgg54 rfl rfl rfl) ?_
    refine AOps.call (o_callV (cl := [.agg (eH l[k])]) (ccl := [.rd (eH s), .rd [I d0, I d1, I d2]]) _ rfl (Act59_s l[k] s d0 d1 d2) Tryd.call59 rfl rfl rfl) ?_
    refine AOps.nil ?_
    refine AWP.cond _ rfl (fun h12 => ?_) (fun h12 => ?_)
    · skip
      have hq : (actB s d0) l[k] = true := h12
      refine AWP.seq ?_
      refine AWP.region ?_
      refine AOps.call (o_move _ rfl rfl) ?_
      refine AOps.call (o_assign _ rfl rfl) ?_
      refine AOps.nil ?_
      refine AWP.ret ?_
      refine postQ.ret1 Tryd.results118 rfl ?_
      first
      | (rw [hinv, firstA_at hlt, hq]; rfl)
      | (rw [hinv]; rfl)
    · skip
      have hq : (actB s d0) l[k] = false := h12
      refine AWP.skip ?_
      refine AWP.region ?_
      refine AOps.call (o_add _ _ rfl rfl ⟨by (try dsimp only); omega, by (try dsimp only); omega⟩ rfl) ?_
      refine AOps.call (o_move _ rfl rfl) ?_
      refine AOps.nil ?_
      refine ⟨k + 1, ?_, (Weak.mk' rfl ⟨⟨.refl rfl, rfl⟩, ⟨⟨.refl rfl, rfl⟩, ⟨⟨.refl rfl, rfl⟩, ⟨⟨.refl rfl, rfl⟩, trivial⟩⟩⟩⟩ trivial trivial)⟩
      refine ⟨⟨by omega, ?_⟩, by omega⟩
      rw [hinv, firstA_at hlt, hq]; rfl
  · skip
    have hkl : k = l.length := by simp [shts_len] at h6; omega
    subst hkl
    rw [List.drop_length] at hinv
    refine AWP.exit ?_
    refine AWP.seq ?_
    refine AWP.region ?_
    refine AOps.call (o_assign _ rfl rfl) ?_
    refine AOps.nil ?_
    refine AWP.ret ?_
    refine postQ.ret1 Tryd.results118 rfl ?_
    first
    | (rw [hinv, firstA_at hlt, hq]; rfl)
    | (rw [hinv]; rfl)

set_option maxRecDepth 20000 in
theorem Contains59_s (s : Sht) (d0 d1 d2 : Int) (l : List Sht) (hl : l.length ≤ 1000000) : FSpec Tryd.prog 58 [.sl (shts l), .clo 59 [.rd (eH s), .rd [I d0, I d1, I d2]]] (B (l.any (actB s d0))) (none) := by
  refine FSpec.of_body Tryd.func58 rfl (leB rfl) fun w0 M0 => ?_
  refine AWP.seq ?_
  refine AWP.region ?_
  refine AOps.call (o_assign _ rfl rfl) ?_
  refine AOps.nil ?_
  refine AWP.seq ?_
  refine AWP.region ?_
  refine AOps.call (o_move _ rfl rfl) ?_
  refine AOps.call (o_move _ rfl rfl) ?_
  refine AOps.call (o_call (Index59_s s d0 d1 d2 l hl) Tryd.call118 rfl rfl) ?_
  refine AOps.call (o_bin _ _ rfl rfl (fun _ => rfl) rfl) ?_
  refine AOps.call (o_assign _ rfl rfl) ?_
  refine AOps.nil ?_
  refine AWP.ret ?_
  refine postQ.ret1 Tryd.results58 rfl ?_
  have hd : decide (firstA (actB s d0) l 0 ≥ 0) = l.any (actB s d0) := firstA_any l 0
  rw [← hd]; rfl

set_option maxRecDepth 20000 in
theorem IndexBig_s (l : List Sht) (hl : l.length ≤ 1000000) : FSpec Tryd.prog 118 [.sl (shts l), .clo 112 []] (I (firstA (bigS) l 0)) (none) := by
  refine FSpec.of_body Tryd.func118 rfl (leB rfl) fun w0 M0 => ?_
  refine AWP.seq ?_
  refine AWP.region ?_
  refine AOps.call (o_assign _ rfl rfl) ?_
  refine AOps.nil ?_
  refine AWP.seq ?_
  refine AWP.seq ?_
  refine AWP.region ?_
  refine AOps.call (o_move _ rfl rfl) ?_
  refine AOps.call (o_len _ Tryd.underlying80 rfl rfl) ?_
  refine AOps.call (o_move _ rfl rfl) ?_
  refine AOps.nil ?_
  refine AWP.block ?_
  refine AWP.loop (ι := Nat) (fun i => AS.mk' 19 [(0, .sl (shts l)), (1, .clo 112 []), (7, I (shts l).length), (8, I i)] [] [] []) (fun i => i ≤ l.length ∧ firstA (bigS) l 0 = firstA (bigS) (l.drop i) i) (fun i => l.length - i) (0) (Weak.mk' rfl ⟨⟨.refl rfl, rfl⟩, ⟨⟨.refl rfl, rfl⟩, ⟨⟨.refl rfl, rfl⟩, ⟨⟨.refl rfl, rfl⟩, trivial⟩⟩⟩⟩ trivial trivial) (⟨Nat.zero_le _, rfl⟩) ?_
  rintro k ⟨hk, hinv⟩
  try dsimp only at *
  refine AWP.seq ?_
  refine AWP.region ?_
  refine AOps.call (o_bin _ _ rfl rfl (fun _ => rfl) rfl) ?_
  refine AOps.nil ?_
  refine AWP.seq ?_
  refine AWP.cond _ rfl (fun h6 => ?_) (fun h6 => ?_)
  · skip
    have hlt : k < l.length := by simp [shts_len] at h6; omega
    have hel := shts_get hlt
    refine AWP.skip ?_
    refine AWP.seq ?_
    refine AWP.block ?_
    refine AWP.seq ?_
    refine AWP.region ?_
    refine AOps.call (o_move _ rfl rfl) ?_
    refine AOps.call (o_assign _ rfl rfl) ?_
    refine AOps.nil ?_
    refine AWP.seq ?_
    refine AWP.region ?_
    refine AOps.call (o_move _ rfl rfl) ?_
    refine AOps.call (o_move _ rfl rfl) ?_
    refine AOps.call (o_move _ rfl rfl) ?_
    refine AOps.call (o_index _ _ Tryd.underlying80 Tryd.sizeOf54 rfl rfl (by omega) (by assumption) rfl rfl) ?_
    refine AOps.call (o_loadRd _ rfl Tryd.sizeOf54 Tryd.isAgg54 rfl rfl rfl) ?_
    refine AOps.call (o_callV (cl := [.agg (eH l[k])]) (ccl := []) _ rfl (short1_s l[k]) Tryd.call112 rfl rfl rfl) ?_
    refine AOps.nil ?_
    refine AWP.cond _ rfl (fun h12 => ?_) (fun h12 => ?_)
    · skip
      have hq : (bigS) l[k] = true := h12
      refine AWP.seq ?_
      refine AWP.region ?_
      refine AOps.call (o_move _ rfl rfl) ?_
      refine AOps.call (o_assign _ rfl rfl) ?_
      refine AOps.nil ?_
      refine AWP.ret ?_
      refine postQ.ret1 Tryd.results118 rfl ?_
      first
      | (rw [hinv, firstA_at hlt, hq]; rfl)
      | (rw [hinv]; rfl)
    · skip
      have hq : (bigS) l[k] = false := h12
      refine AWP.skip ?_
      refine AWP.region ?_
      refine AOps.call (o_add _ _ rfl rfl ⟨by (try dsimp only); omega, by (try dsimp only); omega⟩ rfl) ?_
      refine AOps.call (o_move _ rfl rfl) ?_
      refine AOps.nil ?_
      refine ⟨k + 1, ?_, (Weak.mk' rfl ⟨⟨.refl rfl, rfl⟩, ⟨⟨.refl rfl, rfl⟩, ⟨⟨.refl rfl, rfl⟩, ⟨⟨.refl rfl, rfl⟩, trivial⟩⟩⟩⟩ trivial trivial)⟩
      refine ⟨⟨by omega, ?_⟩, by omega⟩
      rw [hinv, firstA_at hlt, hq]; rfl
  · skip
    have hkl : k = l.length := by simp [shts_len] at h6; omega
    subst hkl
    rw [List.drop_length] at hinv
    refine AWP.exit ?_
    refine AWP.seq ?_
    refine AWP.region ?_
    refine AOps.call (o_assign _ rfl rfl) ?_
    refine AOps.nil ?_
    refine AWP.ret ?_
    refine postQ.ret1 Tryd.results118 rfl ?_
    first
    | (rw [hinv, firstA_at hlt, hq]; rfl)
    | (rw [hinv]; rfl)

set_option maxRecDepth 20000 in
theorem ContainsBig_s (l : List Sht) (hl : l.length ≤ 1000000) : FSpec Tryd.prog 58 [.sl (shts l), .clo 112 []] (B (l.any (bigS))) (none) := by
  refine FSpec.of_body Tryd.func58 rfl (leB rfl) fun w0 M0 => ?_
  refine AWP.seq ?_
  refine AWP.region ?_
  refine AOps.call (o_assign _ rfl rfl) ?_
  refine AOps.nil ?_
  refine AWP.seq ?_
  refine AWP.region ?_
  refine AOps.call (o_move _ rfl rfl) ?_
  refine AOps.call (o_move _ rfl rfl) ?_
  refine AOps.call (o_call (IndexBig_s l hl) Tryd.call118 rfl rfl) ?_
  refine AOps.call (o_bin _ _ rfl rfl (fun _ => rfl) rfl) ?_
  refine AOps.call (o_assign _ rfl rfl) ?_
  refine AOps.nil ?_
  refine AWP.ret ?_
  refine postQ.ret1 Tryd.results58 rfl ?_
  have hd : decide (firstA (bigS) l 0 ≥ 0) = l.any (bigS) := firstA_any l 0
  rw [← hd]; rfl

set_option maxRecDepth 20000 in
theorem short_s (l : List Sht) : FSpec Tryd.prog 54 [.sl (shts l)] (B (decide (l.length ≤ 300) && !l.any bigS)) (none) := by
  refine FSpec.of_body Tryd.func54 rfl (leB rfl) fun w0 M0 => ?_
  refine AWP.seq ?_
  refine AWP.region ?_
  refine AOps.call (o_assign _ rfl rfl) ?_
  refine AOps.nil ?_
  refine AWP.seq ?_
  refine AWP.region ?_
  refine AOps.call (o_move _ rfl rfl) ?_
  refine AOps.call (o_len _ Tryd.underlying80 rfl rfl) ?_
  refine AOps.call (o_bin _ _ rfl rfl (fun _ => rfl) rfl) ?_
  refine AOps.call (o_move _ rfl rfl) ?_
  refine AOps.split rfl rfl rfl (fun h4 => ?_) (fun h4 => ?_)
  · skip
    have h300 : l.length ≤ 300 := by simp [shts_len] at h4; omega
    refine AOps.go rfl rfl rfl h4 (o_move _ rfl rfl) ?_
    refine AOps.go rfl rfl rfl h4 (o_call (ContainsBig_s l (by omega)) Tryd.call58 rfl rfl) ?_
    refine AOps.go rfl rfl rfl h4 (o_un _ rfl (fun _ => rfl) rfl) ?_
    refine AOps.call (o_pickT _ _ _ rfl h4 rfl rfl) ?_
    refine AOps.call (o_assign _ rfl rfl) ?_
    refine AOps.nil ?_
    refine AWP.ret ?_
    refine postQ.ret1 Tryd.results54 rfl ?_
    first
    | (rw [decide_eq_true h300, Bool.true_and]; rfl)
    | (rw [decide_eq_false h300]; simp_all [AV.close, B, shts_len]; done)
    | (rw [decide_eq_false h300]; rfl)
  · skip
    have h300 : ¬ l.length ≤ 300 := by simp [shts_len] at h4; omega
    refine AOps.pass rfl rfl rfl h4 rfl ?_
    refine AOps.pass rfl rfl rfl h4 rfl ?_
    refine AOps.pass rfl rfl rfl h4 rfl ?_
    refine AOps.call (o_pickF _ _ _ rfl h4 rfl rfl) ?_
    refine AOps.call (o_assign _ rfl rfl) ?_
    refine AOps.nil ?_
    refine AWP.ret ?_
    refine postQ.ret1 Tryd.results54 rfl ?_
    first
    | (rw [decide_eq_true h300, Bool.true_and]; rfl)
    | (rw [decide_eq_false h300]; simp_all [AV.close, B, shts_len]; done)
    | (rw [decide_eq_false h300]; rfl)

end Go.Proofs.YtphoomnonenalaaDoor
