import Derived.Test.YtgagfmjpmdgfdaaDoorQ8
set_option linter.unusedSimpArgs false
set_option linter.unusedVariables false
namespace Go.Proofs.YtgagfmjpmdgfdaaDoor
open Go.Ab

def rdyL : List Lay → Int
  | [] => 0
  | l :: r => (l.cold + (l.ice + l.cold) / 20 - l.wet) + rdyL r
theorem rdyL_append (a b : List Lay) : rdyL (a ++ b) = rdyL a + rdyL b := by
  induction a with
  | nil => simp [rdyL]
  | cons x a ih => simp [rdyL, ih]; omega
theorem rdyL_take {l : List Lay} {k : Nat} (h : k < l.length) : rdyL (l.take (k + 1)) = rdyL (l.take k) + (l[k].cold + (l[k].ice + l[k].cold) / 20 - l[k].wet) := by
  rw [List.take_succ_eq_append_getElem h, rdyL_append]; simp [rdyL]
theorem rdyL_bd {l : List Lay} (h : ∀ x ∈ l, layB x = true) : 0 ≤ rdyL l ∧ rdyL l ≤ l.length * 80000 := by
  induction l with
  | nil => simp [rdyL]
  | cons a l ih =>
    have h1 := (layB_iff.1 (h a (by simp))).1
    have h2 := ih fun x hx => h x (by simp [hx])
    simp only [rdyL, List.length_cons]; omega

set_option maxRecDepth 20000 in
theorem Water_s (p : List Lay) : FSpec Tryd.prog 22 [.agg (eK p)] (.tup [I (if packE p = 0 then watL p else 0), I (packE p)]) (none) := by
  refine FSpec.of_body Tryd.func22 rfl (leB rfl) fun w0 M0 => ?_
  refine AWP.seq ?_
  refine AWP.region ?_
  refine AOps.call (o_box _ rfl rfl rfl) ?_
  refine AOps.call (o_assign _ rfl rfl) ?_
  refine AOps.call (o_assign _ rfl rfl) ?_
  refine AOps.nil ?_
  refine AWP.seq ?_
  refine AWP.seq ?_
  refine AWP.region ?_
  refine AOps.call (o_loadRef _ rfl rfl Tryd.sizeOf24 Tryd.isAgg24 rfl rfl rfl) ?_
  refine AOps.call (o_call (Check_s _) Tryd.call26 rfl rfl) ?_
  refine AOps.call (o_assign _ rfl rfl) ?_
  refine AOps.nil ?_
  refine AWP.seq ?_
  refine AWP.region ?_
  refine AOps.call (o_move _ rfl rfl) ?_
  refine AOps.call (o_bin _ _ rfl rfl (fun _ => rfl) rfl) ?_
  refine AOps.nil ?_
  refine AWP.cond _ rfl (fun h7 => ?_) (fun h7 => ?_)
  · skip
    have hp : ¬ packE p = 0 := by simpa using h7
    have hE : (if packE p = 0 then watL p else 0) = 0 := if_neg hp
    refine AWP.seq ?_
    refine AWP.region ?_
    refine AOps.call (o_move _ rfl rfl) ?_
    refine AOps.call (o_assign _ rfl rfl) ?_
    refine AOps.call (o_assign _ rfl rfl) ?_
    refine AOps.nil ?_
    refine AWP.ret ?_
    refine postQ.ret2 Tryd.results22 rfl rfl ?_
    rw [hE]
    first
    | rfl
    | (rw [hp]; rfl)
  · skip
    have hp : packE p = 0 := by simpa using h7
    have hE : (if packE p = 0 then watL p else 0) = watL p := if_pos hp
    have hpv := packE_0.1 hp
    refine AWP.skip ?_
    refine AWP.seq ?_
    refine AWP.region ?_
    refine AOps.call (o_fieldRef _ rfl fa24_0 rfl rfl) ?_
    refine AOps.call (o_loadRef _ rfl rfl Tryd.sizeOf22 Tryd.isAgg22 rfl rfl rfl) ?_
    refine AOps.call (o_call (water_s p hpv.2.1 hpv.1) Tryd.call63 rfl rfl) ?_
    refine AOps.call (o_assign _ rfl rfl) ?_
    refine AOps.call (o_assign _ rfl rfl) ?_
    refine AOps.nil ?_
    refine AWP.ret ?_
    refine postQ.ret2 Tryd.results22 rfl rfl ?_
    rw [hE]
    first
    | rfl
    | (rw [hp]; rfl)

set_option maxRecDepth 20000 in
theorem Cold_s (p : List Lay) : FSpec Tryd.prog 24 [.agg (eK p)] (.tup [I (if packE p = 0 then coldL p else 0), I (packE p)]) (none) := by
  refine FSpec.of_body Tryd.func24 rfl (leB rfl) fun w0 M0 => ?_
  refine AWP.seq ?_
  refine AWP.region ?_
  refine AOps.call (o_box _ rfl rfl rfl) ?_
  refine AOps.call (o_assign _ rfl rfl) ?_
  refine AOps.call (o_assign _ rfl rfl) ?_
  refine AOps.nil ?_
  refine AWP.seq ?_
  refine AWP.seq ?_
  refine AWP.region ?_
  refine AOps.call (o_loadRef _ rfl rfl Tryd.sizeOf24 Tryd.isAgg24 rfl rfl rfl) ?_
  refine AOps.call (o_call (Check_s _) Tryd.call26 rfl rfl) ?_
  refine AOps.call (o_assign _ rfl rfl) ?_
  refine AOps.nil ?_
  refine AWP.seq ?_
  refine AWP.region ?_
  refine AOps.call (o_move _ rfl rfl) ?_
  refine AOps.call (o_bin _ _ rfl rfl (fun _ => rfl) rfl) ?_
  refine AOps.nil ?_
  refine AWP.cond _ rfl (fun h7 => ?_) (fun h7 => ?_)
  · skip
    have hp : ¬ packE p = 0 := by simpa using h7
    have hE : (if packE p = 0 then coldL p else 0) = 0 := if_neg hp
    refine AWP.seq ?_
    refine AWP.region ?_
    refine AOps.call (o_move _ rfl rfl) ?_
    refine AOps.call (o_assign _ rfl rfl) ?_
    refine AOps.call (o_assign _ rfl rfl) ?_
    refine AOps.nil ?_
    refine AWP.ret ?_
    refine postQ.ret2 Tryd.results24 rfl rfl ?_
    rw [hE]
    first
    | rfl
    | (rw [hp]; rfl)
  · skip
    have hp : packE p = 0 := by simpa using h7
    have hE : (if packE p = 0 then coldL p else 0) = coldL p := if_pos hp
    have hpv := packE_0.1 hp
    refine AWP.skip ?_
    refine AWP.seq ?_
    refine AWP.region ?_
    refine AOps.call (o_fieldRef _ rfl fa24_0 rfl rfl) ?_
    refine AOps.call (o_loadRef _ rfl rfl Tryd.sizeOf22 Tryd.isAgg22 rfl rfl rfl) ?_
    refine AOps.call (o_call (cold_s p hpv.2.1 hpv.1) Tryd.call65 rfl rfl) ?_
    refine AOps.call (o_assign _ rfl rfl) ?_
    refine AOps.call (o_assign _ rfl rfl) ?_
    refine AOps.nil ?_
    refine AWP.ret ?_
    refine postQ.ret2 Tryd.results24 rfl rfl ?_
    rw [hE]
    first
    | rfl
    | (rw [hp]; rfl)

set_option maxRecDepth 20000 in
theorem Hold_s (l : Lay) : FSpec Tryd.prog 20 [.agg (eL l)] (.tup [I (if layB l = true then l.ice / 20 else 0), I (if layB l = true then 0 else 1)]) (none) := by
  refine FSpec.of_body Tryd.func20 rfl (leB rfl) fun w0 M0 => ?_
  refine AWP.seq ?_
  refine AWP.region ?_
  refine AOps.call (o_box _ rfl rfl rfl) ?_
  refine AOps.call (o_assign _ rfl rfl) ?_
  refine AOps.call (o_assign _ rfl rfl) ?_
  refine AOps.nil ?_
  refine AWP.seq ?_
  refine AWP.seq ?_
  refine AWP.region ?_
  refine AOps.call (o_loadRef _ rfl rfl Tryd.sizeOf28 Tryd.isAgg28 rfl rfl rfl) ?_
  refine AOps.call (o_call (validLayer_s _) Tryd.call59 rfl rfl) ?_
  refine AOps.call (o_un _ rfl (fun _ => rfl) rfl) ?_
  refine AOps.nil ?_
  refine AWP.cond _ rfl (fun h7 => ?_) (fun h7 => ?_)
  · skip
    have hb : layB l = false := by simpa using h7
    refine AWP.seq ?_
    refine AWP.region ?_
    refine AOps.call (o_assign _ rfl rfl) ?_
    refine AOps.call (o_assign _ rfl rfl) ?_
    refine AOps.nil ?_
    refine AWP.ret ?_
    refine postQ.ret2 Tryd.results20 rfl rfl ?_
    simp_all [AV.close, AV.close.closeL, B, I]
  · skip
    have hb : layB l = true := by simpa using h7
    have hbv := (layB_iff.1 hb).1
    refine AWP.skip ?_
    refine AWP.seq ?_
    refine AWP.region ?_
    refine AOps.call (o_fieldRef _ rfl fa28_0 rfl rfl) ?_
    refine AOps.call (o_loadRef _ rfl rfl Tryd.sizeOf3 Tryd.isAgg3 rfl rfl rfl) ?_
    refine AOps.call (o_call (hold_s _ ⟨by omega, by omega⟩) Tryd.call60 rfl rfl) ?_
    refine AOps.call (o_assign _ rfl rfl) ?_
    refine AOps.call (o_assign _ rfl rfl) ?_
    refine AOps.nil ?_
    refine AWP.ret ?_
    refine postQ.ret2 Tryd.results20 rfl rfl ?_
    simp_all [AV.close, AV.close.closeL, B, I]

set_option maxRecDepth 20000 in
theorem Ready_s (p : List Lay) : FSpec Tryd.prog 38 [.agg (eK p)] (.tup [I (if packE p = 0 then rdyL p else 0), I (packE p)]) (none) := by
  refine FSpec.of_body Tryd.func38 rfl (leB rfl) fun w0 M0 => ?_
  have hpl := lays_len p
  refine AWP.seq ?_
  refine AWP.region ?_
  refine AOps.call (o_box _ rfl rfl rfl) ?_
  refine AOps.call (o_assign _ rfl rfl) ?_
  refine AOps.call (o_assign _ rfl rfl) ?_
  refine AOps.nil ?_
  refine AWP.seq ?_
  refine AWP.seq ?_
  refine AWP.region ?_
  refine AOps.call (o_loadRef _ rfl rfl Tryd.sizeOf24 Tryd.isAgg24 rfl rfl rfl) ?_
  refine AOps.call (o_call (Check_s _) Tryd.call26 rfl rfl) ?_
  refine AOps.call (o_assign _ rfl rfl) ?_
  refine AOps.nil ?_
  refine AWP.seq ?_
  refine AWP.region ?_
  refine AOps.call (o_move _ rfl rfl) ?_
  refine AOps.call (o_bin _ _ rfl rfl (fun _ => rfl) rfl) ?_
  refine AOps.nil ?_
  refine AWP.cond _ rfl (fun h7 => ?_) (fun h7 => ?_)
  · skip
    have hp : ¬ packE p = 0 := by simpa using h7
    have hE : (if packE p = 0 then rdyL p else 0) = 0 := if_neg hp
    refine AWP.seq ?_
    refine AWP.region ?_
    refine AOps.call (o_move _ rfl rfl) ?_
    refine AOps.call (o_assign _ rfl rfl) ?_
    refine AOps.call (o_assign _ rfl rfl) ?_
    refine AOps.nil ?_
    refine AWP.ret ?_
    refine postQ.ret2 Tryd.results38 rfl rfl ?_
    rw [hE]
    first
    | rfl
    | (rw [List.take_length, hp]; rfl)
  · skip
    have hp : packE p = 0 := by simpa using h7
    have hE : (if packE p = 0 then rdyL p else 0) = rdyL p := if_pos hp
    have hpv := packE_0.1 hp
    refine AWP.skip ?_
    refine AWP.seq ?_
    refine AWP.region ?_
    refine AOps.call (o_assign _ rfl rfl) ?_
    refine AOps.nil ?_
    refine AWP.seq ?_
    refine AWP.seq ?_
    refine AWP.region ?_
    refine AOps.call (o_fieldRef _ rfl fa24_0 rfl rfl) ?_
    refine AOps.call (o_loadRef _ rfl rfl Tryd.sizeOf22 Tryd.isAgg22 rfl rfl rfl) ?_
    refine AOps.call (o_len _ Tryd.underlying22 rfl rfl) ?_
    refine AOps.call (o_move _ rfl rfl) ?_
    refine AOps.nil ?_
    refine AWP.block ?_
    refine AWP.loop (ι := Nat) (fun i => AS.mk' 36 [(1, .ref (1, 0) 0), (5, I (rdyL (p.take i))), (14, .sl (lays p)), (15, I (lays p).length), (16, I i)] [((1, 0), eK p)] [] [(1, 1)]) (fun i => i ≤ p.length) (fun i => p.length - i) (0) (Weak.mk' rfl ⟨⟨.refl rfl, rfl⟩, ⟨⟨.refl rfl, rfl⟩, ⟨⟨.refl rfl, rfl⟩, ⟨⟨.refl rfl, rfl⟩, ⟨⟨.refl rfl, rfl⟩, trivial⟩⟩⟩⟩⟩ ⟨⟨rfl, rfl, rfl⟩, trivial⟩ trivial) (Nat.zero_le _) ?_
    rintro k hk
    try dsimp only at *
    refine AWP.seq ?_
    refine AWP.region ?_
    refine AOps.call (o_bin _ _ rfl rfl (fun _ => rfl) rfl) ?_
    refine AOps.nil ?_
    refine AWP.seq ?_
    refine AWP.cond _ rfl (fun h15 => ?_) (fun h15 => ?_)
    · skip
      have hlt : k < p.length := by simpa [lays] using h15
      have hel := lays_at hlt
      have hb := (layB_iff.1 (hpv.2.1 _ (List.getElem_mem hlt))).1
      have hw := rdyL_bd (all_take (n := k) hpv.2.1)
      have hwl : (p.take k).length ≤ 64 := by rw [List.length_take]; omega
      refine AWP.skip ?_
      refine AWP.seq ?_
      refine AWP.block ?_
      refine AWP.seq ?_
      refine AWP.region ?_
      refine AOps.call (o_index _ _ Tryd.underlying22 Tryd.sizeOf28 rfl rfl (by omega) (by assumption) rfl rfl) ?_
      refine AOps.call (o_loadRd _ rfl Tryd.sizeOf28 Tryd.isAgg28 rfl rfl rfl) ?_
      refine AOps.call (o_alloc ze28 rfl rfl) ?_
      refine AOps.cons (o_store _ _ rfl rfl Tryd.sizeOf28 rfl rfl rfl rfl rfl) ?_
      refine AOps.nil ?_
      refine AWP.drawn 14 mixed (by kernel_rfl) ?_
      refine AHead.call (o_move _ rfl rfl) rfl ?_
      refine AHead.call (o_fieldRef _ rfl fa28_2 rfl rfl) rfl ?_
      refine AHead.call (o_loadRef _ rfl rfl Tryd.sizeOf3 Tryd.isAgg3 rfl rfl rfl) rfl ?_
      refine AHead.call (o_fieldRef _ rfl fa28_0 rfl rfl) rfl ?_
      refine AHead.call (o_loadRef _ rfl rfl Tryd.sizeOf3 Tryd.isAgg3 rfl rfl rfl) rfl ?_
      refine AHead.call (o_fieldRef _ rfl fa28_2 rfl rfl) rfl ?_
      refine AHead.call (o_loadRef _ rfl rfl Tryd.sizeOf3 Tryd.isAgg3 rfl rfl rfl) rfl ?_
      refine AHead.call (o_add _ _ rfl rfl ⟨by (try dsimp only); omega, by (try dsimp only); omega⟩ rfl) rfl ?_
      refine AHead.call (o_call (hold_s (p[k].ice + p[k].cold) ⟨by omega, by omega⟩) Tryd.call60 rfl rfl) rfl ?_
      refine AHead.call (o_add _ _ rfl rfl ⟨by (try dsimp only); omega, by (try dsimp only); omega⟩ rfl) rfl ?_
      refine AHead.call (o_fieldRef _ rfl fa28_1 rfl rfl) rfl ?_
      refine AHead.call (o_loadRef _ rfl rfl Tryd.sizeOf3 Tryd.isAgg3 rfl rfl rfl) rfl ?_
      refine AHead.call (o_sub _ _ rfl rfl ⟨by (try dsimp only); omega, by (try dsimp only); omega⟩ rfl) rfl ?_
      refine AHead.call (o_add _ _ rfl rfl ⟨by (try dsimp only); omega, by (try dsimp only); omega⟩ rfl) rfl ?_
      refine AHead.nil ?_
      refine AOps.call (o_assign _ rfl rfl) ?_
      refine AOps.nil ?_
      refine AWP.region ?_
      refine AOps.call (o_add _ _ rfl rfl ⟨by (try dsimp only); omega, by (try dsimp only); omega⟩ rfl) ?_
      refine AOps.call (o_move _ rfl rfl) ?_
      refine AOps.nil ?_
      refine ⟨k + 1, ?_, (Weak.mk' rfl ⟨⟨.refl rfl, rfl⟩, ⟨⟨.refl (by rw [rdyL_take hlt]; rfl), rfl⟩, ⟨⟨.refl rfl, rfl⟩, ⟨⟨.refl rfl, rfl⟩, ⟨⟨.refl rfl, rfl⟩, trivial⟩⟩⟩⟩⟩ ⟨⟨rfl, rfl, rfl⟩, trivial⟩ trivial)⟩
      exact ⟨by omega, by omega⟩
    · skip
      have hkl : k = p.length := by have := of_decide_eq_false h15; omega
      subst hkl
      refine AWP.exit ?_
      refine AWP.seq ?_
      refine AWP.region ?_
      refine AOps.call (o_move _ rfl rfl) ?_
      refine AOps.call (o_assign _ rfl rfl) ?_
      refine AOps.call (o_assign _ rfl rfl) ?_
      refine AOps.nil ?_
      refine AWP.ret ?_
      refine postQ.ret2 Tryd.results38 rfl rfl ?_
      rw [hE]
      first
      | rfl
      | (rw [List.take_length, hp]; rfl)

set_option maxRecDepth 20000 in
theorem Same_s (p q : List Lay) (hl : p.length ≤ 1000000) : FSpec Tryd.prog 33 [.agg (eK p), .agg (eK q)] (B (sameB p q)) (none) := by
  refine FSpec.of_body Tryd.func33 rfl (leB rfl) fun w0 M0 => ?_
  have hpl := lays_len p
  have hql := lays_len q
  refine AWP.seq ?_
  refine AWP.region ?_
  refine AOps.call (o_box _ rfl rfl rfl) ?_
  refine AOps.call (o_box _ rfl rfl rfl) ?_
  refine AOps.call (o_assign _ rfl rfl) ?_
  refine AOps.nil ?_
  refine AWP.seq ?_
  refine AWP.seq ?_
  refine AWP.region ?_
  refine AOps.call (o_fieldRef _ rfl fa24_0 rfl rfl) ?_
  refine AOps.call (o_loadRef _ rfl rfl Tryd.sizeOf22 Tryd.isAgg22 rfl rfl rfl) ?_
  refine AOps.call (o_len _ Tryd.underlying22 rfl rfl) ?_
  refine AOps.call (o_fieldRef _ rfl fa24_0 rfl rfl) ?_
  refine AOps.call (o_loadRef _ rfl rfl Tryd.sizeOf22 Tryd.isAgg22 rfl rfl rfl) ?_
  refine AOps.call (o_len _ Tryd.underlying22 rfl rfl) ?_
  refine AOps.call (o_bin _ _ rfl rfl (fun _ => rfl) rfl) ?_
  refine AOps.nil ?_
  refine AWP.cond _ rfl (fun h10 => ?_) (fun h10 => ?_)
  · skip
    have hne : ¬ p.length = q.length := by
      have hq : ¬(((lays p).length : Nat) : Int) = ((lays q).length : Nat) := by simpa using h10
      omega
    have hE : sameB p q = false := decide_eq_false fun h => hne (by rw [h])
    refine AWP.seq ?_
    refine AWP.region ?_
    refine AOps.call (o_assign _ rfl rfl) ?_
    refine AOps.nil ?_
    refine AWP.ret ?_
    refine postQ.ret1 Tryd.results33 rfl ?_
    rw [hE]
    first
    | rfl
    | (rw [hp]; rfl)
  · skip
    have hlen : p.length = q.length := by
      have hq : (((lays p).length : Nat) : Int) = ((lays q).length : Nat) := by simpa using h10
      omega
    refine AWP.skip ?_
    refine AWP.seq ?_
    refine AWP.seq ?_
    refine AWP.region ?_
    refine AOps.call (o_assign _ rfl rfl) ?_
    refine AOps.nil ?_
    refine AWP.block ?_
    refine AWP.loop (ι := Nat) (fun i => AS.mk' 31 [(2, .ref (2, 0) 0), (3, .ref (3, 0) 0), (5, I i)] [((2, 0), eK p), ((3, 0), eK q)] [] [(2, 1), (3, 1)]) (fun i => i ≤ p.length ∧ p.take i = q.take i) (fun i => p.length - i) (0) (Weak.mk' rfl ⟨⟨.refl rfl, rfl⟩, ⟨⟨.refl rfl, rfl⟩, ⟨⟨.refl rfl, rfl⟩, trivial⟩⟩⟩ ⟨⟨rfl, rfl, rfl⟩, ⟨⟨rfl, rfl, rfl⟩, trivial⟩⟩ trivial) (⟨Nat.zero_le _, rfl⟩) ?_
    rintro k ⟨hk, heq⟩
    try dsimp only at *
    refine AWP.seq ?_
    refine AWP.seq ?_
    refine AWP.region ?_
    refine AOps.call (o_move _ rfl rfl) ?_
    refine AOps.call (o_fieldRef _ rfl fa24_0 rfl rfl) ?_
    refine AOps.call (o_loadRef _ rfl rfl Tryd.sizeOf22 Tryd.isAgg22 rfl rfl rfl) ?_
    refine AOps.call (o_len _ Tryd.underlying22 rfl rfl) ?_
    refine AOps.call (o_bin _ _ rfl rfl (fun _ => rfl) rfl) ?_
    refine AOps.nil ?_
    refine AWP.cond _ rfl (fun h16 => ?_) (fun h16 => ?_)
    · skip
      have hlt : k < p.length := by have hq := of_decide_eq_true h16; omega
      have hlt2 : k < q.length := by omega
      have hel := lays_at hlt
      have hel2 := lays_at hlt2
      refine AWP.skip ?_
      refine AWP.seq ?_
      refine AWP.block ?_
      refine AWP.seq ?_
      refine AWP.drawn 11 mixed (by kernel_rfl) ?_
      refine AHead.call (o_fieldRef _ rfl fa24_0 rfl rfl) rfl ?_
      refine AHead.call (o_loadRef _ rfl rfl Tryd.sizeOf22 Tryd.isAgg22 rfl rfl rfl) rfl ?_
      refine AHead.call (o_move _ rfl rfl) rfl ?_
      refine AHead.call (o_index _ _ Tryd.underlying22 Tryd.sizeOf28 rfl rfl (by omega) hel rfl rfl) rfl ?_
      refine AHead.call (o_loadRd _ rfl Tryd.sizeOf28 Tryd.isAgg28 rfl rfl rfl) rfl ?_
      refine AHead.call (o_fieldRef _ rfl fa24_0 rfl rfl) rfl ?_
      refine AHead.call (o_loadRef _ rfl rfl Tryd.sizeOf22 Tryd.isAgg22 rfl rfl rfl) rfl ?_
      refine AHead.call (o_move _ rfl rfl) rfl ?_
      refine AHead.call (o_index _ _ Tryd.underlying22 Tryd.sizeOf28 rfl rfl (by omega) hel2 rfl rfl) rfl ?_
      refine AHead.call (o_loadRd _ rfl Tryd.sizeOf28 Tryd.isAgg28 rfl rfl rfl) rfl ?_
      refine AHead.call (o_bin _ _ rfl rfl (layNe _ _ p[k] q[k]) rfl) rfl ?_
      refine AHead.nil ?_
      refine AOps.nil ?_
      refine AWP.cond _ rfl (fun h26 => ?_) (fun h26 => ?_)
      · skip
        have hne : ¬ p[k] = q[k] := by simpa using h26
        have hE : sameB p q = false := decide_eq_false fun h => hne (by subst h; rfl)
        refine AWP.seq ?_
        refine AWP.region ?_
        refine AOps.call (o_assign _ rfl rfl) ?_
        refine AOps.nil ?_
        refine AWP.ret ?_
        refine postQ.ret1 Tryd.results33 rfl ?_
        rw [hE]
        first
        | rfl
        | (rw [hp]; rfl)
      · skip
        have hsame : p[k] = q[k] := by simpa using h26
        refine AWP.skip ?_
        refine AWP.region ?_
        refine AOps.call (o_move _ rfl rfl) ?_
        refine AOps.call (o_add _ _ rfl rfl ⟨by (try dsimp only); omega, by (try dsimp only); omega⟩ rfl) ?_
        refine AOps.call (o_assign _ rfl rfl) ?_
        refine AOps.nil ?_
        refine ⟨k + 1, ?_, (Weak.mk' rfl ⟨⟨.refl rfl, rfl⟩, ⟨⟨.refl rfl, rfl⟩, ⟨⟨.refl rfl, rfl⟩, trivial⟩⟩⟩ ⟨⟨rfl, rfl, rfl⟩, ⟨⟨rfl, rfl, rfl⟩, trivial⟩⟩ trivial)⟩
        exact ⟨⟨by omega, by rw [List.take_succ_eq_append_getElem hlt, List.take_succ_eq_append_getElem hlt2, heq, hsame]⟩, by omega⟩
    · skip
      have hkl : k = p.length := by have hq := of_decide_eq_false h16; omega
      have hE : sameB p q = true := decide_eq_true (by rw [hkl, List.take_length] at heq; rw [heq, hlen, List.take_length])
      refine AWP.exit ?_
      refine AWP.seq ?_
      refine AWP.region ?_
      refine AOps.call (o_assign _ rfl rfl) ?_
      refine AOps.nil ?_
      refine AWP.ret ?_
      refine postQ.ret1 Tryd.results33 rfl ?_
      rw [hE]
      first
      | rfl
      | (rw [hp]; rfl)

set_option maxRecDepth 20000 in
theorem example_s  : FSpec Tryd.prog 57 [] (.agg (eK [⟨40, 2, 0⟩, ⟨100, 0, 5⟩])) (none) := by
  refine FSpec.of_body Tryd.func57 rfl (leB rfl) fun w0 M0 => ?_
  refine AWP.seq ?_
  refine AWP.region ?_
  refine AOps.call (o_alloc ze24 rfl rfl) ?_
  refine AOps.nil ?_
  refine AWP.seq ?_
  refine AWP.region ?_
  refine AOps.call (o_build bu28 rfl rfl rfl) ?_
  refine AOps.call (o_build bu28 rfl rfl rfl) ?_
  refine AOps.call (o_lit Tryd.underlying22 Tryd.sizeOf28 Tryd.zeroValue28 rfl rfl rfl rfl rfl rfl rfl) ?_
  refine AOps.call (o_build bu24 rfl rfl rfl) ?_
  refine AOps.cons (o_store _ _ rfl rfl Tryd.sizeOf24 rfl rfl rfl rfl rfl) ?_
  refine AOps.nil ?_
  refine AWP.ret ?_
  exact postQ.retC Tryd.results57 rfl rfl Tryd.sizeOf24 Tryd.isAgg24 rfl rfl

end Go.Proofs.YtgagfmjpmdgfdaaDoor
