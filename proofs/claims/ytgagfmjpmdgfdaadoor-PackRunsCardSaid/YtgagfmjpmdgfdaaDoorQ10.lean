import Derived.Test.YtgagfmjpmdgfdaaDoorQ9
import Derived.Test.YtgagfmjpmdgfdaaDoorP6
set_option linter.unusedSimpArgs false
set_option linter.unusedVariables false
namespace Go.Proofs.YtgagfmjpmdgfdaaDoor
open Go.Ab

theorem burs_zero (n : Nat) : (List.replicate n ([Value.int .i64 0, .int .i64 0].map AV.sc)).flatten = (burs (List.replicate n (0, 0))).flatten := by
  unfold burs; rw [List.map_replicate]; rfl
theorem burs_step {p : List Lay} {k : Nat} (h : k < p.length) : splice (burs ((burd p 0).take k ++ List.replicate (p.length - k) (0, 0))).flatten (eB (watL (p.take k), strn p[k])) (k * 2) = (burs ((burd p 0).take (k + 1) ++ List.replicate (p.length - (k + 1)) (0, 0))).flatten := by
  have hk : ((burd p 0).take k).length = k := by rw [List.length_take, burd_len]; omega
  rw [burd_take h, List.append_assoc, show p.length - k = (p.length - (k + 1)) + 1 by omega, List.replicate_succ]
  exact flat_set (e := eB) (fun _ => rfl) (by rw [hk])
theorem burs_flen (l : List (Int × Int)) : (burs l).flatten.length = l.length * 2 := flat_len (e := eB) (fun _ => rfl) l

set_option maxRecDepth 20000 in
theorem burdens_s (p : List Lay) (hp : packE p = 0) : FSpec Tryd.prog 76 [.agg (eK p)] (.sl (burs (burd p 0))) (none) := by
  refine FSpec.of_body Tryd.func76 rfl (leB rfl) fun w0 M0 => ?_
  have hpl := lays_len p
  have hpv := packE_0.1 hp
  have hn := hpv.1
  refine AWP.seq ?_
  refine AWP.region ?_
  refine AOps.call (o_box _ rfl rfl rfl) ?_
  refine AOps.call (o_nil (z := 2) (e := 88) rfl) ?_
  refine AOps.nil ?_
  refine AWP.seq ?_
  refine AWP.region ?_
  refine AOps.call (o_fieldRef _ rfl fa24_0 rfl rfl) ?_
  refine AOps.call (o_loadRef _ rfl rfl Tryd.sizeOf22 Tryd.isAgg22 rfl rfl rfl) ?_
  refine AOps.call (o_len _ Tryd.underlying22 rfl rfl) ?_
  refine AOps.mkarr (n := p.length) (zs := [.int .i64 0, .int .i64 0]) (cs := (burs ((burd p 0).take 0 ++ List.replicate (p.length - 0) (0, 0))).flatten) _ _ Tryd.underlying85 info88 rfl rfl rfl rfl rfl rfl rfl rfl rfl (by rw [hpl]) (by omega) rfl rfl (by rw [burs_zero]; simp) ?_
  refine AOps.call (o_assign _ rfl rfl) ?_
  refine AOps.nil ?_
  refine AWP.seq ?_
  refine AWP.region ?_
  refine AOps.call (o_assign _ rfl rfl) ?_
  refine AOps.nil ?_
  refine AWP.seq ?_
  refine AWP.seq ?_
  refine AWP.region ?_
  refine AOps.call (o_fieldRef _ rfl fa24_0 rfl rfl) ?_
  refine AOps.call (o_loadRef _ rfl rfl Tryd.sizeOf22 Tryd.isAgg22 rfl rfl rfl) ?_
  refine AOps.call (o_len _ Tryd.underlying22 rfl rfl) ?_
  refine AOps.call (o_move _ rfl rfl) ?_
  refine AOps.nil ?_
  refine AWP.block ?_
  refine AWP.loop (ι := Nat) (fun i => AS.mk' 43 [(3, .arr (10, 0) 0 p.length p.length), (4, I (watL (p.take i))), (12, .sl (lays p)), (13, I (lays p).length), (14, I i)] [((10, 0), (burs ((burd p 0).take i ++ List.replicate (p.length - i) (0, 0))).flatten)] [] [(10, 1)]) (fun i => i ≤ p.length) (fun i => p.length - i) (0) (Weak.mk' rfl ⟨⟨.refl rfl, rfl⟩, ⟨⟨.refl rfl, rfl⟩, ⟨⟨.refl rfl, rfl⟩, ⟨⟨.refl rfl, rfl⟩, ⟨⟨.refl rfl, rfl⟩, trivial⟩⟩⟩⟩⟩ ⟨⟨rfl, lowL_sc _ _ (burs_scs _), rfl⟩, trivial⟩ trivial) (Nat.zero_le _) ?_
  rintro k hk
  try dsimp only at *
  refine AWP.seq ?_
  refine AWP.region ?_
  refine AOps.call (o_bin _ _ rfl rfl (fun _ => rfl) rfl) ?_
  refine AOps.nil ?_
  refine AWP.seq ?_
  refine AWP.cond _ rfl (fun h13 => ?_) (fun h13 => ?_)
  · skip
    have hlt : k < p.length := by simpa [lays] using h13
    have hel := lays_at hlt
    have hb := (layB_iff.1 (hpv.2.1 _ (List.getElem_mem hlt))).1
    have hw := watL_take_le hpv.2.1 k
    refine AWP.skip ?_
    refine AWP.seq ?_
    refine AWP.block ?_
    refine AWP.seq ?_
    refine AWP.region ?_
    refine AOps.call (o_move _ rfl rfl) ?_
    refine AOps.call (o_index _ _ Tryd.underlying22 Tryd.sizeOf28 rfl rfl (by omega) (by assumption) rfl rfl) ?_
    refine AOps.call (o_loadRd _ rfl Tryd.sizeOf28 Tryd.isAgg28 rfl rfl rfl) ?_
    refine AOps.call (o_alloc ze28 rfl rfl) ?_
    refine AOps.call (o_assign _ rfl rfl) ?_
    refine AOps.cons (o_store _ _ rfl rfl Tryd.sizeOf28 rfl rfl rfl rfl rfl) ?_
    refine AOps.nil ?_
    refine AWP.seq ?_
    refine AWP.region ?_
    refine AOps.call (o_move _ rfl rfl) ?_
    refine AOps.call (o_move _ rfl rfl) ?_
    refine AOps.call (o_move _ rfl rfl) ?_
    refine AOps.call (o_fieldRef _ rfl fa28_0 rfl rfl) ?_
    refine AOps.call (o_loadRef _ rfl rfl Tryd.sizeOf3 Tryd.isAgg3 rfl rfl rfl) ?_
    refine AOps.call (o_mul _ _ rfl rfl ⟨by (try dsimp only); omega, by (try dsimp only); omega⟩ rfl) ?_
    refine AOps.call (o_fieldRef _ rfl fa28_2 rfl rfl) ?_
    refine AOps.call (o_loadRef _ rfl rfl Tryd.sizeOf3 Tryd.isAgg3 rfl rfl rfl) ?_
    refine AOps.call (o_add _ _ rfl rfl ⟨by (try dsimp only); omega, by (try dsimp only); omega⟩ rfl) ?_
    refine AOps.call (o_fieldRef _ rfl fa28_1 rfl rfl) ?_
    refine AOps.call (o_loadRef _ rfl rfl Tryd.sizeOf3 Tryd.isAgg3 rfl rfl rfl) ?_
    refine AOps.call (o_mul _ _ rfl rfl ⟨by (try dsimp only); omega, by (try dsimp only); omega⟩ rfl) ?_
    refine AOps.call (o_sub _ _ rfl rfl ⟨by (try dsimp only); omega, by (try dsimp only); omega⟩ rfl) ?_
    refine AOps.call (o_build bu88 rfl rfl rfl) ?_
    refine AOps.call (o_indexArr (o := k * 2) _ _ Tryd.underlying85 Tryd.sizeOf88 rfl rfl (by omega) (by omega) (by omega) rfl) ?_
    refine AOps.cons (o_storeE _ _ rfl rfl Tryd.sizeOf88 rfl rfl (by rw [burs_flen]; simp [burd_len]; omega) (burs_step hlt) rfl) ?_
    refine AOps.nil ?_
    refine AWP.region ?_
    refine AOps.call (o_move _ rfl rfl) ?_
    refine AOps.call (o_fieldRef _ rfl fa28_0 rfl rfl) ?_
    refine AOps.call (o_loadRef _ rfl rfl Tryd.sizeOf3 Tryd.isAgg3 rfl rfl rfl) ?_
    refine AOps.call (o_fieldRef _ rfl fa28_1 rfl rfl) ?_
    refine AOps.call (o_loadRef _ rfl rfl Tryd.sizeOf3 Tryd.isAgg3 rfl rfl rfl) ?_
    refine AOps.call (o_add _ _ rfl rfl ⟨by (try dsimp only); omega, by (try dsimp only); omega⟩ rfl) ?_
    refine AOps.call (o_add _ _ rfl rfl ⟨by (try dsimp only); omega, by (try dsimp only); omega⟩ rfl) ?_
    refine AOps.call (o_assign _ rfl rfl) ?_
    refine AOps.nil ?_
    refine AWP.region ?_
    refine AOps.call (o_add _ _ rfl rfl ⟨by (try dsimp only); omega, by (try dsimp only); omega⟩ rfl) ?_
    refine AOps.call (o_move _ rfl rfl) ?_
    refine AOps.nil ?_
    refine ⟨k + 1, ?_, (Weak.mk' rfl ⟨⟨.refl rfl, rfl⟩, ⟨⟨.refl (by rw [watL_take hlt]; rfl), rfl⟩, ⟨⟨.refl rfl, rfl⟩, ⟨⟨.refl rfl, rfl⟩, ⟨⟨.refl rfl, rfl⟩, trivial⟩⟩⟩⟩⟩ ⟨⟨rfl, lowL_sc _ _ (burs_scs _), rfl⟩, trivial⟩ trivial)⟩
    exact ⟨by omega, by omega⟩
  · skip
    have hkl : k = p.length := by have := of_decide_eq_false h13; omega
    subst hkl
    refine AWP.weak (Weak.frz (id := (10, 0)) (t := 3) (z := 2) (es := burs (burd p 0)) (cs' := (burs (burd p 0)).flatten) rfl rfl (by rw [List.take_of_length_le (by rw [burd_len]; omega), Nat.sub_self, List.replicate_zero, List.append_nil]; exact closeL_self _ (sc_self (burs_scs _))) rfl burs_z (by rw [burs_len, burd_len])) ?_
    refine AWP.exit ?_
    refine AWP.seq ?_
    refine AWP.region ?_
    refine AOps.call (o_move _ rfl rfl) ?_
    refine AOps.call (o_assign _ rfl rfl) ?_
    refine AOps.nil ?_
    refine AWP.ret ?_
    exact postQ.ret1 Tryd.results76 rfl rfl

set_option maxRecDepth 20000 in
theorem weaker_s (b c : Int × Int) (hb : burB b) (hc : burB c) : FSpec Tryd.prog 77 [.agg (eB b), .agg (eB c)] (B (weakB b c)) (none) := by
  refine FSpec.of_body Tryd.func77 rfl (leB rfl) fun w0 M0 => ?_
  unfold burB at hb hc
  have h1 := mul_in hb.1 hb.2.1 (show (0 : Int) ≤ c.2 by omega) hc.2.2.2
  have h2 := mul_in hc.1 hc.2.1 (show (0 : Int) ≤ b.2 by omega) hb.2.2.2
  refine AWP.seq ?_
  refine AWP.region ?_
  refine AOps.call (o_box _ rfl rfl rfl) ?_
  refine AOps.call (o_box _ rfl rfl rfl) ?_
  refine AOps.call (o_assign _ rfl rfl) ?_
  refine AOps.nil ?_
  refine AWP.seq ?_
  refine AWP.region ?_
  refine AOps.call (o_fieldRef _ rfl fa88_0 rfl rfl) ?_
  refine AOps.call (o_loadRef _ rfl rfl Tryd.sizeOf3 Tryd.isAgg3 rfl rfl rfl) ?_
  refine AOps.call (o_fieldRef _ rfl fa88_1 rfl rfl) ?_
  refine AOps.call (o_loadRef _ rfl rfl Tryd.sizeOf3 Tryd.isAgg3 rfl rfl rfl) ?_
  refine AOps.call (o_mul _ _ rfl rfl ⟨by omega, by omega⟩ rfl) ?_
  refine AOps.call (o_fieldRef _ rfl fa88_0 rfl rfl) ?_
  refine AOps.call (o_loadRef _ rfl rfl Tryd.sizeOf3 Tryd.isAgg3 rfl rfl rfl) ?_
  refine AOps.call (o_fieldRef _ rfl fa88_1 rfl rfl) ?_
  refine AOps.call (o_loadRef _ rfl rfl Tryd.sizeOf3 Tryd.isAgg3 rfl rfl rfl) ?_
  refine AOps.call (o_mul _ _ rfl rfl ⟨by omega, by omega⟩ rfl) ?_
  refine AOps.call (o_bin _ _ rfl rfl (fun _ => rfl) rfl) ?_
  refine AOps.call (o_assign _ rfl rfl) ?_
  refine AOps.nil ?_
  refine AWP.ret ?_
  exact postQ.ret1 Tryd.results77 rfl rfl

set_option maxRecDepth 20000 in
theorem breaks_s (b : Int × Int) (s : Int) (hb : burB b) (hs : 0 ≤ s ∧ s ≤ 100) : FSpec Tryd.prog 79 [.agg (eB b), I s] (B (brkB b s)) (none) := by
  refine FSpec.of_body Tryd.func79 rfl (leB rfl) fun w0 M0 => ?_
  unfold burB at hb
  have h1 := mul_in hb.1 hb.2.1 hs.1 hs.2
  have h2 : b.1 * (s - 25) = b.1 * s - b.1 * 25 := Int.mul_sub _ _ _
  refine AWP.seq ?_
  refine AWP.region ?_
  refine AOps.call (o_box _ rfl rfl rfl) ?_
  refine AOps.call (o_assign _ rfl rfl) ?_
  refine AOps.nil ?_
  refine AWP.seq ?_
  refine AWP.region ?_
  refine AOps.call (o_fieldRef _ rfl fa88_0 rfl rfl) ?_
  refine AOps.call (o_loadRef _ rfl rfl Tryd.sizeOf3 Tryd.isAgg3 rfl rfl rfl) ?_
  refine AOps.call (o_move _ rfl rfl) ?_
  refine AOps.call (o_sub _ _ rfl rfl ⟨by (try dsimp only); omega, by (try dsimp only); omega⟩ rfl) ?_
  refine AOps.call (o_mul _ _ rfl rfl ⟨by omega, by omega⟩ rfl) ?_
  refine AOps.call (o_fieldRef _ rfl fa88_1 rfl rfl) ?_
  refine AOps.call (o_loadRef _ rfl rfl Tryd.sizeOf3 Tryd.isAgg3 rfl rfl rfl) ?_
  refine AOps.call (o_mul _ _ rfl rfl ⟨by (try dsimp only); omega, by (try dsimp only); omega⟩ rfl) ?_
  refine AOps.call (o_bin _ _ rfl rfl (fun _ => rfl) rfl) ?_
  refine AOps.call (o_assign _ rfl rfl) ?_
  refine AOps.nil ?_
  refine AWP.ret ?_
  exact postQ.ret1 Tryd.results79 rfl rfl

end Go.Proofs.YtgagfmjpmdgfdaaDoor
