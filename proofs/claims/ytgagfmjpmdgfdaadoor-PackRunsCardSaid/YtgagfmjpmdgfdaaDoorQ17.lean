import Derived.Test.YtgagfmjpmdgfdaaDoorX11
import Derived.Test.YtgagfmjpmdgfdaaDoorXA
set_option linter.unusedSimpArgs false
set_option linter.unusedVariables false
namespace Go.Proofs.YtgagfmjpmdgfdaaDoor
open Go.Ab

def bothE (p q : List Lay) : Int := if packE p = 0 then packE q else 20
theorem both_0 {p q : List Lay} : bothE p q = 0 ↔ packE p = 0 ∧ packE q = 0 := by
  unfold bothE
  by_cases h : packE p = 0
  · rw [if_pos h]; exact ⟨fun k => ⟨h, k⟩, fun k => k.2⟩
  · rw [if_neg h]; exact ⟨fun k => by omega, fun k => absurd k.1 h⟩
theorem both_20 {p q : List Lay} (h : ¬ bothE p q = 0) : bothE p q = 20 := by
  unfold bothE at *
  by_cases h1 : packE p = 0
  · rw [if_pos h1] at *; exact packE_20 h
  · rw [if_neg h1]
def brkM (p : List Lay) (s : Int) : Bool × Int := if packE p = 0 then if 0 ≤ s ∧ s ≤ 60 then (brkA (burd p 0) s, 0) else (false, 1) else (false, 20)
theorem leL_ff {a b : Lay} (h : b.ice < a.ice ∨ b.wet < a.wet ∨ b.cold < a.cold) : leL a b = false := by
  cases hc : leL a b with
  | false => rfl
  | true => have := leL_iff.1 hc; omega

set_option maxRecDepth 20000 in
theorem both_s (p q : List Lay) : FSpec Tryd.prog 81 [.agg (eK p), .agg (eK q)] (I (bothE p q)) (none) := by
  refine FSpec.of_body Tryd.func81 rfl (leB rfl) fun w0 M0 => ?_
  refine AWP.seq ?_
  refine AWP.region ?_
  refine AOps.call (o_box _ rfl rfl rfl) ?_
  refine AOps.call (o_box _ rfl rfl rfl) ?_
  refine AOps.call (o_assign _ rfl rfl) ?_
  refine AOps.nil ?_
  refine AWP.seq ?_
  refine AWP.seq ?_
  refine AWP.region ?_
  refine AOps.call (o_loadRef _ rfl rfl Tryd.sizeOf24 Tryd.isAgg24 rfl rfl rfl) ?_
  refine AOps.call (o_call (Check_s p) Tryd.call26 rfl rfl) ?_
  refine AOps.call (o_assign _ rfl rfl) ?_
  refine AOps.nil ?_
  refine AWP.seq ?_
  refine AWP.region ?_
  refine AOps.call (o_move _ rfl rfl) ?_
  refine AOps.call (o_bin _ _ rfl rfl (fun _ => rfl) rfl) ?_
  refine AOps.nil ?_
  refine AWP.cond _ rfl (fun h7 => ?_) (fun h7 => ?_)
  · skip
    have hp : ¬ packE p = 0 := by simpa using h7
    have hE : bothE p q = packE p := by unfold bothE; rw [if_neg hp, packE_20 hp]
    refine AWP.seq ?_
    refine AWP.region ?_
    refine AOps.call (o_move _ rfl rfl) ?_
    refine AOps.call (o_assign _ rfl rfl) ?_
    refine AOps.nil ?_
    refine AWP.ret ?_
    refine postQ.ret1 Tryd.results81 rfl ?_
    rw [hE]
    rfl
  · skip
    have hp : packE p = 0 := by simpa using h7
    have hE : bothE p q = packE q := by unfold bothE; rw [if_pos hp]
    refine AWP.skip ?_
    refine AWP.seq ?_
    refine AWP.region ?_
    refine AOps.call (o_loadRef _ rfl rfl Tryd.sizeOf24 Tryd.isAgg24 rfl rfl rfl) ?_
    refine AOps.call (o_call (Check_s q) Tryd.call26 rfl rfl) ?_
    refine AOps.call (o_assign _ rfl rfl) ?_
    refine AOps.nil ?_
    refine AWP.ret ?_
    refine postQ.ret1 Tryd.results81 rfl ?_
    rw [hE]
    rfl

set_option maxRecDepth 20000 in
theorem Yield_s (p : List Lay) (m : Int) : FSpec Tryd.prog 40 [.agg (eK p), I m] (.tup [I (yldM p m).1, I (yldM p m).2]) (none) := by
  refine FSpec.of_body Tryd.func40 rfl (leB rfl) fun w0 M0 => ?_
  refine AWP.seq ?_
  refine AWP.region ?_
  refine AOps.call (o_box _ rfl rfl rfl) ?_
  refine AOps.call (o_assign _ rfl rfl) ?_
  refine AOps.call (o_assign _ rfl rfl) ?_
  refine AOps.nil ?_
  refine AWP.seq ?_
  refine AWP.seq ?_
  refine AWP.region ?_
  refine AOps.call (o_loadRef _ rfl rfl Tryd.sizeOf24 Tryd.isAgg24 rfl rfl rfl) ?_
  refine AOps.call (o_call (Check_s _) Tryd.call26 rfl rfl) ?_
  refine AOps.call (o_assign _ rfl rfl) ?_
  refine AOps.nil ?_
  refine AWP.seq ?_
  refine AWP.region ?_
  refine AOps.call (o_move _ rfl rfl) ?_
  refine AOps.call (o_bin _ _ rfl rfl (fun _ => rfl) rfl) ?_
  refine AOps.nil ?_
  refine AWP.cond _ rfl (fun h7 => ?_) (fun h7 => ?_)
  · skip
    have hp : ¬ packE p = 0 := by simpa using h7
    have hp20 := packE_20 hp
    have hE : (yldM p m) = (0, packE p) := by unfold yldM; rw [if_neg hp, hp20]
    refine AWP.seq ?_
    refine AWP.region ?_
    refine AOps.call (o_move _ rfl rfl) ?_
    refine AOps.call (o_assign _ rfl rfl) ?_
    refine AOps.call (o_assign _ rfl rfl) ?_
    refine AOps.nil ?_
    refine AWP.ret ?_
    refine postQ.ret2 Tryd.results40 rfl rfl ?_
    rw [hE]
    rfl
  · skip
    have hp : packE p = 0 := by simpa using h7
    refine AWP.skip ?_
    refine AWP.seq ?_
    refine AWP.seq ?_
    refine AWP.region ?_
    refine AOps.call (o_move _ rfl rfl) ?_
    refine AOps.call (o_call (isAmount_s _) Tryd.call67 rfl rfl) ?_
    refine AOps.call (o_un _ rfl (fun _ => rfl) rfl) ?_
    refine AOps.nil ?_
    refine AWP.cond _ rfl (fun h12 => ?_) (fun h12 => ?_)
    · skip
      have hm : ¬ (0 ≤ m ∧ m ≤ 65536) := by have hq := h12; simp [amB] at hq; omega
      have hE : (yldM p m) = (0, 1) := by unfold yldM; rw [if_pos hp, if_neg hm]
      refine AWP.seq ?_
      refine AWP.region ?_
      refine AOps.call (o_assign _ rfl rfl) ?_
      refine AOps.call (o_assign _ rfl rfl) ?_
      refine AOps.nil ?_
      refine AWP.ret ?_
      refine postQ.ret2 Tryd.results40 rfl rfl ?_
      rw [hE]
      rfl
    · skip
      have hm : 0 ≤ m ∧ m ≤ 65536 := by simpa [amB] using h12
      have hE : (yldM p m) = ((melt (preZ p) p m 0).2.2, 0) := by unfold yldM; rw [if_pos hp, if_pos hm]
      refine AWP.skip ?_
      refine AWP.seq ?_
      refine AWP.region ?_
      refine AOps.call (o_loadRef _ rfl rfl Tryd.sizeOf24 Tryd.isAgg24 rfl rfl rfl) ?_
      refine AOps.call (o_callRef (stand_p p hp) Tryd.call69 rfl rfl) ?_
      refine AOps.call (o_move _ rfl rfl) ?_
      refine AOps.cons (o_callMC [(16, 0)] (melt_s (preZ p) p m (pre_len hp) (colOk_of hp) ⟨by omega, by omega⟩) Tryd.call73 rfl rfl (lentOf1 (col_close _ _)) rfl rfl rfl) ?_
      refine AOps.call (o_assign _ rfl rfl) ?_
      refine AOps.call (o_assign _ rfl rfl) ?_
      refine AOps.nil ?_
      refine AWP.ret ?_
      refine postQ.ret2 Tryd.results40 rfl rfl ?_
      rw [hE]
      rfl

set_option maxRecDepth 20000 in
theorem Breaks_s (p : List Lay) (s : Int) : FSpec Tryd.prog 46 [.agg (eK p), I s] (.tup [B (brkM p s).1, I (brkM p s).2]) (none) := by
  refine FSpec.of_body Tryd.func46 rfl (leB rfl) fun w0 M0 => ?_
  have hbl := burs_len (burd p 0)
  have hdl := burd_len p 0
  refine AWP.seq ?_
  refine AWP.region ?_
  refine AOps.call (o_box _ rfl rfl rfl) ?_
  refine AOps.call (o_assign _ rfl rfl) ?_
  refine AOps.call (o_assign _ rfl rfl) ?_
  refine AOps.nil ?_
  refine AWP.seq ?_
  refine AWP.seq ?_
  refine AWP.region ?_
  refine AOps.call (o_loadRef _ rfl rfl Tryd.sizeOf24 Tryd.isAgg24 rfl rfl rfl) ?_
  refine AOps.call (o_call (Check_s _) Tryd.call26 rfl rfl) ?_
  refine AOps.call (o_assign _ rfl rfl) ?_
  refine AOps.nil ?_
  refine AWP.seq ?_
  refine AWP.region ?_
  refine AOps.call (o_move _ rfl rfl) ?_
  refine AOps.call (o_bin _ _ rfl rfl (fun _ => rfl) rfl) ?_
  refine AOps.nil ?_
  refine AWP.cond _ rfl (fun h6 => ?_) (fun h6 => ?_)
  · skip
    have hp : ¬ packE p = 0 := by simpa using h6
    have hp20 := packE_20 hp
    have hE : (brkM p s) = (false, packE p) := by unfold brkM; rw [if_neg hp, hp20]
    refine AWP.seq ?_
    refine AWP.region ?_
    refine AOps.call (o_move _ rfl rfl) ?_
    refine AOps.call (o_assign _ rfl rfl) ?_
    refine AOps.call (o_assign _ rfl rfl) ?_
    refine AOps.nil ?_
    refine AWP.ret ?_
    refine postQ.ret2 Tryd.results46 rfl rfl ?_
    rw [hE]
    rfl
  · skip
    have hp : packE p = 0 := by simpa using h6
    have hpn := (packE_0.1 hp).1
    refine AWP.skip ?_
    refine AWP.seq ?_
    refine AWP.seq ?_
    refine AWP.region ?_
    refine AOps.call (o_move _ rfl rfl) ?_
    refine AOps.call (o_bin _ _ rfl rfl (fun _ => rfl) rfl) ?_
    refine AOps.call (o_move _ rfl rfl) ?_
    refine AOps.split rfl rfl rfl (fun h9 => ?_) (fun h9 => ?_)
    · skip
      have hs0 : 0 ≤ s := by have hq := of_decide_eq_false h9; omega
      refine AOps.go rfl rfl rfl h9 (o_move _ rfl rfl) ?_
      refine AOps.go rfl rfl rfl h9 (o_bin _ _ rfl rfl (fun _ => rfl) rfl) ?_
      refine AOps.call (o_pickF _ _ _ rfl h9 rfl rfl) ?_
      refine AOps.nil ?_
      refine AWP.cond _ rfl (fun h12 => ?_) (fun h12 => ?_)
      · skip
        have hm : ¬ (0 ≤ s ∧ s ≤ 60) := by have hq := of_decide_eq_true h12; omega
        have hE : (brkM p s) = (false, 1) := by unfold brkM; rw [if_pos hp, if_neg hm]
        refine AWP.seq ?_
        refine AWP.region ?_
        refine AOps.call (o_assign _ rfl rfl) ?_
        refine AOps.call (o_assign _ rfl rfl) ?_
        refine AOps.nil ?_
        refine AWP.ret ?_
        refine postQ.ret2 Tryd.results46 rfl rfl ?_
        rw [hE]
        rfl
      · skip
        have hm : 0 ≤ s ∧ s ≤ 60 := ⟨hs0, by have hq := of_decide_eq_false h12; omega⟩
        have hok := burd_ok hp
        have hE0 : (brkM p s) = (brkA (burd p 0) s, 0) := by unfold brkM; rw [if_pos hp, if_pos hm]
        refine AWP.skip ?_
        refine AWP.seq ?_
        refine AWP.seq ?_
        refine AWP.region ?_
        refine AOps.call (o_loadRef _ rfl rfl Tryd.sizeOf24 Tryd.isAgg24 rfl rfl rfl) ?_
        refine AOps.call (o_call (burdens_s p hp) Tryd.call76 rfl rfl) ?_
        refine AOps.call (o_len _ Tryd.underlying85 rfl rfl) ?_
        refine AOps.call (o_move _ rfl rfl) ?_
        refine AOps.nil ?_
        refine AWP.block ?_
        refine AWP.loop (ι := Nat) (fun i => AS.mk' 31 [(1, I s), (2, .ref (2, 0) 0), (21, .sl (burs (burd p 0))), (22, I (burs (burd p 0)).length), (23, I i)] [((2, 0), eK p)] [] [(2, 1)]) (fun i => i ≤ (burd p 0).length ∧ brkA ((burd p 0).take i) s = false) (fun i => (burd p 0).length - i) (0) (Weak.mk' rfl ⟨⟨.refl rfl, rfl⟩, ⟨⟨.refl rfl, rfl⟩, ⟨⟨.refl rfl, rfl⟩, ⟨⟨.refl rfl, rfl⟩, ⟨⟨.refl rfl, rfl⟩, trivial⟩⟩⟩⟩⟩ ⟨⟨rfl, rfl, rfl⟩, trivial⟩ trivial) (⟨Nat.zero_le _, rfl⟩) ?_
        rintro k ⟨hk, hinv⟩
        try dsimp only at *
        refine AWP.seq ?_
        refine AWP.region ?_
        refine AOps.call (o_bin _ _ rfl rfl (fun _ => rfl) rfl) ?_
        refine AOps.nil ?_
        refine AWP.seq ?_
        refine AWP.cond _ rfl (fun h19 => ?_) (fun h19 => ?_)
        · skip
          have hlt : k < (burd p 0).length := by have hq := of_decide_eq_true h19; omega
          have hel := burs_at hlt
          have hbk := hok _ (List.getElem_mem hlt)
          refine AWP.skip ?_
          refine AWP.seq ?_
          refine AWP.block ?_
          refine AWP.seq ?_
          refine AWP.region ?_
          refine AOps.call (o_index _ _ Tryd.underlying85 Tryd.sizeOf88 rfl rfl (by omega) hel rfl rfl) ?_
          refine AOps.call (o_loadRd _ rfl Tryd.sizeOf88 Tryd.isAgg88 rfl rfl rfl) ?_
          refine AOps.call (o_alloc ze88 rfl rfl) ?_
          refine AOps.cons (o_store _ _ rfl rfl Tryd.sizeOf88 rfl rfl rfl rfl rfl) ?_
          refine AOps.nil ?_
          refine AWP.seq ?_
          refine AWP.region ?_
          refine AOps.call (o_loadRef _ rfl rfl Tryd.sizeOf88 Tryd.isAgg88 rfl rfl rfl) ?_
          refine AOps.call (o_move _ rfl rfl) ?_
          refine AOps.call (o_call (breaks_s (burd p 0)[k] s hbk ⟨by omega, by omega⟩) Tryd.call79 rfl rfl) ?_
          refine AOps.nil ?_
          refine AWP.cond _ rfl (fun h26 => ?_) (fun h26 => ?_)
          · skip
            have hE : (brkM p s) = (true, 0) := by rw [hE0, brkA_yes hlt h26]
            refine AWP.seq ?_
            refine AWP.region ?_
            refine AOps.call (o_assign _ rfl rfl) ?_
            refine AOps.call (o_assign _ rfl rfl) ?_
            refine AOps.nil ?_
            refine AWP.ret ?_
            refine postQ.ret2 Tryd.results46 rfl rfl ?_
            rw [hE]
            rfl
          · skip
            have hbb : brkB (burd p 0)[k] s = false := h26
            refine AWP.skip ?_
            refine AWP.region ?_
            refine AOps.call (o_add _ _ rfl rfl ⟨by (try dsimp only); omega, by (try dsimp only); omega⟩ rfl) ?_
            refine AOps.call (o_move _ rfl rfl) ?_
            refine AOps.nil ?_
            refine ⟨k + 1, ?_, (Weak.mk' rfl ⟨⟨.refl rfl, rfl⟩, ⟨⟨.refl rfl, rfl⟩, ⟨⟨.refl rfl, rfl⟩, ⟨⟨.refl rfl, rfl⟩, ⟨⟨.refl rfl, rfl⟩, trivial⟩⟩⟩⟩⟩ ⟨⟨rfl, rfl, rfl⟩, trivial⟩ trivial)⟩
            exact ⟨⟨by omega, brkA_step hlt hinv hbb⟩, by omega⟩
        · skip
          have hE : (brkM p s) = (false, 0) := by rw [hE0, brkA_no hinv (by have hq := of_decide_eq_false h19; omega)]
          refine AWP.exit ?_
          refine AWP.seq ?_
          refine AWP.region ?_
          refine AOps.call (o_assign _ rfl rfl) ?_
          refine AOps.call (o_assign _ rfl rfl) ?_
          refine AOps.nil ?_
          refine AWP.ret ?_
          refine postQ.ret2 Tryd.results46 rfl rfl ?_
          rw [hE]
          rfl
    · skip
      have hm : ¬ (0 ≤ s ∧ s ≤ 60) := by have hq := of_decide_eq_true h9; omega
      have hE : (brkM p s) = (false, 1) := by unfold brkM; rw [if_pos hp, if_neg hm]
      refine AOps.pass rfl rfl rfl h9 rfl ?_
      refine AOps.pass rfl rfl rfl h9 rfl ?_
      refine AOps.call (o_pickT _ _ _ rfl h9 rfl rfl) ?_
      refine AOps.nil ?_
      refine AWP.condT rfl ?_
      refine AWP.seq ?_
      refine AWP.region ?_
      refine AOps.call (o_assign _ rfl rfl) ?_
      refine AOps.call (o_assign _ rfl rfl) ?_
      refine AOps.nil ?_
      refine AWP.ret ?_
      refine postQ.ret2 Tryd.results46 rfl rfl ?_
      rw [hE]
      rfl

set_option maxRecDepth 20000 in
theorem Less_s (p q : List Lay) : FSpec Tryd.prog 50 [.agg (eK p), .agg (eK q)] (.tup [B (lesM p q).1, I (lesM p q).2]) (none) := by
  refine FSpec.of_body Tryd.func50 rfl (leB rfl) fun w0 M0 => ?_
  have hpl := lays_len p
  have hql := lays_len q
  refine AWP.seq ?_
  refine AWP.region ?_
  refine AOps.call (o_box _ rfl rfl rfl) ?_
  refine AOps.call (o_box _ rfl rfl rfl) ?_
  refine AOps.call (o_assign _ rfl rfl) ?_
  refine AOps.call (o_assign _ rfl rfl) ?_
  refine AOps.nil ?_
  refine AWP.seq ?_
  refine AWP.seq ?_
  refine AWP.region ?_
  refine AOps.call (o_loadRef _ rfl rfl Tryd.sizeOf24 Tryd.isAgg24 rfl rfl rfl) ?_
  refine AOps.call (o_loadRef _ rfl rfl Tryd.sizeOf24 Tryd.isAgg24 rfl rfl rfl) ?_
  refine AOps.call (o_call (both_s p q) Tryd.call81 rfl rfl) ?_
  refine AOps.call (o_assign _ rfl rfl) ?_
  refine AOps.nil ?_
  refine AWP.seq ?_
  refine AWP.region ?_
  refine AOps.call (o_move _ rfl rfl) ?_
  refine AOps.call (o_bin _ _ rfl rfl (fun _ => rfl) rfl) ?_
  refine AOps.nil ?_
  refine AWP.cond _ rfl (fun h8 => ?_) (fun h8 => ?_)
  · skip
    have hb : ¬ bothE p q = 0 := by simpa using h8
    have hb20 := both_20 hb
    have hE : (lesM p q) = (false, bothE p q) := by unfold lesM; rw [if_neg (fun h => hb (both_0.2 h)), hb20]
    refine AWP.seq ?_
    refine AWP.region ?_
    refine AOps.call (o_move _ rfl rfl) ?_
    refine AOps.call (o_assign _ rfl rfl) ?_
    refine AOps.call (o_assign _ rfl rfl) ?_
    refine AOps.nil ?_
    refine AWP.ret ?_
    refine postQ.ret2 Tryd.results50 rfl rfl ?_
    rw [hE]
    rfl
  · skip
    have hb : bothE p q = 0 := by simpa using h8
    have hpq := both_0.1 hb
    have hpn := (packE_0.1 hpq.1).1
    have hqn := (packE_0.1 hpq.2).1
    have hE0 : (lesM p q) = (lessB p q, 0) := by unfold lesM; rw [if_pos hpq]
    refine AWP.skip ?_
    refine AWP.seq ?_
    refine AWP.region ?_
    refine AOps.call (o_fieldRef _ rfl fa24_0 rfl rfl) ?_
    refine AOps.call (o_loadRef _ rfl rfl Tryd.sizeOf22 Tryd.isAgg22 rfl rfl rfl) ?_
    refine AOps.call (o_len _ Tryd.underlying22 rfl rfl) ?_
    refine AOps.call (o_fieldRef _ rfl fa24_0 rfl rfl) ?_
    refine AOps.call (o_loadRef _ rfl rfl Tryd.sizeOf22 Tryd.isAgg22 rfl rfl rfl) ?_
    refine AOps.call (o_len _ Tryd.underlying22 rfl rfl) ?_
    refine AOps.call (o_sub _ _ rfl rfl ⟨by (try dsimp only); omega, by (try dsimp only); omega⟩ rfl) ?_
    refine AOps.call (o_assign _ rfl rfl) ?_
    refine AOps.nil ?_
    refine AWP.seq ?_
    refine AWP.seq ?_
    refine AWP.region ?_
    refine AOps.call (o_move _ rfl rfl) ?_
    refine AOps.call (o_bin _ _ rfl rfl (fun _ => rfl) rfl) ?_
    refine AOps.nil ?_
    refine AWP.cond _ rfl (fun h17 => ?_) (fun h17 => ?_)
    · skip
      have hE : (lesM p q) = (false, 0) := by rw [hE0, lessB_short (by have hq := of_decide_eq_true h17; omega)]
      refine AWP.seq ?_
      refine AWP.region ?_
      refine AOps.call (o_assign _ rfl rfl) ?_
      refine AOps.call (o_assign _ rfl rfl) ?_
      refine AOps.nil ?_
      refine AWP.ret ?_
      refine postQ.ret2 Tryd.results50 rfl rfl ?_
      rw [hE]
      rfl
    · skip
      have hle0 : p.length ≤ q.length := by have hq := of_decide_eq_false h17; omega
      refine AWP.skip ?_
      refine AWP.seq ?_
      refine AWP.seq ?_
      refine AWP.region ?_
      refine AOps.call (o_fieldRef _ rfl fa24_0 rfl rfl) ?_
      refine AOps.call (o_loadRef _ rfl rfl Tryd.sizeOf22 Tryd.isAgg22 rfl rfl rfl) ?_
      refine AOps.call (o_len _ Tryd.underlying22 rfl rfl) ?_
      refine AOps.call (o_move _ rfl rfl) ?_
      refine AOps.nil ?_
      refine AWP.block ?_
      refine AWP.loop (ι := Nat) (fun i => AS.mk' 61 [(2, .ref (2, 0) 0), (3, .ref (3, 0) 0), (7, I ((q.length : Int) - p.length)), (27, .sl (lays p)), (28, I (lays p).length), (29, I i)] [((2, 0), eK p), ((3, 0), eK q)] [] [(2, 1), (3, 1)]) (fun i => i ≤ p.length ∧ ∀ (j : Nat) (h1 : j < p.length) (h2 : q.length - p.length + j < q.length), j < i → leL p[j] q[q.length - p.length + j] = true) (fun i => p.length - i) (0) (Weak.mk' rfl ⟨⟨.refl rfl, rfl⟩, ⟨⟨.refl rfl, rfl⟩, ⟨⟨.refl (by rw [hpl, hql]; rfl), rfl⟩, ⟨⟨.refl rfl, rfl⟩, ⟨⟨.refl rfl, rfl⟩, ⟨⟨.refl rfl, rfl⟩, trivial⟩⟩⟩⟩⟩⟩ ⟨⟨rfl, rfl, rfl⟩, ⟨⟨rfl, rfl, rfl⟩, trivial⟩⟩ trivial) (⟨Nat.zero_le _, fun _ _ _ h => absurd h (Nat.not_lt_zero _)⟩) ?_
      rintro k ⟨hk, hv⟩
      try dsimp only at *
      refine AWP.seq ?_
      refine AWP.region ?_
      refine AOps.call (o_bin _ _ rfl rfl (fun _ => rfl) rfl) ?_
      refine AOps.nil ?_
      refine AWP.seq ?_
      refine AWP.cond _ rfl (fun h24 => ?_) (fun h24 => ?_)
      · skip
        have hlt : k < p.length := by have hq := of_decide_eq_true h24; omega
        have hel := lays_at hlt
        have hl2 : q.length - p.length + k < q.length := by omega
        have hel2 : (lays q)[(((q.length : Int) - p.length) + (k : Nat)).toNat]? = some (eL q[q.length - p.length + k]) := by rw [show (((q.length : Int) - p.length) + (k : Nat)).toNat = (((q.length - p.length + k : Nat)) : Int).toNat by omega]; exact lays_at hl2
        refine AWP.skip ?_
        refine AWP.seq ?_
        refine AWP.block ?_
        refine AWP.seq ?_
        refine AWP.region ?_
        refine AOps.call (o_move _ rfl rfl) ?_
        refine AOps.call (o_index _ _ Tryd.underlying22 Tryd.sizeOf28 rfl rfl (by omega) (by assumption) rfl rfl) ?_
        refine AOps.call (o_loadRd _ rfl Tryd.sizeOf28 Tryd.isAgg28 rfl rfl rfl) ?_
        refine AOps.call (o_alloc ze28 rfl rfl) ?_
        refine AOps.call (o_assign _ rfl rfl) ?_
        refine AOps.cons (o_store _ _ rfl rfl Tryd.sizeOf28 rfl rfl rfl rfl rfl) ?_
        refine AOps.nil ?_
        refine AWP.seq ?_
        refine AWP.region ?_
        refine AOps.call (o_fieldRef _ rfl fa24_0 rfl rfl) ?_
        refine AOps.call (o_loadRef _ rfl rfl Tryd.sizeOf22 Tryd.isAgg22 rfl rfl rfl) ?_
        refine AOps.call (o_move _ rfl rfl) ?_
        refine AOps.call (o_move _ rfl rfl) ?_
        refine AOps.call (o_add _ _ rfl rfl ⟨by (try dsimp only); omega, by (try dsimp only); omega⟩ rfl) ?_
        refine AOps.call (o_index _ _ Tryd.underlying22 Tryd.sizeOf28 rfl rfl (by omega) hel2 rfl rfl) ?_
        refine AOps.call (o_loadRd _ rfl Tryd.sizeOf28 Tryd.isAgg28 rfl rfl rfl) ?_
        refine AOps.call (o_alloc ze28 rfl rfl) ?_
        refine AOps.cons (o_store _ _ rfl rfl Tryd.sizeOf28 rfl rfl rfl rfl rfl) ?_
        refine AOps.nil ?_
        refine AWP.seq ?_
        refine AWP.region ?_
        refine AOps.call (o_fieldRef _ rfl fa28_0 rfl rfl) ?_
        refine AOps.call (o_loadRef _ rfl rfl Tryd.sizeOf3 Tryd.isAgg3 rfl rfl rfl) ?_
        refine AOps.call (o_fieldRef _ rfl fa28_0 rfl rfl) ?_
        refine AOps.call (o_loadRef _ rfl rfl Tryd.sizeOf3 Tryd.isAgg3 rfl rfl rfl) ?_
        refine AOps.call (o_bin _ _ rfl rfl (fun _ => rfl) rfl) ?_
        refine AOps.call (o_move _ rfl rfl) ?_
        refine AOps.split rfl rfl rfl (fun h39 => ?_) (fun h39 => ?_)
        · skip
          have c1 := of_decide_eq_false h39
          refine AOps.go rfl rfl rfl h39 (o_fieldRef _ rfl fa28_1 rfl rfl) ?_
          refine AOps.go rfl rfl rfl h39 (o_loadRef _ rfl rfl Tryd.sizeOf3 Tryd.isAgg3 rfl rfl rfl) ?_
          refine AOps.go rfl rfl rfl h39 (o_fieldRef _ rfl fa28_1 rfl rfl) ?_
          refine AOps.go rfl rfl rfl h39 (o_loadRef _ rfl rfl Tryd.sizeOf3 Tryd.isAgg3 rfl rfl rfl) ?_
          refine AOps.go rfl rfl rfl h39 (o_bin _ _ rfl rfl (fun _ => rfl) rfl) ?_
          refine AOps.call (o_pickF _ _ _ rfl h39 rfl rfl) ?_
          refine AOps.call (o_move _ rfl rfl) ?_
          refine AOps.split rfl rfl rfl (fun h45 => ?_) (fun h45 => ?_)
          · skip
            have c2 := of_decide_eq_false h45
            refine AOps.go rfl rfl rfl h45 (o_fieldRef _ rfl fa28_2 rfl rfl) ?_
            refine AOps.go rfl rfl rfl h45 (o_loadRef _ rfl rfl Tryd.sizeOf3 Tryd.isAgg3 rfl rfl rfl) ?_
            refine AOps.go rfl rfl rfl h45 (o_fieldRef _ rfl fa28_2 rfl rfl) ?_
            refine AOps.go rfl rfl rfl h45 (o_loadRef _ rfl rfl Tryd.sizeOf3 Tryd.isAgg3 rfl rfl rfl) ?_
            refine AOps.go rfl rfl rfl h45 (o_bin _ _ rfl rfl (fun _ => rfl) rfl) ?_
            refine AOps.call (o_pickF _ _ _ rfl h45 rfl rfl) ?_
            refine AOps.nil ?_
            refine AWP.cond _ rfl (fun h51 => ?_) (fun h51 => ?_)
            · skip
              have hE : (lesM p q) = (false, 0) := by rw [hE0, lessB_no hlt hl2 (leL_ff (by have hq := of_decide_eq_true h51; omega))]
              refine AWP.seq ?_
              refine AWP.region ?_
              refine AOps.call (o_assign _ rfl rfl) ?_
              refine AOps.call (o_assign _ rfl rfl) ?_
              refine AOps.nil ?_
              refine AWP.ret ?_
              refine postQ.ret2 Tryd.results50 rfl rfl ?_
              rw [hE]
              rfl
            · skip
              have c3 := of_decide_eq_false h51
              have hle : leL p[k] q[q.length - p.length + k] = true := leL_iff.2 ⟨by omega, by omega, by omega⟩
              refine AWP.skip ?_
              refine AWP.region ?_
              refine AOps.call (o_add _ _ rfl rfl ⟨by (try dsimp only); omega, by (try dsimp only); omega⟩ rfl) ?_
              refine AOps.call (o_move _ rfl rfl) ?_
              refine AOps.nil ?_
              refine ⟨k + 1, ?_, (Weak.mk' rfl ⟨⟨.refl rfl, rfl⟩, ⟨⟨.refl rfl, rfl⟩, ⟨⟨.refl rfl, rfl⟩, ⟨⟨.refl rfl, rfl⟩, ⟨⟨.refl rfl, rfl⟩, ⟨⟨.refl rfl, rfl⟩, trivial⟩⟩⟩⟩⟩⟩ ⟨⟨rfl, rfl, rfl⟩, ⟨⟨rfl, rfl, rfl⟩, trivial⟩⟩ trivial)⟩
              exact ⟨⟨by omega, fun j h1 h2 hjk => by
                by_cases h : j < k
                · exact hv j h1 h2 h
                · obtain rfl : j = k := by omega
                  exact hle⟩, by omega⟩
          · skip
            have hE : (lesM p q) = (false, 0) := by rw [hE0, lessB_no hlt hl2 (leL_ff (by have hq := of_decide_eq_true h45; omega))]
            refine AOps.pass rfl rfl rfl h45 rfl ?_
            refine AOps.pass rfl rfl rfl h45 rfl ?_
            refine AOps.pass rfl rfl rfl h45 rfl ?_
            refine AOps.pass rfl rfl rfl h45 rfl ?_
            refine AOps.pass rfl rfl rfl h45 rfl ?_
            refine AOps.call (o_pickT _ _ _ rfl h45 rfl rfl) ?_
            refine AOps.nil ?_
            refine AWP.condT rfl ?_
            refine AWP.seq ?_
            refine AWP.region ?_
            refine AOps.call (o_assign _ rfl rfl) ?_
            refine AOps.call (o_assign _ rfl rfl) ?_
            refine AOps.nil ?_
            refine AWP.ret ?_
            refine postQ.ret2 Tryd.results50 rfl rfl ?_
            rw [hE]
            rfl
        · skip
          have hE : (lesM p q) = (false, 0) := by rw [hE0, lessB_no hlt hl2 (leL_ff (by have hq := of_decide_eq_true h39; omega))]
          refine AOps.pass rfl rfl rfl h39 rfl ?_
          refine AOps.pass rfl rfl rfl h39 rfl ?_
          refine AOps.pass rfl rfl rfl h39 rfl ?_
          refine AOps.pass rfl rfl rfl h39 rfl ?_
          refine AOps.pass rfl rfl rfl h39 rfl ?_
          refine AOps.call (o_pickT _ _ _ rfl h39 rfl rfl) ?_
          refine AOps.call (o_move _ rfl rfl) ?_
          refine AOps.pass rfl rfl rfl rfl rfl ?_
          refine AOps.pass rfl rfl rfl rfl rfl ?_
          refine AOps.pass rfl rfl rfl rfl rfl ?_
          refine AOps.pass rfl rfl rfl rfl rfl ?_
          refine AOps.pass rfl rfl rfl rfl rfl ?_
          refine AOps.call (o_pickT _ _ _ rfl rfl rfl rfl) ?_
          refine AOps.nil ?_
          refine AWP.condT rfl ?_
          refine AWP.seq ?_
          refine AWP.region ?_
          refine AOps.call (o_assign _ rfl rfl) ?_
          refine AOps.call (o_assign _ rfl rfl) ?_
          refine AOps.nil ?_
          refine AWP.ret ?_
          refine postQ.ret2 Tryd.results50 rfl rfl ?_
          rw [hE]
          rfl
      · skip
        have hE : (lesM p q) = (true, 0) := by rw [hE0, lessB_yes hle0 (fun j h1 h2 => hv j h1 h2 (by have hq := of_decide_eq_false h24; omega))]
        refine AWP.exit ?_
        refine AWP.seq ?_
        refine AWP.region ?_
        refine AOps.call (o_assign _ rfl rfl) ?_
        refine AOps.call (o_assign _ rfl rfl) ?_
        refine AOps.nil ?_
        refine AWP.ret ?_
        refine postQ.ret2 Tryd.results50 rfl rfl ?_
        rw [hE]
        rfl

set_option maxRecDepth 20000 in
theorem Strength_s (l : Lay) (h : layB l = true) : FSpec Tryd.prog 56 [.agg (eL l)] (I (strn l)) (none) := by
  refine FSpec.of_body Tryd.func56 rfl (leB rfl) fun w0 M0 => ?_
  have hb := (layB_iff.1 h).1
  refine AWP.seq ?_
  refine AWP.region ?_
  refine AOps.call (o_box _ rfl rfl rfl) ?_
  refine AOps.call (o_assign _ rfl rfl) ?_
  refine AOps.nil ?_
  refine AWP.seq ?_
  refine AWP.region ?_
  refine AOps.call (o_fieldRef _ rfl fa28_0 rfl rfl) ?_
  refine AOps.call (o_loadRef _ rfl rfl Tryd.sizeOf3 Tryd.isAgg3 rfl rfl rfl) ?_
  refine AOps.call (o_mul _ _ rfl rfl ⟨by omega, by omega⟩ rfl) ?_
  refine AOps.call (o_fieldRef _ rfl fa28_2 rfl rfl) ?_
  refine AOps.call (o_loadRef _ rfl rfl Tryd.sizeOf3 Tryd.isAgg3 rfl rfl rfl) ?_
  refine AOps.call (o_add _ _ rfl rfl ⟨by (try dsimp only); omega, by (try dsimp only); omega⟩ rfl) ?_
  refine AOps.call (o_fieldRef _ rfl fa28_1 rfl rfl) ?_
  refine AOps.call (o_loadRef _ rfl rfl Tryd.sizeOf3 Tryd.isAgg3 rfl rfl rfl) ?_
  refine AOps.call (o_mul _ _ rfl rfl ⟨by omega, by omega⟩ rfl) ?_
  refine AOps.call (o_sub _ _ rfl rfl ⟨by (try dsimp only); omega, by (try dsimp only); omega⟩ rfl) ?_
  refine AOps.call (o_assign _ rfl rfl) ?_
  refine AOps.nil ?_
  refine AWP.ret ?_
  exact postQ.ret1 Tryd.results56 rfl rfl

end Go.Proofs.YtgagfmjpmdgfdaaDoor
