import Derived.Test.YtgagfmjpmdgfdaaDoorQ10
set_option linter.unusedSimpArgs false
set_option linter.unusedVariables false
namespace Go.Proofs.YtgagfmjpmdgfdaaDoor
open Go.Ab

def wkM (p : List Lay) : Int × Int × Int :=
  if packE p = 0 then if p.length = 0 then (0, 0, 4) else ((wkA (burd p 0) p.length : Nat), ((burd p 0).getD (wkA (burd p 0) p.length) (0, 0)).1, 0) else (0, 0, 20)
def stpM (p : List Lay) : Int × Int := if packE p = 0 then ((stpN (burd p 0) 60 0 : Nat), 0) else (0, 20)
theorem getD_at {l : List (Int × Int)} {k : Nat} (h : k < l.length) : l.getD k (0, 0) = l[k] := by simp [h]
theorem stpN_brk {l : List (Int × Int)} {s : Nat} (hs : s < 60) (h : brkA l ((s : Int) + 1) = true) : stpN l (60 - s) s = s := by
  obtain ⟨f, hf⟩ : ∃ f, 60 - s = f + 1 := ⟨59 - s, by omega⟩
  rw [hf, stpN, if_pos h]
theorem stpN_go {l : List (Int × Int)} {s : Nat} (hs : s < 60) (h : ¬ brkA l ((s : Int) + 1) = true) : stpN l (60 - s) s = stpN l (60 - (s + 1)) (s + 1) := by
  obtain ⟨f, hf⟩ : ∃ f, 60 - s = f + 1 := ⟨59 - s, by omega⟩
  rw [hf, stpN, if_neg h, show 60 - (s + 1) = f by omega]
theorem brkA_no {l : List (Int × Int)} {s : Int} {k : Nat} (h : brkA (l.take k) s = false) (hk : l.length ≤ k) : brkA l s = false := by
  rwa [List.take_of_length_le hk] at h
theorem brkA_step {l : List (Int × Int)} {s : Int} {k : Nat} (hk : k < l.length) (h : brkA (l.take k) s = false) (hb : brkB l[k] s = false) : brkA (l.take (k + 1)) s = false := by
  unfold brkA at *; rw [List.take_succ_eq_append_getElem hk, List.any_append, h]; simp [hb]
theorem brkA_yes {l : List (Int × Int)} {s : Int} {k : Nat} (hk : k < l.length) (hb : brkB l[k] s = true) : brkA l s = true := by
  unfold brkA; exact List.any_eq_true.2 ⟨_, List.getElem_mem hk, hb⟩

set_option maxRecDepth 20000 in
theorem Weakest_s (p : List Lay) : FSpec Tryd.prog 44 [.agg (eK p)] (.tup [I (wkM p).1, I (wkM p).2.1, I (wkM p).2.2]) (none) := by
  refine FSpec.of_body Tryd.func44 rfl (leB rfl) fun w0 M0 => ?_
  have hbl := burs_len (burd p 0)
  have hdl := burd_len p 0
  refine AWP.seq ?_
  refine AWP.region ?_
  refine AOps.call (o_box _ rfl rfl rfl) ?_
  refine AOps.call (o_assign _ rfl rfl) ?_
  refine AOps.call (o_assign _ rfl rfl) ?_
  refine AOps.call (o_assign _ rfl rfl) ?_
  refine AOps.nil ?_
  refine AWP.seq ?_
  refine AWP.seq ?_
  refine AWP.region ?_
  refine AOps.call (o_loadRef _ rfl rfl Tryd.sizeOf24 Tryd.isAgg24 rfl rfl rfl) ?_
  refine AOps.call (o_call (Check_s _) Tryd.call26 rfl rfl) ?_
  refine AOps.call (o_assign _ rfl rfl) ?_
  refine AOps.nil ?_
  refine AWP.seq ?_
  refine AWP.region ?_
  refine AOps.call (o_move _ rfl rfl) ?_
  refine AOps.call (o_bin _ _ rfl rfl (fun _ => rfl) rfl) ?_
  refine AOps.nil ?_
  refine AWP.cond _ rfl (fun h8 => ?_) (fun h8 => ?_)
  · skip
    have hp : ¬ packE p = 0 := by simpa using h8
    have hp20 := packE_20 hp
    have hE : (wkM p) = (0, 0, packE p) := by unfold wkM; rw [if_neg hp, hp20]
    refine AWP.seq ?_
    refine AWP.region ?_
    refine AOps.call (o_move _ rfl rfl) ?_
    refine AOps.call (o_assign _ rfl rfl) ?_
    refine AOps.call (o_assign _ rfl rfl) ?_
    refine AOps.call (o_assign _ rfl rfl) ?_
    refine AOps.nil ?_
    refine AWP.ret ?_
    refine postQ.ret3 Tryd.results44 rfl rfl rfl ?_
    rw [hE]
    rfl
  · skip
    have hp : packE p = 0 := by simpa using h8
    have hn := (packE_0.1 hp).1
    refine AWP.skip ?_
    refine AWP.seq ?_
    refine AWP.region ?_
    refine AOps.call (o_loadRef _ rfl rfl Tryd.sizeOf24 Tryd.isAgg24 rfl rfl rfl) ?_
    refine AOps.call (o_call (burdens_s p hp) Tryd.call76 rfl rfl) ?_
    refine AOps.call (o_assign _ rfl rfl) ?_
    refine AOps.nil ?_
    refine AWP.seq ?_
    refine AWP.seq ?_
    refine AWP.region ?_
    refine AOps.call (o_move _ rfl rfl) ?_
    refine AOps.call (o_len _ Tryd.underlying85 rfl rfl) ?_
    refine AOps.call (o_bin _ _ rfl rfl (fun _ => rfl) rfl) ?_
    refine AOps.nil ?_
    refine AWP.cond _ rfl (fun h15 => ?_) (fun h15 => ?_)
    · skip
      have h0 : p.length = 0 := by
        have hq : (((burs (burd p 0)).length : Nat) : Int) = 0 := by simpa using h15
        omega
      have hE : (wkM p) = (0, 0, 4) := by unfold wkM; rw [if_pos hp, if_pos h0]
      refine AWP.seq ?_
      refine AWP.region ?_
      refine AOps.call (o_assign _ rfl rfl) ?_
      refine AOps.call (o_assign _ rfl rfl) ?_
      refine AOps.call (o_assign _ rfl rfl) ?_
      refine AOps.nil ?_
      refine AWP.ret ?_
      refine postQ.ret3 Tryd.results44 rfl rfl rfl ?_
      rw [hE]
      rfl
    · skip
      have h0 : ¬ p.length = 0 := by
        have hq : ¬(((burs (burd p 0)).length : Nat) : Int) = 0 := by simpa using h15
        omega
      refine AWP.skip ?_
      refine AWP.seq ?_
      refine AWP.region ?_
      refine AOps.call (o_assign _ rfl rfl) ?_
      refine AOps.nil ?_
      refine AWP.seq ?_
      refine AWP.seq ?_
      refine AWP.region ?_
      refine AOps.call (o_move _ rfl rfl) ?_
      refine AOps.call (o_len _ Tryd.underlying85 rfl rfl) ?_
      refine AOps.call (o_move _ rfl rfl) ?_
      refine AOps.nil ?_
      refine AWP.block ?_
      refine AWP.loop (ι := Nat) (fun i => AS.mk' 41 [(6, .sl (burs (burd p 0))), (7, I (wkA (burd p 0) i : Nat)), (20, .sl (burs (burd p 0))), (21, I (burs (burd p 0)).length), (22, I i)] [] [] []) (fun i => i ≤ p.length) (fun i => p.length - i) (0) (Weak.mk' rfl ⟨⟨.refl rfl, rfl⟩, ⟨⟨.refl rfl, rfl⟩, ⟨⟨.refl rfl, rfl⟩, ⟨⟨.refl rfl, rfl⟩, ⟨⟨.refl rfl, rfl⟩, trivial⟩⟩⟩⟩⟩ trivial trivial) (Nat.zero_le _) ?_
      rintro k hk
      try dsimp only at *
      refine AWP.seq ?_
      refine AWP.region ?_
      refine AOps.call (o_bin _ _ rfl rfl (fun _ => rfl) rfl) ?_
      refine AOps.nil ?_
      refine AWP.seq ?_
      refine AWP.cond _ rfl (fun h23 => ?_) (fun h23 => ?_)
      · skip
        have hlt : k < p.length := by have hq := of_decide_eq_true h23; omega
        have hkb : k < (burd p 0).length := by omega
        have hwb : wkA (burd p 0) k < (burd p 0).length := by
          rcases Nat.eq_zero_or_pos k with h | h
          · subst h; simp only [wkA]; omega
          · have := wkA_lt (burd p 0) k h; omega
        have hel := burs_at hkb
        have hel2 := burs_at hwb
        have hg1 := getD_at hkb
        have hg2 := getD_at hwb
        refine AWP.skip ?_
        refine AWP.seq ?_
        refine AWP.block ?_
        refine AWP.seq ?_
        refine AWP.region ?_
        refine AOps.call (o_move _ rfl rfl) ?_
        refine AOps.call (o_index _ _ Tryd.underlying85 Tryd.sizeOf88 rfl rfl (by omega) (by assumption) rfl rfl) ?_
        refine AOps.call (o_loadRd _ rfl Tryd.sizeOf88 Tryd.isAgg88 rfl rfl rfl) ?_
        refine AOps.call (o_alloc ze88 rfl rfl) ?_
        refine AOps.call (o_assign _ rfl rfl) ?_
        refine AOps.cons (o_store _ _ rfl rfl Tryd.sizeOf88 rfl rfl rfl rfl rfl) ?_
        refine AOps.nil ?_
        refine AWP.seq ?_
        refine AWP.drawn 6 mixed (by kernel_rfl) ?_
        refine AHead.call (o_loadRef _ rfl rfl Tryd.sizeOf88 Tryd.isAgg88 rfl rfl rfl) rfl ?_
        refine AHead.call (o_move _ rfl rfl) rfl ?_
        refine AHead.call (o_move _ rfl rfl) rfl ?_
        refine AHead.call (o_index _ _ Tryd.underlying85 Tryd.sizeOf88 rfl rfl (by omega) hel2 rfl rfl) rfl ?_
        refine AHead.call (o_loadRd _ rfl Tryd.sizeOf88 Tryd.isAgg88 rfl rfl rfl) rfl ?_
        refine AHead.call (o_call (weaker_s (burd p 0)[k] ((burd p 0)[wkA (burd p 0) k]) (burd_ok hp _ (List.getElem_mem hkb)) (burd_ok hp _ (List.getElem_mem hwb))) Tryd.call77 rfl rfl) rfl ?_
        refine AHead.nil ?_
        refine AOps.nil ?_
        refine AWP.cond _ rfl (fun h32 => ?_) (fun h32 => ?_)
        · skip
          have hnx : wkA (burd p 0) (k + 1) = k := by simp only [wkA]; rw [hg1, hg2]; exact if_pos h32
          refine AWP.region ?_
          refine AOps.call (o_move _ rfl rfl) ?_
          refine AOps.call (o_assign _ rfl rfl) ?_
          refine AOps.nil ?_
          refine AWP.region ?_
          refine AOps.call (o_add _ _ rfl rfl ⟨by (try dsimp only); omega, by (try dsimp only); omega⟩ rfl) ?_
          refine AOps.call (o_move _ rfl rfl) ?_
          refine AOps.nil ?_
          refine ⟨k + 1, ?_, (Weak.mk' rfl ⟨⟨.refl rfl, rfl⟩, ⟨⟨.refl (by rw [hnx]; rfl), rfl⟩, ⟨⟨.refl rfl, rfl⟩, ⟨⟨.refl rfl, rfl⟩, ⟨⟨.refl rfl, rfl⟩, trivial⟩⟩⟩⟩⟩ trivial trivial)⟩
          exact ⟨by omega, by omega⟩
        · skip
          have hnx : wkA (burd p 0) (k + 1) = wkA (burd p 0) k := by simp only [wkA]; rw [hg1, hg2]; exact if_neg (by rw [h32]; simp)
          refine AWP.skip ?_
          refine AWP.region ?_
          refine AOps.call (o_add _ _ rfl rfl ⟨by (try dsimp only); omega, by (try dsimp only); omega⟩ rfl) ?_
          refine AOps.call (o_move _ rfl rfl) ?_
          refine AOps.nil ?_
          refine ⟨k + 1, ?_, (Weak.mk' rfl ⟨⟨.refl rfl, rfl⟩, ⟨⟨.refl (by rw [hnx]; rfl), rfl⟩, ⟨⟨.refl rfl, rfl⟩, ⟨⟨.refl rfl, rfl⟩, ⟨⟨.refl rfl, rfl⟩, trivial⟩⟩⟩⟩⟩ trivial trivial)⟩
          exact ⟨by omega, by omega⟩
      · skip
        have hkl : k = p.length := by have hq := of_decide_eq_false h23; omega
        subst hkl
        have hwb : wkA (burd p 0) p.length < (burd p 0).length := by have := wkA_lt (burd p 0) p.length (by omega); omega
        have hel3 := burs_at hwb
        have hE : (wkM p) = (((wkA (burd p 0) p.length : Nat) : Int), (burd p 0)[wkA (burd p 0) p.length].1, 0) := by unfold wkM; rw [if_pos hp, if_neg h0, getD_at hwb]
        refine AWP.exit ?_
        refine AWP.seq ?_
        refine AWP.drawn 9 mixed (by kernel_rfl) ?_
        refine AHead.call (o_move _ rfl rfl) rfl ?_
        refine AHead.call (o_move _ rfl rfl) rfl ?_
        refine AHead.call (o_move _ rfl rfl) rfl ?_
        refine AHead.call (o_index _ _ Tryd.underlying85 Tryd.sizeOf88 rfl rfl (by omega) hel3 rfl rfl) rfl ?_
        refine AHead.call (o_fieldRd _ rfl fa88_0 rfl) rfl ?_
        refine AHead.call (o_loadRd _ rfl Tryd.sizeOf3 Tryd.isAgg3 rfl rfl rfl) rfl ?_
        refine AHead.call (o_assign _ rfl rfl) rfl ?_
        refine AHead.call (o_assign _ rfl rfl) rfl ?_
        refine AHead.call (o_assign _ rfl rfl) rfl ?_
        refine AHead.nil ?_
        refine AOps.nil ?_
        refine AWP.ret ?_
        refine postQ.ret3 Tryd.results44 rfl rfl rfl ?_
        rw [hE]
        rfl

set_option maxRecDepth 20000 in
theorem Steepest_s (p : List Lay) : FSpec Tryd.prog 48 [.agg (eK p)] (.tup [I (stpM p).1, I (stpM p).2]) (none) := by
  refine FSpec.of_body Tryd.func48 rfl (leB rfl) fun w0 M0 => ?_
  have hbl := burs_len (burd p 0)
  have hdl := burd_len p 0
  refine AWP.seq ?_
  refine AWP.region ?_
  refine AOps.call (o_box _ rfl rfl rfl) ?_
  refine AOps.call (o_assign _ rfl rfl) ?_
  refine AOps.call (o_assign _ rfl rfl) ?_
  refine AOps.nil ?_
  refine AWP.scope ?_
  refine AWP.seq ?_
  refine AWP.seq ?_
  refine AWP.region ?_
  refine AOps.call (o_loadRef _ rfl rfl Tryd.sizeOf24 Tryd.isAgg24 rfl rfl rfl) ?_
  refine AOps.call (o_call (Check_s _) Tryd.call26 rfl rfl) ?_
  refine AOps.call (o_assign _ rfl rfl) ?_
  refine AOps.nil ?_
  refine AWP.seq ?_
  refine AWP.region ?_
  refine AOps.call (o_move _ rfl rfl) ?_
  refine AOps.call (o_bin _ _ rfl rfl (fun _ => rfl) rfl) ?_
  refine AOps.nil ?_
  refine AWP.cond _ rfl (fun h7 => ?_) (fun h7 => ?_)
  · skip
    have hp : ¬ packE p = 0 := by simpa using h7
    have hp20 := packE_20 hp
    have hE : (stpM p) = (0, packE p) := by unfold stpM; rw [if_neg hp, hp20]
    refine AWP.seq ?_
    refine AWP.region ?_
    refine AOps.call (o_move _ rfl rfl) ?_
    refine AOps.call (o_assign _ rfl rfl) ?_
    refine AOps.call (o_assign _ rfl rfl) ?_
    refine AOps.nil ?_
    refine AWP.ret ?_
    refine postQ.ret2 Tryd.results48 rfl rfl ?_
    rw [hE]
    rfl
  · skip
    have hp : packE p = 0 := by simpa using h7
    have hn := (packE_0.1 hp).1
    refine AWP.skip ?_
    refine AWP.seq ?_
    refine AWP.region ?_
    refine AOps.call (o_loadRef _ rfl rfl Tryd.sizeOf24 Tryd.isAgg24 rfl rfl rfl) ?_
    refine AOps.call (o_call (burdens_s p hp) Tryd.call76 rfl rfl) ?_
    refine AOps.call (o_assign _ rfl rfl) ?_
    refine AOps.nil ?_
    refine AWP.seq ?_
    refine AWP.region ?_
    refine AOps.call (o_assign _ rfl rfl) ?_
    refine AOps.nil ?_
    refine AWP.seq ?_
    refine AWP.label ?_
    refine AWP.seq ?_
    refine AWP.block ?_
    refine AWP.loop (ι := Nat) (fun i => AS.mk' 32 [(5, .sl (burs (burd p 0))), (6, I i)] [] [] []) (fun i => i ≤ 60 ∧ stpN (burd p 0) 60 0 = stpN (burd p 0) (60 - i) i) (fun i => 60 - i) (0) (Weak.mk' rfl ⟨⟨.refl rfl, rfl⟩, ⟨⟨.refl rfl, rfl⟩, trivial⟩⟩ trivial trivial) (⟨Nat.zero_le _, rfl⟩) ?_
    rintro s ⟨hs, heq⟩
    try dsimp only at *
    refine AWP.seq ?_
    refine AWP.seq ?_
    refine AWP.region ?_
    refine AOps.call (o_move _ rfl rfl) ?_
    refine AOps.call (o_bin _ _ rfl rfl (fun _ => rfl) rfl) ?_
    refine AOps.nil ?_
    refine AWP.cond _ rfl (fun h13 => ?_) (fun h13 => ?_)
    · skip
      have hs60 : s < 60 := by have hq := of_decide_eq_true h13; omega
      refine AWP.skip ?_
      refine AWP.block ?_
      refine AWP.seq ?_
      refine AWP.seq ?_
      refine AWP.region ?_
      refine AOps.call (o_move _ rfl rfl) ?_
      refine AOps.call (o_len _ Tryd.underlying85 rfl rfl) ?_
      refine AOps.call (o_move _ rfl rfl) ?_
      refine AOps.nil ?_
      refine AWP.block ?_
      refine AWP.loop (ι := Nat) (fun i => AS.mk' 32 [(5, .sl (burs (burd p 0))), (6, I s), (18, .sl (burs (burd p 0))), (19, I (burs (burd p 0)).length), (20, I i)] [] [] []) (fun i => i ≤ p.length ∧ brkA ((burd p 0).take i) ((s : Int) + 1) = false) (fun i => p.length - i) (0) (Weak.mk' rfl ⟨⟨.refl rfl, rfl⟩, ⟨⟨.refl rfl, rfl⟩, ⟨⟨.refl rfl, rfl⟩, ⟨⟨.refl rfl, rfl⟩, ⟨⟨.refl rfl, rfl⟩, trivial⟩⟩⟩⟩⟩ trivial trivial) (⟨Nat.zero_le _, rfl⟩) ?_
      rintro k ⟨hk, hnb⟩
      try dsimp only at *
      refine AWP.seq ?_
      refine AWP.region ?_
      refine AOps.call (o_bin _ _ rfl rfl (fun _ => rfl) rfl) ?_
      refine AOps.nil ?_
      refine AWP.seq ?_
      refine AWP.cond _ rfl (fun h17 => ?_) (fun h17 => ?_)
      · skip
        have hlt : k < p.length := by have hq := of_decide_eq_true h17; omega
        have hkb : k < (burd p 0).length := by omega
        have hel := burs_at hkb
        refine AWP.skip ?_
        refine AWP.seq ?_
        refine AWP.block ?_
        refine AWP.seq ?_
        refine AWP.region ?_
        refine AOps.call (o_index _ _ Tryd.underlying85 Tryd.sizeOf88 rfl rfl (by omega) (by assumption) rfl rfl) ?_
        refine AOps.call (o_loadRd _ rfl Tryd.sizeOf88 Tryd.isAgg88 rfl rfl rfl) ?_
        refine AOps.call (o_alloc ze88 rfl rfl) ?_
        refine AOps.cons (o_store _ _ rfl rfl Tryd.sizeOf88 rfl rfl rfl rfl rfl) ?_
        refine AOps.nil ?_
        refine AWP.seq ?_
        refine AWP.region ?_
        refine AOps.call (o_loadRef _ rfl rfl Tryd.sizeOf88 Tryd.isAgg88 rfl rfl rfl) ?_
        refine AOps.call (o_move _ rfl rfl) ?_
        refine AOps.call (o_add _ _ rfl rfl ⟨by (try dsimp only); omega, by (try dsimp only); omega⟩ rfl) ?_
        refine AOps.call (o_call (breaks_s (burd p 0)[k] ((s : Int) + 1) (burd_ok hp _ (List.getElem_mem hkb)) ⟨by omega, by omega⟩) Tryd.call79 rfl rfl) ?_
        refine AOps.nil ?_
        refine AWP.cond _ rfl (fun h24 => ?_) (fun h24 => ?_)
        · skip
          have hE : (stpM p) = (((s : Nat) : Int), 0) := by unfold stpM; rw [if_pos hp, heq, stpN_brk hs60 (brkA_yes hkb h24)]
          refine AWP.exit ?_
          refine AWP.seq ?_
          refine AWP.region ?_
          refine AOps.call (o_move _ rfl rfl) ?_
          refine AOps.call (o_assign _ rfl rfl) ?_
          refine AOps.call (o_assign _ rfl rfl) ?_
          refine AOps.nil ?_
          refine AWP.ret ?_
          refine postQ.ret2 Tryd.results48 rfl rfl ?_
          rw [hE]
          rfl
        · skip
          have hbk := h24
          refine AWP.skip ?_
          refine AWP.region ?_
          refine AOps.call (o_add _ _ rfl rfl ⟨by (try dsimp only); omega, by (try dsimp only); omega⟩ rfl) ?_
          refine AOps.call (o_move _ rfl rfl) ?_
          refine AOps.nil ?_
          refine ⟨k + 1, ?_, (Weak.mk' rfl ⟨⟨.refl rfl, rfl⟩, ⟨⟨.refl rfl, rfl⟩, ⟨⟨.refl rfl, rfl⟩, ⟨⟨.refl rfl, rfl⟩, ⟨⟨.refl rfl, rfl⟩, trivial⟩⟩⟩⟩⟩ trivial trivial)⟩
          exact ⟨⟨by omega, brkA_step hkb hnb (by simpa using hbk)⟩, by omega⟩
      · skip
        have hno : ¬ brkA (burd p 0) ((s : Int) + 1) = true := by rw [brkA_no hnb (by have hq := of_decide_eq_false h17; omega)]; simp
        refine AWP.exit ?_
        refine AWP.region ?_
        refine AOps.call (o_move _ rfl rfl) ?_
        refine AOps.call (o_add _ _ rfl rfl ⟨by (try dsimp only); omega, by (try dsimp only); omega⟩ rfl) ?_
        refine AOps.call (o_assign _ rfl rfl) ?_
        refine AOps.nil ?_
        refine ⟨s + 1, ?_, (Weak.mk' rfl ⟨⟨.refl rfl, rfl⟩, ⟨⟨.refl rfl, rfl⟩, trivial⟩⟩ trivial trivial)⟩
        exact ⟨⟨by omega, by rw [heq, stpN_go hs60 hno]⟩, by omega⟩
    · skip
      have hs60 : s = 60 := by have hq := of_decide_eq_false h13; omega
      have hE : (stpM p) = (((s : Nat) : Int), 0) := by unfold stpM; rw [if_pos hp, heq, hs60]; rfl
      refine AWP.exit ?_
      refine AWP.seq ?_
      refine AWP.region ?_
      refine AOps.call (o_move _ rfl rfl) ?_
      refine AOps.call (o_assign _ rfl rfl) ?_
      refine AOps.call (o_assign _ rfl rfl) ?_
      refine AOps.nil ?_
      refine AWP.ret ?_
      refine postQ.ret2 Tryd.results48 rfl rfl ?_
      rw [hE]
      rfl

end Go.Proofs.YtgagfmjpmdgfdaaDoor
