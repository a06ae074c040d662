/- Y5. -/
import Derived.Test.YtelenedgaoglaaaGreatDoorY4
import Derived.Test.YtelenedgaoglaaaGreatDoorMA
set_option linter.unusedSimpArgs false
set_option linter.unusedVariables false
namespace Go.Proofs.YtelenedgaoglaaaGreatDoor
open Go.Ab
open Go.Pil Go.RowKit
theorem fitB_0 {p : Plw} {w : List Sp} {l x : List Int} : fitB p w l x 0 = inB (x.getD 0 0) (p.allow 0 (l.getD 0 0)).lo (p.allow 0 (l.getD 0 0)).hi := by
  unfold fitB reachP hereX; rw [if_pos (by rfl)]; rfl
theorem fitB_k {p : Plw} {w : List Sp} {l x : List Int} {k : Nat} (h : 0 < k) : fitB p w l x k = (inB (x.getD k 0) (p.allow k (l.getD k 0)).lo (p.allow k (l.getD k 0)).hi && inB (x.getD k 0 - x.getD (k - 1) 0) (wf w (k - 1)).lo (wf w (k - 1)).hi) := by
  unfold fitB reachP hereX
  rw [if_neg (by omega), if_neg (by omega), Int.toNat_natCast, Bool.eq_iff_iff, hasS_iff, Bool.and_eq_true, inB_iff, inB_iff]
  simp only [Sp.Has, Sp.meet, Sp.plus]
  omega
set_option maxHeartbeats 4000000 in
set_option maxRecDepth 20000 in
theorem CheckWitnessR_s (p : Plw) (w : List Sp) (l x : List Int) (hw1 : w.length ≤ 9223372036854775807) (hl1 : l.length ≤ 9223372036854775807) (hx1 : x.length ≤ 9223372036854775807) : FSpec Tryz.prog 32 [.agg (eP p), .sl (sps w), .sl (ints l), .sl (ints x)] (I (cwE p w l x (rcE p w l))) (none) := by
  refine FSpec.of_body Tryz.func32 rfl (leB rfl) fun w0 M0 => ?_
  have hil := ints_len l
  have hix := ints_len x
  have hsl := sps_len w
  refine AWP.seq ?_
  refine AWP.region ?_
  refine AOps.call (o_box _ rfl rfl rfl) ?_
  refine AOps.call (o_assign _ rfl rfl) ?_
  refine AOps.nil ?_
  refine AWP.seq ?_
  refine AWP.region ?_
  refine AOps.call (o_loadRef _ rfl rfl Tryz.sizeOf24 Tryz.isAgg24 rfl rfl rfl) ?_
  refine AOps.call (o_move _ rfl rfl) ?_
  refine AOps.call (o_move _ rfl rfl) ?_
  refine AOps.call (o_lit Tryz.underlying40 Tryz.sizeOf25 Tryz.zeroValue25 rfl rfl rfl rfl rfl rfl rfl) ?_
  refine AOps.call (o_call (asked1_s p w l hw1 hl1) Tryz.call67 rfl rfl) ?_
  refine AOps.call (o_assign _ rfl rfl) ?_
  refine AOps.nil ?_
  refine AWP.seq ?_
  refine AWP.seq ?_
  refine AWP.region ?_
  refine AOps.call (o_move _ rfl rfl) ?_
  refine AOps.call (o_bin _ _ rfl rfl (fun _ => rfl) rfl) ?_
  refine AOps.nil ?_
  refine AWP.cond _ rfl (fun h9 => ?_) (fun h9 => ?_)
  · skip
    have hne : rcE p w l ≠ 0 := by simpa using h9
    have hE : cwE p w l x (rcE p w l) = rcE p w l := if_pos hne
    refine AWP.seq ?_
    refine AWP.region ?_
    refine AOps.call (o_move _ rfl rfl) ?_
    refine AOps.call (o_assign _ rfl rfl) ?_
    refine AOps.nil ?_
    refine AWP.ret ?_
    refine postQ.ret1 Tryz.results32 rfl ?_
    rw [hE]
    rfl
  · skip
    have hz : rcE p w l = 0 := by simpa using h9
    obtain ⟨hp, hq, hll⟩ := rcE_hyp hz
    have h32 := hp.len
    refine AWP.skip ?_
    refine AWP.seq ?_
    refine AWP.seq ?_
    refine AWP.region ?_
    refine AOps.call (o_move _ rfl rfl) ?_
    refine AOps.call (o_len _ Tryz.underlying25 rfl rfl) ?_
    refine AOps.call (o_move _ rfl rfl) ?_
    refine AOps.call (o_len _ Tryz.underlying25 rfl rfl) ?_
    refine AOps.call (o_bin _ _ rfl rfl (fun _ => rfl) rfl) ?_
    refine AOps.nil ?_
    refine AWP.cond _ rfl (fun h15 => ?_) (fun h15 => ?_)
    · skip
      have hxl : x.length ≠ l.length := by
        have h := h15
        simp at h
        omega
      have hE : cwE p w l x (rcE p w l) = 32 := (if_neg (by rw [hz]; decide)).trans (if_pos hxl)
      refine AWP.seq ?_
      refine AWP.region ?_
      refine AOps.call (o_assign _ rfl rfl) ?_
      refine AOps.nil ?_
      refine AWP.ret ?_
      refine postQ.ret1 Tryz.results32 rfl ?_
      rw [hE]
      rfl
    · skip
      have hxl : x.length = l.length := by
        have h := h15
        simp at h
        omega
      have hwl : w.length = p.log.length - 1 := (okW_iff.1 hq).1
      have hbw := okW_WB hq
      refine AWP.skip ?_
      refine AWP.seq ?_
      refine AWP.seq ?_
      refine AWP.region ?_
      refine AOps.call (o_assign _ rfl rfl) ?_
      refine AOps.nil ?_
      refine AWP.block ?_
      refine AWP.loop (ι := Nat) (fun i => AS.mk' 76 [(1, .sl (sps w)), (2, .sl (ints l)), (3, .sl (ints x)), (4, .ref (4, 0) 0), (10, I i)] [((4, 0), eP p)] [] [(4, 1)]) (fun i => i ≤ x.length ∧ ∀ j, j < i → fitB p w l x j = true) (fun i => x.length - i) (0) (Weak.mk' rfl ⟨⟨.refl rfl, rfl⟩, ⟨⟨.refl rfl, rfl⟩, ⟨⟨.refl rfl, rfl⟩, ⟨⟨.refl rfl, rfl⟩, ⟨⟨.refl rfl, rfl⟩, trivial⟩⟩⟩⟩⟩ ⟨⟨rfl, rfl, rfl⟩, trivial⟩ trivial) (⟨Nat.zero_le _, fun j h => absurd h (Nat.not_lt_zero _)⟩) ?_
      rintro k ⟨hk, hall⟩
      try dsimp only at *
      refine AWP.seq ?_
      refine AWP.seq ?_
      refine AWP.region ?_
      refine AOps.call (o_move _ rfl rfl) ?_
      refine AOps.call (o_move _ rfl rfl) ?_
      refine AOps.call (o_len _ Tryz.underlying25 rfl rfl) ?_
      refine AOps.call (o_bin _ _ rfl rfl (fun _ => rfl) rfl) ?_
      refine AOps.nil ?_
      refine AWP.cond _ rfl (fun h21 => ?_) (fun h21 => ?_)
      · skip
        have hlt : k < x.length := by have := of_decide_eq_true h21; omega
        have hel := ints_gY (l := l) (k := k) (by omega)
        have hex := ints_gY hlt
        refine AWP.skip ?_
        refine AWP.seq ?_
        refine AWP.block ?_
        refine AWP.seq ?_
        refine AWP.drawn 8 mixed (by kernel_rfl) ?_
        refine AHead.call (o_loadRef _ rfl rfl Tryz.sizeOf24 Tryz.isAgg24 rfl rfl rfl) rfl ?_
        refine AHead.call (o_move _ rfl rfl) rfl ?_
        refine AHead.call (o_move _ rfl rfl) rfl ?_
        refine AHead.call (o_index _ _ Tryz.underlying25 Tryz.sizeOf3 rfl rfl (by omega) hel rfl rfl) rfl ?_
        refine AHead.call (o_loadRd _ rfl Tryz.sizeOf3 Tryz.isAgg3 rfl rfl rfl) rfl ?_
        refine AHead.call (o_move _ rfl rfl) rfl ?_
        refine AHead.call (o_call (allowedR_s p hp (l.getD k 0) ((k : Nat) : Int) (by omega) (by omega)) Tryz.call73 rfl rfl) rfl ?_
        refine AHead.call (o_alloc ze54 rfl rfl) rfl ?_
        refine AHead.nil ?_
        refine AOps.cons (o_store _ _ rfl rfl Tryz.sizeOf54 rfl rfl rfl rfl rfl) ?_
        refine AOps.nil ?_
        refine AWP.seq ?_
        refine AWP.seq ?_
        refine AWP.drawn 10 mixed (by kernel_rfl) ?_
        refine AHead.call (o_move _ rfl rfl) rfl ?_
        refine AHead.call (o_move _ rfl rfl) rfl ?_
        refine AHead.call (o_index _ _ Tryz.underlying25 Tryz.sizeOf3 rfl rfl (by omega) hex rfl rfl) rfl ?_
        refine AHead.call (o_loadRd _ rfl Tryz.sizeOf3 Tryz.isAgg3 rfl rfl rfl) rfl ?_
        refine AHead.call (o_fieldRef _ rfl fa54_0 rfl rfl) rfl ?_
        refine AHead.call (o_loadRef _ rfl rfl Tryz.sizeOf3 Tryz.isAgg3 rfl rfl rfl) rfl ?_
        refine AHead.call (o_fieldRef _ rfl fa54_1 rfl rfl) rfl ?_
        refine AHead.call (o_loadRef _ rfl rfl Tryz.sizeOf3 Tryz.isAgg3 rfl rfl rfl) rfl ?_
        refine AHead.call (o_call (within_s _ _ _) Tryz.call59 rfl rfl) rfl ?_
        refine AHead.call (o_un _ rfl (fun _ => rfl) rfl) rfl ?_
        refine AHead.nil ?_
        refine AOps.nil ?_
        refine AWP.cond _ rfl (fun h37 => ?_) (fun h37 => ?_)
        · skip
          have hin : inB (x.getD k 0) (p.allow k (l.getD k 0)).lo (p.allow k (l.getD k 0)).hi = false := by simpa using h37
          have hfit : fitB p w l x k = false := by
            by_cases h0 : k = 0
            · subst h0; rw [fitB_0]; exact hin
            · rw [fitB_k (by omega), hin]; rfl
          have hE : cwE p w l x (rcE p w l) = 32 := (if_neg (by rw [hz]; decide)).trans ((if_neg (fun h => h hxl)).trans (if_neg (cwB_no hlt hfit)))
          refine AWP.seq ?_
          refine AWP.region ?_
          refine AOps.call (o_assign _ rfl rfl) ?_
          refine AOps.nil ?_
          refine AWP.ret ?_
          refine postQ.ret1 Tryz.results32 rfl ?_
          rw [hE]
          rfl
        · skip
          have hin : inB (x.getD k 0) (p.allow k (l.getD k 0)).lo (p.allow k (l.getD k 0)).hi = true := by simpa using h37
          have hin2 := inB_iff.1 hin
          have hai := hp.allow_in k (l.getD k 0)
          refine AWP.skip ?_
          refine AWP.seq ?_
          refine AWP.drawn 28 mixed (by kernel_rfl) ?_
          refine AHead.call (o_move _ rfl rfl) rfl ?_
          refine AHead.call (o_bin _ _ rfl rfl (fun _ => rfl) rfl) rfl ?_
          refine AHead.call (o_move _ rfl rfl) rfl ?_
          refine AHead.split rfl rfl rfl (fun h40 => ?_) (fun h40 => ?_)
          · skip
            have hk0 : 0 < k := by have := of_decide_eq_true h40; omega
            have hexp : (ints x)[(((k : Nat) : Int) - 1).toNat]? = some [I (x.getD (k - 1) 0)] := ints_gD (by omega) (by omega)
            have hew : (sps w)[(((k : Nat) : Int) - 1).toNat]? = some (eN (wf w (k - 1))) := sps_gD (by omega) (by omega)
            have hbp := fit_bd hp (hall (k - 1) (by omega))
            refine AHead.go rfl rfl rfl h40 (o_move _ rfl rfl) rfl ?_
            refine AHead.go rfl rfl rfl h40 (o_move _ rfl rfl) rfl ?_
            refine AHead.go rfl rfl rfl h40 (o_index _ _ Tryz.underlying25 Tryz.sizeOf3 rfl rfl (by omega) hex rfl rfl) rfl ?_
            refine AHead.go rfl rfl rfl h40 (o_loadRd _ rfl Tryz.sizeOf3 Tryz.isAgg3 rfl rfl rfl) rfl ?_
            refine AHead.go rfl rfl rfl h40 (o_move _ rfl rfl) rfl ?_
            refine AHead.go rfl rfl rfl h40 (o_move _ rfl rfl) rfl ?_
            refine AHead.go rfl rfl rfl h40 (o_sub _ _ rfl rfl ⟨by (try dsimp only); omega, by (try dsimp only); omega⟩ rfl) rfl ?_
            refine AHead.go rfl rfl rfl h40 (o_index _ _ Tryz.underlying25 Tryz.sizeOf3 rfl rfl (by omega) hexp rfl rfl) rfl ?_
            refine AHead.go rfl rfl rfl h40 (o_loadRd _ rfl Tryz.sizeOf3 Tryz.isAgg3 rfl rfl rfl) rfl ?_
            refine AHead.go rfl rfl rfl h40 (o_sub _ _ rfl rfl ⟨by (try dsimp only); omega, by (try dsimp only); omega⟩ rfl) rfl ?_
            refine AHead.go rfl rfl rfl h40 (o_move _ rfl rfl) rfl ?_
            refine AHead.go rfl rfl rfl h40 (o_move _ rfl rfl) rfl ?_
            refine AHead.go rfl rfl rfl h40 (o_sub _ _ rfl rfl ⟨by (try dsimp only); omega, by (try dsimp only); omega⟩ rfl) rfl ?_
            refine AHead.go rfl rfl rfl h40 (o_index _ _ Tryz.underlying38 Tryz.sizeOf54 rfl rfl (by omega) hew rfl rfl) rfl ?_
            refine AHead.go rfl rfl rfl h40 (o_fieldRd _ rfl fa54_0 rfl) rfl ?_
            refine AHead.go rfl rfl rfl h40 (o_loadRd _ rfl Tryz.sizeOf3 Tryz.isAgg3 rfl rfl rfl) rfl ?_
            refine AHead.go rfl rfl rfl h40 (o_move _ rfl rfl) rfl ?_
            refine AHead.go rfl rfl rfl h40 (o_move _ rfl rfl) rfl ?_
            refine AHead.go rfl rfl rfl h40 (o_sub _ _ rfl rfl ⟨by (try dsimp only); omega, by (try dsimp only); omega⟩ rfl) rfl ?_
            refine AHead.go rfl rfl rfl h40 (o_index _ _ Tryz.underlying38 Tryz.sizeOf54 rfl rfl (by omega) hew rfl rfl) rfl ?_
            refine AHead.go rfl rfl rfl h40 (o_fieldRd _ rfl fa54_1 rfl) rfl ?_
            refine AHead.go rfl rfl rfl h40 (o_loadRd _ rfl Tryz.sizeOf3 Tryz.isAgg3 rfl rfl rfl) rfl ?_
            refine AHead.go rfl rfl rfl h40 (o_call (within_s _ _ _) Tryz.call59 rfl rfl) rfl ?_
            refine AHead.go rfl rfl rfl h40 (o_un _ rfl (fun _ => rfl) rfl) rfl ?_
            refine AHead.call (o_pickT _ _ _ rfl h40 rfl rfl) rfl ?_
            refine AHead.nil ?_
            refine AOps.nil ?_
            refine AWP.cond _ rfl (fun h61 => ?_) (fun h61 => ?_)
            · skip
              have hq2 : inB (x.getD k 0 - x.getD (k - 1) 0) (wf w (k - 1)).lo (wf w (k - 1)).hi = false := by simpa using h61
              have hfit : fitB p w l x k = false := by rw [fitB_k hk0, hq2, Bool.and_false]
              have hE : cwE p w l x (rcE p w l) = 32 := (if_neg (by rw [hz]; decide)).trans ((if_neg (fun h => h hxl)).trans (if_neg (cwB_no hlt hfit)))
              refine AWP.seq ?_
              refine AWP.region ?_
              refine AOps.call (o_assign _ rfl rfl) ?_
              refine AOps.nil ?_
              refine AWP.ret ?_
              refine postQ.ret1 Tryz.results32 rfl ?_
              rw [hE]
              rfl
            · skip
              have hq2 : inB (x.getD k 0 - x.getD (k - 1) 0) (wf w (k - 1)).lo (wf w (k - 1)).hi = true := by simpa using h61
              have hfit : fitB p w l x k = true := by rw [fitB_k hk0, hin, hq2]; rfl
              refine AWP.skip ?_
              refine AWP.region ?_
              refine AOps.call (o_move _ rfl rfl) ?_
              refine AOps.call (o_add _ _ rfl rfl ⟨by (try dsimp only); omega, by (try dsimp only); omega⟩ rfl) ?_
              refine AOps.call (o_assign _ rfl rfl) ?_
              refine AOps.nil ?_
              refine ⟨k + 1, ?_, (Weak.mk' rfl ⟨⟨.refl rfl, rfl⟩, ⟨⟨.refl rfl, rfl⟩, ⟨⟨.refl rfl, rfl⟩, ⟨⟨.refl rfl, rfl⟩, ⟨⟨.refl rfl, rfl⟩, trivial⟩⟩⟩⟩⟩ ⟨⟨rfl, rfl, rfl⟩, trivial⟩ trivial)⟩
              refine ⟨⟨by omega, fun j hj => ?_⟩, by omega⟩
              by_cases e : j = k
              · subst e; exact hfit
              · exact hall j (by omega)
          · skip
            have hk0 : k = 0 := by have := of_decide_eq_false h40; omega
            refine AHead.pass rfl rfl rfl h40 rfl ?_
            refine AHead.pass rfl rfl rfl h40 rfl ?_
            refine AHead.pass rfl rfl rfl h40 rfl ?_
            refine AHead.pass rfl rfl rfl h40 rfl ?_
            refine AHead.pass rfl rfl rfl h40 rfl ?_
            refine AHead.pass rfl rfl rfl h40 rfl ?_
            refine AHead.pass rfl rfl rfl h40 rfl ?_
            refine AHead.pass rfl rfl rfl h40 rfl ?_
            refine AHead.pass rfl rfl rfl h40 rfl ?_
            refine AHead.pass rfl rfl rfl h40 rfl ?_
            refine AHead.pass rfl rfl rfl h40 rfl ?_
            refine AHead.pass rfl rfl rfl h40 rfl ?_
            refine AHead.pass rfl rfl rfl h40 rfl ?_
            refine AHead.pass rfl rfl rfl h40 rfl ?_
            refine AHead.pass rfl rfl rfl h40 rfl ?_
            refine AHead.pass rfl rfl rfl h40 rfl ?_
            refine AHead.pass rfl rfl rfl h40 rfl ?_
            refine AHead.pass rfl rfl rfl h40 rfl ?_
            refine AHead.pass rfl rfl rfl h40 rfl ?_
            refine AHead.pass rfl rfl rfl h40 rfl ?_
            refine AHead.pass rfl rfl rfl h40 rfl ?_
            refine AHead.pass rfl rfl rfl h40 rfl ?_
            refine AHead.pass rfl rfl rfl h40 rfl ?_
            refine AHead.pass rfl rfl rfl h40 rfl ?_
            refine AHead.call (o_pickF _ _ _ rfl h40 rfl rfl) rfl ?_
            refine AHead.nil ?_
            refine AOps.nil ?_
            refine AWP.condF rfl ?_
            have hfit : fitB p w l x k = true := by subst hk0; rw [fitB_0]; exact hin
            refine AWP.skip ?_
            refine AWP.region ?_
            refine AOps.call (o_move _ rfl rfl) ?_
            refine AOps.call (o_add _ _ rfl rfl ⟨by (try dsimp only); omega, by (try dsimp only); omega⟩ rfl) ?_
            refine AOps.call (o_assign _ rfl rfl) ?_
            refine AOps.nil ?_
            refine ⟨k + 1, ?_, (Weak.mk' rfl ⟨⟨.refl rfl, rfl⟩, ⟨⟨.refl rfl, rfl⟩, ⟨⟨.refl rfl, rfl⟩, ⟨⟨.refl rfl, rfl⟩, ⟨⟨.refl rfl, rfl⟩, trivial⟩⟩⟩⟩⟩ ⟨⟨rfl, rfl, rfl⟩, trivial⟩ trivial)⟩
            refine ⟨⟨by omega, fun j hj => ?_⟩, by omega⟩
            by_cases e : j = k
            · subst e; exact hfit
            · exact hall j (by omega)
      · skip
        have hkl : k = x.length := by have := of_decide_eq_false h21; omega
        subst hkl
        have hE : cwE p w l x (rcE p w l) = 0 := (if_neg (by rw [hz]; decide)).trans ((if_neg (fun h => h hxl)).trans (if_pos (cwB_yes hall)))
        refine AWP.exit ?_
        refine AWP.seq ?_
        refine AWP.region ?_
        refine AOps.call (o_assign _ rfl rfl) ?_
        refine AOps.nil ?_
        refine AWP.ret ?_
        refine postQ.ret1 Tryz.results32 rfl ?_
        rw [hE]
        rfl
end Go.Proofs.YtelenedgaoglaaaGreatDoor
