/- Y4. -/
import Derived.Test.YtelenedgaoglaaaGreatDoorY3
import Derived.Test.YtelenedgaoglaaaGreatDoorR21
import Derived.Test.YtelenedgaoglaaaGreatDoorZ1
import Derived.Test.YtelenedgaoglaaaGreatDoorR15
set_option linter.unusedSimpArgs false
set_option linter.unusedVariables false
namespace Go.Proofs.YtelenedgaoglaaaGreatDoor
open Go.Ab
open Go.Pil Go.RowKit
theorem logE_ok {p : Plw} (h : okP p = true) : logE p = 0 := if_pos h
theorem logE_bad {p : Plw} (h : okP p = false) : logE p = 30 := if_neg (by rw [h]; decide)
theorem okP_of {p : Plw} (h : logE p = 0) : okP p = true := by
  cases hc : okP p with
  | true => rfl
  | false => rw [logE_bad hc] at h; omega
theorem okP_no {p : Plw} (h : logE p ≠ 0) : okP p = false := by
  cases hc : okP p with
  | false => rfl
  | true => exact absurd (logE_ok hc) h
def askE (p : Plw) (w : List Sp) (n : Int) (ls : List (List Int)) : Int := if okP p = false then 30 else if okW p w = false then 1 else if ls.all (rgt p) = false then 31 else if inB n (-1) ((p.log.length : Int) - 1) = true then 0 else 1
theorem askE_log {p w n ls} (h : okP p = false) : askE p w n ls = 30 := if_pos h
theorem askE_arg {p w n ls} (h : okP p = true) (h2 : okW p w = false) : askE p w n ls = 1 := (if_neg (by rw [h]; decide)).trans (if_pos h2)
theorem askE_cas {p w n ls} (h : okP p = true) (h2 : okW p w = true) (h3 : ls.all (rgt p) = false) : askE p w n ls = 31 := (if_neg (by rw [h]; decide)).trans ((if_neg (by rw [h2]; decide)).trans (if_pos h3))
theorem askE_end {p w n ls} (h : okP p = true) (h2 : okW p w = true) (h3 : ls.all (rgt p) = true) : askE p w n ls = if inB n (-1) ((p.log.length : Int) - 1) = true then 0 else 1 := (if_neg (by rw [h]; decide)).trans ((if_neg (by rw [h2]; decide)).trans (if_neg (by rw [h3]; decide)))
set_option maxHeartbeats 4000000 in
set_option maxRecDepth 20000 in
theorem asked_s (p : Plw) (w : List Sp) (n : Int) (ls : List (List Int)) (hw1 : w.length ≤ 9223372036854775807) (hls : ls.length ≤ 1000000) (hl1 : ∀ l ∈ ls, l.length ≤ 9223372036854775807) : FSpec Tryz.prog 67 [.agg (eP p), .sl (sps w), I n, .sl (css ls)] (I (askE p w n ls)) (none) := by
  refine FSpec.of_body Tryz.func67 rfl (leB rfl) fun w0 M0 => ?_
  have hpl := shws_len p.log
  have hcl := css_len ls
  refine AWP.seq ?_
  refine AWP.region ?_
  refine AOps.call (o_box _ rfl rfl rfl) ?_
  refine AOps.call (o_assign _ rfl rfl) ?_
  refine AOps.nil ?_
  refine AWP.seq ?_
  refine AWP.seq ?_
  refine AWP.region ?_
  refine AOps.call (o_loadRef _ rfl rfl Tryz.sizeOf24 Tryz.isAgg24 rfl rfl rfl) ?_
  refine AOps.call (o_call (CheckR_s p) Tryz.call18 rfl rfl) ?_
  refine AOps.call (o_bin _ _ rfl rfl (fun _ => rfl) rfl) ?_
  refine AOps.nil ?_
  refine AWP.cond _ rfl (fun h6 => ?_) (fun h6 => ?_)
  · skip
    have hE : askE p w n ls = 30 := askE_log (okP_no (by simpa using h6))
    refine AWP.seq ?_
    refine AWP.region ?_
    refine AOps.call (o_assign _ rfl rfl) ?_
    refine AOps.nil ?_
    refine AWP.ret ?_
    refine postQ.ret1 Tryz.results67 rfl ?_
    rw [hE]
    rfl
  · skip
    have he := okP_of (by simpa using h6)
    have hp := okP_iff.1 he
    have h32 := hp.len
    refine AWP.skip ?_
    refine AWP.seq ?_
    refine AWP.seq ?_
    refine AWP.region ?_
    refine AOps.call (o_loadRef _ rfl rfl Tryz.sizeOf24 Tryz.isAgg24 rfl rfl rfl) ?_
    refine AOps.call (o_move _ rfl rfl) ?_
    refine AOps.call (o_call (Weather_s p w h32 hw1) Tryz.call93 rfl rfl) ?_
    refine AOps.call (o_un _ rfl (fun _ => rfl) rfl) ?_
    refine AOps.nil ?_
    refine AWP.cond _ rfl (fun h12 => ?_) (fun h12 => ?_)
    · skip
      have hq : okW p w = false := by simpa using h12
      have hE : askE p w n ls = 1 := askE_arg he hq
      refine AWP.seq ?_
      refine AWP.region ?_
      refine AOps.call (o_assign _ rfl rfl) ?_
      refine AOps.nil ?_
      refine AWP.ret ?_
      refine postQ.ret1 Tryz.results67 rfl ?_
      rw [hE]
      rfl
    · skip
      have hq : okW p w = true := by simpa using h12
      refine AWP.skip ?_
      refine AWP.seq ?_
      refine AWP.seq ?_
      refine AWP.region ?_
      refine AOps.call (o_assign _ rfl rfl) ?_
      refine AOps.nil ?_
      refine AWP.block ?_
      refine AWP.loop (ι := Nat) (fun i => AS.mk' 37 [(1, .sl (sps w)), (2, I n), (3, .sl (css ls)), (4, .ref (4, 0) 0), (9, I i)] [((4, 0), eP p)] [] [(4, 1)]) (fun i => i ≤ ls.length ∧ (ls.take i).all (rgt p) = true) (fun i => ls.length - i) (0) (Weak.mk' rfl ⟨⟨.refl rfl, rfl⟩, ⟨⟨.refl rfl, rfl⟩, ⟨⟨.refl rfl, rfl⟩, ⟨⟨.refl rfl, rfl⟩, ⟨⟨.refl rfl, rfl⟩, trivial⟩⟩⟩⟩⟩ ⟨⟨rfl, rfl, rfl⟩, trivial⟩ trivial) (⟨Nat.zero_le _, rfl⟩) ?_
      rintro k ⟨hk, hv⟩
      try dsimp only at *
      refine AWP.seq ?_
      refine AWP.seq ?_
      refine AWP.region ?_
      refine AOps.call (o_move _ rfl rfl) ?_
      refine AOps.call (o_move _ rfl rfl) ?_
      refine AOps.call (o_len _ Tryz.underlying40 rfl rfl) ?_
      refine AOps.call (o_bin _ _ rfl rfl (fun _ => rfl) rfl) ?_
      refine AOps.nil ?_
      refine AWP.cond _ rfl (fun h18 => ?_) (fun h18 => ?_)
      · skip
        have hlt : k < ls.length := by have := of_decide_eq_true h18; omega
        have hel := css_at hlt
        refine AWP.skip ?_
        refine AWP.seq ?_
        refine AWP.block ?_
        refine AWP.seq ?_
        refine AWP.drawn 7 mixed (by kernel_rfl) ?_
        refine AHead.call (o_loadRef _ rfl rfl Tryz.sizeOf24 Tryz.isAgg24 rfl rfl rfl) rfl ?_
        refine AHead.call (o_move _ rfl rfl) rfl ?_
        refine AHead.call (o_move _ rfl rfl) rfl ?_
        refine AHead.call (o_index _ _ Tryz.underlying40 Tryz.sizeOf25 rfl rfl (by omega) hel rfl rfl) rfl ?_
        refine AHead.call (o_loadRd _ rfl Tryz.sizeOf25 Tryz.isAgg25 rfl rfl rfl) rfl ?_
        refine AHead.call (o_call (right_s p ls[k] hp (hl1 _ (List.getElem_mem hlt))) Tryz.call64 rfl rfl) rfl ?_
        refine AHead.call (o_un _ rfl (fun _ => rfl) rfl) rfl ?_
        refine AHead.nil ?_
        refine AOps.nil ?_
        refine AWP.cond _ rfl (fun h25 => ?_) (fun h25 => ?_)
        · skip
          have hr : rgt p ls[k] = false := by simpa using h25
          have hE : askE p w n ls = 31 := askE_cas he hq (by rw [List.all_eq_false]; exact ⟨_, List.getElem_mem hlt, by rw [hr]; decide⟩)
          refine AWP.seq ?_
          refine AWP.region ?_
          refine AOps.call (o_assign _ rfl rfl) ?_
          refine AOps.nil ?_
          refine AWP.ret ?_
          refine postQ.ret1 Tryz.results67 rfl ?_
          rw [hE]
          rfl
        · skip
          have hr : rgt p ls[k] = true := by simpa using h25
          refine AWP.skip ?_
          refine AWP.region ?_
          refine AOps.call (o_move _ rfl rfl) ?_
          refine AOps.call (o_add _ _ rfl rfl ⟨by (try dsimp only); omega, by (try dsimp only); omega⟩ rfl) ?_
          refine AOps.call (o_assign _ rfl rfl) ?_
          refine AOps.nil ?_
          refine ⟨k + 1, ?_, (Weak.mk' rfl ⟨⟨.refl rfl, rfl⟩, ⟨⟨.refl rfl, rfl⟩, ⟨⟨.refl rfl, rfl⟩, ⟨⟨.refl rfl, rfl⟩, ⟨⟨.refl rfl, rfl⟩, trivial⟩⟩⟩⟩⟩ ⟨⟨rfl, rfl, rfl⟩, trivial⟩ trivial)⟩
          exact ⟨⟨by omega, by rw [List.take_succ_eq_append_getElem hlt, List.all_append, hv, List.all_cons, hr]; rfl⟩, by omega⟩
      · skip
        have hkl : k = ls.length := by have := of_decide_eq_false h18; omega
        have hall : ls.all (rgt p) = true := by rw [hkl, List.take_length] at hv; exact hv
        have hE2 := askE_end (n := n) he hq hall
        refine AWP.exit ?_
        refine AWP.seq ?_
        refine AWP.seq ?_
        refine AWP.region ?_
        refine AOps.call (o_move _ rfl rfl) ?_
        refine AOps.call (o_fieldRef _ rfl fa24_6 rfl rfl) ?_
        refine AOps.call (o_loadRef _ rfl rfl Tryz.sizeOf22 Tryz.isAgg22 rfl rfl rfl) ?_
        refine AOps.call (o_len _ Tryz.underlying22 rfl rfl) ?_
        refine AOps.call (o_sub _ _ rfl rfl ⟨by (try dsimp only); omega, by (try dsimp only); omega⟩ rfl) ?_
        refine AOps.call (o_call (within_s _ _ _) Tryz.call59 rfl rfl) ?_
        refine AOps.call (o_un _ rfl (fun _ => rfl) rfl) ?_
        refine AOps.nil ?_
        refine AWP.cond _ rfl (fun h35 => ?_) (fun h35 => ?_)
        · skip
          have hr : ¬ inB n (-1) ((p.log.length : Int) - 1) = true := by
            have h := h35
            rw [hpl] at h
            simpa using h
          have hE : askE p w n ls = 1 := by rw [hE2, if_neg hr]
          refine AWP.seq ?_
          refine AWP.region ?_
          refine AOps.call (o_assign _ rfl rfl) ?_
          refine AOps.nil ?_
          refine AWP.ret ?_
          refine postQ.ret1 Tryz.results67 rfl ?_
          rw [hE]
          rfl
        · skip
          have hr : inB n (-1) ((p.log.length : Int) - 1) = true := by
            have h := h35
            rw [hpl] at h
            simpa using h
          have hE : askE p w n ls = 0 := by rw [hE2, if_pos hr]
          refine AWP.skip ?_
          refine AWP.seq ?_
          refine AWP.region ?_
          refine AOps.call (o_assign _ rfl rfl) ?_
          refine AOps.nil ?_
          refine AWP.ret ?_
          refine postQ.ret1 Tryz.results67 rfl ?_
          rw [hE]
          rfl
end Go.Proofs.YtelenedgaoglaaaGreatDoor
