import Derived.Test.YtphoomnonenalaaDoorM9
import Derived.Test.YtphoomnonenalaaDoorEq1
import Derived.Test.YtphoomnonenalaaDoorC15
set_option linter.unusedSimpArgs false
set_option linter.unusedVariables false
namespace Go.Proofs.YtphoomnonenalaaDoor
open Go.Ab
theorem spn_dec (x y : Spn) : decide (x = y) = (x.lo == y.lo && x.hi == y.hi) := by
  cases x; cases y
  simp only [Spn.mk.injEq, Bool.decide_and]
  rfl

set_option maxRecDepth 20000 in
theorem checkSheets_s (l : List Sht) (hl : l.length ≤ 1000000) : FSpec Tryd.prog 113 [.sl (shts l)] (I (sheetsE l)) (none) := by
  refine FSpec.of_body Tryd.func113 rfl (leB rfl) fun w0 M0 => ?_
  refine AWP.seq ?_
  refine AWP.region ?_
  refine AOps.call (o_assign _ rfl rfl) ?_
  refine AOps.nil ?_
  refine AWP.seq ?_
  refine AWP.seq ?_
  refine AWP.region ?_
  refine AOps.call (o_move _ rfl rfl) ?_
  refine AOps.call (o_len _ Tryd.underlying80 rfl rfl) ?_
  refine AOps.call (o_bin _ _ rfl rfl (fun _ => rfl) rfl) ?_
  refine AOps.nil ?_
  refine AWP.cond _ rfl (fun h5 => ?_) (fun h5 => ?_)
  · skip
    have hbig : 256 < l.length := by simp [shts_len] at h5; omega
    refine AWP.seq ?_
    refine AWP.region ?_
    refine AOps.call (o_assign _ rfl rfl) ?_
    refine AOps.nil ?_
    refine AWP.ret ?_
    refine postQ.ret1 Tryd.results113 rfl ?_
    try rw [allh_at hlt] at hinv
    unfold sheetsE
    first
    | (rw [if_pos hbig]; rfl)
    | (rw [if_neg hbig, hinv]; rfl)
    | (rw [if_neg hbig, hinv]; simp_all [AV.close, I])
  · skip
    have hbig : ¬ 256 < l.length := by simp [shts_len] at h5; omega
    refine AWP.skip ?_
    refine AWP.seq ?_
    refine AWP.seq ?_
    refine AWP.region ?_
    refine AOps.call (o_move _ rfl rfl) ?_
    refine AOps.call (o_len _ Tryd.underlying80 rfl rfl) ?_
    refine AOps.call (o_move _ rfl rfl) ?_
    refine AOps.nil ?_
    refine AWP.block ?_
    refine AWP.loop (ι := Nat) (fun i => AS.mk' 21 [(0, .sl (shts l)), (9, .sl (shts l)), (10, I (shts l).length), (11, I i)] [] [] []) (fun i => i ≤ l.length ∧ l.all sheetB = (l.drop i).all sheetB) (fun i => l.length - i) (0) (Weak.mk' rfl ⟨⟨.refl rfl, rfl⟩, ⟨⟨.refl rfl, rfl⟩, ⟨⟨.refl rfl, rfl⟩, ⟨⟨.refl rfl, rfl⟩, trivial⟩⟩⟩⟩ trivial trivial) (⟨Nat.zero_le _, rfl⟩) ?_
    rintro k ⟨hk, hinv⟩
    try dsimp only at *
    refine AWP.seq ?_
    refine AWP.region ?_
    refine AOps.call (o_bin _ _ rfl rfl (fun _ => rfl) rfl) ?_
    refine AOps.nil ?_
    refine AWP.seq ?_
    refine AWP.cond _ rfl (fun h11 => ?_) (fun h11 => ?_)
    · skip
      have hlt : k < l.length := by simp [shts_len] at h11; omega
      have hel := shts_get hlt
      refine AWP.skip ?_
      refine AWP.seq ?_
      refine AWP.block ?_
      refine AWP.seq ?_
      refine AWP.region ?_
      refine AOps.call (o_index _ _ Tryd.underlying80 Tryd.sizeOf54 rfl rfl (by omega) (by assumption) rfl rfl) ?_
      refine AOps.call (o_loadRd _ rfl Tryd.sizeOf54 Tryd.isAgg54 rfl rfl rfl) ?_
      refine AOps.call (o_alloc ze54 rfl rfl) ?_
      refine AOps.cons (o_store _ _ rfl rfl Tryd.sizeOf54 rfl rfl rfl rfl rfl) ?_
      refine AOps.nil ?_
      refine AWP.seq ?_
      refine AWP.region ?_
      refine AOps.call (o_loadRef _ rfl rfl Tryd.sizeOf54 Tryd.isAgg54 rfl rfl rfl) ?_
      refine AOps.call (o_call (CheckSheet_s l[k]) Tryd.call35 rfl rfl) ?_
      refine AOps.call (o_assign _ rfl rfl) ?_
      refine AOps.nil ?_
      refine AWP.seq ?_
      refine AWP.region ?_
      refine AOps.call (o_move _ rfl rfl) ?_
      refine AOps.call (o_bin _ _ rfl rfl (fun _ => rfl) rfl) ?_
      refine AOps.nil ?_
      refine AWP.cond _ rfl (fun h18 => ?_) (fun h18 => ?_)
      · skip
        refine AWP.seq ?_
        refine AWP.region ?_
        refine AOps.call (o_move _ rfl rfl) ?_
        refine AOps.call (o_assign _ rfl rfl) ?_
        refine AOps.nil ?_
        refine AWP.ret ?_
        refine postQ.ret1 Tryd.results113 rfl ?_
        try rw [allh_at hlt] at hinv
        unfold sheetsE
        first
        | (rw [if_pos hbig]; rfl)
        | (rw [if_neg hbig, hinv]; rfl)
        | (rw [if_neg hbig, hinv]; simp_all [AV.close, I])
      · skip
        refine AWP.skip ?_
        refine AWP.region ?_
        refine AOps.call (o_add _ _ rfl rfl ⟨by (try dsimp only); omega, by (try dsimp only); omega⟩ rfl) ?_
        refine AOps.call (o_move _ rfl rfl) ?_
        refine AOps.nil ?_
        refine ⟨k + 1, ?_, (Weak.mk' rfl ⟨⟨.refl rfl, rfl⟩, ⟨⟨.refl rfl, rfl⟩, ⟨⟨.refl rfl, rfl⟩, ⟨⟨.refl rfl, rfl⟩, trivial⟩⟩⟩⟩ trivial trivial)⟩
        refine ⟨⟨by omega, ?_⟩, by omega⟩
        rw [hinv, allh_at hlt]
        have : sheetB l[k] = true := by
          cases hh : sheetB l[k] with
          | true => rfl
          | false => simp_all
        rw [this]; rfl
    · skip
      have hkl : k = l.length := by simp [shts_len] at h11; omega
      subst hkl
      rw [List.drop_length] at hinv
      refine AWP.exit ?_
      refine AWP.seq ?_
      refine AWP.region ?_
      refine AOps.call (o_assign _ rfl rfl) ?_
      refine AOps.nil ?_
      refine AWP.ret ?_
      refine postQ.ret1 Tryd.results113 rfl ?_
      try rw [allh_at hlt] at hinv
      unfold sheetsE
      first
      | (rw [if_pos hbig]; rfl)
      | (rw [if_neg hbig, hinv]; rfl)
      | (rw [if_neg hbig, hinv]; simp_all [AV.close, I])

set_option maxRecDepth 20000 in
theorem stands_s (l : List Sht) (ix : Nat) (k : Int) (hi : ix < l.length) (hl : l.length ≤ 1000000) : FSpec Tryd.prog 115 [.sl (shts l), I ix, .sc (.func (.func 116) #[.int .i64 k] #[])] (B (standB l ix l[ix] k)) (none) := by
  refine FSpec.of_body Tryd.func115 rfl (leB rfl) fun w0 M0 => ?_
  have heli := shts_get hi
  refine AWP.seq ?_
  refine AWP.region ?_
  refine AOps.call (o_assign _ rfl rfl) ?_
  refine AOps.nil ?_
  refine AWP.seq ?_
  refine AWP.seq ?_
  refine AWP.region ?_
  refine AOps.call (o_move _ rfl rfl) ?_
  refine AOps.call (o_move _ rfl rfl) ?_
  refine AOps.call (o_move _ rfl rfl) ?_
  refine AOps.call (o_index _ _ Tryd.underlying80 Tryd.sizeOf54 rfl rfl (by omega) (by assumption) rfl rfl) ?_
  refine AOps.call (o_fieldRd _ rfl fa54_3 rfl) ?_
  refine AOps.call (o_loadRd _ rfl Tryd.sizeOf3 Tryd.isAgg3 rfl rfl rfl) ?_
  refine AOps.call (o_callX (cl := [I l[ix].known]) _ rfl (knows_s k _) Tryd.call116 rfl rfl) ?_
  refine AOps.call (o_un _ rfl (fun _ => rfl) rfl) ?_
  refine AOps.nil ?_
  refine AWP.cond _ rfl (fun h9 => ?_) (fun h9 => ?_)
  · skip
    refine AWP.seq ?_
    refine AWP.region ?_
    refine AOps.call (o_assign _ rfl rfl) ?_
    refine AOps.nil ?_
    refine AWP.ret ?_
    refine postQ.ret1 Tryd.results115 rfl ?_
    unfold standB
    first
    | (simp_all [AV.close, AV.close.closeL, B, I, anyF]; done)
    | (simp_all [AV.close, AV.close.closeL, B, I, anyF]; intros; omega)
    | (rw [hinv, anyF_at hlt]; have hov : overB l[ix] ix k l[j] j = true := by
        unfold overB
        first
        | (simp_all; done)
        | (simp_all; omega)
        | (simp at *; omega)
       rw [hov]; simp [AV.close, B])
  · skip
    refine AWP.skip ?_
    refine AWP.seq ?_
    refine AWP.seq ?_
    refine AWP.region ?_
    refine AOps.call (o_move _ rfl rfl) ?_
    refine AOps.call (o_len _ Tryd.underlying80 rfl rfl) ?_
    refine AOps.call (o_move _ rfl rfl) ?_
    refine AOps.nil ?_
    refine AWP.block ?_
    refine AWP.loop (ι := Nat) (fun i => AS.mk' 63 [(0, .sl (shts l)), (1, I ix), (2, .sc (.func (.func 116) #[.int .i64 k] #[])), (17, .sl (shts l)), (18, I (shts l).length), (19, I i)] [] [] []) (fun i => i ≤ l.length ∧ anyF (overB l[ix] ix k) l 0 = anyF (overB l[ix] ix k) (l.drop i) i) (fun i => l.length - i) (0) (Weak.mk' rfl ⟨⟨.refl rfl, rfl⟩, ⟨⟨.refl rfl, rfl⟩, ⟨⟨.refl rfl, rfl⟩, ⟨⟨.refl rfl, rfl⟩, ⟨⟨.refl rfl, rfl⟩, ⟨⟨.refl rfl, rfl⟩, trivial⟩⟩⟩⟩⟩⟩ trivial trivial) (⟨Nat.zero_le _, rfl⟩) ?_
    rintro j ⟨hk, hinv⟩
    try dsimp only at *
    refine AWP.seq ?_
    refine AWP.region ?_
    refine AOps.call (o_bin _ _ rfl rfl (fun _ => rfl) rfl) ?_
    refine AOps.nil ?_
    refine AWP.seq ?_
    refine AWP.cond _ rfl (fun h14 => ?_) (fun h14 => ?_)
    · skip
      have hlt : j < l.length := by simp [shts_len] at h14; omega
      have hel := shts_get hlt
      refine AWP.skip ?_
      refine AWP.seq ?_
      refine AWP.block ?_
      refine AWP.seq ?_
      refine AWP.region ?_
      refine AOps.call (o_move _ rfl rfl) ?_
      refine AOps.call (o_index _ _ Tryd.underlying80 Tryd.sizeOf54 rfl rfl (by omega) (by assumption) rfl rfl) ?_
      refine AOps.call (o_loadRd _ rfl Tryd.sizeOf54 Tryd.isAgg54 rfl rfl rfl) ?_
      refine AOps.call (o_alloc ze54 rfl rfl) ?_
      refine AOps.call (o_assign _ rfl rfl) ?_
      refine AOps.cons (o_store _ _ rfl rfl Tryd.sizeOf54 rfl rfl rfl rfl rfl) ?_
      refine AOps.nil ?_
      refine AWP.seq ?_
      refine AWP.seq ?_
      refine AWP.drawn 15 mixed (by kernel_rfl) ?_
      refine AHead.call (o_fieldRef _ rfl fa54_0 rfl rfl) rfl ?_
      refine AHead.call (o_loadRef _ rfl rfl Tryd.sizeOf3 Tryd.isAgg3 rfl rfl rfl) rfl ?_
      refine AHead.call (o_move _ rfl rfl) rfl ?_
      refine AHead.call (o_move _ rfl rfl) rfl ?_
      refine AHead.call (o_index _ _ Tryd.underlying80 Tryd.sizeOf54 rfl rfl (by omega) (by assumption) rfl rfl) rfl ?_
      refine AHead.call (o_fieldRd _ rfl fa54_0 rfl) rfl ?_
      refine AHead.call (o_loadRd _ rfl Tryd.sizeOf3 Tryd.isAgg3 rfl rfl rfl) rfl ?_
      refine AHead.call (o_bin _ _ rfl rfl (fun _ => rfl) rfl) rfl ?_
      refine AHead.call (o_move _ rfl rfl) rfl ?_
      refine AHead.split rfl rfl rfl (fun h26 => ?_) (fun h26 => ?_)
      · skip
        refine AHead.go rfl rfl rfl h26 (o_move _ rfl rfl) rfl ?_
        refine AHead.go rfl rfl rfl h26 (o_fieldRef _ rfl fa54_3 rfl rfl) rfl ?_
        refine AHead.go rfl rfl rfl h26 (o_loadRef _ rfl rfl Tryd.sizeOf3 Tryd.isAgg3 rfl rfl rfl) rfl ?_
        refine AHead.go rfl rfl rfl h26 (o_callX (cl := [I l[j].known]) _ rfl (knows_s k _) Tryd.call116 rfl rfl) rfl ?_
        refine AHead.go rfl rfl rfl h26 (o_un _ rfl (fun _ => rfl) rfl) rfl ?_
        refine AHead.call (o_pickF _ _ _ rfl h26 rfl rfl) rfl ?_
        refine AHead.nil ?_
        refine AOps.nil ?_
        refine AWP.cond _ rfl (fun h32 => ?_) (fun h32 => ?_)
        · skip
          refine AWP.exit ?_
          refine AWP.region ?_
          refine AOps.call (o_add _ _ rfl rfl ⟨by (try dsimp only); omega, by (try dsimp only); omega⟩ rfl) ?_
          refine AOps.call (o_move _ rfl rfl) ?_
          refine AOps.nil ?_
          refine ⟨j + 1, ?_, (Weak.mk' rfl ⟨⟨.refl rfl, rfl⟩, ⟨⟨.refl rfl, rfl⟩, ⟨⟨.refl rfl, rfl⟩, ⟨⟨.refl rfl, rfl⟩, ⟨⟨.refl rfl, rfl⟩, ⟨⟨.refl rfl, rfl⟩, trivial⟩⟩⟩⟩⟩⟩ trivial trivial)⟩
          refine ⟨⟨by omega, ?_⟩, by omega⟩
          rw [hinv, anyF_at hlt]
          have hov : overB l[ix] ix k l[j] j = false := by
            unfold overB
            first
            | (simp_all; done)
            | (simp_all; omega)
            | (simp at *; simp_all; done)
            | (simp at *; omega)
          rw [hov]; rfl
        · skip
          refine AWP.skip ?_
          refine AWP.seq ?_
          refine AWP.drawn 23 mixed (by kernel_rfl) ?_
          refine AHead.call (o_fieldRef _ rfl fa54_3 rfl rfl) rfl ?_
          refine AHead.call (o_loadRef _ rfl rfl Tryd.sizeOf3 Tryd.isAgg3 rfl rfl rfl) rfl ?_
          refine AHead.call (o_move _ rfl rfl) rfl ?_
          refine AHead.call (o_move _ rfl rfl) rfl ?_
          refine AHead.call (o_index _ _ Tryd.underlying80 Tryd.sizeOf54 rfl rfl (by omega) (by assumption) rfl rfl) rfl ?_
          refine AHead.call (o_fieldRd _ rfl fa54_3 rfl) rfl ?_
          refine AHead.call (o_loadRd _ rfl Tryd.sizeOf3 Tryd.isAgg3 rfl rfl rfl) rfl ?_
          refine AHead.call (o_bin _ _ rfl rfl (fun _ => rfl) rfl) rfl ?_
          refine AHead.call (o_move _ rfl rfl) rfl ?_
          refine AHead.split rfl rfl rfl (fun h42 => ?_) (fun h42 => ?_)
          · skip
            refine AHead.go rfl rfl rfl h42 (o_fieldRef _ rfl fa54_3 rfl rfl) rfl ?_
            refine AHead.go rfl rfl rfl h42 (o_loadRef _ rfl rfl Tryd.sizeOf3 Tryd.isAgg3 rfl rfl rfl) rfl ?_
            refine AHead.go rfl rfl rfl h42 (o_move _ rfl rfl) rfl ?_
            refine AHead.go rfl rfl rfl h42 (o_move _ rfl rfl) rfl ?_
            refine AHead.go rfl rfl rfl h42 (o_index _ _ Tryd.underlying80 Tryd.sizeOf54 rfl rfl (by omega) (by assumption) rfl rfl) rfl ?_
            refine AHead.go rfl rfl rfl h42 (o_fieldRd _ rfl fa54_3 rfl) rfl ?_
            refine AHead.go rfl rfl rfl h42 (o_loadRd _ rfl Tryd.sizeOf3 Tryd.isAgg3 rfl rfl rfl) rfl ?_
            refine AHead.go rfl rfl rfl h42 (o_bin _ _ rfl rfl (fun _ => rfl) rfl) rfl ?_
            refine AHead.go rfl rfl rfl h42 (o_move _ rfl rfl) rfl ?_
            refine AHead.split rfl rfl rfl (fun h51 => ?_) (fun h51 => ?_)
            · skip
              refine AHead.go rfl rfl rfl h51 (o_move _ rfl rfl) rfl ?_
              refine AHead.go rfl rfl rfl h51 (o_move _ rfl rfl) rfl ?_
              refine AHead.go rfl rfl rfl h51 (o_bin _ _ rfl rfl (fun _ => rfl) rfl) rfl ?_
              refine AHead.go rfl rfl rfl h42 (o_pickT _ _ _ rfl h51 rfl rfl) rfl ?_
              refine AHead.call (o_pickF _ _ _ rfl h42 rfl rfl) rfl ?_
              refine AHead.nil ?_
              refine AOps.nil ?_
              refine AWP.cond _ rfl (fun h54 => ?_) (fun h54 => ?_)
              · skip
                refine AWP.seq ?_
                refine AWP.region ?_
                refine AOps.call (o_assign _ rfl rfl) ?_
                refine AOps.nil ?_
                refine AWP.ret ?_
                refine postQ.ret1 Tryd.results115 rfl ?_
                unfold standB
                first
                | (simp_all [AV.close, AV.close.closeL, B, I, anyF]; done)
                | (simp_all [AV.close, AV.close.closeL, B, I, anyF]; intros; omega)
                | (rw [hinv, anyF_at hlt]; have hov : overB l[ix] ix k l[j] j = true := by
                    unfold overB
                    first
                    | (simp_all; done)
                    | (simp_all; omega)
                    | (simp at *; omega)
                   rw [hov]; simp [AV.close, B])
              · skip
                refine AWP.skip ?_
                refine AWP.region ?_
                refine AOps.call (o_add _ _ rfl rfl ⟨by (try dsimp only); omega, by (try dsimp only); omega⟩ rfl) ?_
                refine AOps.call (o_move _ rfl rfl) ?_
                refine AOps.nil ?_
                refine ⟨j + 1, ?_, (Weak.mk' rfl ⟨⟨.refl rfl, rfl⟩, ⟨⟨.refl rfl, rfl⟩, ⟨⟨.refl rfl, rfl⟩, ⟨⟨.refl rfl, rfl⟩, ⟨⟨.refl rfl, rfl⟩, ⟨⟨.refl rfl, rfl⟩, trivial⟩⟩⟩⟩⟩⟩ trivial trivial)⟩
                refine ⟨⟨by omega, ?_⟩, by omega⟩
                rw [hinv, anyF_at hlt]
                have hov : overB l[ix] ix k l[j] j = false := by
                  unfold overB
                  first
                  | (simp_all; done)
                  | (simp_all; omega)
                  | (simp at *; simp_all; done)
                  | (simp at *; omega)
                rw [hov]; rfl
            · skip
              refine AHead.pass rfl rfl rfl h51 rfl ?_
              refine AHead.pass rfl rfl rfl h51 rfl ?_
              refine AHead.pass rfl rfl rfl h51 rfl ?_
              refine AHead.go rfl rfl rfl h42 (o_pickF _ _ _ rfl h51 rfl rfl) rfl ?_
              refine AHead.call (o_pickF _ _ _ rfl h42 rfl rfl) rfl ?_
              refine AHead.nil ?_
              refine AOps.nil ?_
              refine AWP.condF rfl ?_
              refine AWP.skip ?_
              refine AWP.region ?_
              refine AOps.call (o_add _ _ rfl rfl ⟨by (try dsimp only); omega, by (try dsimp only); omega⟩ rfl) ?_
              refine AOps.call (o_move _ rfl rfl) ?_
              refine AOps.nil ?_
              refine ⟨j + 1, ?_, (Weak.mk' rfl ⟨⟨.refl rfl, rfl⟩, ⟨⟨.refl rfl, rfl⟩, ⟨⟨.refl rfl, rfl⟩, ⟨⟨.refl rfl, rfl⟩, ⟨⟨.refl rfl, rfl⟩, ⟨⟨.refl rfl, rfl⟩, trivial⟩⟩⟩⟩⟩⟩ trivial trivial)⟩
              refine ⟨⟨by omega, ?_⟩, by omega⟩
              rw [hinv, anyF_at hlt]
              have hov : overB l[ix] ix k l[j] j = false := by
                unfold overB
                first
                | (simp_all; done)
                | (simp_all; omega)
                | (simp at *; simp_all; done)
                | (simp at *; omega)
              rw [hov]; rfl
          · skip
            refine AHead.pass rfl rfl rfl h42 rfl ?_
            refine AHead.pass rfl rfl rfl h42 rfl ?_
            refine AHead.pass rfl rfl rfl h42 rfl ?_
            refine AHead.pass rfl rfl rfl h42 rfl ?_
            refine AHead.pass rfl rfl rfl h42 rfl ?_
            refine AHead.pass rfl rfl rfl h42 rfl ?_
            refine AHead.pass rfl rfl rfl h42 rfl ?_
            refine AHead.pass rfl rfl rfl h42 rfl ?_
            refine AHead.pass rfl rfl rfl h42 rfl ?_
            refine AHead.passU rfl rfl rfl rfl ?_
            refine AHead.passU rfl rfl rfl rfl ?_
            refine AHead.passU rfl rfl rfl rfl ?_
            refine AHead.pass rfl rfl rfl h42 rfl ?_
            refine AHead.call (o_pickT _ _ _ rfl h42 rfl rfl) rfl ?_
            refine AHead.nil ?_
            refine AOps.nil ?_
            refine AWP.condT rfl ?_
            refine AWP.seq ?_
            refine AWP.region ?_
            refine AOps.call (o_assign _ rfl rfl) ?_
            refine AOps.nil ?_
            refine AWP.ret ?_
            refine postQ.ret1 Tryd.results115 rfl ?_
            unfold standB
            first
            | (simp_all [AV.close, AV.close.closeL, B, I, anyF]; done)
            | (simp_all [AV.close, AV.close.closeL, B, I, anyF]; intros; omega)
            | (rw [hinv, anyF_at hlt]; have hov : overB l[ix] ix k l[j] j = true := by
                unfold overB
                first
                | (simp_all; done)
                | (simp_all; omega)
                | (simp at *; omega)
               rw [hov]; simp [AV.close, B])
      · skip
        refine AHead.pass rfl rfl rfl h26 rfl ?_
        refine AHead.pass rfl rfl rfl h26 rfl ?_
        refine AHead.pass rfl rfl rfl h26 rfl ?_
        refine AHead.pass rfl rfl rfl h26 rfl ?_
        refine AHead.pass rfl rfl rfl h26 rfl ?_
        refine AHead.call (o_pickT _ _ _ rfl h26 rfl rfl) rfl ?_
        refine AHead.nil ?_
        refine AOps.nil ?_
        refine AWP.condT rfl ?_
        refine AWP.exit ?_
        refine AWP.region ?_
        refine AOps.call (o_add _ _ rfl rfl ⟨by (try dsimp only); omega, by (try dsimp only); omega⟩ rfl) ?_
        refine AOps.call (o_move _ rfl rfl) ?_
        refine AOps.nil ?_
        refine ⟨j + 1, ?_, (Weak.mk' rfl ⟨⟨.refl rfl, rfl⟩, ⟨⟨.refl rfl, rfl⟩, ⟨⟨.refl rfl, rfl⟩, ⟨⟨.refl rfl, rfl⟩, ⟨⟨.refl rfl, rfl⟩, ⟨⟨.refl rfl, rfl⟩, trivial⟩⟩⟩⟩⟩⟩ trivial trivial)⟩
        refine ⟨⟨by omega, ?_⟩, by omega⟩
        rw [hinv, anyF_at hlt]
        have hov : overB l[ix] ix k l[j] j = false := by
          unfold overB
          first
          | (simp_all; done)
          | (simp_all; omega)
          | (simp at *; simp_all; done)
          | (simp at *; omega)
        rw [hov]; rfl
    · skip
      have hkl : j = l.length := by simp [shts_len] at h14; omega
      subst hkl
      rw [List.drop_length] at hinv
      refine AWP.exit ?_
      refine AWP.seq ?_
      refine AWP.region ?_
      refine AOps.call (o_assign _ rfl rfl) ?_
      refine AOps.nil ?_
      refine AWP.ret ?_
      refine postQ.ret1 Tryd.results115 rfl ?_
      unfold standB
      first
      | (simp_all [AV.close, AV.close.closeL, B, I, anyF]; done)
      | (simp_all [AV.close, AV.close.closeL, B, I, anyF]; intros; omega)
      | (rw [hinv, anyF_at hlt]; have hov : overB l[ix] ix k l[j] j = true := by
          unfold overB
          first
          | (simp_all; done)
          | (simp_all; omega)
          | (simp at *; omega)
         rw [hov]; simp [AV.close, B])

set_option maxRecDepth 20000 in
theorem Standing_s (l : List Sht) (wd : List Int) (k : Int) (hl : l.length ≤ 1000000) (hw : wd.length ≤ 1000000) : FSpec Tryd.prog 55 [.sl (shts l), .sl (ints wd), I k] (if standE l wd k = 0 then .tup [.sl (ints (standL l wd k)), I 0] else .tup [.sl [], I (standE l wd k)]) (none) := by
  refine FSpec.of_body Tryd.func55 rfl (leB rfl) fun w0 M0 => ?_
  refine AWP.seq ?_
  refine AWP.region ?_
  refine AOps.call (o_nil (z := 1) (e := 3) rfl) ?_
  refine AOps.call (o_assign _ rfl rfl) ?_
  refine AOps.nil ?_
  refine AWP.seq ?_
  refine AWP.seq ?_
  refine AWP.region ?_
  refine AOps.call (o_move _ rfl rfl) ?_
  refine AOps.call (o_call (checkSheets_s l hl) Tryd.call113 rfl rfl) ?_
  refine AOps.call (o_assign _ rfl rfl) ?_
  refine AOps.nil ?_
  refine AWP.seq ?_
  refine AWP.region ?_
  refine AOps.call (o_move _ rfl rfl) ?_
  refine AOps.call (o_bin _ _ rfl rfl (fun _ => rfl) rfl) ?_
  refine AOps.nil ?_
  refine AWP.cond _ rfl (fun h6 => ?_) (fun h6 => ?_)
  · skip
    have hz : ¬ standE l wd k = 0 := by
      unfold standE
      have h1 : ¬ sheetsE l = 0 := by simpa using h6
      rw [if_neg h1]; exact h1
    have hE : standE l wd k = sheetsE l := by
      unfold standE
      rw [if_neg (by simpa using h6)]
    refine AWP.seq ?_
    refine AWP.region ?_
    refine AOps.call (o_move _ rfl rfl) ?_
    refine AOps.call (o_nil (z := 1) (e := 3) rfl) ?_
    refine AOps.call (o_assign _ rfl rfl) ?_
    refine AOps.nil ?_
    refine AWP.ret ?_
    refine postQ.ret2 Tryd.results55 rfl rfl ?_
    first
    | (rw [if_neg hz, hE]; rfl)
    | (rw [if_pos hE]; unfold standL; rw [← hkl, ← hacc]; rfl)
  · skip
    have hq : sheetsE l = 0 := by simpa using h6
    refine AWP.skip ?_
    refine AWP.seq ?_
    refine AWP.seq ?_
    refine AWP.region ?_
    refine AOps.call (o_move _ rfl rfl) ?_
    refine AOps.call (o_call (increasing_s wd 4095 hw) Tryd.call114 rfl rfl) ?_
    refine AOps.call (o_un _ rfl (fun _ => rfl) rfl) ?_
    refine AOps.call (o_move _ rfl rfl) ?_
    refine AOps.split rfl rfl rfl (fun h11 => ?_) (fun h11 => ?_)
    · skip
      refine AOps.go rfl rfl rfl h11 (o_move _ rfl rfl) ?_
      refine AOps.go rfl rfl rfl h11 (o_call (isDay_s k) Tryd.call72 rfl rfl) ?_
      refine AOps.go rfl rfl rfl h11 (o_un _ rfl (fun _ => rfl) rfl) ?_
      refine AOps.call (o_pickF _ _ _ rfl h11 rfl rfl) ?_
      refine AOps.nil ?_
      refine AWP.cond _ rfl (fun h15 => ?_) (fun h15 => ?_)
      · skip
        have hE : standE l wd k = 1 := by
          unfold standE
          rw [if_pos hq, if_neg (by simp_all)]
        have hz : ¬ standE l wd k = 0 := by rw [hE]; decide
        refine AWP.seq ?_
        refine AWP.region ?_
        refine AOps.call (o_nil (z := 1) (e := 3) rfl) ?_
        refine AOps.call (o_assign _ rfl rfl) ?_
        refine AOps.nil ?_
        refine AWP.ret ?_
        refine postQ.ret2 Tryd.results55 rfl rfl ?_
        first
        | (rw [if_neg hz, hE]; rfl)
        | (rw [if_pos hE]; unfold standL; rw [← hkl, ← hacc]; rfl)
      · skip
        have hE : standE l wd k = 0 := by
          unfold standE
          rw [if_pos hq, if_pos (by simp_all)]
        have hz := standE_0 hE
        have hl256 := sheetsE_len hq
        refine AWP.skip ?_
        refine AWP.seq ?_
        refine AWP.region ?_
        refine AOps.call (o_nil (z := 1) (e := 3) rfl) ?_
        refine AOps.nil ?_
        refine AWP.seq ?_
        refine AWP.seq ?_
        refine AWP.region ?_
        refine AOps.call (o_move _ rfl rfl) ?_
        refine AOps.call (o_len _ Tryd.underlying80 rfl rfl) ?_
        refine AOps.call (o_move _ rfl rfl) ?_
        refine AOps.nil ?_
        refine AWP.block ?_
        refine AWP.loop (ι := Nat × List Int) (fun i => AS.mk' 56 [(0, .sl (shts l)), (1, .sl (ints wd)), (2, I k), (9, .own (9, 0) (ints i.2)), (27, .sl (shts l)), (28, I (shts l).length), (29, I i.1)] [] [((9, 0), ((ints i.2).length, 1, 3))] [(9, 1)]) (fun i => i.1 ≤ l.length ∧ i.2 = pickL (okS l wd k) i.1) (fun i => l.length - i.1) (0, []) (Weak.mk' rfl ⟨⟨.refl rfl, rfl⟩, ⟨⟨.refl rfl, rfl⟩, ⟨⟨.refl rfl, rfl⟩, ⟨⟨.refl rfl, rfl⟩, ⟨⟨.refl rfl, rfl⟩, ⟨⟨.refl rfl, rfl⟩, ⟨⟨.refl rfl, rfl⟩, trivial⟩⟩⟩⟩⟩⟩⟩ trivial ⟨⟨rfl, rfl⟩, trivial⟩) (⟨Nat.zero_le _, rfl⟩) ?_
        rintro ⟨j, acc⟩ ⟨hk, hacc⟩
        try dsimp only at *
        refine AWP.seq ?_
        refine AWP.region ?_
        refine AOps.call (o_bin _ _ rfl rfl (fun _ => rfl) rfl) ?_
        refine AOps.nil ?_
        refine AWP.seq ?_
        refine AWP.cond _ rfl (fun h23 => ?_) (fun h23 => ?_)
        · skip
          have hlt : j < l.length := by simp [shts_len] at h23; omega
          have hel := shts_get hlt
          have hal : acc.length ≤ j := by rw [hacc]; exact pickL_len _ _
          refine AWP.skip ?_
          refine AWP.seq ?_
          refine AWP.block ?_
          refine AWP.seq ?_
          refine AWP.region ?_
          refine AOps.call (o_move _ rfl rfl) ?_
          refine AOps.call (o_index _ _ Tryd.underlying80 Tryd.sizeOf54 rfl rfl (by omega) (by assumption) rfl rfl) ?_
          refine AOps.call (o_loadRd _ rfl Tryd.sizeOf54 Tryd.isAgg54 rfl rfl rfl) ?_
          refine AOps.call (o_alloc ze54 rfl rfl) ?_
          refine AOps.call (o_assign _ rfl rfl) ?_
          refine AOps.cons (o_store _ _ rfl rfl Tryd.sizeOf54 rfl rfl rfl rfl rfl) ?_
          refine AOps.nil ?_
          refine AWP.seq ?_
          refine AWP.region ?_
          refine AOps.call (o_move _ rfl rfl) ?_
          refine AOps.call (o_fieldRef _ rfl fa54_0 rfl rfl) ?_
          refine AOps.call (o_loadRef _ rfl rfl Tryd.sizeOf3 Tryd.isAgg3 rfl rfl rfl) ?_
          refine AOps.call (o_call (BinarySearch_s wd l[j].no (inc_pw wd _ hz.2.1) hw) Tryd.call40 rfl rfl) ?_
          refine AOps.call (o_move _ rfl rfl) ?_
          refine AOps.call (o_extract _ rfl rfl rfl rfl) ?_
          refine AOps.call (o_extract _ rfl rfl rfl rfl) ?_
          refine AOps.call (o_assign _ rfl rfl) ?_
          refine AOps.call (o_assign _ rfl rfl) ?_
          refine AOps.nil ?_
          refine AWP.seq ?_
          refine AWP.region ?_
          refine AOps.call (o_move _ rfl rfl) ?_
          refine AOps.call (o_un _ rfl (fun _ => rfl) rfl) ?_
          refine AOps.call (o_move _ rfl rfl) ?_
          refine AOps.split rfl rfl rfl (fun h34 => ?_) (fun h34 => ?_)
          · skip
            refine AOps.go rfl rfl rfl h34 (o_move _ rfl rfl) ?_
            refine AOps.go rfl rfl rfl h34 (o_move _ rfl rfl) ?_
            refine AOps.go rfl rfl rfl h34 (o_move _ rfl rfl) ?_
            refine AOps.go rfl rfl rfl h34 (o_makeFuncX rfl rfl rfl) ?_
            refine AOps.go rfl rfl rfl h34 (o_call (stands_s l j k hlt hl) Tryd.call115 rfl rfl) ?_
            refine AOps.call (o_pickT _ _ _ rfl h34 rfl rfl) ?_
            refine AOps.nil ?_
            refine AWP.cond _ rfl (fun h39 => ?_) (fun h39 => ?_)
            · skip
              refine AWP.region ?_
              refine AOps.call (o_move _ rfl rfl) ?_
              refine AOps.call (o_move _ rfl rfl) ?_
              refine AOps.call (o_lit Tryd.underlying45 Tryd.sizeOf3 Tryd.zeroValue3 rfl rfl rfl rfl rfl rfl rfl) ?_
              refine AOps.cons (o_append _ _ Tryd.underlying45 info3 rfl rfl rfl rfl rfl rfl rfl rfl (fun c hc => by simp at hc; subst hc; rfl) ints_z (by
                  rw [ints_len]; simp only [List.length_cons, List.length_nil, Nat.zero_add]; unfold Tryd.t3; simp only []; omega) rfl (ints_snoc acc _) rfl) ?_
              refine AOps.call (o_assign _ rfl rfl) ?_
              refine AOps.nil ?_
              refine AWP.region ?_
              refine AOps.call (o_add _ _ rfl rfl ⟨by (try dsimp only); omega, by (try dsimp only); omega⟩ rfl) ?_
              refine AOps.call (o_move _ rfl rfl) ?_
              refine AOps.nil ?_
              refine ⟨(j + 1, _), ?_, (Weak.mk' rfl ⟨⟨.refl rfl, rfl⟩, ⟨⟨.refl rfl, rfl⟩, ⟨⟨.refl rfl, rfl⟩, ⟨⟨.refl rfl, rfl⟩, ⟨⟨.refl rfl, rfl⟩, ⟨⟨.refl rfl, rfl⟩, ⟨⟨.refl rfl, rfl⟩, trivial⟩⟩⟩⟩⟩⟩⟩ trivial ⟨⟨rfl, rfl⟩, trivial⟩)⟩
              refine ⟨⟨by omega, ?_⟩, by omega⟩
              rw [pickL_succ, ← hacc]
              cases hp : okS l wd k j with
              | true =>
                first
                | rfl
                | (exfalso; rw [okS_at hlt] at hp; simp_all; done)
              | false =>
                first
                | exact (List.append_nil _).symm
                | (exfalso; rw [okS_at hlt] at hp; simp_all; done)
            · skip
              refine AWP.skip ?_
              refine AWP.region ?_
              refine AOps.call (o_add _ _ rfl rfl ⟨by (try dsimp only); omega, by (try dsimp only); omega⟩ rfl) ?_
              refine AOps.call (o_move _ rfl rfl) ?_
              refine AOps.nil ?_
              refine ⟨(j + 1, _), ?_, (Weak.mk' rfl ⟨⟨.refl rfl, rfl⟩, ⟨⟨.refl rfl, rfl⟩, ⟨⟨.refl rfl, rfl⟩, ⟨⟨.refl rfl, rfl⟩, ⟨⟨.refl rfl, rfl⟩, ⟨⟨.refl rfl, rfl⟩, ⟨⟨.refl rfl, rfl⟩, trivial⟩⟩⟩⟩⟩⟩⟩ trivial ⟨⟨rfl, rfl⟩, trivial⟩)⟩
              refine ⟨⟨by omega, ?_⟩, by omega⟩
              rw [pickL_succ, ← hacc]
              cases hp : okS l wd k j with
              | true =>
                first
                | rfl
                | (exfalso; rw [okS_at hlt] at hp; simp_all; done)
              | false =>
                first
                | exact (List.append_nil _).symm
                | (exfalso; rw [okS_at hlt] at hp; simp_all; done)
          · skip
            refine AOps.pass rfl rfl rfl h34 rfl ?_
            refine AOps.pass rfl rfl rfl h34 rfl ?_
            refine AOps.pass rfl rfl rfl h34 rfl ?_
            refine AOps.pass rfl rfl rfl h34 rfl ?_
            refine AOps.pass rfl rfl rfl h34 rfl ?_
            refine AOps.call (o_pickF _ _ _ rfl h34 rfl rfl) ?_
            refine AOps.nil ?_
            refine AWP.condF rfl ?_
            refine AWP.skip ?_
            refine AWP.region ?_
            refine AOps.call (o_add _ _ rfl rfl ⟨by (try dsimp only); omega, by (try dsimp only); omega⟩ rfl) ?_
            refine AOps.call (o_move _ rfl rfl) ?_
            refine AOps.nil ?_
            refine ⟨(j + 1, _), ?_, (Weak.mk' rfl ⟨⟨.refl rfl, rfl⟩, ⟨⟨.refl rfl, rfl⟩, ⟨⟨.refl rfl, rfl⟩, ⟨⟨.refl rfl, rfl⟩, ⟨⟨.refl rfl, rfl⟩, ⟨⟨.refl rfl, rfl⟩, ⟨⟨.refl rfl, rfl⟩, trivial⟩⟩⟩⟩⟩⟩⟩ trivial ⟨⟨rfl, rfl⟩, trivial⟩)⟩
            refine ⟨⟨by omega, ?_⟩, by omega⟩
            rw [pickL_succ, ← hacc]
            cases hp : okS l wd k j with
            | true =>
              first
              | rfl
              | (exfalso; rw [okS_at hlt] at hp; simp_all; done)
            | false =>
              first
              | exact (List.append_nil _).symm
              | (exfalso; rw [okS_at hlt] at hp; simp_all; done)
        · skip
          have hkl : j = l.length := by simp [shts_len] at h23; omega
          refine AWP.exit ?_
          refine AWP.seq ?_
          refine AWP.region ?_
          refine AOps.call (o_move _ rfl rfl) ?_
          refine AOps.call (o_assign _ rfl rfl) ?_
          refine AOps.call (o_assign _ rfl rfl) ?_
          refine AOps.nil ?_
          refine AWP.ret ?_
          refine postQ.ret2 Tryd.results55 rfl rfl ?_
          first
          | (rw [if_neg hz, hE]; rfl)
          | (rw [if_pos hE]; unfold standL; rw [← hkl, ← hacc]; rfl)
    · skip
      refine AOps.pass rfl rfl rfl h11 rfl ?_
      refine AOps.pass rfl rfl rfl h11 rfl ?_
      refine AOps.pass rfl rfl rfl h11 rfl ?_
      refine AOps.call (o_pickT _ _ _ rfl h11 rfl rfl) ?_
      refine AOps.nil ?_
      refine AWP.condT rfl ?_
      have hE : standE l wd k = 1 := by
        unfold standE
        rw [if_pos hq, if_neg (by simp_all)]
      have hz : ¬ standE l wd k = 0 := by rw [hE]; decide
      refine AWP.seq ?_
      refine AWP.region ?_
      refine AOps.call (o_nil (z := 1) (e := 3) rfl) ?_
      refine AOps.call (o_assign _ rfl rfl) ?_
      refine AOps.nil ?_
      refine AWP.ret ?_
      refine postQ.ret2 Tryd.results55 rfl rfl ?_
      first
      | (rw [if_neg hz, hE]; rfl)
      | (rw [if_pos hE]; unfold standL; rw [← hkl, ← hacc]; rfl)

set_option maxRecDepth 20000 in
theorem differs_s (c : Scl) (s : Sht) (b a : Int) : FSpec Tryd.prog 119 [.agg (eS c), .agg (eH s), I b, I a] (B (difB c s b a)) (none) := by
  refine FSpec.of_body Tryd.func119 rfl (leB rfl) fun w0 M0 => ?_
  refine AWP.seq ?_
  refine AWP.region ?_
  refine AOps.call (o_box _ rfl rfl rfl) ?_
  refine AOps.call (o_box _ rfl rfl rfl) ?_
  refine AOps.call (o_assign _ rfl rfl) ?_
  refine AOps.nil ?_
  refine AWP.seq ?_
  refine AWP.region ?_
  refine AOps.call (o_loadRef _ rfl rfl Tryd.sizeOf24 Tryd.isAgg24 rfl rfl rfl) ?_
  refine AOps.call (o_loadRef _ rfl rfl Tryd.sizeOf54 Tryd.isAgg54 rfl rfl rfl) ?_
  refine AOps.call (o_move _ rfl rfl) ?_
  refine AOps.call (o_call (Course_s c s b) Tryd.call51 rfl rfl) ?_
  refine AOps.call (o_move _ rfl rfl) ?_
  refine AOps.call (o_extract _ rfl rfl rfl rfl) ?_
  refine AOps.call (o_extract _ rfl rfl rfl rfl) ?_
  refine AOps.call (o_alloc ze40 rfl rfl) ?_
  refine AOps.cons (o_store _ _ rfl rfl Tryd.sizeOf40 rfl rfl rfl rfl rfl) ?_
  refine AOps.call (o_assign _ rfl rfl) ?_
  refine AOps.nil ?_
  refine AWP.seq ?_
  refine AWP.region ?_
  refine AOps.call (o_loadRef _ rfl rfl Tryd.sizeOf24 Tryd.isAgg24 rfl rfl rfl) ?_
  refine AOps.call (o_loadRef _ rfl rfl Tryd.sizeOf54 Tryd.isAgg54 rfl rfl rfl) ?_
  refine AOps.call (o_move _ rfl rfl) ?_
  refine AOps.call (o_call (Course_s c s a) Tryd.call51 rfl rfl) ?_
  refine AOps.call (o_move _ rfl rfl) ?_
  refine AOps.call (o_extract _ rfl rfl rfl rfl) ?_
  refine AOps.call (o_extract _ rfl rfl rfl rfl) ?_
  refine AOps.call (o_alloc ze40 rfl rfl) ?_
  refine AOps.cons (o_store _ _ rfl rfl Tryd.sizeOf40 rfl rfl rfl rfl rfl) ?_
  refine AOps.call (o_assign _ rfl rfl) ?_
  refine AOps.nil ?_
  refine AWP.seq ?_
  refine AWP.region ?_
  refine AOps.call (o_loadRef _ rfl rfl Tryd.sizeOf40 Tryd.isAgg40 rfl rfl rfl) ?_
  refine AOps.call (o_loadRef _ rfl rfl Tryd.sizeOf40 Tryd.isAgg40 rfl rfl rfl) ?_
  refine AOps.call (o_bin _ _ rfl rfl (spanNe _ _ _ _ _ _) rfl) ?_
  refine AOps.call (o_move _ rfl rfl) ?_
  refine AOps.split rfl rfl rfl (fun h20 => ?_) (fun h20 => ?_)
  · skip
    refine AOps.go rfl rfl rfl h20 (o_move _ rfl rfl) ?_
    refine AOps.go rfl rfl rfl h20 (o_move _ rfl rfl) ?_
    refine AOps.go rfl rfl rfl h20 (o_bin _ _ rfl rfl (fun _ => rfl) rfl) ?_
    refine AOps.call (o_pickF _ _ _ rfl h20 rfl rfl) ?_
    refine AOps.call (o_assign _ rfl rfl) ?_
    refine AOps.nil ?_
    refine AWP.ret ?_
    refine postQ.ret1 Tryd.results119 rfl ?_
    unfold difB
    have hsp : (decide (couR c s b = couR c s a)) = ((couR c s b).lo == (couR c s a).lo && (couR c s b).hi == (couR c s a).hi) := spn_dec _ _
    first
    | (simp_all [AV.close, B, Bool.decide_and]; done)
    | (simp_all [AV.close, B, Bool.decide_and]; rfl)
  · skip
    refine AOps.pass rfl rfl rfl h20 rfl ?_
    refine AOps.pass rfl rfl rfl h20 rfl ?_
    refine AOps.pass rfl rfl rfl h20 rfl ?_
    refine AOps.call (o_pickT _ _ _ rfl h20 rfl rfl) ?_
    refine AOps.call (o_assign _ rfl rfl) ?_
    refine AOps.nil ?_
    refine AWP.ret ?_
    refine postQ.ret1 Tryd.results119 rfl ?_
    unfold difB
    have hsp : (decide (couR c s b = couR c s a)) = ((couR c s b).lo == (couR c s a).lo && (couR c s b).hi == (couR c s a).hi) := spn_dec _ _
    first
    | (simp_all [AV.close, B, Bool.decide_and]; done)
    | (simp_all [AV.close, B, Bool.decide_and]; rfl)

set_option maxRecDepth 20000 in
theorem Corrected_s (c : Scl) (l : List Sht) (b a : Int) (hl : l.length ≤ 1000000) : FSpec Tryd.prog 62 [.agg (eS c), .sl (shts l), I b, I a] (if corE c l b a = 0 then .tup [.sl (ints (corL c l b a)), I 0] else .tup [.sl [], I (corE c l b a)]) (none) := by
  refine FSpec.of_body Tryd.func62 rfl (leB rfl) fun w0 M0 => ?_
  refine AWP.seq ?_
  refine AWP.region ?_
  refine AOps.call (o_box _ rfl rfl rfl) ?_
  refine AOps.call (o_nil (z := 1) (e := 3) rfl) ?_
  refine AOps.call (o_assign _ rfl rfl) ?_
  refine AOps.nil ?_
  refine AWP.seq ?_
  refine AWP.seq ?_
  refine AWP.region ?_
  refine AOps.call (o_loadRef _ rfl rfl Tryd.sizeOf24 Tryd.isAgg24 rfl rfl rfl) ?_
  refine AOps.call (o_call (CheckScale_s c) Tryd.call19 rfl rfl) ?_
  refine AOps.call (o_assign _ rfl rfl) ?_
  refine AOps.nil ?_
  refine AWP.seq ?_
  refine AWP.region ?_
  refine AOps.call (o_move _ rfl rfl) ?_
  refine AOps.call (o_bin _ _ rfl rfl (fun _ => rfl) rfl) ?_
  refine AOps.nil ?_
  refine AWP.cond _ rfl (fun h7 => ?_) (fun h7 => ?_)
  · skip
    have hz : ¬ corE c l b a = 0 := by
      unfold corE
      have h1 : ¬ scaleE c = 0 := by simpa using h7
      rw [if_neg h1]; exact h1
    have hE : corE c l b a = scaleE c := by
      unfold corE
      rw [if_neg (by simpa using h7)]
    refine AWP.seq ?_
    refine AWP.region ?_
    refine AOps.call (o_move _ rfl rfl) ?_
    refine AOps.call (o_nil (z := 1) (e := 3) rfl) ?_
    refine AOps.call (o_assign _ rfl rfl) ?_
    refine AOps.nil ?_
    refine AWP.ret ?_
    refine postQ.ret2 Tryd.results62 rfl rfl ?_
    first
    | (rw [if_neg hz, hE]; rfl)
    | (rw [if_pos hE]; unfold corL; rw [← hkl, ← hacc]; rfl)
  · skip
    have hq0 : scaleE c = 0 := by simpa using h7
    refine AWP.skip ?_
    refine AWP.seq ?_
    refine AWP.seq ?_
    refine AWP.region ?_
    refine AOps.call (o_move _ rfl rfl) ?_
    refine AOps.call (o_call (checkSheets_s l hl) Tryd.call113 rfl rfl) ?_
    refine AOps.call (o_assign _ rfl rfl) ?_
    refine AOps.nil ?_
    refine AWP.seq ?_
    refine AWP.region ?_
    refine AOps.call (o_move _ rfl rfl) ?_
    refine AOps.call (o_bin _ _ rfl rfl (fun _ => rfl) rfl) ?_
    refine AOps.nil ?_
    refine AWP.cond _ rfl (fun h12 => ?_) (fun h12 => ?_)
    · skip
      have hz : ¬ corE c l b a = 0 := by
        unfold corE
        have h1 : ¬ sheetsE l = 0 := by simpa using h12
        rw [if_pos hq0, if_neg h1]; exact h1
      have hE : corE c l b a = sheetsE l := by
        unfold corE
        rw [if_pos hq0, if_neg (by simpa using h12)]
      refine AWP.seq ?_
      refine AWP.region ?_
      refine AOps.call (o_move _ rfl rfl) ?_
      refine AOps.call (o_nil (z := 1) (e := 3) rfl) ?_
      refine AOps.call (o_assign _ rfl rfl) ?_
      refine AOps.nil ?_
      refine AWP.ret ?_
      refine postQ.ret2 Tryd.results62 rfl rfl ?_
      first
      | (rw [if_neg hz, hE]; rfl)
      | (rw [if_pos hE]; unfold corL; rw [← hkl, ← hacc]; rfl)
    · skip
      have hq : sheetsE l = 0 := by simpa using h12
      refine AWP.skip ?_
      refine AWP.seq ?_
      refine AWP.seq ?_
      refine AWP.region ?_
      refine AOps.call (o_move _ rfl rfl) ?_
      refine AOps.call (o_call (isDay_s _) Tryd.call72 rfl rfl) ?_
      refine AOps.call (o_un _ rfl (fun _ => rfl) rfl) ?_
      refine AOps.call (o_move _ rfl rfl) ?_
      refine AOps.split rfl rfl rfl (fun h17 => ?_) (fun h17 => ?_)
      · skip
        refine AOps.go rfl rfl rfl h17 (o_move _ rfl rfl) ?_
        refine AOps.go rfl rfl rfl h17 (o_call (isDay_s _) Tryd.call72 rfl rfl) ?_
        refine AOps.go rfl rfl rfl h17 (o_un _ rfl (fun _ => rfl) rfl) ?_
        refine AOps.call (o_pickF _ _ _ rfl h17 rfl rfl) ?_
        refine AOps.nil ?_
        refine AWP.cond _ rfl (fun h21 => ?_) (fun h21 => ?_)
        · skip
          have hE : corE c l b a = 1 := by
            unfold corE
            rw [if_pos hq0, if_pos hq, if_neg (by simp_all)]
          have hz : ¬ corE c l b a = 0 := by rw [hE]; decide
          refine AWP.seq ?_
          refine AWP.region ?_
          refine AOps.call (o_nil (z := 1) (e := 3) rfl) ?_
          refine AOps.call (o_assign _ rfl rfl) ?_
          refine AOps.nil ?_
          refine AWP.ret ?_
          refine postQ.ret2 Tryd.results62 rfl rfl ?_
          first
          | (rw [if_neg hz, hE]; rfl)
          | (rw [if_pos hE]; unfold corL; rw [← hkl, ← hacc]; rfl)
        · skip
          have hE : corE c l b a = 0 := by
            unfold corE
            rw [if_pos hq0, if_pos hq, if_pos (by simp_all)]
          have hl256 := sheetsE_len hq
          refine AWP.skip ?_
          refine AWP.seq ?_
          refine AWP.region ?_
          refine AOps.call (o_nil (z := 1) (e := 3) rfl) ?_
          refine AOps.nil ?_
          refine AWP.seq ?_
          refine AWP.seq ?_
          refine AWP.region ?_
          refine AOps.call (o_move _ rfl rfl) ?_
          refine AOps.call (o_len _ Tryd.underlying80 rfl rfl) ?_
          refine AOps.call (o_move _ rfl rfl) ?_
          refine AOps.nil ?_
          refine AWP.block ?_
          refine AWP.loop (ι := Nat × List Int) (fun i => AS.mk' 58 [(2, I b), (3, I a), (4, .ref (4, 0) 0), (12, .own (12, 0) (ints i.2)), (33, .sl (shts l)), (34, I (shts l).length), (35, I i.1)] [((4, 0), eS c)] [((12, 0), ((ints i.2).length, 1, 3))] [(4, 1), (12, 1)]) (fun i => i.1 ≤ l.length ∧ i.2 = pickL (okC c l b a) i.1) (fun i => l.length - i.1) (0, []) (Weak.mk' rfl ⟨⟨.refl rfl, rfl⟩, ⟨⟨.refl rfl, rfl⟩, ⟨⟨.refl rfl, rfl⟩, ⟨⟨.refl rfl, rfl⟩, ⟨⟨.refl rfl, rfl⟩, ⟨⟨.refl rfl, rfl⟩, ⟨⟨.refl rfl, rfl⟩, trivial⟩⟩⟩⟩⟩⟩⟩ ⟨⟨rfl, rfl, rfl⟩, trivial⟩ ⟨⟨rfl, rfl⟩, trivial⟩) (⟨Nat.zero_le _, rfl⟩) ?_
          rintro ⟨j, acc⟩ ⟨hk, hacc⟩
          try dsimp only at *
          refine AWP.seq ?_
          refine AWP.region ?_
          refine AOps.call (o_bin _ _ rfl rfl (fun _ => rfl) rfl) ?_
          refine AOps.nil ?_
          refine AWP.seq ?_
          refine AWP.cond _ rfl (fun h29 => ?_) (fun h29 => ?_)
          · skip
            have hlt : j < l.length := by simp [shts_len] at h29; omega
            have hel := shts_get hlt
            have hal : acc.length ≤ j := by rw [hacc]; exact pickL_len _ _
            refine AWP.skip ?_
            refine AWP.seq ?_
            refine AWP.block ?_
            refine AWP.seq ?_
            refine AWP.region ?_
            refine AOps.call (o_move _ rfl rfl) ?_
            refine AOps.call (o_index _ _ Tryd.underlying80 Tryd.sizeOf54 rfl rfl (by omega) (by assumption) rfl rfl) ?_
            refine AOps.call (o_loadRd _ rfl Tryd.sizeOf54 Tryd.isAgg54 rfl rfl rfl) ?_
            refine AOps.call (o_alloc ze54 rfl rfl) ?_
            refine AOps.call (o_assign _ rfl rfl) ?_
            refine AOps.cons (o_store _ _ rfl rfl Tryd.sizeOf54 rfl rfl rfl rfl rfl) ?_
            refine AOps.nil ?_
            refine AWP.seq ?_
            refine AWP.region ?_
            refine AOps.call (o_fieldRef _ rfl fa54_4 rfl rfl) ?_
            refine AOps.call (o_loadRef _ rfl rfl Tryd.sizeOf3 Tryd.isAgg3 rfl rfl rfl) ?_
            refine AOps.call (o_fieldRef _ rfl fa24_0 rfl rfl) ?_
            refine AOps.call (o_loadRef _ rfl rfl Tryd.sizeOf3 Tryd.isAgg3 rfl rfl rfl) ?_
            refine AOps.call (o_bin _ _ rfl rfl (fun _ => rfl) rfl) ?_
            refine AOps.call (o_move _ rfl rfl) ?_
            refine AOps.split rfl rfl rfl (fun h38 => ?_) (fun h38 => ?_)
            · skip
              refine AOps.go rfl rfl rfl h38 (o_loadRef _ rfl rfl Tryd.sizeOf24 Tryd.isAgg24 rfl rfl rfl) ?_
              refine AOps.go rfl rfl rfl h38 (o_loadRef _ rfl rfl Tryd.sizeOf54 Tryd.isAgg54 rfl rfl rfl) ?_
              refine AOps.go rfl rfl rfl h38 (o_move _ rfl rfl) ?_
              refine AOps.go rfl rfl rfl h38 (o_move _ rfl rfl) ?_
              refine AOps.go rfl rfl rfl h38 (o_call (differs_s c l[j] b a) Tryd.call119 rfl rfl) ?_
              refine AOps.call (o_pickT _ _ _ rfl h38 rfl rfl) ?_
              refine AOps.nil ?_
              refine AWP.cond _ rfl (fun h44 => ?_) (fun h44 => ?_)
              · skip
                refine AWP.region ?_
                refine AOps.call (o_move _ rfl rfl) ?_
                refine AOps.call (o_move _ rfl rfl) ?_
                refine AOps.call (o_lit Tryd.underlying45 Tryd.sizeOf3 Tryd.zeroValue3 rfl rfl rfl rfl rfl rfl rfl) ?_
                refine AOps.cons (o_append _ _ Tryd.underlying45 info3 rfl rfl rfl rfl rfl rfl rfl rfl (fun c hc => by simp at hc; subst hc; rfl) ints_z (by
                    rw [ints_len]; simp only [List.length_cons, List.length_nil, Nat.zero_add]; unfold Tryd.t3; simp only []; omega) rfl (ints_snoc acc _) rfl) ?_
                refine AOps.call (o_assign _ rfl rfl) ?_
                refine AOps.nil ?_
                refine AWP.region ?_
                refine AOps.call (o_add _ _ rfl rfl ⟨by (try dsimp only); omega, by (try dsimp only); omega⟩ rfl) ?_
                refine AOps.call (o_move _ rfl rfl) ?_
                refine AOps.nil ?_
                refine ⟨(j + 1, _), ?_, (Weak.mk' rfl ⟨⟨.refl rfl, rfl⟩, ⟨⟨.refl rfl, rfl⟩, ⟨⟨.refl rfl, rfl⟩, ⟨⟨.refl rfl, rfl⟩, ⟨⟨.refl rfl, rfl⟩, ⟨⟨.refl rfl, rfl⟩, ⟨⟨.refl rfl, rfl⟩, trivial⟩⟩⟩⟩⟩⟩⟩ ⟨⟨rfl, rfl, rfl⟩, trivial⟩ ⟨⟨rfl, rfl⟩, trivial⟩)⟩
                refine ⟨⟨by omega, ?_⟩, by omega⟩
                rw [pickL_succ, ← hacc]
                cases hp : okC c l b a j with
                | true =>
                  first
                  | rfl
                  | (exfalso; rw [okC_at hlt] at hp; simp_all; done)
                | false =>
                  first
                  | exact (List.append_nil _).symm
                  | (exfalso; rw [okC_at hlt] at hp; simp_all; done)
              · skip
                refine AWP.skip ?_
                refine AWP.region ?_
                refine AOps.call (o_add _ _ rfl rfl ⟨by (try dsimp only); omega, by (try dsimp only); omega⟩ rfl) ?_
                refine AOps.call (o_move _ rfl rfl) ?_
                refine AOps.nil ?_
                refine ⟨(j + 1, _), ?_, (Weak.mk' rfl ⟨⟨.refl rfl, rfl⟩, ⟨⟨.refl rfl, rfl⟩, ⟨⟨.refl rfl, rfl⟩, ⟨⟨.refl rfl, rfl⟩, ⟨⟨.refl rfl, rfl⟩, ⟨⟨.refl rfl, rfl⟩, ⟨⟨.refl rfl, rfl⟩, trivial⟩⟩⟩⟩⟩⟩⟩ ⟨⟨rfl, rfl, rfl⟩, trivial⟩ ⟨⟨rfl, rfl⟩, trivial⟩)⟩
                refine ⟨⟨by omega, ?_⟩, by omega⟩
                rw [pickL_succ, ← hacc]
                cases hp : okC c l b a j with
                | true =>
                  first
                  | rfl
                  | (exfalso; rw [okC_at hlt] at hp; simp_all; done)
                | false =>
                  first
                  | exact (List.append_nil _).symm
                  | (exfalso; rw [okC_at hlt] at hp; simp_all; done)
            · skip
              refine AOps.pass rfl rfl rfl h38 rfl ?_
              refine AOps.pass rfl rfl rfl h38 rfl ?_
              refine AOps.pass rfl rfl rfl h38 rfl ?_
              refine AOps.pass rfl rfl rfl h38 rfl ?_
              refine AOps.pass rfl rfl rfl h38 rfl ?_
              refine AOps.call (o_pickF _ _ _ rfl h38 rfl rfl) ?_
              refine AOps.nil ?_
              refine AWP.condF rfl ?_
              refine AWP.skip ?_
              refine AWP.region ?_
              refine AOps.call (o_add _ _ rfl rfl ⟨by (try dsimp only); omega, by (try dsimp only); omega⟩ rfl) ?_
              refine AOps.call (o_move _ rfl rfl) ?_
              refine AOps.nil ?_
              refine ⟨(j + 1, _), ?_, (Weak.mk' rfl ⟨⟨.refl rfl, rfl⟩, ⟨⟨.refl rfl, rfl⟩, ⟨⟨.refl rfl, rfl⟩, ⟨⟨.refl rfl, rfl⟩, ⟨⟨.refl rfl, rfl⟩, ⟨⟨.refl rfl, rfl⟩, ⟨⟨.refl rfl, rfl⟩, trivial⟩⟩⟩⟩⟩⟩⟩ ⟨⟨rfl, rfl, rfl⟩, trivial⟩ ⟨⟨rfl, rfl⟩, trivial⟩)⟩
              refine ⟨⟨by omega, ?_⟩, by omega⟩
              rw [pickL_succ, ← hacc]
              cases hp : okC c l b a j with
              | true =>
                first
                | rfl
                | (exfalso; rw [okC_at hlt] at hp; simp_all; done)
              | false =>
                first
                | exact (List.append_nil _).symm
                | (exfalso; rw [okC_at hlt] at hp; simp_all; done)
          · skip
            have hkl : j = l.length := by simp [shts_len] at h29; omega
            refine AWP.exit ?_
            refine AWP.seq ?_
            refine AWP.region ?_
            refine AOps.call (o_move _ rfl rfl) ?_
            refine AOps.call (o_assign _ rfl rfl) ?_
            refine AOps.call (o_assign _ rfl rfl) ?_
            refine AOps.nil ?_
            refine AWP.ret ?_
            refine postQ.ret2 Tryd.results62 rfl rfl ?_
            first
            | (rw [if_neg hz, hE]; rfl)
            | (rw [if_pos hE]; unfold corL; rw [← hkl, ← hacc]; rfl)
      · skip
        refine AOps.pass rfl rfl rfl h17 rfl ?_
        refine AOps.pass rfl rfl rfl h17 rfl ?_
        refine AOps.pass rfl rfl rfl h17 rfl ?_
        refine AOps.call (o_pickT _ _ _ rfl h17 rfl rfl) ?_
        refine AOps.nil ?_
        refine AWP.condT rfl ?_
        have hE : corE c l b a = 1 := by
          unfold corE
          rw [if_pos hq0, if_pos hq, if_neg (by simp_all)]
        have hz : ¬ corE c l b a = 0 := by rw [hE]; decide
        refine AWP.seq ?_
        refine AWP.region ?_
        refine AOps.call (o_nil (z := 1) (e := 3) rfl) ?_
        refine AOps.call (o_assign _ rfl rfl) ?_
        refine AOps.nil ?_
        refine AWP.ret ?_
        refine postQ.ret2 Tryd.results62 rfl rfl ?_
        first
        | (rw [if_neg hz, hE]; rfl)
        | (rw [if_pos hE]; unfold corL; rw [← hkl, ← hacc]; rfl)

end Go.Proofs.YtphoomnonenalaaDoor
