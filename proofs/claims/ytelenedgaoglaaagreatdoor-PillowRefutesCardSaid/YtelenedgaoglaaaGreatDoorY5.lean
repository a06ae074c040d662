/- Y5. -/
import Derived.Test.YtelenedgaoglaaaGreatDoorY4
import Derived.Test.YtelenedgaoglaaaGreatDoorMA
set_option linter.unusedSimpArgs false
set_option linter.unusedVariables false
namespace Go.Proofs.YtelenedgaoglaaaGreatDoor
open Go.Ab
open Go.Pil Go.RowKit
set_option maxHeartbeats 4000000 in
set_option maxRecDepth 20000 in
theorem against_s (p : Plw) (w : List Sp) (l : List Int) (hp : OkP p) (hw : okW p w = true) (hll : l.length = p.log.length) (i m : Nat) (him : i < m) (hm : m < l.length) : FSpec Tryz.prog 75 [.agg (eP p), .sl (sps w), .sl (ints l), I i, I m] (B (decide (againstP p w l i m))) (none) := by
  refine FSpec.of_body Tryz.func75 rfl (leB rfl) fun w0 M0 => ?_
  have hil := ints_len l
  have h32 := hp.len
  have hsl := sps_len w
  have hb := okW_WB hw
  have hwl : w.length = p.log.length - 1 := (okW_iff.1 hw).1
  have hei := ints_gY (l := l) (k := i) (by omega)
  have hem := ints_gY (l := l) (k := m) (by omega)
  have hai := hp.allow_in i (l.getD i 0)
  have ham := hp.allow_in m (l.getD m 0)
  have hni := hp.allow_ne i (l.getD i 0)
  have hnm := hp.allow_ne m (l.getD m 0)
  simp only [Sp.Ne] at hni hnm
  have hAi := allowedR_s p hp (l.getD i 0) ((i : Nat) : Int) (by omega) (by omega)
  have hAm := allowedR_s p hp (l.getD m 0) ((m : Nat) : Int) (by omega) (by omega)
  rw [Int.toNat_natCast] at hAi hAm
  refine AWP.seq ?_
  refine AWP.region ?_
  refine AOps.call (o_box _ rfl rfl rfl) ?_
  refine AOps.call (o_assign _ rfl rfl) ?_
  refine AOps.nil ?_
  refine AWP.seq ?_
  refine AWP.region ?_
  refine AOps.call (o_build bu54 rfl rfl rfl) ?_
  refine AOps.call (o_alloc ze54 rfl rfl) ?_
  refine AOps.cons (o_store _ _ rfl rfl Tryz.sizeOf54 rfl rfl rfl rfl rfl) ?_
  refine AOps.nil ?_
  refine AWP.seq ?_
  refine AWP.seq ?_
  refine AWP.region ?_
  refine AOps.call (o_move _ rfl rfl) ?_
  refine AOps.call (o_assign _ rfl rfl) ?_
  refine AOps.nil ?_
  refine AWP.block ?_
  refine AWP.loop (ι := Nat) (fun j => AS.mk' 71 [(1, .sl (sps w)), (2, .sl (ints l)), (3, I i), (4, I m), (5, .ref (5, 0) 0), (11, .ref (11, 0) 0), (12, I (i + j))] [((5, 0), eP p), ((11, 0), eN (Sm (wf w) i j))] [] [(5, 1), (11, 1)]) (fun j => j ≤ m - i) (fun j => m - i - j) (0) (Weak.mk' rfl ⟨⟨.refl rfl, rfl⟩, ⟨⟨.refl rfl, rfl⟩, ⟨⟨.refl rfl, rfl⟩, ⟨⟨.refl rfl, rfl⟩, ⟨⟨.refl rfl, rfl⟩, ⟨⟨.refl rfl, rfl⟩, ⟨⟨.refl (congrArg I (by (try dsimp only); omega)), rfl⟩, trivial⟩⟩⟩⟩⟩⟩⟩ ⟨⟨rfl, rfl, rfl⟩, ⟨⟨rfl, rfl, rfl⟩, trivial⟩⟩ trivial) (Nat.zero_le _) ?_
  rintro k hk
  try dsimp only at *
  refine AWP.seq ?_
  refine AWP.seq ?_
  refine AWP.region ?_
  refine AOps.call (o_move _ rfl rfl) ?_
  refine AOps.call (o_move _ rfl rfl) ?_
  refine AOps.call (o_bin _ _ rfl rfl (fun _ => rfl) rfl) ?_
  refine AOps.nil ?_
  refine AWP.cond _ rfl (fun h7 => ?_) (fun h7 => ?_)
  · skip
    have hlt : k < m - i := by have := of_decide_eq_true h7; omega
    have hew : (sps w)[((i : Int) + (k : Int)).toNat]? = some (eN (wf w (i + k))) := sps_gD (by omega) (by omega)
    have hpl : inI64 ((Sm (wf w) i k).lo + (wf w (i + k)).lo) ∧ inI64 ((Sm (wf w) i k).hi + (wf w (i + k)).hi) := by
      have h1 := Sm_small hb i k; have h2 := hb (i + k)
      simp only [okRange]; omega
    refine AWP.skip ?_
    refine AWP.seq ?_
    refine AWP.block ?_
    refine AWP.drawn 17 mixed (by kernel_rfl) ?_
    refine AHead.call (o_fieldRef _ rfl fa54_0 rfl rfl) rfl ?_
    refine AHead.call (o_loadRef _ rfl rfl Tryz.sizeOf3 Tryz.isAgg3 rfl rfl rfl) rfl ?_
    refine AHead.call (o_move _ rfl rfl) rfl ?_
    refine AHead.call (o_move _ rfl rfl) rfl ?_
    refine AHead.call (o_index _ _ Tryz.underlying38 Tryz.sizeOf54 rfl rfl (by omega) hew rfl rfl) rfl ?_
    refine AHead.call (o_fieldRd _ rfl fa54_0 rfl) rfl ?_
    refine AHead.call (o_loadRd _ rfl Tryz.sizeOf3 Tryz.isAgg3 rfl rfl rfl) rfl ?_
    refine AHead.call (o_add _ _ rfl rfl hpl.1 rfl) rfl ?_
    refine AHead.call (o_fieldRef _ rfl fa54_1 rfl rfl) rfl ?_
    refine AHead.call (o_loadRef _ rfl rfl Tryz.sizeOf3 Tryz.isAgg3 rfl rfl rfl) rfl ?_
    refine AHead.call (o_move _ rfl rfl) rfl ?_
    refine AHead.call (o_move _ rfl rfl) rfl ?_
    refine AHead.call (o_index _ _ Tryz.underlying38 Tryz.sizeOf54 rfl rfl (by omega) hew rfl rfl) rfl ?_
    refine AHead.call (o_fieldRd _ rfl fa54_1 rfl) rfl ?_
    refine AHead.call (o_loadRd _ rfl Tryz.sizeOf3 Tryz.isAgg3 rfl rfl rfl) rfl ?_
    refine AHead.call (o_add _ _ rfl rfl hpl.2 rfl) rfl ?_
    refine AHead.call (o_build bu54 rfl rfl rfl) rfl ?_
    refine AHead.nil ?_
    refine AOps.cons (o_store _ _ rfl rfl Tryz.sizeOf54 rfl rfl rfl rfl rfl) ?_
    refine AOps.nil ?_
    refine AWP.region ?_
    refine AOps.call (o_move _ rfl rfl) ?_
    refine AOps.call (o_add _ _ rfl rfl ⟨by (try dsimp only); omega, by (try dsimp only); omega⟩ rfl) ?_
    refine AOps.call (o_assign _ rfl rfl) ?_
    refine AOps.nil ?_
    refine ⟨k + 1, ?_, (Weak.mk' rfl ⟨⟨.refl rfl, rfl⟩, ⟨⟨.refl rfl, rfl⟩, ⟨⟨.refl rfl, rfl⟩, ⟨⟨.refl rfl, rfl⟩, ⟨⟨.refl rfl, rfl⟩, ⟨⟨.refl rfl, rfl⟩, ⟨⟨.refl (congrArg I (by (try dsimp only); omega)), rfl⟩, trivial⟩⟩⟩⟩⟩⟩⟩ ⟨⟨rfl, rfl, rfl⟩, ⟨⟨rfl, rfl, rfl⟩, trivial⟩⟩ trivial)⟩
    exact ⟨by omega, by omega⟩
  · skip
    have hkl : k = m - i := by have := of_decide_eq_false h7; omega
    subst hkl
    have hin : ((i : Nat) : Int).toNat = i := Int.toNat_natCast i
    have hmn : ((m : Nat) : Int).toNat = m := Int.toNat_natCast m
    have hag := against_sum (p := p) (w := w) (l := l) hp hw him
    have hag2 : againstP p w l i m ↔ ((p.allow m (l.getD m 0)).hi - (p.allow i (l.getD i 0)).lo < (Sm (wf w) i (m - i)).lo ∨ (p.allow m (l.getD m 0)).lo - (p.allow i (l.getD i 0)).hi > (Sm (wf w) i (m - i)).hi) := hag
    generalize Sm (wf w) i (m - i) = S at *
    refine AWP.exit ?_
    refine AWP.seq ?_
    refine AWP.drawn 8 mixed (by kernel_rfl) ?_
    refine AHead.call (o_loadRef _ rfl rfl Tryz.sizeOf24 Tryz.isAgg24 rfl rfl rfl) rfl ?_
    refine AHead.call (o_move _ rfl rfl) rfl ?_
    refine AHead.call (o_move _ rfl rfl) rfl ?_
    refine AHead.call (o_index _ _ Tryz.underlying25 Tryz.sizeOf3 rfl rfl (by omega) hei rfl rfl) rfl ?_
    refine AHead.call (o_loadRd _ rfl Tryz.sizeOf3 Tryz.isAgg3 rfl rfl rfl) rfl ?_
    refine AHead.call (o_move _ rfl rfl) rfl ?_
    refine AHead.call (o_call hAi Tryz.call73 rfl rfl) rfl ?_
    refine AHead.call (o_alloc ze54 rfl rfl) rfl ?_
    refine AHead.nil ?_
    refine AOps.cons (o_store _ _ rfl rfl Tryz.sizeOf54 rfl rfl rfl rfl rfl) ?_
    refine AOps.nil ?_
    refine AWP.seq ?_
    refine AWP.drawn 8 mixed (by kernel_rfl) ?_
    refine AHead.call (o_loadRef _ rfl rfl Tryz.sizeOf24 Tryz.isAgg24 rfl rfl rfl) rfl ?_
    refine AHead.call (o_move _ rfl rfl) rfl ?_
    refine AHead.call (o_move _ rfl rfl) rfl ?_
    refine AHead.call (o_index _ _ Tryz.underlying25 Tryz.sizeOf3 rfl rfl (by omega) hem rfl rfl) rfl ?_
    refine AHead.call (o_loadRd _ rfl Tryz.sizeOf3 Tryz.isAgg3 rfl rfl rfl) rfl ?_
    refine AHead.call (o_move _ rfl rfl) rfl ?_
    refine AHead.call (o_call hAm Tryz.call73 rfl rfl) rfl ?_
    refine AHead.call (o_alloc ze54 rfl rfl) rfl ?_
    refine AHead.nil ?_
    refine AOps.cons (o_store _ _ rfl rfl Tryz.sizeOf54 rfl rfl rfl rfl rfl) ?_
    refine AOps.nil ?_
    refine AWP.seq ?_
    refine AWP.region ?_
    refine AOps.call (o_fieldRef _ rfl fa54_1 rfl rfl) ?_
    refine AOps.call (o_loadRef _ rfl rfl Tryz.sizeOf3 Tryz.isAgg3 rfl rfl rfl) ?_
    refine AOps.call (o_fieldRef _ rfl fa54_0 rfl rfl) ?_
    refine AOps.call (o_loadRef _ rfl rfl Tryz.sizeOf3 Tryz.isAgg3 rfl rfl rfl) ?_
    refine AOps.call (o_sub _ _ rfl rfl ⟨by (try dsimp only); omega, by (try dsimp only); omega⟩ rfl) ?_
    refine AOps.call (o_fieldRef _ rfl fa54_0 rfl rfl) ?_
    refine AOps.call (o_loadRef _ rfl rfl Tryz.sizeOf3 Tryz.isAgg3 rfl rfl rfl) ?_
    refine AOps.call (o_bin _ _ rfl rfl (fun _ => rfl) rfl) ?_
    refine AOps.call (o_move _ rfl rfl) ?_
    refine AOps.split rfl rfl rfl (fun h48 => ?_) (fun h48 => ?_)
    · skip
      refine AOps.go rfl rfl rfl h48 (o_fieldRef _ rfl fa54_0 rfl rfl) ?_
      refine AOps.go rfl rfl rfl h48 (o_loadRef _ rfl rfl Tryz.sizeOf3 Tryz.isAgg3 rfl rfl rfl) ?_
      refine AOps.go rfl rfl rfl h48 (o_fieldRef _ rfl fa54_1 rfl rfl) ?_
      refine AOps.go rfl rfl rfl h48 (o_loadRef _ rfl rfl Tryz.sizeOf3 Tryz.isAgg3 rfl rfl rfl) ?_
      refine AOps.go rfl rfl rfl h48 (o_sub _ _ rfl rfl ⟨by (try dsimp only); omega, by (try dsimp only); omega⟩ rfl) ?_
      refine AOps.go rfl rfl rfl h48 (o_fieldRef _ rfl fa54_1 rfl rfl) ?_
      refine AOps.go rfl rfl rfl h48 (o_loadRef _ rfl rfl Tryz.sizeOf3 Tryz.isAgg3 rfl rfl rfl) ?_
      refine AOps.go rfl rfl rfl h48 (o_bin _ _ rfl rfl (fun _ => rfl) rfl) ?_
      refine AOps.call (o_pickF _ _ _ rfl h48 rfl rfl) ?_
      refine AOps.call (o_assign _ rfl rfl) ?_
      refine AOps.nil ?_
      refine AWP.ret ?_
      refine postQ.ret1 Tryz.results75 rfl ?_
      refine congrArg (fun b => some (B b)) (Bool.eq_iff_iff.2 (Iff.trans ?_ (Iff.trans hag2.symm decide_eq_true_iff.symm)))
      clear hag hag2
      first
      | (simp_all; done)
      | (simp_all; omega)
      | (simp_all [AV.close, B, I]; done)
      | (simp_all [AV.close, B, I]; omega)
    · skip
      refine AOps.pass rfl rfl rfl h48 rfl ?_
      refine AOps.pass rfl rfl rfl h48 rfl ?_
      refine AOps.pass rfl rfl rfl h48 rfl ?_
      refine AOps.pass rfl rfl rfl h48 rfl ?_
      refine AOps.pass rfl rfl rfl h48 rfl ?_
      refine AOps.pass rfl rfl rfl h48 rfl ?_
      refine AOps.pass rfl rfl rfl h48 rfl ?_
      refine AOps.pass rfl rfl rfl h48 rfl ?_
      refine AOps.call (o_pickT _ _ _ rfl h48 rfl rfl) ?_
      refine AOps.call (o_assign _ rfl rfl) ?_
      refine AOps.nil ?_
      refine AWP.ret ?_
      refine postQ.ret1 Tryz.results75 rfl ?_
      refine congrArg (fun b => some (B b)) (Bool.eq_iff_iff.2 (Iff.trans ?_ (Iff.trans hag2.symm decide_eq_true_iff.symm)))
      clear hag hag2
      first
      | (simp_all; done)
      | (simp_all; omega)
      | (simp_all [AV.close, B, I]; done)
      | (simp_all [AV.close, B, I]; omega)
end Go.Proofs.YtelenedgaoglaaaGreatDoor
