import Derived.Test.YtnnohkbgjdmjdaaGreatL7a
set_option linter.unusedSimpArgs false
set_option linter.unusedVariables false
namespace Go.Proofs.YtnnohkbgjdmjdaaGreat
open Go.Ab

def bearsN (s : Int) : Int := if s ≤ 25 then 65536 else 9999 / (s - 25)
def okS (s : Int) : Bool := decide (0 ≤ s) && decide (s ≤ 60)
def okW (s : Int) : Bool := decide (0 ≤ s) && decide (s ≤ 65536)
theorem okS_in {s : Int} (h : okS s = true) : 0 ≤ s ∧ s ≤ 60 := by simp [okS] at h; omega
theorem okW_in {s : Int} (h : okW s = true) : 0 ≤ s ∧ s ≤ 65536 := by simp [okW] at h; omega
theorem bears_fin : ∀ k : Fin 61, 0 ≤ bearsN (k.val : Int) ∧ bearsN (k.val : Int) ≤ 65536 ∧ bearsN (if (k.val : Int) + 1 < 60 then (k.val : Int) + 1 else 60) ≤ bearsN (k.val : Int) := by decide +kernel
theorem bears_in {s : Int} (h : okS s = true) : 0 ≤ bearsN s ∧ bearsN s ≤ 65536 ∧ bearsN (if s + 1 < 60 then s + 1 else 60) ≤ bearsN s := by
  obtain ⟨h1, h2⟩ := okS_in h
  have := bears_fin ⟨s.toNat, by omega⟩
  simp only [Int.toNat_of_nonneg h1] at this
  exact this

set_option maxRecDepth 20000 in
theorem bears_s (s : Int) (hs : 0 ≤ s ∧ s ≤ 60) : FSpec Tryz.prog 32 [I s] (I (bearsN s)) (none) := by
  refine FSpec.of_body Tryz.func32 rfl (leB rfl) fun w0 M0 => ?_
  refine AWP.seq ?_
  refine AWP.region ?_
  refine AOps.call (o_assign _ rfl rfl) ?_
  refine AOps.nil ?_
  refine AWP.seq ?_
  refine AWP.seq ?_
  refine AWP.region ?_
  refine AOps.call (o_move _ rfl rfl) ?_
  refine AOps.call (o_bin _ _ rfl rfl (fun _ => rfl) rfl) ?_
  refine AOps.nil ?_
  refine AWP.cond _ rfl (fun h4 => ?_) (fun h4 => ?_)
  · skip
    refine AWP.seq ?_
    refine AWP.region ?_
    refine AOps.call (o_assign _ rfl rfl) ?_
    refine AOps.nil ?_
    refine AWP.ret ?_
    refine postQ.ret1 Tryz.results32 rfl ?_
    simp_all [AV.close, I, bearsN]
    try (intros; omega)
  · skip
    refine AWP.skip ?_
    refine AWP.seq ?_
    refine AWP.region ?_
    refine AOps.call (o_move _ rfl rfl) ?_
    refine AOps.call (o_sub _ _ rfl rfl ⟨by (try dsimp only); omega, by (try dsimp only); omega⟩ rfl) ?_
    refine AOps.call (o_quo _ _ rfl rfl ⟨by omega, by omega⟩ (by simp only [decide_eq_false_iff_not] at *; omega) rfl) ?_
    refine AOps.call (o_assign _ rfl rfl) ?_
    refine AOps.nil ?_
    refine AWP.ret ?_
    refine postQ.ret1 Tryz.results32 rfl ?_
    simp_all [AV.close, I, bearsN]
    try (intros; omega)

set_option maxRecDepth 20000 in
theorem Bears_s (s : Int) : FSpec Tryz.prog 11 [I s] (.tup [I (if okS s then bearsN s else 0), I (if okS s then 0 else 1)]) (none) := by
  refine FSpec.of_body Tryz.func11 rfl (leB rfl) fun w0 M0 => ?_
  refine AWP.seq ?_
  refine AWP.region ?_
  refine AOps.call (o_assign _ rfl rfl) ?_
  refine AOps.call (o_assign _ rfl rfl) ?_
  refine AOps.nil ?_
  refine AWP.seq ?_
  refine AWP.seq ?_
  refine AWP.region ?_
  refine AOps.call (o_move _ rfl rfl) ?_
  refine AOps.call (o_call (isIn_s _ _ _) Tryz.call28 rfl rfl) ?_
  refine AOps.call (o_un _ rfl (fun _ => rfl) rfl) ?_
  refine AOps.nil ?_
  refine AWP.cond _ rfl (fun h6 => ?_) (fun h6 => ?_)
  · skip
    refine AWP.seq ?_
    refine AWP.region ?_
    refine AOps.call (o_assign _ rfl rfl) ?_
    refine AOps.call (o_assign _ rfl rfl) ?_
    refine AOps.nil ?_
    refine AWP.ret ?_
    refine postQ.ret2 Tryz.results11 rfl rfl ?_
    simp_all [AV.close, AV.close.closeL, B, I, okS]
    try (intros; omega)
  · skip
    refine AWP.skip ?_
    refine AWP.seq ?_
    refine AWP.region ?_
    refine AOps.call (o_move _ rfl rfl) ?_
    refine AOps.call (o_call (bears_s _ (by simp_all)) Tryz.call32 rfl rfl) ?_
    refine AOps.call (o_assign _ rfl rfl) ?_
    refine AOps.call (o_assign _ rfl rfl) ?_
    refine AOps.nil ?_
    refine AWP.ret ?_
    refine postQ.ret2 Tryz.results11 rfl rfl ?_
    simp_all [AV.close, AV.close.closeL, B, I, okS]
    try (intros; omega)

set_option maxRecDepth 20000 in
theorem Breaks_s (w s : Int) : FSpec Tryz.prog 9 [I w, I s] (.tup [B (okW w && okS s && decide (w > bearsN s)), I (if okW w && okS s then 0 else 1)]) (none) := by
  refine FSpec.of_body Tryz.func9 rfl (leB rfl) fun w0 M0 => ?_
  refine AWP.seq ?_
  refine AWP.region ?_
  refine AOps.call (o_assign _ rfl rfl) ?_
  refine AOps.call (o_assign _ rfl rfl) ?_
  refine AOps.nil ?_
  refine AWP.seq ?_
  refine AWP.seq ?_
  refine AWP.region ?_
  refine AOps.call (o_move _ rfl rfl) ?_
  refine AOps.call (o_call (isIn_s _ _ _) Tryz.call28 rfl rfl) ?_
  refine AOps.call (o_un _ rfl (fun _ => rfl) rfl) ?_
  refine AOps.call (o_move _ rfl rfl) ?_
  refine AOps.split rfl rfl rfl (fun h5 => ?_) (fun h5 => ?_)
  · skip
    refine AOps.go rfl rfl rfl h5 (o_move _ rfl rfl) ?_
    refine AOps.go rfl rfl rfl h5 (o_call (isIn_s _ _ _) Tryz.call28 rfl rfl) ?_
    refine AOps.go rfl rfl rfl h5 (o_un _ rfl (fun _ => rfl) rfl) ?_
    refine AOps.call (o_pickF _ _ _ rfl h5 rfl rfl) ?_
    refine AOps.nil ?_
    refine AWP.cond _ rfl (fun h9 => ?_) (fun h9 => ?_)
    · skip
      refine AWP.seq ?_
      refine AWP.region ?_
      refine AOps.call (o_assign _ rfl rfl) ?_
      refine AOps.call (o_assign _ rfl rfl) ?_
      refine AOps.nil ?_
      refine AWP.ret ?_
      refine postQ.ret2 Tryz.results9 rfl rfl ?_
      simp_all [AV.close, AV.close.closeL, B, I, okS, okW]
      try (intros; omega)
    · skip
      refine AWP.skip ?_
      refine AWP.seq ?_
      refine AWP.region ?_
      refine AOps.call (o_move _ rfl rfl) ?_
      refine AOps.call (o_move _ rfl rfl) ?_
      refine AOps.call (o_call (bears_s _ (by simp_all)) Tryz.call32 rfl rfl) ?_
      refine AOps.call (o_bin _ _ rfl rfl (fun _ => rfl) rfl) ?_
      refine AOps.call (o_assign _ rfl rfl) ?_
      refine AOps.call (o_assign _ rfl rfl) ?_
      refine AOps.nil ?_
      refine AWP.ret ?_
      refine postQ.ret2 Tryz.results9 rfl rfl ?_
      simp_all [AV.close, AV.close.closeL, B, I, okS, okW]
      try (intros; omega)
  · skip
    refine AOps.pass rfl rfl rfl h5 rfl ?_
    refine AOps.pass rfl rfl rfl h5 rfl ?_
    refine AOps.pass rfl rfl rfl h5 rfl ?_
    refine AOps.call (o_pickT _ _ _ rfl h5 rfl rfl) ?_
    refine AOps.nil ?_
    refine AWP.condT rfl ?_
    refine AWP.seq ?_
    refine AWP.region ?_
    refine AOps.call (o_assign _ rfl rfl) ?_
    refine AOps.call (o_assign _ rfl rfl) ?_
    refine AOps.nil ?_
    refine AWP.ret ?_
    refine postQ.ret2 Tryz.results9 rfl rfl ?_
    simp_all [AV.close, AV.close.closeL, B, I, okS, okW]
    try (intros; omega)

end Go.Proofs.YtnnohkbgjdmjdaaGreat

