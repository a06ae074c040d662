import Derived.Test.YtgagfmjpmdgfdaaDoorP2
import Derived.Test.YtgagfmjpmdgfdaaDoorAbC
set_option linter.unusedSimpArgs false
set_option linter.unusedVariables false
namespace Go.Proofs.YtgagfmjpmdgfdaaDoor
open Go.Ab

theorem okRange {n : Int} : inI64 n ↔ -9223372036854775808 ≤ n ∧ n ≤ 9223372036854775807 := Iff.rfl
def amB (n : Int) : Bool := decide (0 ≤ n) && decide (n ≤ 65536)
theorem amB_iff {n : Int} : amB n = true ↔ 0 ≤ n ∧ n ≤ 65536 := by simp [amB]
def stepE (s : Stp) : Int := if (1 ≤ s.kind ∧ s.kind ≤ 6 ∧ 0 ≤ s.much ∧ s.much ≤ 65536 ∧ 0 ≤ s.cold ∧ s.cold ≤ 65536) ∧ (s.kind = 1 ∨ s.cold = 0) then 0 else 21
theorem watL_bd {l : List Lay} (h : ∀ x ∈ l, layB x = true) : 0 ≤ watL l ∧ watL l ≤ l.length * 70000 := by
  induction l with
  | nil => simp [watL]
  | cons a l ih =>
    have h1 := (layB_iff.1 (h a (by simp))).1
    have h2 := ih fun x hx => h x (by simp [hx])
    simp only [watL, List.length_cons]; omega
theorem coldL_bd {l : List Lay} (h : ∀ x ∈ l, layB x = true) : 0 ≤ coldL l ∧ coldL l ≤ l.length * 70000 := by
  induction l with
  | nil => simp [coldL]
  | cons a l ih =>
    have h1 := (layB_iff.1 (h a (by simp))).1
    have h2 := ih fun x hx => h x (by simp [hx])
    simp only [coldL, List.length_cons]; omega
theorem all_take {l : List Lay} {n : Nat} (h : ∀ x ∈ l, layB x = true) : ∀ x ∈ l.take n, layB x = true := fun x hx => h x (List.mem_of_mem_take hx)

set_option maxRecDepth 20000 in
theorem hold_s (n : Int) (h0 : 0 ≤ n ∧ n ≤ 9223372036854775807) : FSpec Tryd.prog 60 [I n] (I (n / 20)) (none) := by
  refine FSpec.of_body Tryd.func60 rfl (leB rfl) fun w0 M0 => ?_
  refine AWP.seq ?_
  refine AWP.region ?_
  refine AOps.call (o_assign _ rfl rfl) ?_
  refine AOps.nil ?_
  refine AWP.seq ?_
  refine AWP.region ?_
  refine AOps.call (o_move _ rfl rfl) ?_
  refine AOps.call (o_quo _ _ rfl rfl ⟨by omega, by omega⟩ (by omega) rfl) ?_
  refine AOps.call (o_assign _ rfl rfl) ?_
  refine AOps.nil ?_
  refine AWP.ret ?_
  exact postQ.ret1 Tryd.results60 rfl rfl

set_option maxRecDepth 20000 in
theorem isAmount_s (n : Int) : FSpec Tryd.prog 67 [I n] (B (amB n)) (none) := by
  refine FSpec.of_body Tryd.func67 rfl (leB rfl) fun w0 M0 => ?_
  refine AWP.seq ?_
  refine AWP.region ?_
  refine AOps.call (o_assign _ rfl rfl) ?_
  refine AOps.nil ?_
  refine AWP.seq ?_
  refine AWP.region ?_
  refine AOps.call (o_move _ rfl rfl) ?_
  refine AOps.call (o_bin _ _ rfl rfl (fun _ => rfl) rfl) ?_
  refine AOps.call (o_move _ rfl rfl) ?_
  refine AOps.split rfl rfl rfl (fun h3 => ?_) (fun h3 => ?_)
  · skip
    refine AOps.go rfl rfl rfl h3 (o_move _ rfl rfl) ?_
    refine AOps.go rfl rfl rfl h3 (o_bin _ _ rfl rfl (fun _ => rfl) rfl) ?_
    refine AOps.call (o_pickT _ _ _ rfl h3 rfl rfl) ?_
    refine AOps.call (o_assign _ rfl rfl) ?_
    refine AOps.nil ?_
    refine AWP.ret ?_
    refine postQ.ret1 Tryd.results67 rfl ?_
    simp_all [AV.close, B, amB]
    try (intros; omega)
  · skip
    refine AOps.pass rfl rfl rfl h3 rfl ?_
    refine AOps.pass rfl rfl rfl h3 rfl ?_
    refine AOps.call (o_pickF _ _ _ rfl h3 rfl rfl) ?_
    refine AOps.call (o_assign _ rfl rfl) ?_
    refine AOps.nil ?_
    refine AWP.ret ?_
    refine postQ.ret1 Tryd.results67 rfl ?_
    simp_all [AV.close, B, amB]
    try (intros; omega)

set_option maxRecDepth 20000 in
theorem validLayer_s (l : Lay) : FSpec Tryd.prog 59 [.agg (eL l)] (B (layB l)) (none) := by
  refine FSpec.of_body Tryd.func59 rfl (leB rfl) fun w0 M0 => ?_
  refine AWP.seq ?_
  refine AWP.region ?_
  refine AOps.call (o_box _ rfl rfl rfl) ?_
  refine AOps.call (o_assign _ rfl rfl) ?_
  refine AOps.nil ?_
  refine AWP.seq ?_
  refine AWP.seq ?_
  refine AWP.drawn 27 mixed (by kernel_rfl) ?_
  refine AHead.call (o_fieldRef _ rfl fa28_0 rfl rfl) rfl ?_
  refine AHead.call (o_loadRef _ rfl rfl Tryd.sizeOf3 Tryd.isAgg3 rfl rfl rfl) rfl ?_
  refine AHead.call (o_bin _ _ rfl rfl (fun _ => rfl) rfl) rfl ?_
  refine AHead.call (o_move _ rfl rfl) rfl ?_
  refine AHead.split rfl rfl rfl (fun h5 => ?_) (fun h5 => ?_)
  · skip
    refine AHead.go rfl rfl rfl h5 (o_fieldRef _ rfl fa28_0 rfl rfl) rfl ?_
    refine AHead.go rfl rfl rfl h5 (o_loadRef _ rfl rfl Tryd.sizeOf3 Tryd.isAgg3 rfl rfl rfl) rfl ?_
    refine AHead.go rfl rfl rfl h5 (o_bin _ _ rfl rfl (fun _ => rfl) rfl) rfl ?_
    refine AHead.call (o_pickF _ _ _ rfl h5 rfl rfl) rfl ?_
    refine AHead.call (o_move _ rfl rfl) rfl ?_
    refine AHead.split rfl rfl rfl (fun h9 => ?_) (fun h9 => ?_)
    · skip
      refine AHead.go rfl rfl rfl h9 (o_fieldRef _ rfl fa28_1 rfl rfl) rfl ?_
      refine AHead.go rfl rfl rfl h9 (o_loadRef _ rfl rfl Tryd.sizeOf3 Tryd.isAgg3 rfl rfl rfl) rfl ?_
      refine AHead.go rfl rfl rfl h9 (o_bin _ _ rfl rfl (fun _ => rfl) rfl) rfl ?_
      refine AHead.call (o_pickF _ _ _ rfl h9 rfl rfl) rfl ?_
      refine AHead.call (o_move _ rfl rfl) rfl ?_
      refine AHead.split rfl rfl rfl (fun h13 => ?_) (fun h13 => ?_)
      · skip
        have hh : 0 ≤ l.ice ∧ l.ice ≤ 9223372036854775807 := by
          simp only [Bool.or_eq_false_iff, decide_eq_false_iff_not, Bool.decide_or, Bool.not_eq_true, AV.close] at *
          omega
        refine AHead.go rfl rfl rfl h13 (o_fieldRef _ rfl fa28_1 rfl rfl) rfl ?_
        refine AHead.go rfl rfl rfl h13 (o_loadRef _ rfl rfl Tryd.sizeOf3 Tryd.isAgg3 rfl rfl rfl) rfl ?_
        refine AHead.go rfl rfl rfl h13 (o_fieldRef _ rfl fa28_0 rfl rfl) rfl ?_
        refine AHead.go rfl rfl rfl h13 (o_loadRef _ rfl rfl Tryd.sizeOf3 Tryd.isAgg3 rfl rfl rfl) rfl ?_
        refine AHead.go rfl rfl rfl h13 (o_call (hold_s _ hh) Tryd.call60 rfl rfl) rfl ?_
        refine AHead.go rfl rfl rfl h13 (o_bin _ _ rfl rfl (fun _ => rfl) rfl) rfl ?_
        refine AHead.call (o_pickF _ _ _ rfl h13 rfl rfl) rfl ?_
        refine AHead.call (o_move _ rfl rfl) rfl ?_
        refine AHead.split rfl rfl rfl (fun h20 => ?_) (fun h20 => ?_)
        · skip
          refine AHead.go rfl rfl rfl h20 (o_fieldRef _ rfl fa28_2 rfl rfl) rfl ?_
          refine AHead.go rfl rfl rfl h20 (o_loadRef _ rfl rfl Tryd.sizeOf3 Tryd.isAgg3 rfl rfl rfl) rfl ?_
          refine AHead.go rfl rfl rfl h20 (o_call (isAmount_s _) Tryd.call67 rfl rfl) rfl ?_
          refine AHead.go rfl rfl rfl h20 (o_un _ rfl (fun _ => rfl) rfl) rfl ?_
          refine AHead.call (o_pickF _ _ _ rfl h20 rfl rfl) rfl ?_
          refine AHead.nil ?_
          refine AOps.nil ?_
          refine AWP.cond _ rfl (fun h25 => ?_) (fun h25 => ?_)
          · skip
            refine AWP.seq ?_
            refine AWP.region ?_
            refine AOps.call (o_assign _ rfl rfl) ?_
            refine AOps.nil ?_
            refine AWP.ret ?_
            refine postQ.ret1 Tryd.results59 rfl ?_
            simp_all [AV.close, AV.close.closeL, B, I, layB, amB]
            try (intros; omega)
            try rfl
          · skip
            refine AWP.skip ?_
            refine AWP.seq ?_
            refine AWP.region ?_
            refine AOps.call (o_fieldRef _ rfl fa28_1 rfl rfl) ?_
            refine AOps.call (o_loadRef _ rfl rfl Tryd.sizeOf3 Tryd.isAgg3 rfl rfl rfl) ?_
            refine AOps.call (o_bin _ _ rfl rfl (fun _ => rfl) rfl) ?_
            refine AOps.call (o_move _ rfl rfl) ?_
            refine AOps.split rfl rfl rfl (fun h29 => ?_) (fun h29 => ?_)
            · skip
              refine AOps.go rfl rfl rfl h29 (o_fieldRef _ rfl fa28_2 rfl rfl) ?_
              refine AOps.go rfl rfl rfl h29 (o_loadRef _ rfl rfl Tryd.sizeOf3 Tryd.isAgg3 rfl rfl rfl) ?_
              refine AOps.go rfl rfl rfl h29 (o_bin _ _ rfl rfl (fun _ => rfl) rfl) ?_
              refine AOps.call (o_pickF _ _ _ rfl h29 rfl rfl) ?_
              refine AOps.call (o_assign _ rfl rfl) ?_
              refine AOps.nil ?_
              refine AWP.ret ?_
              refine postQ.ret1 Tryd.results59 rfl ?_
              simp_all [AV.close, AV.close.closeL, B, I, layB, amB]
              try (intros; omega)
              try rfl
            · skip
              refine AOps.pass rfl rfl rfl h29 rfl ?_
              refine AOps.pass rfl rfl rfl h29 rfl ?_
              refine AOps.pass rfl rfl rfl h29 rfl ?_
              refine AOps.call (o_pickT _ _ _ rfl h29 rfl rfl) ?_
              refine AOps.call (o_assign _ rfl rfl) ?_
              refine AOps.nil ?_
              refine AWP.ret ?_
              refine postQ.ret1 Tryd.results59 rfl ?_
              simp_all [AV.close, AV.close.closeL, B, I, layB, amB]
              try (intros; omega)
              try rfl
        · skip
          refine AHead.pass rfl rfl rfl h20 rfl ?_
          refine AHead.pass rfl rfl rfl h20 rfl ?_
          refine AHead.pass rfl rfl rfl h20 rfl ?_
          refine AHead.pass rfl rfl rfl h20 rfl ?_
          refine AHead.call (o_pickT _ _ _ rfl h20 rfl rfl) rfl ?_
          refine AHead.nil ?_
          refine AOps.nil ?_
          refine AWP.condT rfl ?_
          refine AWP.seq ?_
          refine AWP.region ?_
          refine AOps.call (o_assign _ rfl rfl) ?_
          refine AOps.nil ?_
          refine AWP.ret ?_
          refine postQ.ret1 Tryd.results59 rfl ?_
          simp_all [AV.close, AV.close.closeL, B, I, layB, amB]
          try (intros; omega)
          try rfl
      · skip
        refine AHead.pass rfl rfl rfl h13 rfl ?_
        refine AHead.pass rfl rfl rfl h13 rfl ?_
        refine AHead.pass rfl rfl rfl h13 rfl ?_
        refine AHead.pass rfl rfl rfl h13 rfl ?_
        refine AHead.pass rfl rfl rfl h13 rfl ?_
        refine AHead.pass rfl rfl rfl h13 rfl ?_
        refine AHead.call (o_pickT _ _ _ rfl h13 rfl rfl) rfl ?_
        refine AHead.call (o_move _ rfl rfl) rfl ?_
        refine AHead.pass rfl rfl rfl rfl rfl ?_
        refine AHead.pass rfl rfl rfl rfl rfl ?_
        refine AHead.pass rfl rfl rfl rfl rfl ?_
        refine AHead.pass rfl rfl rfl rfl rfl ?_
        refine AHead.call (o_pickT _ _ _ rfl rfl rfl rfl) rfl ?_
        refine AHead.nil ?_
        refine AOps.nil ?_
        refine AWP.condT rfl ?_
        refine AWP.seq ?_
        refine AWP.region ?_
        refine AOps.call (o_assign _ rfl rfl) ?_
        refine AOps.nil ?_
        refine AWP.ret ?_
        refine postQ.ret1 Tryd.results59 rfl ?_
        simp_all [AV.close, AV.close.closeL, B, I, layB, amB]
        try (intros; omega)
        try rfl
    · skip
      refine AHead.pass rfl rfl rfl h9 rfl ?_
      refine AHead.pass rfl rfl rfl h9 rfl ?_
      refine AHead.pass rfl rfl rfl h9 rfl ?_
      refine AHead.call (o_pickT _ _ _ rfl h9 rfl rfl) rfl ?_
      refine AHead.call (o_move _ rfl rfl) rfl ?_
      refine AHead.pass rfl rfl rfl rfl rfl ?_
      refine AHead.pass rfl rfl rfl rfl rfl ?_
      refine AHead.pass rfl rfl rfl rfl rfl ?_
      refine AHead.pass rfl rfl rfl rfl rfl ?_
      refine AHead.pass rfl rfl rfl rfl rfl ?_
      refine AHead.pass rfl rfl rfl rfl rfl ?_
      refine AHead.call (o_pickT _ _ _ rfl rfl rfl rfl) rfl ?_
      refine AHead.call (o_move _ rfl rfl) rfl ?_
      refine AHead.pass rfl rfl rfl rfl rfl ?_
      refine AHead.pass rfl rfl rfl rfl rfl ?_
      refine AHead.pass rfl rfl rfl rfl rfl ?_
      refine AHead.pass rfl rfl rfl rfl rfl ?_
      refine AHead.call (o_pickT _ _ _ rfl rfl rfl rfl) rfl ?_
      refine AHead.nil ?_
      refine AOps.nil ?_
      refine AWP.condT rfl ?_
      refine AWP.seq ?_
      refine AWP.region ?_
      refine AOps.call (o_assign _ rfl rfl) ?_
      refine AOps.nil ?_
      refine AWP.ret ?_
      refine postQ.ret1 Tryd.results59 rfl ?_
      simp_all [AV.close, AV.close.closeL, B, I, layB, amB]
      try (intros; omega)
      try rfl
  · skip
    refine AHead.pass rfl rfl rfl h5 rfl ?_
    refine AHead.pass rfl rfl rfl h5 rfl ?_
    refine AHead.pass rfl rfl rfl h5 rfl ?_
    refine AHead.call (o_pickT _ _ _ rfl h5 rfl rfl) rfl ?_
    refine AHead.call (o_move _ rfl rfl) rfl ?_
    refine AHead.pass rfl rfl rfl rfl rfl ?_
    refine AHead.pass rfl rfl rfl rfl rfl ?_
    refine AHead.pass rfl rfl rfl rfl rfl ?_
    refine AHead.call (o_pickT _ _ _ rfl rfl rfl rfl) rfl ?_
    refine AHead.call (o_move _ rfl rfl) rfl ?_
    refine AHead.pass rfl rfl rfl rfl rfl ?_
    refine AHead.pass rfl rfl rfl rfl rfl ?_
    refine AHead.pass rfl rfl rfl rfl rfl ?_
    refine AHead.pass rfl rfl rfl rfl rfl ?_
    refine AHead.pass rfl rfl rfl rfl rfl ?_
    refine AHead.pass rfl rfl rfl rfl rfl ?_
    refine AHead.call (o_pickT _ _ _ rfl rfl rfl rfl) rfl ?_
    refine AHead.call (o_move _ rfl rfl) rfl ?_
    refine AHead.pass rfl rfl rfl rfl rfl ?_
    refine AHead.pass rfl rfl rfl rfl rfl ?_
    refine AHead.pass rfl rfl rfl rfl rfl ?_
    refine AHead.pass rfl rfl rfl rfl rfl ?_
    refine AHead.call (o_pickT _ _ _ rfl rfl rfl rfl) rfl ?_
    refine AHead.nil ?_
    refine AOps.nil ?_
    refine AWP.condT rfl ?_
    refine AWP.seq ?_
    refine AWP.region ?_
    refine AOps.call (o_assign _ rfl rfl) ?_
    refine AOps.nil ?_
    refine AWP.ret ?_
    refine postQ.ret1 Tryd.results59 rfl ?_
    simp_all [AV.close, AV.close.closeL, B, I, layB, amB]
    try (intros; omega)
    try rfl

set_option maxRecDepth 20000 in
theorem water_s (l : List Lay) (hl : ∀ x ∈ l, layB x = true) (hn : l.length ≤ 64) : FSpec Tryd.prog 63 [.sl (lays l)] (I (watL l)) (none) := by
  refine FSpec.of_body Tryd.func63 rfl (leB rfl) fun w0 M0 => ?_
  refine AWP.seq ?_
  refine AWP.region ?_
  refine AOps.call (o_assign _ rfl rfl) ?_
  refine AOps.nil ?_
  refine AWP.seq ?_
  refine AWP.region ?_
  refine AOps.call (o_assign _ rfl rfl) ?_
  refine AOps.nil ?_
  refine AWP.seq ?_
  refine AWP.seq ?_
  refine AWP.region ?_
  refine AOps.call (o_move _ rfl rfl) ?_
  refine AOps.call (o_len _ Tryd.underlying22 rfl rfl) ?_
  refine AOps.call (o_move _ rfl rfl) ?_
  refine AOps.nil ?_
  refine AWP.block ?_
  refine AWP.loop (ι := Nat) (fun i => AS.mk' 21 [(3, I (watL (l.take i))), (6, .sl (lays l)), (7, I (lays l).length), (8, I i)] [] [] []) (fun i => i ≤ l.length) (fun i => l.length - i) (0) (Weak.mk' rfl ⟨⟨.refl rfl, rfl⟩, ⟨⟨.refl rfl, rfl⟩, ⟨⟨.refl rfl, rfl⟩, ⟨⟨.refl rfl, rfl⟩, trivial⟩⟩⟩⟩ trivial trivial) (Nat.zero_le _) ?_
  rintro k hk
  try dsimp only at *
  refine AWP.seq ?_
  refine AWP.region ?_
  refine AOps.call (o_bin _ _ rfl rfl (fun _ => rfl) rfl) ?_
  refine AOps.nil ?_
  refine AWP.seq ?_
  refine AWP.cond _ rfl (fun h7 => ?_) (fun h7 => ?_)
  · skip
    have hlt : k < l.length := by simpa [lays] using h7
    have hel := lays_at hlt
    have hb := layB_iff.1 (hl _ (List.getElem_mem hlt))
    have hw := watL_bd (all_take (n := k) hl)
    have hwl : (l.take k).length ≤ 64 := by rw [List.length_take]; omega
    refine AWP.skip ?_
    refine AWP.seq ?_
    refine AWP.block ?_
    refine AWP.seq ?_
    refine AWP.region ?_
    refine AOps.call (o_index _ _ Tryd.underlying22 Tryd.sizeOf28 rfl rfl (by omega) (by assumption) rfl rfl) ?_
    refine AOps.call (o_loadRd _ rfl Tryd.sizeOf28 Tryd.isAgg28 rfl rfl rfl) ?_
    refine AOps.call (o_alloc ze28 rfl rfl) ?_
    refine AOps.cons (o_store _ _ rfl rfl Tryd.sizeOf28 rfl rfl rfl rfl rfl) ?_
    refine AOps.nil ?_
    refine AWP.region ?_
    refine AOps.call (o_move _ rfl rfl) ?_
    refine AOps.call (o_fieldRef _ rfl fa28_0 rfl rfl) ?_
    refine AOps.call (o_loadRef _ rfl rfl Tryd.sizeOf3 Tryd.isAgg3 rfl rfl rfl) ?_
    refine AOps.call (o_fieldRef _ rfl fa28_1 rfl rfl) ?_
    refine AOps.call (o_loadRef _ rfl rfl Tryd.sizeOf3 Tryd.isAgg3 rfl rfl rfl) ?_
    refine AOps.call (o_add _ _ rfl rfl ⟨by (try dsimp only); omega, by (try dsimp only); omega⟩ rfl) ?_
    refine AOps.call (o_add _ _ rfl rfl ⟨by (try dsimp only); omega, by (try dsimp only); omega⟩ rfl) ?_
    refine AOps.call (o_assign _ rfl rfl) ?_
    refine AOps.nil ?_
    refine AWP.region ?_
    refine AOps.call (o_add _ _ rfl rfl ⟨by (try dsimp only); omega, by (try dsimp only); omega⟩ rfl) ?_
    refine AOps.call (o_move _ rfl rfl) ?_
    refine AOps.nil ?_
    refine ⟨k + 1, ?_, (Weak.mk' rfl ⟨⟨.refl (by rw [watL_take hlt]; rfl), rfl⟩, ⟨⟨.refl rfl, rfl⟩, ⟨⟨.refl rfl, rfl⟩, ⟨⟨.refl rfl, rfl⟩, trivial⟩⟩⟩⟩ trivial trivial)⟩
    exact ⟨by omega, by omega⟩
  · skip
    have hkl : k = l.length := by simp [lays] at h7 hk; omega
    subst hkl
    refine AWP.exit ?_
    refine AWP.seq ?_
    refine AWP.region ?_
    refine AOps.call (o_move _ rfl rfl) ?_
    refine AOps.call (o_assign _ rfl rfl) ?_
    refine AOps.nil ?_
    refine AWP.ret ?_
    refine postQ.ret1 Tryd.results63 rfl ?_
    rw [List.take_length]
    rfl

set_option maxRecDepth 20000 in
theorem cold_s (l : List Lay) (hl : ∀ x ∈ l, layB x = true) (hn : l.length ≤ 64) : FSpec Tryd.prog 65 [.sl (lays l)] (I (coldL l)) (none) := by
  refine FSpec.of_body Tryd.func65 rfl (leB rfl) fun w0 M0 => ?_
  refine AWP.seq ?_
  refine AWP.region ?_
  refine AOps.call (o_assign _ rfl rfl) ?_
  refine AOps.nil ?_
  refine AWP.seq ?_
  refine AWP.region ?_
  refine AOps.call (o_assign _ rfl rfl) ?_
  refine AOps.nil ?_
  refine AWP.seq ?_
  refine AWP.seq ?_
  refine AWP.region ?_
  refine AOps.call (o_move _ rfl rfl) ?_
  refine AOps.call (o_len _ Tryd.underlying22 rfl rfl) ?_
  refine AOps.call (o_move _ rfl rfl) ?_
  refine AOps.nil ?_
  refine AWP.block ?_
  refine AWP.loop (ι := Nat) (fun i => AS.mk' 18 [(3, I (coldL (l.take i))), (6, .sl (lays l)), (7, I (lays l).length), (8, I i)] [] [] []) (fun i => i ≤ l.length) (fun i => l.length - i) (0) (Weak.mk' rfl ⟨⟨.refl rfl, rfl⟩, ⟨⟨.refl rfl, rfl⟩, ⟨⟨.refl rfl, rfl⟩, ⟨⟨.refl rfl, rfl⟩, trivial⟩⟩⟩⟩ trivial trivial) (Nat.zero_le _) ?_
  rintro k hk
  try dsimp only at *
  refine AWP.seq ?_
  refine AWP.region ?_
  refine AOps.call (o_bin _ _ rfl rfl (fun _ => rfl) rfl) ?_
  refine AOps.nil ?_
  refine AWP.seq ?_
  refine AWP.cond _ rfl (fun h7 => ?_) (fun h7 => ?_)
  · skip
    have hlt : k < l.length := by simpa [lays] using h7
    have hel := lays_at hlt
    have hb := layB_iff.1 (hl _ (List.getElem_mem hlt))
    have hw := coldL_bd (all_take (n := k) hl)
    have hwl : (l.take k).length ≤ 64 := by rw [List.length_take]; omega
    refine AWP.skip ?_
    refine AWP.seq ?_
    refine AWP.block ?_
    refine AWP.seq ?_
    refine AWP.region ?_
    refine AOps.call (o_index _ _ Tryd.underlying22 Tryd.sizeOf28 rfl rfl (by omega) (by assumption) rfl rfl) ?_
    refine AOps.call (o_loadRd _ rfl Tryd.sizeOf28 Tryd.isAgg28 rfl rfl rfl) ?_
    refine AOps.call (o_alloc ze28 rfl rfl) ?_
    refine AOps.cons (o_store _ _ rfl rfl Tryd.sizeOf28 rfl rfl rfl rfl rfl) ?_
    refine AOps.nil ?_
    refine AWP.region ?_
    refine AOps.call (o_move _ rfl rfl) ?_
    refine AOps.call (o_fieldRef _ rfl fa28_2 rfl rfl) ?_
    refine AOps.call (o_loadRef _ rfl rfl Tryd.sizeOf3 Tryd.isAgg3 rfl rfl rfl) ?_
    refine AOps.call (o_add _ _ rfl rfl ⟨by (try dsimp only); omega, by (try dsimp only); omega⟩ rfl) ?_
    refine AOps.call (o_assign _ rfl rfl) ?_
    refine AOps.nil ?_
    refine AWP.region ?_
    refine AOps.call (o_add _ _ rfl rfl ⟨by (try dsimp only); omega, by (try dsimp only); omega⟩ rfl) ?_
    refine AOps.call (o_move _ rfl rfl) ?_
    refine AOps.nil ?_
    refine ⟨k + 1, ?_, (Weak.mk' rfl ⟨⟨.refl (by rw [coldL_take hlt]; rfl), rfl⟩, ⟨⟨.refl rfl, rfl⟩, ⟨⟨.refl rfl, rfl⟩, ⟨⟨.refl rfl, rfl⟩, trivial⟩⟩⟩⟩ trivial trivial)⟩
    exact ⟨by omega, by omega⟩
  · skip
    have hkl : k = l.length := by simp [lays] at h7 hk; omega
    subst hkl
    refine AWP.exit ?_
    refine AWP.seq ?_
    refine AWP.region ?_
    refine AOps.call (o_move _ rfl rfl) ?_
    refine AOps.call (o_assign _ rfl rfl) ?_
    refine AOps.nil ?_
    refine AWP.ret ?_
    refine postQ.ret1 Tryd.results65 rfl ?_
    rw [List.take_length]
    rfl

set_option maxRecDepth 20000 in
theorem Check_s (p : List Lay) : FSpec Tryd.prog 26 [.agg (eK p)] (I (packE p)) (none) := by
  refine FSpec.of_body Tryd.func26 rfl (leB rfl) fun w0 M0 => ?_
  have hpl := lays_len p
  refine AWP.seq ?_
  refine AWP.region ?_
  refine AOps.call (o_box _ rfl rfl rfl) ?_
  refine AOps.call (o_assign _ rfl rfl) ?_
  refine AOps.nil ?_
  refine AWP.seq ?_
  refine AWP.seq ?_
  refine AWP.region ?_
  refine AOps.call (o_fieldRef _ rfl fa24_0 rfl rfl) ?_
  refine AOps.call (o_loadRef _ rfl rfl Tryd.sizeOf22 Tryd.isAgg22 rfl rfl rfl) ?_
  refine AOps.call (o_len _ Tryd.underlying22 rfl rfl) ?_
  refine AOps.call (o_bin _ _ rfl rfl (fun _ => rfl) rfl) ?_
  refine AOps.nil ?_
  refine AWP.cond _ rfl (fun h7 => ?_) (fun h7 => ?_)
  · skip
    have hbig : 64 < p.length := by have := of_decide_eq_true h7; omega
    refine AWP.seq ?_
    refine AWP.region ?_
    refine AOps.call (o_assign _ rfl rfl) ?_
    refine AOps.nil ?_
    refine AWP.ret ?_
    refine postQ.ret1 Tryd.results26 rfl ?_
    first
    | (rw [show packE p = 0 from packE_0.2 ⟨h64, hall, hw, hc⟩]; rfl)
    | (unfold packE; simp_all [AV.close, AV.close.closeL, B, I]; done)
    | (unfold packE; simp_all [AV.close, AV.close.closeL, B, I]; intros; omega)
  · skip
    have h64 : p.length ≤ 64 := by have := of_decide_eq_false h7; omega
    refine AWP.skip ?_
    refine AWP.seq ?_
    refine AWP.seq ?_
    refine AWP.region ?_
    refine AOps.call (o_fieldRef _ rfl fa24_0 rfl rfl) ?_
    refine AOps.call (o_loadRef _ rfl rfl Tryd.sizeOf22 Tryd.isAgg22 rfl rfl rfl) ?_
    refine AOps.call (o_len _ Tryd.underlying22 rfl rfl) ?_
    refine AOps.call (o_move _ rfl rfl) ?_
    refine AOps.nil ?_
    refine AWP.block ?_
    refine AWP.loop (ι := Nat) (fun i => AS.mk' 30 [(1, .ref (1, 0) 0), (10, .sl (lays p)), (11, I (lays p).length), (12, I i)] [((1, 0), eK p)] [] [(1, 1)]) (fun i => i ≤ p.length ∧ ∀ (j : Nat) (h : j < p.length), j < i → layB p[j] = true) (fun i => p.length - i) (0) (Weak.mk' rfl ⟨⟨.refl rfl, rfl⟩, ⟨⟨.refl rfl, rfl⟩, ⟨⟨.refl rfl, rfl⟩, ⟨⟨.refl rfl, rfl⟩, trivial⟩⟩⟩⟩ ⟨⟨rfl, rfl, rfl⟩, trivial⟩ trivial) (⟨Nat.zero_le _, fun _ _ h => absurd h (Nat.not_lt_zero _)⟩) ?_
    rintro k ⟨hk, hv⟩
    try dsimp only at *
    refine AWP.seq ?_
    refine AWP.region ?_
    refine AOps.call (o_bin _ _ rfl rfl (fun _ => rfl) rfl) ?_
    refine AOps.nil ?_
    refine AWP.seq ?_
    refine AWP.cond _ rfl (fun h14 => ?_) (fun h14 => ?_)
    · skip
      have hlt : k < p.length := by simpa [lays] using h14
      have hel := lays_at hlt
      refine AWP.skip ?_
      refine AWP.seq ?_
      refine AWP.block ?_
      refine AWP.seq ?_
      refine AWP.region ?_
      refine AOps.call (o_index _ _ Tryd.underlying22 Tryd.sizeOf28 rfl rfl (by omega) (by assumption) rfl rfl) ?_
      refine AOps.call (o_loadRd _ rfl Tryd.sizeOf28 Tryd.isAgg28 rfl rfl rfl) ?_
      refine AOps.call (o_alloc ze28 rfl rfl) ?_
      refine AOps.cons (o_store _ _ rfl rfl Tryd.sizeOf28 rfl rfl rfl rfl rfl) ?_
      refine AOps.nil ?_
      refine AWP.seq ?_
      refine AWP.region ?_
      refine AOps.call (o_loadRef _ rfl rfl Tryd.sizeOf28 Tryd.isAgg28 rfl rfl rfl) ?_
      refine AOps.call (o_call (validLayer_s _) Tryd.call59 rfl rfl) ?_
      refine AOps.call (o_un _ rfl (fun _ => rfl) rfl) ?_
      refine AOps.nil ?_
      refine AWP.cond _ rfl (fun h21 => ?_) (fun h21 => ?_)
      · skip
        have hbk : layB p[k] = false := by simpa using h21
        have hallB : p.all layB = false := by
          cases hc : p.all layB with
          | false => rfl
          | true => rw [List.all_eq_true.1 hc _ (List.getElem_mem hlt)] at hbk; cases hbk
        refine AWP.seq ?_
        refine AWP.region ?_
        refine AOps.call (o_assign _ rfl rfl) ?_
        refine AOps.nil ?_
        refine AWP.ret ?_
        refine postQ.ret1 Tryd.results26 rfl ?_
        first
        | (rw [show packE p = 0 from packE_0.2 ⟨h64, hall, hw, hc⟩]; rfl)
        | (unfold packE; simp_all [AV.close, AV.close.closeL, B, I]; done)
        | (unfold packE; simp_all [AV.close, AV.close.closeL, B, I]; intros; omega)
      · skip
        have hbk : layB p[k] = true := by simpa using h21
        refine AWP.skip ?_
        refine AWP.region ?_
        refine AOps.call (o_add _ _ rfl rfl ⟨by (try dsimp only); omega, by (try dsimp only); omega⟩ rfl) ?_
        refine AOps.call (o_move _ rfl rfl) ?_
        refine AOps.nil ?_
        refine ⟨k + 1, ?_, (Weak.mk' rfl ⟨⟨.refl rfl, rfl⟩, ⟨⟨.refl rfl, rfl⟩, ⟨⟨.refl rfl, rfl⟩, ⟨⟨.refl rfl, rfl⟩, trivial⟩⟩⟩⟩ ⟨⟨rfl, rfl, rfl⟩, trivial⟩ trivial)⟩
        exact ⟨⟨by omega, fun j hj hjk => by
          by_cases h : j < k
          · exact hv j hj h
          · obtain rfl : j = k := by omega
            exact hbk⟩, by omega⟩
    · skip
      have hall : ∀ x ∈ p, layB x = true := fun x hx => by
        obtain ⟨j, hj, rfl⟩ := List.mem_iff_getElem.1 hx
        exact hv j hj (by have := of_decide_eq_false h14; omega)
      have hallB : p.all layB = true := List.all_eq_true.2 hall
      refine AWP.exit ?_
      refine AWP.seq ?_
      refine AWP.seq ?_
      refine AWP.region ?_
      refine AOps.call (o_fieldRef _ rfl fa24_0 rfl rfl) ?_
      refine AOps.call (o_loadRef _ rfl rfl Tryd.sizeOf22 Tryd.isAgg22 rfl rfl rfl) ?_
      refine AOps.call (o_call (water_s _ hall h64) Tryd.call63 rfl rfl) ?_
      refine AOps.call (o_bin _ _ rfl rfl (fun _ => rfl) rfl) ?_
      refine AOps.call (o_move _ rfl rfl) ?_
      refine AOps.split rfl rfl rfl (fun h28 => ?_) (fun h28 => ?_)
      · skip
        have hw : watL p ≤ 65536 := by have := of_decide_eq_false h28; omega
        refine AOps.go rfl rfl rfl h28 (o_fieldRef _ rfl fa24_0 rfl rfl) ?_
        refine AOps.go rfl rfl rfl h28 (o_loadRef _ rfl rfl Tryd.sizeOf22 Tryd.isAgg22 rfl rfl rfl) ?_
        refine AOps.go rfl rfl rfl h28 (o_call (cold_s _ hall h64) Tryd.call65 rfl rfl) ?_
        refine AOps.go rfl rfl rfl h28 (o_bin _ _ rfl rfl (fun _ => rfl) rfl) ?_
        refine AOps.call (o_pickF _ _ _ rfl h28 rfl rfl) ?_
        refine AOps.nil ?_
        refine AWP.cond _ rfl (fun h33 => ?_) (fun h33 => ?_)
        · skip
          refine AWP.seq ?_
          refine AWP.region ?_
          refine AOps.call (o_assign _ rfl rfl) ?_
          refine AOps.nil ?_
          refine AWP.ret ?_
          refine postQ.ret1 Tryd.results26 rfl ?_
          first
          | (rw [show packE p = 0 from packE_0.2 ⟨h64, hall, hw, hc⟩]; rfl)
          | (unfold packE; simp_all [AV.close, AV.close.closeL, B, I]; done)
          | (unfold packE; simp_all [AV.close, AV.close.closeL, B, I]; intros; omega)
        · skip
          have hc : coldL p ≤ 65536 := by have := of_decide_eq_false h33; omega
          refine AWP.skip ?_
          refine AWP.seq ?_
          refine AWP.region ?_
          refine AOps.call (o_assign _ rfl rfl) ?_
          refine AOps.nil ?_
          refine AWP.ret ?_
          refine postQ.ret1 Tryd.results26 rfl ?_
          first
          | (rw [show packE p = 0 from packE_0.2 ⟨h64, hall, hw, hc⟩]; rfl)
          | (unfold packE; simp_all [AV.close, AV.close.closeL, B, I]; done)
          | (unfold packE; simp_all [AV.close, AV.close.closeL, B, I]; intros; omega)
      · skip
        refine AOps.pass rfl rfl rfl h28 rfl ?_
        refine AOps.pass rfl rfl rfl h28 rfl ?_
        refine AOps.pass rfl rfl rfl h28 rfl ?_
        refine AOps.pass rfl rfl rfl h28 rfl ?_
        refine AOps.call (o_pickT _ _ _ rfl h28 rfl rfl) ?_
        refine AOps.nil ?_
        refine AWP.condT rfl ?_
        refine AWP.seq ?_
        refine AWP.region ?_
        refine AOps.call (o_assign _ rfl rfl) ?_
        refine AOps.nil ?_
        refine AWP.ret ?_
        refine postQ.ret1 Tryd.results26 rfl ?_
        first
        | (rw [show packE p = 0 from packE_0.2 ⟨h64, hall, hw, hc⟩]; rfl)
        | (unfold packE; simp_all [AV.close, AV.close.closeL, B, I]; done)
        | (unfold packE; simp_all [AV.close, AV.close.closeL, B, I]; intros; omega)

set_option maxRecDepth 20000 in
theorem CheckStep_s (s : Stp) : FSpec Tryd.prog 28 [.agg (eT s)] (I (stepE s)) (none) := by
  refine FSpec.of_body Tryd.func28 rfl (leB rfl) fun w0 M0 => ?_
  refine AWP.seq ?_
  refine AWP.region ?_
  refine AOps.call (o_box _ rfl rfl rfl) ?_
  refine AOps.call (o_assign _ rfl rfl) ?_
  refine AOps.nil ?_
  refine AWP.seq ?_
  refine AWP.seq ?_
  refine AWP.region ?_
  refine AOps.call (o_fieldRef _ rfl fa26_0 rfl rfl) ?_
  refine AOps.call (o_loadRef _ rfl rfl Tryd.sizeOf3 Tryd.isAgg3 rfl rfl rfl) ?_
  refine AOps.call (o_bin _ _ rfl rfl (fun _ => rfl) rfl) ?_
  refine AOps.call (o_move _ rfl rfl) ?_
  refine AOps.split rfl rfl rfl (fun h6 => ?_) (fun h6 => ?_)
  · skip
    refine AOps.go rfl rfl rfl h6 (o_fieldRef _ rfl fa26_0 rfl rfl) ?_
    refine AOps.go rfl rfl rfl h6 (o_loadRef _ rfl rfl Tryd.sizeOf3 Tryd.isAgg3 rfl rfl rfl) ?_
    refine AOps.go rfl rfl rfl h6 (o_bin _ _ rfl rfl (fun _ => rfl) rfl) ?_
    refine AOps.call (o_pickF _ _ _ rfl h6 rfl rfl) ?_
    refine AOps.call (o_move _ rfl rfl) ?_
    refine AOps.split rfl rfl rfl (fun h10 => ?_) (fun h10 => ?_)
    · skip
      refine AOps.go rfl rfl rfl h10 (o_fieldRef _ rfl fa26_1 rfl rfl) ?_
      refine AOps.go rfl rfl rfl h10 (o_loadRef _ rfl rfl Tryd.sizeOf3 Tryd.isAgg3 rfl rfl rfl) ?_
      refine AOps.go rfl rfl rfl h10 (o_call (isAmount_s _) Tryd.call67 rfl rfl) ?_
      refine AOps.go rfl rfl rfl h10 (o_un _ rfl (fun _ => rfl) rfl) ?_
      refine AOps.call (o_pickF _ _ _ rfl h10 rfl rfl) ?_
      refine AOps.call (o_move _ rfl rfl) ?_
      refine AOps.split rfl rfl rfl (fun h15 => ?_) (fun h15 => ?_)
      · skip
        refine AOps.go rfl rfl rfl h15 (o_fieldRef _ rfl fa26_2 rfl rfl) ?_
        refine AOps.go rfl rfl rfl h15 (o_loadRef _ rfl rfl Tryd.sizeOf3 Tryd.isAgg3 rfl rfl rfl) ?_
        refine AOps.go rfl rfl rfl h15 (o_call (isAmount_s _) Tryd.call67 rfl rfl) ?_
        refine AOps.go rfl rfl rfl h15 (o_un _ rfl (fun _ => rfl) rfl) ?_
        refine AOps.call (o_pickF _ _ _ rfl h15 rfl rfl) ?_
        refine AOps.nil ?_
        refine AWP.cond _ rfl (fun h20 => ?_) (fun h20 => ?_)
        · skip
          refine AWP.seq ?_
          refine AWP.region ?_
          refine AOps.call (o_assign _ rfl rfl) ?_
          refine AOps.nil ?_
          refine AWP.ret ?_
          refine postQ.ret1 Tryd.results28 rfl ?_
          unfold stepE
          simp_all [AV.close, AV.close.closeL, B, I, amB]
          try (intros; omega)
        · skip
          refine AWP.skip ?_
          refine AWP.seq ?_
          refine AWP.seq ?_
          refine AWP.region ?_
          refine AOps.call (o_fieldRef _ rfl fa26_0 rfl rfl) ?_
          refine AOps.call (o_loadRef _ rfl rfl Tryd.sizeOf3 Tryd.isAgg3 rfl rfl rfl) ?_
          refine AOps.call (o_bin _ _ rfl rfl (fun _ => rfl) rfl) ?_
          refine AOps.call (o_move _ rfl rfl) ?_
          refine AOps.split rfl rfl rfl (fun h25 => ?_) (fun h25 => ?_)
          · skip
            refine AOps.go rfl rfl rfl h25 (o_fieldRef _ rfl fa26_2 rfl rfl) ?_
            refine AOps.go rfl rfl rfl h25 (o_loadRef _ rfl rfl Tryd.sizeOf3 Tryd.isAgg3 rfl rfl rfl) ?_
            refine AOps.go rfl rfl rfl h25 (o_bin _ _ rfl rfl (fun _ => rfl) rfl) ?_
            refine AOps.call (o_pickT _ _ _ rfl h25 rfl rfl) ?_
            refine AOps.nil ?_
            refine AWP.cond _ rfl (fun h29 => ?_) (fun h29 => ?_)
            · skip
              refine AWP.seq ?_
              refine AWP.region ?_
              refine AOps.call (o_assign _ rfl rfl) ?_
              refine AOps.nil ?_
              refine AWP.ret ?_
              refine postQ.ret1 Tryd.results28 rfl ?_
              unfold stepE
              simp_all [AV.close, AV.close.closeL, B, I, amB]
              try (intros; omega)
            · skip
              refine AWP.skip ?_
              refine AWP.seq ?_
              refine AWP.region ?_
              refine AOps.call (o_assign _ rfl rfl) ?_
              refine AOps.nil ?_
              refine AWP.ret ?_
              refine postQ.ret1 Tryd.results28 rfl ?_
              unfold stepE
              simp_all [AV.close, AV.close.closeL, B, I, amB]
              try (intros; omega)
          · skip
            refine AOps.pass rfl rfl rfl h25 rfl ?_
            refine AOps.pass rfl rfl rfl h25 rfl ?_
            refine AOps.pass rfl rfl rfl h25 rfl ?_
            refine AOps.call (o_pickF _ _ _ rfl h25 rfl rfl) ?_
            refine AOps.nil ?_
            refine AWP.condF rfl ?_
            refine AWP.skip ?_
            refine AWP.seq ?_
            refine AWP.region ?_
            refine AOps.call (o_assign _ rfl rfl) ?_
            refine AOps.nil ?_
            refine AWP.ret ?_
            refine postQ.ret1 Tryd.results28 rfl ?_
            unfold stepE
            simp_all [AV.close, AV.close.closeL, B, I, amB]
            try (intros; omega)
      · skip
        refine AOps.pass rfl rfl rfl h15 rfl ?_
        refine AOps.pass rfl rfl rfl h15 rfl ?_
        refine AOps.pass rfl rfl rfl h15 rfl ?_
        refine AOps.pass rfl rfl rfl h15 rfl ?_
        refine AOps.call (o_pickT _ _ _ rfl h15 rfl rfl) ?_
        refine AOps.nil ?_
        refine AWP.condT rfl ?_
        refine AWP.seq ?_
        refine AWP.region ?_
        refine AOps.call (o_assign _ rfl rfl) ?_
        refine AOps.nil ?_
        refine AWP.ret ?_
        refine postQ.ret1 Tryd.results28 rfl ?_
        unfold stepE
        simp_all [AV.close, AV.close.closeL, B, I, amB]
        try (intros; omega)
    · skip
      refine AOps.pass rfl rfl rfl h10 rfl ?_
      refine AOps.pass rfl rfl rfl h10 rfl ?_
      refine AOps.pass rfl rfl rfl h10 rfl ?_
      refine AOps.pass rfl rfl rfl h10 rfl ?_
      refine AOps.call (o_pickT _ _ _ rfl h10 rfl rfl) ?_
      refine AOps.call (o_move _ rfl rfl) ?_
      refine AOps.pass rfl rfl rfl rfl rfl ?_
      refine AOps.pass rfl rfl rfl rfl rfl ?_
      refine AOps.pass rfl rfl rfl rfl rfl ?_
      refine AOps.pass rfl rfl rfl rfl rfl ?_
      refine AOps.call (o_pickT _ _ _ rfl rfl rfl rfl) ?_
      refine AOps.nil ?_
      refine AWP.condT rfl ?_
      refine AWP.seq ?_
      refine AWP.region ?_
      refine AOps.call (o_assign _ rfl rfl) ?_
      refine AOps.nil ?_
      refine AWP.ret ?_
      refine postQ.ret1 Tryd.results28 rfl ?_
      unfold stepE
      simp_all [AV.close, AV.close.closeL, B, I, amB]
      try (intros; omega)
  · skip
    refine AOps.pass rfl rfl rfl h6 rfl ?_
    refine AOps.pass rfl rfl rfl h6 rfl ?_
    refine AOps.pass rfl rfl rfl h6 rfl ?_
    refine AOps.call (o_pickT _ _ _ rfl h6 rfl rfl) ?_
    refine AOps.call (o_move _ rfl rfl) ?_
    refine AOps.pass rfl rfl rfl rfl rfl ?_
    refine AOps.pass rfl rfl rfl rfl rfl ?_
    refine AOps.pass rfl rfl rfl rfl rfl ?_
    refine AOps.pass rfl rfl rfl rfl rfl ?_
    refine AOps.call (o_pickT _ _ _ rfl rfl rfl rfl) ?_
    refine AOps.call (o_move _ rfl rfl) ?_
    refine AOps.pass rfl rfl rfl rfl rfl ?_
    refine AOps.pass rfl rfl rfl rfl rfl ?_
    refine AOps.pass rfl rfl rfl rfl rfl ?_
    refine AOps.pass rfl rfl rfl rfl rfl ?_
    refine AOps.call (o_pickT _ _ _ rfl rfl rfl rfl) ?_
    refine AOps.nil ?_
    refine AWP.condT rfl ?_
    refine AWP.seq ?_
    refine AWP.region ?_
    refine AOps.call (o_assign _ rfl rfl) ?_
    refine AOps.nil ?_
    refine AWP.ret ?_
    refine postQ.ret1 Tryd.results28 rfl ?_
    unfold stepE
    simp_all [AV.close, AV.close.closeL, B, I, amB]
    try (intros; omega)

end Go.Proofs.YtgagfmjpmdgfdaaDoor
