import Derived.Test.YtphoomnonenalaaDoorC18
set_option linter.unusedSimpArgs false
set_option linter.unusedVariables false
namespace Go.Proofs.YtphoomnonenalaaDoor
open Go.Ab

structure HoldsH (s : Scl) (fr : Int) (l : List Int) : Prop where
  bd : ∀ (i : Nat) (h : i < l.length), -1048576 ≤ l[i] ∧ l[i] ≤ 1048576
  rate : ∀ (i : Nat) (h : i + 1 < l.length), l[i + 1] - l[i] ≤ s.rate ∧ l[i] - l[i + 1] ≤ s.rate
  day : ∀ t ∈ s.tests, 0 ≤ t.day ∧ t.day ≤ 1048576
  test : ∀ t ∈ s.tests, ∀ (i : Nat) (h : i < l.length), t.day - fr = i → t.lo ≤ l[i] ∧ l[i] ≤ t.hi
theorem ints_atI {l : List Int} {x : Int} (h : x.toNat < l.length) : (ints l)[x.toNat]? = some [I l[x.toNat]] := by simp [ints, h]

set_option maxRecDepth 20000 in
theorem holds_s (s : Scl) (fr : Int) (l : List Int) (hl : l.length ≤ 1000000) (hf : 0 ≤ fr ∧ fr ≤ 1048576) (H : HoldsH s fr l) (htl : s.tests.length ≤ 1000000) : FSpec Tryd.prog 37 [.agg (eS s), I fr, .sl (ints l)] (B true) (none) := by
  refine FSpec.of_body Tryd.func37 rfl (leB rfl) fun w0 M0 => ?_
  have hil := ints_len l
  have htls := tests_len s.tests
  refine AWP.seq ?_
  refine AWP.region ?_
  refine AOps.call (o_box _ rfl rfl rfl) ?_
  refine AOps.call (o_assign _ rfl rfl) ?_
  refine AOps.nil ?_
  refine AWP.seq ?_
  refine AWP.seq ?_
  refine AWP.region ?_
  refine AOps.call (o_move _ rfl rfl) ?_
  refine AOps.call (o_len _ Tryd.underlying45 rfl rfl) ?_
  refine AOps.call (o_move _ rfl rfl) ?_
  refine AOps.nil ?_
  refine AWP.block ?_
  refine AWP.loop (ι := Nat) (fun i => AS.mk' 92 [(1, I fr), (2, .sl (ints l)), (3, .ref (3, 0) 0), (12, .sl (ints l)), (13, I (ints l).length), (14, I i)] [((3, 0), eS s)] [] [(3, 1)]) (fun i => i ≤ l.length) (fun i => l.length - i) (0) (Weak.mk' rfl ⟨⟨.refl rfl, rfl⟩, ⟨⟨.refl rfl, rfl⟩, ⟨⟨.refl rfl, rfl⟩, ⟨⟨.refl rfl, rfl⟩, ⟨⟨.refl rfl, rfl⟩, ⟨⟨.refl rfl, rfl⟩, trivial⟩⟩⟩⟩⟩⟩ ⟨⟨rfl, rfl, rfl⟩, trivial⟩ trivial) (Nat.zero_le _) ?_
  rintro k hk
  try dsimp only at *
  refine AWP.seq ?_
  refine AWP.region ?_
  refine AOps.call (o_bin _ _ rfl rfl (fun _ => rfl) rfl) ?_
  refine AOps.nil ?_
  refine AWP.seq ?_
  refine AWP.cond _ rfl (fun h6 => ?_) (fun h6 => ?_)
  · skip
    have hlt : k < l.length := by have hq := of_decide_eq_true h6; omega
    have hel := ints_at hlt
    have hbk := H.bd k hlt
    refine AWP.skip ?_
    refine AWP.seq ?_
    refine AWP.block ?_
    refine AWP.seq ?_
    refine AWP.region ?_
    refine AOps.call (o_move _ rfl rfl) ?_
    refine AOps.call (o_index _ _ Tryd.underlying45 Tryd.sizeOf3 rfl rfl (by omega) hel rfl rfl) ?_
    refine AOps.call (o_loadRd _ rfl Tryd.sizeOf3 Tryd.isAgg3 rfl rfl rfl) ?_
    refine AOps.call (o_assign _ rfl rfl) ?_
    refine AOps.call (o_assign _ rfl rfl) ?_
    refine AOps.nil ?_
    refine AWP.seq ?_
    refine AWP.drawn 34 mixed (by kernel_rfl) ?_
    refine AHead.call (o_move _ rfl rfl) rfl ?_
    refine AHead.call (o_bin _ _ rfl rfl (fun _ => rfl) rfl) rfl ?_
    refine AHead.call (o_move _ rfl rfl) rfl ?_
    refine AHead.split rfl rfl rfl (fun h10 => ?_) (fun h10 => ?_)
    · skip
      refine AHead.go rfl rfl rfl h10 (o_move _ rfl rfl) rfl ?_
      refine AHead.go rfl rfl rfl h10 (o_bin _ _ rfl rfl (fun _ => rfl) rfl) rfl ?_
      refine AHead.call (o_pickF _ _ _ rfl h10 rfl rfl) rfl ?_
      refine AHead.call (o_move _ rfl rfl) rfl ?_
      refine AHead.split rfl rfl rfl (fun h12 => ?_) (fun h12 => ?_)
      · skip
        refine AHead.go rfl rfl rfl h12 (o_move _ rfl rfl) rfl ?_
        refine AHead.go rfl rfl rfl h12 (o_bin _ _ rfl rfl (fun _ => rfl) rfl) rfl ?_
        refine AHead.go rfl rfl rfl h12 (o_move _ rfl rfl) rfl ?_
        refine AHead.split rfl rfl rfl (fun h14 => ?_) (fun h14 => ?_)
        · skip
          have hk0 : 0 < k := by have hq := of_decide_eq_true h14; omega
          have hlt1 : k - 1 < l.length := by omega
          have hel1 : (ints l)[((k : Int) - 1).toNat]? = some [I l[k - 1]] := by rw [show ((k : Int) - 1).toNat = k - 1 by omega]; simp [ints, hlt1]
          have hb1 := H.bd _ hlt1
          have hrt : l[k] - l[k - 1] ≤ s.rate ∧ l[k - 1] - l[k] ≤ s.rate := by
            obtain ⟨q, rfl⟩ : ∃ q, k = q + 1 := ⟨k - 1, by omega⟩
            exact H.rate q hlt
          refine AHead.go rfl rfl rfl h14 (o_move _ rfl rfl) rfl ?_
          refine AHead.go rfl rfl rfl h14 (o_move _ rfl rfl) rfl ?_
          refine AHead.go rfl rfl rfl h14 (o_move _ rfl rfl) rfl ?_
          refine AHead.go rfl rfl rfl h14 (o_sub _ _ rfl rfl ⟨by (try dsimp only); omega, by (try dsimp only); omega⟩ rfl) rfl ?_
          refine AHead.go rfl rfl rfl h14 (o_index _ _ Tryd.underlying45 Tryd.sizeOf3 rfl rfl (by omega) hel1 rfl rfl) rfl ?_
          refine AHead.go rfl rfl rfl h14 (o_loadRd _ rfl Tryd.sizeOf3 Tryd.isAgg3 rfl rfl rfl) rfl ?_
          refine AHead.go rfl rfl rfl h14 (o_sub _ _ rfl rfl ⟨by (try dsimp only); omega, by (try dsimp only); omega⟩ rfl) rfl ?_
          refine AHead.go rfl rfl rfl h14 (o_fieldRef _ rfl fa24_1 rfl rfl) rfl ?_
          refine AHead.go rfl rfl rfl h14 (o_loadRef _ rfl rfl Tryd.sizeOf3 Tryd.isAgg3 rfl rfl rfl) rfl ?_
          refine AHead.go rfl rfl rfl h14 (o_bin _ _ rfl rfl (fun _ => rfl) rfl) rfl ?_
          refine AHead.go rfl rfl rfl h14 (o_move _ rfl rfl) rfl ?_
          refine AHead.split rfl rfl rfl (fun h23 => ?_) (fun h23 => ?_)
          · skip
            refine AHead.go rfl rfl rfl h23 (o_move _ rfl rfl) rfl ?_
            refine AHead.go rfl rfl rfl h23 (o_move _ rfl rfl) rfl ?_
            refine AHead.go rfl rfl rfl h23 (o_sub _ _ rfl rfl ⟨by (try dsimp only); omega, by (try dsimp only); omega⟩ rfl) rfl ?_
            refine AHead.go rfl rfl rfl h23 (o_index _ _ Tryd.underlying45 Tryd.sizeOf3 rfl rfl (by omega) hel1 rfl rfl) rfl ?_
            refine AHead.go rfl rfl rfl h23 (o_loadRd _ rfl Tryd.sizeOf3 Tryd.isAgg3 rfl rfl rfl) rfl ?_
            refine AHead.go rfl rfl rfl h23 (o_move _ rfl rfl) rfl ?_
            refine AHead.go rfl rfl rfl h23 (o_sub _ _ rfl rfl ⟨by (try dsimp only); omega, by (try dsimp only); omega⟩ rfl) rfl ?_
            refine AHead.go rfl rfl rfl h23 (o_fieldRef _ rfl fa24_1 rfl rfl) rfl ?_
            refine AHead.go rfl rfl rfl h23 (o_loadRef _ rfl rfl Tryd.sizeOf3 Tryd.isAgg3 rfl rfl rfl) rfl ?_
            refine AHead.go rfl rfl rfl h23 (o_bin _ _ rfl rfl (fun _ => rfl) rfl) rfl ?_
            refine AHead.go rfl rfl rfl h14 (o_pickF _ _ _ rfl h23 rfl rfl) rfl ?_
            refine AHead.go rfl rfl rfl h12 (o_pickT _ _ _ rfl h14 rfl rfl) rfl ?_
            refine AHead.call (o_pickF _ _ _ rfl h12 rfl rfl) rfl ?_
            refine AHead.nil ?_
            refine AOps.nil ?_
            refine AWP.cond _ rfl (fun h32 => ?_) (fun h32 => ?_)
            · skip
              exfalso
              have hq := of_decide_eq_true h32
              omega
            · skip
              refine AWP.skip ?_
              refine AWP.region ?_
              refine AOps.call (o_add _ _ rfl rfl ⟨by (try dsimp only); omega, by (try dsimp only); omega⟩ rfl) ?_
              refine AOps.call (o_move _ rfl rfl) ?_
              refine AOps.nil ?_
              refine ⟨k + 1, ?_, (Weak.mk' rfl ⟨⟨.refl rfl, rfl⟩, ⟨⟨.refl rfl, rfl⟩, ⟨⟨.refl rfl, rfl⟩, ⟨⟨.refl rfl, rfl⟩, ⟨⟨.refl rfl, rfl⟩, ⟨⟨.refl rfl, rfl⟩, trivial⟩⟩⟩⟩⟩⟩ ⟨⟨rfl, rfl, rfl⟩, trivial⟩ trivial)⟩
              exact ⟨by omega, by omega⟩
          · skip
            exfalso
            have hq := of_decide_eq_true h23
            omega
        · skip
          refine AHead.pass rfl rfl rfl h14 rfl ?_
          refine AHead.pass rfl rfl rfl h14 rfl ?_
          refine AHead.pass rfl rfl rfl h14 rfl ?_
          refine AHead.pass rfl rfl rfl h14 rfl ?_
          refine AHead.pass rfl rfl rfl h14 rfl ?_
          refine AHead.pass rfl rfl rfl h14 rfl ?_
          refine AHead.pass rfl rfl rfl h14 rfl ?_
          refine AHead.pass rfl rfl rfl h14 rfl ?_
          refine AHead.pass rfl rfl rfl h14 rfl ?_
          refine AHead.pass rfl rfl rfl h14 rfl ?_
          refine AHead.pass rfl rfl rfl h14 rfl ?_
          refine AHead.passU rfl rfl rfl rfl ?_
          refine AHead.passU rfl rfl rfl rfl ?_
          refine AHead.passU rfl rfl rfl rfl ?_
          refine AHead.passU rfl rfl rfl rfl ?_
          refine AHead.passU rfl rfl rfl rfl ?_
          refine AHead.passU rfl rfl rfl rfl ?_
          refine AHead.passU rfl rfl rfl rfl ?_
          refine AHead.passU rfl rfl rfl rfl ?_
          refine AHead.passU rfl rfl rfl rfl ?_
          refine AHead.passU rfl rfl rfl rfl ?_
          refine AHead.pass rfl rfl rfl h14 rfl ?_
          refine AHead.go rfl rfl rfl h12 (o_pickF _ _ _ rfl h14 rfl rfl) rfl ?_
          refine AHead.call (o_pickF _ _ _ rfl h12 rfl rfl) rfl ?_
          refine AHead.nil ?_
          refine AOps.nil ?_
          refine AWP.condF rfl ?_
          refine AWP.skip ?_
          refine AWP.region ?_
          refine AOps.call (o_add _ _ rfl rfl ⟨by (try dsimp only); omega, by (try dsimp only); omega⟩ rfl) ?_
          refine AOps.call (o_move _ rfl rfl) ?_
          refine AOps.nil ?_
          refine ⟨k + 1, ?_, (Weak.mk' rfl ⟨⟨.refl rfl, rfl⟩, ⟨⟨.refl rfl, rfl⟩, ⟨⟨.refl rfl, rfl⟩, ⟨⟨.refl rfl, rfl⟩, ⟨⟨.refl rfl, rfl⟩, ⟨⟨.refl rfl, rfl⟩, trivial⟩⟩⟩⟩⟩⟩ ⟨⟨rfl, rfl, rfl⟩, trivial⟩ trivial)⟩
          exact ⟨by omega, by omega⟩
      · skip
        exfalso
        have hq := of_decide_eq_true h12
        omega
    · skip
      exfalso
      have hq := of_decide_eq_true h10
      omega
  · skip
    refine AWP.exit ?_
    refine AWP.seq ?_
    refine AWP.seq ?_
    refine AWP.region ?_
    refine AOps.call (o_fieldRef _ rfl fa24_2 rfl rfl) ?_
    refine AOps.call (o_loadRef _ rfl rfl Tryd.sizeOf22 Tryd.isAgg22 rfl rfl rfl) ?_
    refine AOps.call (o_len _ Tryd.underlying22 rfl rfl) ?_
    refine AOps.call (o_move _ rfl rfl) ?_
    refine AOps.nil ?_
    refine AWP.block ?_
    refine AWP.loop (ι := Nat) (fun i => AS.mk' 92 [(1, I fr), (2, .sl (ints l)), (55, .sl (tests s.tests)), (56, I (tests s.tests).length), (57, I i)] [] [] []) (fun i => i ≤ s.tests.length) (fun i => s.tests.length - i) (0) (Weak.mk' rfl ⟨⟨.refl rfl, rfl⟩, ⟨⟨.refl rfl, rfl⟩, ⟨⟨.refl rfl, rfl⟩, ⟨⟨.refl rfl, rfl⟩, ⟨⟨.refl rfl, rfl⟩, trivial⟩⟩⟩⟩⟩ trivial trivial) (Nat.zero_le _) ?_
    rintro k hk
    try dsimp only at *
    refine AWP.seq ?_
    refine AWP.region ?_
    refine AOps.call (o_bin _ _ rfl rfl (fun _ => rfl) rfl) ?_
    refine AOps.nil ?_
    refine AWP.seq ?_
    refine AWP.cond _ rfl (fun h40 => ?_) (fun h40 => ?_)
    · skip
      have hlt : k < s.tests.length := by have hq := of_decide_eq_true h40; omega
      have hel := tests_get hlt
      have hdt := H.day _ (List.getElem_mem hlt)
      refine AWP.skip ?_
      refine AWP.seq ?_
      refine AWP.block ?_
      refine AWP.seq ?_
      refine AWP.region ?_
      refine AOps.call (o_index _ _ Tryd.underlying22 Tryd.sizeOf26 rfl rfl (by omega) hel rfl rfl) ?_
      refine AOps.call (o_loadRd _ rfl Tryd.sizeOf26 Tryd.isAgg26 rfl rfl rfl) ?_
      refine AOps.call (o_alloc ze26 rfl rfl) ?_
      refine AOps.cons (o_store _ _ rfl rfl Tryd.sizeOf26 rfl rfl rfl rfl rfl) ?_
      refine AOps.nil ?_
      refine AWP.seq ?_
      refine AWP.region ?_
      refine AOps.call (o_fieldRef _ rfl fa26_0 rfl rfl) ?_
      refine AOps.call (o_loadRef _ rfl rfl Tryd.sizeOf3 Tryd.isAgg3 rfl rfl rfl) ?_
      refine AOps.call (o_move _ rfl rfl) ?_
      refine AOps.call (o_sub _ _ rfl rfl ⟨by (try dsimp only); omega, by (try dsimp only); omega⟩ rfl) ?_
      refine AOps.call (o_assign _ rfl rfl) ?_
      refine AOps.nil ?_
      refine AWP.seq ?_
      refine AWP.drawn 26 mixed (by kernel_rfl) ?_
      refine AHead.call (o_move _ rfl rfl) rfl ?_
      refine AHead.call (o_bin _ _ rfl rfl (fun _ => rfl) rfl) rfl ?_
      refine AHead.call (o_move _ rfl rfl) rfl ?_
      refine AHead.split rfl rfl rfl (fun h49 => ?_) (fun h49 => ?_)
      · skip
        have hx0 := of_decide_eq_true h49
        refine AHead.go rfl rfl rfl h49 (o_move _ rfl rfl) rfl ?_
        refine AHead.go rfl rfl rfl h49 (o_move _ rfl rfl) rfl ?_
        refine AHead.go rfl rfl rfl h49 (o_len _ Tryd.underlying45 rfl rfl) rfl ?_
        refine AHead.go rfl rfl rfl h49 (o_bin _ _ rfl rfl (fun _ => rfl) rfl) rfl ?_
        refine AHead.call (o_pickT _ _ _ rfl h49 rfl rfl) rfl ?_
        refine AHead.call (o_move _ rfl rfl) rfl ?_
        refine AHead.split rfl rfl rfl (fun h53 => ?_) (fun h53 => ?_)
        · skip
          have hxl : (s.tests[k].day - fr).toNat < l.length := by have hq := of_decide_eq_true h53; omega
          have helx := ints_atI hxl
          have hte := H.test _ (List.getElem_mem hlt) _ hxl (by omega)
          refine AHead.go rfl rfl rfl h53 (o_move _ rfl rfl) rfl ?_
          refine AHead.go rfl rfl rfl h53 (o_move _ rfl rfl) rfl ?_
          refine AHead.go rfl rfl rfl h53 (o_index _ _ Tryd.underlying45 Tryd.sizeOf3 rfl rfl (by omega) helx rfl rfl) rfl ?_
          refine AHead.go rfl rfl rfl h53 (o_loadRd _ rfl Tryd.sizeOf3 Tryd.isAgg3 rfl rfl rfl) rfl ?_
          refine AHead.go rfl rfl rfl h53 (o_fieldRef _ rfl fa26_2 rfl rfl) rfl ?_
          refine AHead.go rfl rfl rfl h53 (o_loadRef _ rfl rfl Tryd.sizeOf3 Tryd.isAgg3 rfl rfl rfl) rfl ?_
          refine AHead.go rfl rfl rfl h53 (o_bin _ _ rfl rfl (fun _ => rfl) rfl) rfl ?_
          refine AHead.go rfl rfl rfl h53 (o_move _ rfl rfl) rfl ?_
          refine AHead.split rfl rfl rfl (fun h60 => ?_) (fun h60 => ?_)
          · skip
            refine AHead.go rfl rfl rfl h60 (o_move _ rfl rfl) rfl ?_
            refine AHead.go rfl rfl rfl h60 (o_move _ rfl rfl) rfl ?_
            refine AHead.go rfl rfl rfl h60 (o_index _ _ Tryd.underlying45 Tryd.sizeOf3 rfl rfl (by omega) helx rfl rfl) rfl ?_
            refine AHead.go rfl rfl rfl h60 (o_loadRd _ rfl Tryd.sizeOf3 Tryd.isAgg3 rfl rfl rfl) rfl ?_
            refine AHead.go rfl rfl rfl h60 (o_fieldRef _ rfl fa26_3 rfl rfl) rfl ?_
            refine AHead.go rfl rfl rfl h60 (o_loadRef _ rfl rfl Tryd.sizeOf3 Tryd.isAgg3 rfl rfl rfl) rfl ?_
            refine AHead.go rfl rfl rfl h60 (o_bin _ _ rfl rfl (fun _ => rfl) rfl) rfl ?_
            refine AHead.go rfl rfl rfl h53 (o_pickF _ _ _ rfl h60 rfl rfl) rfl ?_
            refine AHead.call (o_pickT _ _ _ rfl h53 rfl rfl) rfl ?_
            refine AHead.nil ?_
            refine AOps.nil ?_
            refine AWP.cond _ rfl (fun h67 => ?_) (fun h67 => ?_)
            · skip
              exfalso
              have hq := of_decide_eq_true h67
              have := hte.2; omega
            · skip
              refine AWP.skip ?_
              refine AWP.region ?_
              refine AOps.call (o_add _ _ rfl rfl ⟨by (try dsimp only); omega, by (try dsimp only); omega⟩ rfl) ?_
              refine AOps.call (o_move _ rfl rfl) ?_
              refine AOps.nil ?_
              refine ⟨k + 1, ?_, (Weak.mk' rfl ⟨⟨.refl rfl, rfl⟩, ⟨⟨.refl rfl, rfl⟩, ⟨⟨.refl rfl, rfl⟩, ⟨⟨.refl rfl, rfl⟩, ⟨⟨.refl rfl, rfl⟩, trivial⟩⟩⟩⟩⟩ trivial trivial)⟩
              exact ⟨by omega, by omega⟩
          · skip
            exfalso
            have hq := of_decide_eq_true h60
            have := hte.1; omega
        · skip
          refine AHead.pass rfl rfl rfl h53 rfl ?_
          refine AHead.pass rfl rfl rfl h53 rfl ?_
          refine AHead.pass rfl rfl rfl h53 rfl ?_
          refine AHead.pass rfl rfl rfl h53 rfl ?_
          refine AHead.pass rfl rfl rfl h53 rfl ?_
          refine AHead.pass rfl rfl rfl h53 rfl ?_
          refine AHead.pass rfl rfl rfl h53 rfl ?_
          refine AHead.pass rfl rfl rfl h53 rfl ?_
          refine AHead.passU rfl rfl rfl rfl ?_
          refine AHead.passU rfl rfl rfl rfl ?_
          refine AHead.passU rfl rfl rfl rfl ?_
          refine AHead.passU rfl rfl rfl rfl ?_
          refine AHead.passU rfl rfl rfl rfl ?_
          refine AHead.passU rfl rfl rfl rfl ?_
          refine AHead.passU rfl rfl rfl rfl ?_
          refine AHead.pass rfl rfl rfl h53 rfl ?_
          refine AHead.call (o_pickF _ _ _ rfl h53 rfl rfl) rfl ?_
          refine AHead.nil ?_
          refine AOps.nil ?_
          refine AWP.condF rfl ?_
          refine AWP.skip ?_
          refine AWP.region ?_
          refine AOps.call (o_add _ _ rfl rfl ⟨by (try dsimp only); omega, by (try dsimp only); omega⟩ rfl) ?_
          refine AOps.call (o_move _ rfl rfl) ?_
          refine AOps.nil ?_
          refine ⟨k + 1, ?_, (Weak.mk' rfl ⟨⟨.refl rfl, rfl⟩, ⟨⟨.refl rfl, rfl⟩, ⟨⟨.refl rfl, rfl⟩, ⟨⟨.refl rfl, rfl⟩, ⟨⟨.refl rfl, rfl⟩, trivial⟩⟩⟩⟩⟩ trivial trivial)⟩
          exact ⟨by omega, by omega⟩
      · skip
        refine AHead.pass rfl rfl rfl h49 rfl ?_
        refine AHead.pass rfl rfl rfl h49 rfl ?_
        refine AHead.pass rfl rfl rfl h49 rfl ?_
        refine AHead.pass rfl rfl rfl h49 rfl ?_
        refine AHead.call (o_pickF _ _ _ rfl h49 rfl rfl) rfl ?_
        refine AHead.call (o_move _ rfl rfl) rfl ?_
        refine AHead.pass rfl rfl rfl rfl rfl ?_
        refine AHead.pass rfl rfl rfl rfl rfl ?_
        refine AHead.pass rfl rfl rfl rfl rfl ?_
        refine AHead.pass rfl rfl rfl rfl rfl ?_
        refine AHead.pass rfl rfl rfl rfl rfl ?_
        refine AHead.pass rfl rfl rfl rfl rfl ?_
        refine AHead.pass rfl rfl rfl rfl rfl ?_
        refine AHead.pass rfl rfl rfl rfl rfl ?_
        refine AHead.passU rfl rfl rfl rfl ?_
        refine AHead.passU rfl rfl rfl rfl ?_
        refine AHead.passU rfl rfl rfl rfl ?_
        refine AHead.passU rfl rfl rfl rfl ?_
        refine AHead.passU rfl rfl rfl rfl ?_
        refine AHead.passU rfl rfl rfl rfl ?_
        refine AHead.passU rfl rfl rfl rfl ?_
        refine AHead.pass rfl rfl rfl rfl rfl ?_
        refine AHead.call (o_pickF _ _ _ rfl rfl rfl rfl) rfl ?_
        refine AHead.nil ?_
        refine AOps.nil ?_
        refine AWP.condF rfl ?_
        refine AWP.skip ?_
        refine AWP.region ?_
        refine AOps.call (o_add _ _ rfl rfl ⟨by (try dsimp only); omega, by (try dsimp only); omega⟩ rfl) ?_
        refine AOps.call (o_move _ rfl rfl) ?_
        refine AOps.nil ?_
        refine ⟨k + 1, ?_, (Weak.mk' rfl ⟨⟨.refl rfl, rfl⟩, ⟨⟨.refl rfl, rfl⟩, ⟨⟨.refl rfl, rfl⟩, ⟨⟨.refl rfl, rfl⟩, ⟨⟨.refl rfl, rfl⟩, trivial⟩⟩⟩⟩⟩ trivial trivial)⟩
        exact ⟨by omega, by omega⟩
    · skip
      refine AWP.exit ?_
      refine AWP.seq ?_
      refine AWP.region ?_
      refine AOps.call (o_assign _ rfl rfl) ?_
      refine AOps.nil ?_
      refine AWP.ret ?_
      exact postQ.ret1 Tryd.results37 rfl rfl

end Go.Proofs.YtphoomnonenalaaDoor
