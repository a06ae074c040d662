import Derived.Test.YtphoomnonenalaaDoorAbB
import Derived.Test.YtphoomnonenalaaDoorC18
import Derived.Test.YtphoomnonenalaaDoorL2
set_option linter.unusedSimpArgs false
set_option linter.unusedVariables false
namespace Go.Proofs.YtphoomnonenalaaDoor
open Go.Ab

theorem stand_at {l : List Sht} {wd : List Int} {k : Int} {j : Nat} (h : j < (standL l wd k).length) : ∃ u : Nat, ∃ hu : u < l.length, (standL l wd k)[j] = (u : Int) ∧ wd.contains l[u].no = false ∧ l[u].known ≤ k ∧ anyF (overB l[u] u k) l 0 = false := by
  obtain ⟨u, hu, hp, he⟩ := pickL_mem.1 (List.getElem_mem h)
  obtain ⟨h1, h2, h3⟩ := (ok_iff hu).1 hp
  exact ⟨u, hu, he, h1, h2, h3⟩
theorem stand_pw (l : List Sht) (wd : List Int) (k : Int) : (standL l wd k).Pairwise (· < ·) := pickL_sorted _ _
theorem any_not {f : Sht → Nat → Bool} {l : List Sht} (h : anyF f l 0 = false) {j : Nat} (hj : j < l.length) : f l[j] j = false := by
  cases hf : f l[j] j with
  | false => rfl
  | true => rw [any_of hj hf] at h; cases h
theorem notOver {s t : Sht} {i j : Nat} {k : Int} (h : overB s i k t j = false) : ¬ (t.no = s.no ∧ t.known ≤ k ∧ (t.known > s.known ∨ t.known = s.known ∧ j > i)) := fun hh => by
  rw [over_iff.2 hh] at h; cases h

set_option maxHeartbeats 8000000 in
set_option maxRecDepth 20000 in
theorem CourseStands_a (c : Scl) (l : List Sht) (wd : List Int) (d0 d1 d2 : Int) (u : Nat) : FSpecG Tryd.prog TAB 11 [.agg (eS c), .sl (shts l), .sl (ints wd), .agg [I d0, I d1, I d2], I u] (B true) (none) := by
  refine FSpecG.of_body tab_stable Tryd.func11 rfl (leB rfl) fun w0 M0 hG => ?_
  refine AWP.seq ?_
  refine AWP.region ?_
  refine AOps.call (o_box _ rfl rfl rfl) ?_
  refine AOps.call (o_box _ rfl rfl rfl) ?_
  refine AOps.call (o_box _ rfl rfl rfl) ?_
  refine AOps.call (o_assign _ rfl rfl) ?_
  refine AOps.nil ?_
  refine AWP.seq ?_
  refine AWP.seq ?_
  refine AWP.region ?_
  refine AOps.call (o_callG (sane_s) hG Tryd.call12 rfl rfl) ?_
  refine AOps.call (o_un _ rfl (fun _ => rfl) rfl) ?_
  refine AOps.nil ?_
  refine AWP.cond _ rfl (fun h6 => ?_) (fun h6 => ?_)
  · skip
    refine AWP.seq ?_
    refine AWP.region ?_
    refine AOps.call (o_assign _ rfl rfl) ?_
    refine AOps.nil ?_
    refine AWP.ret ?_
    first
    | exact postQ.ret1 Tryd.results11 rfl rfl
    | (exfalso; simp at *; done)
    | (exfalso; simp_all; done)
    | (refine postQ.ret1 Tryd.results11 rfl ?_; simp [AV.close, B]; done)
  · skip
    refine AWP.skip ?_
    refine AWP.seq ?_
    refine AWP.seq ?_
    refine AWP.region ?_
    refine AOps.weak (Weak.frzv (id := (5, 0)) (t := 5) rfl rfl rfl) ?_
    refine AOps.weak (Weak.frzv (id := (6, 0)) (t := 6) rfl rfl rfl) ?_
    refine AOps.weak (Weak.frzv (id := (8, 0)) (t := 8) rfl rfl rfl) ?_
    refine AOps.call (o_fieldRd _ rfl fa24_2 rfl) ?_
    refine AOps.call (o_loadRd _ rfl Tryd.sizeOf22 Tryd.isAgg22 rfl rfl rfl) ?_
    refine AOps.call (o_len _ Tryd.underlying22 rfl rfl) ?_
    refine AOps.call (o_bin _ _ rfl rfl (fun _ => rfl) rfl) ?_
    refine AOps.call (o_move _ rfl rfl) ?_
    refine AOps.split rfl rfl rfl (fun h11 => ?_) (fun h11 => ?_)
    · skip
      refine AOps.go rfl rfl rfl h11 (o_loadRd _ rfl Tryd.sizeOf80 Tryd.isAgg80 rfl rfl rfl) ?_
      refine AOps.go rfl rfl rfl h11 (o_len _ Tryd.underlying80 rfl rfl) ?_
      refine AOps.go rfl rfl rfl h11 (o_bin _ _ rfl rfl (fun _ => rfl) rfl) ?_
      refine AOps.call (o_pickF _ _ _ rfl h11 rfl rfl) ?_
      refine AOps.call (o_move _ rfl rfl) ?_
      refine AOps.split rfl rfl rfl (fun h15 => ?_) (fun h15 => ?_)
      · skip
        have hl40 : l.length ≤ 40 := by have hq := of_decide_eq_false h15; rw [shts_len] at hq; omega
        refine AOps.go rfl rfl rfl h15 (o_loadRd _ rfl Tryd.sizeOf80 Tryd.isAgg80 rfl rfl rfl) ?_
        refine AOps.go rfl rfl rfl h15 (o_call (short_s l) Tryd.call54 rfl rfl) ?_
        refine AOps.go rfl rfl rfl h15 (o_un _ rfl (fun _ => rfl) rfl) ?_
        refine AOps.call (o_pickF _ _ _ rfl h15 rfl rfl) ?_
        refine AOps.call (o_move _ rfl rfl) ?_
        refine AOps.split rfl rfl rfl (fun h19 => ?_) (fun h19 => ?_)
        · skip
          refine AOps.go rfl rfl rfl h19 (o_move _ rfl rfl) ?_
          refine AOps.go rfl rfl rfl h19 (o_len _ Tryd.underlying45 rfl rfl) ?_
          refine AOps.go rfl rfl rfl h19 (o_bin _ _ rfl rfl (fun _ => rfl) rfl) ?_
          refine AOps.call (o_pickF _ _ _ rfl h19 rfl rfl) ?_
          refine AOps.nil ?_
          refine AWP.cond _ rfl (fun h23 => ?_) (fun h23 => ?_)
          · skip
            refine AWP.seq ?_
            refine AWP.region ?_
            refine AOps.call (o_assign _ rfl rfl) ?_
            refine AOps.nil ?_
            refine AWP.ret ?_
            first
            | exact postQ.ret1 Tryd.results11 rfl rfl
            | (exfalso; simp at *; done)
            | (exfalso; simp_all; done)
            | (refine postQ.ret1 Tryd.results11 rfl ?_; simp [AV.close, B]; done)
          · skip
            have hl300 : l.length ≤ 40 := hl40
            have hw5 : wd.length ≤ 5000 := by have hq := of_decide_eq_false h23; rw [ints_len] at hq; omega
            obtain ⟨x, e, hA, hx0, hx1⟩ : ∃ (x : List Int) (e : Int), FSpec Tryd.prog 55 [.sl (shts l), .sl (ints wd), I d0] (.tup [.sl (ints x), I e]) none ∧ (¬ e = 0 → x = []) ∧ (e = 0 → standE l wd d0 = 0 ∧ x = standL l wd d0) := by
              have h1 := Standing_s l wd d0 (by omega) (by omega)
              by_cases hz : standE l wd d0 = 0
              · rw [if_pos hz] at h1; exact ⟨_, _, h1, fun h => absurd rfl h, fun _ => ⟨hz, rfl⟩⟩
              · rw [if_neg hz] at h1; exact ⟨[], _, h1, fun _ => rfl, fun h => absurd h hz⟩
            obtain ⟨z, f, hC, hz0, hz1⟩ : ∃ (z : List Int) (f : Int), FSpec Tryd.prog 62 [.agg (eS c), .sl (shts l), I d1, I d2] (.tup [.sl (ints z), I f]) none ∧ (¬ f = 0 → z = []) ∧ (f = 0 → z = corL c l d1 d2) := by
              have h1 := Corrected_s c l d1 d2 (by omega)
              by_cases hz : corE c l d1 d2 = 0
              · rw [if_pos hz] at h1; exact ⟨_, _, h1, fun h => absurd rfl h, fun _ => rfl⟩
              · rw [if_neg hz] at h1; exact ⟨[], _, h1, fun _ => rfl, fun h => absurd h hz⟩
            refine AWP.skip ?_
            refine AWP.seq ?_
            refine AWP.region ?_
            refine AOps.call (o_loadRd _ rfl Tryd.sizeOf80 Tryd.isAgg80 rfl rfl rfl) ?_
            refine AOps.call (o_move _ rfl rfl) ?_
            refine AOps.call (o_indexArrRd _ _ Tryd.underlying38 Tryd.sizeOf3 rfl rfl (by omega) (by omega) rfl rfl) ?_
            refine AOps.call (o_loadRd _ rfl Tryd.sizeOf3 Tryd.isAgg3 rfl rfl rfl) ?_
            refine AOps.call (o_call (hA) Tryd.call55 rfl rfl) ?_
            refine AOps.call (o_move _ rfl rfl) ?_
            refine AOps.call (o_extract _ rfl rfl rfl rfl) ?_
            refine AOps.call (o_extract _ rfl rfl rfl rfl) ?_
            refine AOps.call (o_assign _ rfl rfl) ?_
            refine AOps.call (o_assign _ rfl rfl) ?_
            refine AOps.nil ?_
            refine AWP.seq ?_
            refine AWP.seq ?_
            refine AWP.region ?_
            refine AOps.call (o_move _ rfl rfl) ?_
            refine AOps.call (o_bin _ _ rfl rfl (fun _ => rfl) rfl) ?_
            refine AOps.nil ?_
            refine AWP.cond _ rfl (fun h32 => ?_) (fun h32 => ?_)
            · skip
              have hq : ¬ e = 0 := by
                have hh := h32
                simpa using hh
              obtain rfl := hx0 hq
              refine AWP.seq ?_
              refine AWP.region ?_
              refine AOps.call (o_move _ rfl rfl) ?_
              refine AOps.call (o_len _ Tryd.underlying45 rfl rfl) ?_
              refine AOps.call (o_bin _ _ rfl rfl (fun _ => rfl) rfl) ?_
              refine AOps.call (o_assign _ rfl rfl) ?_
              refine AOps.nil ?_
              refine AWP.ret ?_
              first
              | exact postQ.ret1 Tryd.results11 rfl rfl
              | (exfalso; simp at *; done)
              | (exfalso; simp_all; done)
              | (refine postQ.ret1 Tryd.results11 rfl ?_; simp [AV.close, B]; done)
            · skip
              have hq : e = 0 := by
                have hh := h32
                simpa using hh
              obtain ⟨hE, hx⟩ := hx1 hq
              have hxl : x.length ≤ 40 := by rw [hx]; exact Nat.le_trans (pickL_len _ _) hl40
              have hxb : ∀ y ∈ x, 0 ≤ y ∧ y.toNat < l.length := fun y hy => by
                rw [hx] at hy
                obtain ⟨i, hi, _, rfl⟩ := pickL_mem.1 hy
                exact ⟨by omega, by omega⟩
              have hpw : x.Pairwise (· < ·) := by rw [hx]; exact stand_pw _ _ _
              have hat : ∀ (j : Nat) (hj : j < x.length), ∃ u : Nat, ∃ hu : u < l.length, x[j] = (u : Int) ∧ wd.contains l[u].no = false ∧ l[u].known ≤ d0 ∧ anyF (overB l[u] u d0) l 0 = false := fun j hj => by
                subst hx; exact stand_at hj
              refine AWP.skip ?_
              refine AWP.seq ?_
              refine AWP.seq ?_
              refine AWP.region ?_
              refine AOps.call (o_move _ rfl rfl) ?_
              refine AOps.call (o_len _ Tryd.underlying45 rfl rfl) ?_
              refine AOps.call (o_move _ rfl rfl) ?_
              refine AOps.nil ?_
              refine AWP.block ?_
              refine AWP.loop (ι := Nat) (fun i => AS.mk' 302 [(2, .sl (ints wd)), (4, I u), (5, .rd (eS c)), (6, .rd [.sl (shts l)]), (8, .rd [I d0, I d1, I d2]), (11, .sl (ints x)), (66, .sl (ints x)), (67, I (ints x).length), (68, I i)] [] [] []) (fun i => i ≤ x.length) (fun i => x.length - i) (0) (Weak.mk' rfl ⟨⟨.refl rfl, rfl⟩, ⟨⟨.refl rfl, rfl⟩, ⟨⟨.refl rfl, rfl⟩, ⟨⟨.refl rfl, rfl⟩, ⟨⟨.refl rfl, rfl⟩, ⟨⟨.refl rfl, rfl⟩, ⟨⟨.refl rfl, rfl⟩, ⟨⟨.refl rfl, rfl⟩, ⟨⟨.refl rfl, rfl⟩, trivial⟩⟩⟩⟩⟩⟩⟩⟩⟩ trivial trivial) (Nat.zero_le _) ?_
              rintro k hk
              try dsimp only at *
              refine AWP.seq ?_
              refine AWP.region ?_
              refine AOps.call (o_bin _ _ rfl rfl (fun _ => rfl) rfl) ?_
              refine AOps.nil ?_
              refine AWP.seq ?_
              refine AWP.cond _ rfl (fun h38 => ?_) (fun h38 => ?_)
              · skip
                have hlt : k < x.length := by have hq := of_decide_eq_true h38; rw [ints_len] at hq; omega
                obtain ⟨v, hv, hxv, hcv, hkv, hov⟩ := hat k hlt
                have hel : (ints x)[((k : Nat) : Int).toNat]? = some [I (v : Int)] := by rw [← hxv]; exact ints_at hlt
                have helv := shts_get hv
                have hll := shts_len l
                refine AWP.skip ?_
                refine AWP.seq ?_
                refine AWP.block ?_
                refine AWP.seq ?_
                refine AWP.region ?_
                refine AOps.call (o_move _ rfl rfl) ?_
                refine AOps.call (o_index _ _ Tryd.underlying45 Tryd.sizeOf3 rfl rfl (by have := ints_len x; omega) hel rfl rfl) ?_
                refine AOps.call (o_loadRd _ rfl Tryd.sizeOf3 Tryd.isAgg3 rfl rfl rfl) ?_
                refine AOps.call (o_assign _ rfl rfl) ?_
                refine AOps.call (o_assign _ rfl rfl) ?_
                refine AOps.nil ?_
                refine AWP.seq ?_
                refine AWP.seq ?_
                refine AWP.drawn 40 mixed (by kernel_rfl) ?_
                refine AHead.call (o_move _ rfl rfl) rfl ?_
                refine AHead.call (o_bin _ _ rfl rfl (fun _ => rfl) rfl) rfl ?_
                refine AHead.call (o_move _ rfl rfl) rfl ?_
                refine AHead.split rfl rfl rfl (fun h42 => ?_) (fun h42 => ?_)
                · skip
                  refine AHead.go rfl rfl rfl h42 (o_move _ rfl rfl) rfl ?_
                  refine AHead.go rfl rfl rfl h42 (o_loadRd _ rfl Tryd.sizeOf80 Tryd.isAgg80 rfl rfl rfl) rfl ?_
                  refine AHead.go rfl rfl rfl h42 (o_len _ Tryd.underlying80 rfl rfl) rfl ?_
                  refine AHead.go rfl rfl rfl h42 (o_bin _ _ rfl rfl (fun _ => rfl) rfl) rfl ?_
                  refine AHead.call (o_pickF _ _ _ rfl h42 rfl rfl) rfl ?_
                  refine AHead.call (o_move _ rfl rfl) rfl ?_
                  refine AHead.split rfl rfl rfl (fun h46 => ?_) (fun h46 => ?_)
                  · skip
                    refine AHead.go rfl rfl rfl h46 (o_move _ rfl rfl) rfl ?_
                    refine AHead.go rfl rfl rfl h46 (o_bin _ _ rfl rfl (fun _ => rfl) rfl) rfl ?_
                    refine AHead.go rfl rfl rfl h46 (o_move _ rfl rfl) rfl ?_
                    refine AHead.split rfl rfl rfl (fun h48 => ?_) (fun h48 => ?_)
                    · skip
                      have hk0 : 0 < k := by have hq := of_decide_eq_true h48; omega
                      have hlt1 : k - 1 < x.length := by omega
                      have hel1 : (ints x)[((k : Int) - 1).toNat]? = some [I x[k - 1]] := by rw [show ((k : Int) - 1).toNat = k - 1 by omega]; simp [ints, hlt1]
                      have hil := ints_len x
                      have hpq : x[k - 1] < (v : Int) := by rw [← hxv]; exact List.pairwise_iff_getElem.1 hpw _ _ hlt1 hlt (by omega)
                      refine AHead.go rfl rfl rfl h48 (o_move _ rfl rfl) rfl ?_
                      refine AHead.go rfl rfl rfl h48 (o_move _ rfl rfl) rfl ?_
                      refine AHead.go rfl rfl rfl h48 (o_sub _ _ rfl rfl ⟨by (try dsimp only); omega, by (try dsimp only); omega⟩ rfl) rfl ?_
                      refine AHead.go rfl rfl rfl h48 (o_index _ _ Tryd.underlying45 Tryd.sizeOf3 rfl rfl (by omega) hel1 rfl rfl) rfl ?_
                      refine AHead.go rfl rfl rfl h48 (o_loadRd _ rfl Tryd.sizeOf3 Tryd.isAgg3 rfl rfl rfl) rfl ?_
                      refine AHead.go rfl rfl rfl h48 (o_move _ rfl rfl) rfl ?_
                      refine AHead.go rfl rfl rfl h48 (o_bin _ _ rfl rfl (fun _ => rfl) rfl) rfl ?_
                      refine AHead.go rfl rfl rfl h46 (o_pickT _ _ _ rfl h48 rfl rfl) rfl ?_
                      refine AHead.call (o_pickF _ _ _ rfl h46 rfl rfl) rfl ?_
                      refine AHead.call (o_move _ rfl rfl) rfl ?_
                      refine AHead.split rfl rfl rfl (fun h53 => ?_) (fun h53 => ?_)
                      · skip
                        refine AHead.go rfl rfl rfl h53 (o_move _ rfl rfl) rfl ?_
                        refine AHead.go rfl rfl rfl h53 (o_loadRd _ rfl Tryd.sizeOf80 Tryd.isAgg80 rfl rfl rfl) rfl ?_
                        refine AHead.go rfl rfl rfl h53 (o_move _ rfl rfl) rfl ?_
                        refine AHead.go rfl rfl rfl h53 (o_index _ _ Tryd.underlying80 Tryd.sizeOf54 rfl rfl (by omega) helv rfl rfl) rfl ?_
                        refine AHead.go rfl rfl rfl h53 (o_fieldRd _ rfl fa54_0 rfl) rfl ?_
                        refine AHead.go rfl rfl rfl h53 (o_loadRd _ rfl Tryd.sizeOf3 Tryd.isAgg3 rfl rfl rfl) rfl ?_
                        refine AHead.go rfl rfl rfl h53 (o_call (Contains_s wd l[v].no (by omega)) Tryd.call39 rfl rfl) rfl ?_
                        refine AHead.call (o_pickF _ _ _ rfl h53 rfl rfl) rfl ?_
                        refine AHead.call (o_move _ rfl rfl) rfl ?_
                        refine AHead.split rfl rfl rfl (fun h60 => ?_) (fun h60 => ?_)
                        · skip
                          refine AHead.go rfl rfl rfl h60 (o_loadRd _ rfl Tryd.sizeOf80 Tryd.isAgg80 rfl rfl rfl) rfl ?_
                          refine AHead.go rfl rfl rfl h60 (o_move _ rfl rfl) rfl ?_
                          refine AHead.go rfl rfl rfl h60 (o_index _ _ Tryd.underlying80 Tryd.sizeOf54 rfl rfl (by omega) helv rfl rfl) rfl ?_
                          refine AHead.go rfl rfl rfl h60 (o_fieldRd _ rfl fa54_3 rfl) rfl ?_
                          refine AHead.go rfl rfl rfl h60 (o_loadRd _ rfl Tryd.sizeOf3 Tryd.isAgg3 rfl rfl rfl) rfl ?_
                          refine AHead.go rfl rfl rfl h60 (o_indexArrRd _ _ Tryd.underlying38 Tryd.sizeOf3 rfl rfl (by omega) (by omega) rfl rfl) rfl ?_
                          refine AHead.go rfl rfl rfl h60 (o_loadRd _ rfl Tryd.sizeOf3 Tryd.isAgg3 rfl rfl rfl) rfl ?_
                          refine AHead.go rfl rfl rfl h60 (o_bin _ _ rfl rfl (fun _ => rfl) rfl) rfl ?_
                          refine AHead.call (o_pickF _ _ _ rfl h60 rfl rfl) rfl ?_
                          refine AHead.nil ?_
                          refine AOps.nil ?_
                          refine AWP.cond _ rfl (fun h68 => ?_) (fun h68 => ?_)
                          · skip
                            exfalso
                            have hq := of_decide_eq_true h68
                            omega
                          · skip
                            refine AWP.skip ?_
                            refine AWP.seq ?_
                            refine AWP.region ?_
                            refine AOps.call (o_loadRd _ rfl Tryd.sizeOf80 Tryd.isAgg80 rfl rfl rfl) ?_
                            refine AOps.call (o_len _ Tryd.underlying80 rfl rfl) ?_
                            refine AOps.call (o_move _ rfl rfl) ?_
                            refine AOps.nil ?_
                            refine AWP.block ?_
                            refine AWP.loop (ι := Nat) (fun i => AS.mk' 302 [(2, .sl (ints wd)), (4, I u), (5, .rd (eS c)), (6, .rd [.sl (shts l)]), (8, .rd [I d0, I d1, I d2]), (11, .sl (ints x)), (66, .sl (ints x)), (67, I (ints x).length), (68, I k), (13, I k), (14, I v), (113, .sl (shts l)), (114, I (shts l).length), (115, I i)] [] [] []) (fun i => i ≤ l.length) (fun i => l.length - i) (0) (Weak.mk' rfl ⟨⟨.refl rfl, rfl⟩, ⟨⟨.refl rfl, rfl⟩, ⟨⟨.refl rfl, rfl⟩, ⟨⟨.refl rfl, rfl⟩, ⟨⟨.refl rfl, rfl⟩, ⟨⟨.refl rfl, rfl⟩, ⟨⟨.refl rfl, rfl⟩, ⟨⟨.refl rfl, rfl⟩, ⟨⟨.refl rfl, rfl⟩, ⟨⟨.refl rfl, rfl⟩, ⟨⟨.refl rfl, rfl⟩, ⟨⟨.refl rfl, rfl⟩, ⟨⟨.refl rfl, rfl⟩, ⟨⟨.refl rfl, rfl⟩, trivial⟩⟩⟩⟩⟩⟩⟩⟩⟩⟩⟩⟩⟩⟩ trivial trivial) (Nat.zero_le _) ?_
                            rintro j hj
                            try dsimp only at *
                            refine AWP.seq ?_
                            refine AWP.region ?_
                            refine AOps.call (o_bin _ _ rfl rfl (fun _ => rfl) rfl) ?_
                            refine AOps.nil ?_
                            refine AWP.seq ?_
                            refine AWP.cond _ rfl (fun h73 => ?_) (fun h73 => ?_)
                            · skip
                              have hlt : j < l.length := by have hq := of_decide_eq_true h73; rw [shts_len] at hq; omega
                              have hel := shts_get hlt
                              have hll := shts_len l
                              have hno := notOver (any_not hov hlt)
                              refine AWP.skip ?_
                              refine AWP.seq ?_
                              refine AWP.block ?_
                              refine AWP.seq ?_
                              refine AWP.region ?_
                              refine AOps.call (o_move _ rfl rfl) ?_
                              refine AOps.call (o_index _ _ Tryd.underlying80 Tryd.sizeOf54 rfl rfl (by omega) hel rfl rfl) ?_
                              refine AOps.call (o_loadRd _ rfl Tryd.sizeOf54 Tryd.isAgg54 rfl rfl rfl) ?_
                              refine AOps.call (o_alloc ze54 rfl rfl) ?_
                              refine AOps.call (o_assign _ rfl rfl) ?_
                              refine AOps.cons (o_store _ _ rfl rfl Tryd.sizeOf54 rfl rfl rfl rfl rfl) ?_
                              refine AOps.nil ?_
                              refine AWP.seq ?_
                              refine AWP.drawn 45 mixed (by kernel_rfl) ?_
                              refine AHead.call (o_fieldRef _ rfl fa54_0 rfl rfl) rfl ?_
                              refine AHead.call (o_loadRef _ rfl rfl Tryd.sizeOf3 Tryd.isAgg3 rfl rfl rfl) rfl ?_
                              refine AHead.call (o_loadRd _ rfl Tryd.sizeOf80 Tryd.isAgg80 rfl rfl rfl) rfl ?_
                              refine AHead.call (o_move _ rfl rfl) rfl ?_
                              refine AHead.call (o_index _ _ Tryd.underlying80 Tryd.sizeOf54 rfl rfl (by omega) helv rfl rfl) rfl ?_
                              refine AHead.call (o_fieldRd _ rfl fa54_0 rfl) rfl ?_
                              refine AHead.call (o_loadRd _ rfl Tryd.sizeOf3 Tryd.isAgg3 rfl rfl rfl) rfl ?_
                              refine AHead.call (o_bin _ _ rfl rfl (fun _ => rfl) rfl) rfl ?_
                              refine AHead.call (o_move _ rfl rfl) rfl ?_
                              refine AHead.split rfl rfl rfl (fun h84 => ?_) (fun h84 => ?_)
                              · skip
                                have q1 : l[j].no = l[v].no := by have hh := h84; simpa using hh
                                refine AHead.go rfl rfl rfl h84 (o_move _ rfl rfl) rfl ?_
                                refine AHead.go rfl rfl rfl h84 (o_move _ rfl rfl) rfl ?_
                                refine AHead.go rfl rfl rfl h84 (o_bin _ _ rfl rfl (fun _ => rfl) rfl) rfl ?_
                                refine AHead.call (o_pickT _ _ _ rfl h84 rfl rfl) rfl ?_
                                refine AHead.call (o_move _ rfl rfl) rfl ?_
                                refine AHead.split rfl rfl rfl (fun h86 => ?_) (fun h86 => ?_)
                                · skip
                                  refine AHead.go rfl rfl rfl h86 (o_fieldRef _ rfl fa54_3 rfl rfl) rfl ?_
                                  refine AHead.go rfl rfl rfl h86 (o_loadRef _ rfl rfl Tryd.sizeOf3 Tryd.isAgg3 rfl rfl rfl) rfl ?_
                                  refine AHead.go rfl rfl rfl h86 (o_indexArrRd _ _ Tryd.underlying38 Tryd.sizeOf3 rfl rfl (by omega) (by omega) rfl rfl) rfl ?_
                                  refine AHead.go rfl rfl rfl h86 (o_loadRd _ rfl Tryd.sizeOf3 Tryd.isAgg3 rfl rfl rfl) rfl ?_
                                  refine AHead.go rfl rfl rfl h86 (o_bin _ _ rfl rfl (fun _ => rfl) rfl) rfl ?_
                                  refine AHead.call (o_pickT _ _ _ rfl h86 rfl rfl) rfl ?_
                                  refine AHead.call (o_move _ rfl rfl) rfl ?_
                                  refine AHead.split rfl rfl rfl (fun h92 => ?_) (fun h92 => ?_)
                                  · skip
                                    have q3 : l[j].known ≤ d0 := of_decide_eq_true h92
                                    refine AHead.go rfl rfl rfl h92 (o_fieldRef _ rfl fa54_3 rfl rfl) rfl ?_
                                    refine AHead.go rfl rfl rfl h92 (o_loadRef _ rfl rfl Tryd.sizeOf3 Tryd.isAgg3 rfl rfl rfl) rfl ?_
                                    refine AHead.go rfl rfl rfl h92 (o_loadRd _ rfl Tryd.sizeOf80 Tryd.isAgg80 rfl rfl rfl) rfl ?_
                                    refine AHead.go rfl rfl rfl h92 (o_move _ rfl rfl) rfl ?_
                                    refine AHead.go rfl rfl rfl h92 (o_index _ _ Tryd.underlying80 Tryd.sizeOf54 rfl rfl (by omega) helv rfl rfl) rfl ?_
                                    refine AHead.go rfl rfl rfl h92 (o_fieldRd _ rfl fa54_3 rfl) rfl ?_
                                    refine AHead.go rfl rfl rfl h92 (o_loadRd _ rfl Tryd.sizeOf3 Tryd.isAgg3 rfl rfl rfl) rfl ?_
                                    refine AHead.go rfl rfl rfl h92 (o_bin _ _ rfl rfl (fun _ => rfl) rfl) rfl ?_
                                    refine AHead.go rfl rfl rfl h92 (o_move _ rfl rfl) rfl ?_
                                    refine AHead.split rfl rfl rfl (fun h100 => ?_) (fun h100 => ?_)
                                    · skip
                                      refine AHead.go rfl rfl rfl h100 (o_fieldRef _ rfl fa54_3 rfl rfl) rfl ?_
                                      refine AHead.go rfl rfl rfl h100 (o_loadRef _ rfl rfl Tryd.sizeOf3 Tryd.isAgg3 rfl rfl rfl) rfl ?_
                                      refine AHead.go rfl rfl rfl h100 (o_loadRd _ rfl Tryd.sizeOf80 Tryd.isAgg80 rfl rfl rfl) rfl ?_
                                      refine AHead.go rfl rfl rfl h100 (o_move _ rfl rfl) rfl ?_
                                      refine AHead.go rfl rfl rfl h100 (o_index _ _ Tryd.underlying80 Tryd.sizeOf54 rfl rfl (by omega) helv rfl rfl) rfl ?_
                                      refine AHead.go rfl rfl rfl h100 (o_fieldRd _ rfl fa54_3 rfl) rfl ?_
                                      refine AHead.go rfl rfl rfl h100 (o_loadRd _ rfl Tryd.sizeOf3 Tryd.isAgg3 rfl rfl rfl) rfl ?_
                                      refine AHead.go rfl rfl rfl h100 (o_bin _ _ rfl rfl (fun _ => rfl) rfl) rfl ?_
                                      refine AHead.go rfl rfl rfl h100 (o_move _ rfl rfl) rfl ?_
                                      refine AHead.split rfl rfl rfl (fun h108 => ?_) (fun h108 => ?_)
                                      · skip
                                        have q5 : l[j].known = l[v].known := by have hh := h108; simpa using hh
                                        refine AHead.go rfl rfl rfl h108 (o_move _ rfl rfl) rfl ?_
                                        refine AHead.go rfl rfl rfl h108 (o_move _ rfl rfl) rfl ?_
                                        refine AHead.go rfl rfl rfl h108 (o_bin _ _ rfl rfl (fun _ => rfl) rfl) rfl ?_
                                        refine AHead.go rfl rfl rfl h100 (o_pickT _ _ _ rfl h108 rfl rfl) rfl ?_
                                        refine AHead.go rfl rfl rfl h92 (o_pickF _ _ _ rfl h100 rfl rfl) rfl ?_
                                        refine AHead.call (o_pickT _ _ _ rfl h92 rfl rfl) rfl ?_
                                        refine AHead.nil ?_
                                        refine AOps.nil ?_
                                        refine AWP.cond _ rfl (fun h110 => ?_) (fun h110 => ?_)
                                        · skip
                                          exfalso
                                          exact hno ⟨q1, q3, .inr ⟨q5, by have hq := of_decide_eq_true h110; omega⟩⟩
                                        · skip
                                          refine AWP.skip ?_
                                          refine AWP.region ?_
                                          refine AOps.call (o_add _ _ rfl rfl ⟨by (try dsimp only); omega, by (try dsimp only); omega⟩ rfl) ?_
                                          refine AOps.call (o_move _ rfl rfl) ?_
                                          refine AOps.nil ?_
                                          refine ⟨j + 1, ?_, (Weak.mk' rfl ⟨⟨.refl rfl, rfl⟩, ⟨⟨.refl rfl, rfl⟩, ⟨⟨.refl rfl, rfl⟩, ⟨⟨.refl rfl, rfl⟩, ⟨⟨.refl rfl, rfl⟩, ⟨⟨.refl rfl, rfl⟩, ⟨⟨.refl rfl, rfl⟩, ⟨⟨.refl rfl, rfl⟩, ⟨⟨.refl rfl, rfl⟩, ⟨⟨.refl rfl, rfl⟩, ⟨⟨.refl rfl, rfl⟩, ⟨⟨.refl rfl, rfl⟩, ⟨⟨.refl rfl, rfl⟩, ⟨⟨.refl rfl, rfl⟩, trivial⟩⟩⟩⟩⟩⟩⟩⟩⟩⟩⟩⟩⟩⟩ trivial trivial)⟩
                                          exact ⟨by omega, by omega⟩
                                      · skip
                                        refine AHead.pass rfl rfl rfl h108 rfl ?_
                                        refine AHead.pass rfl rfl rfl h108 rfl ?_
                                        refine AHead.pass rfl rfl rfl h108 rfl ?_
                                        refine AHead.go rfl rfl rfl h100 (o_pickF _ _ _ rfl h108 rfl rfl) rfl ?_
                                        refine AHead.go rfl rfl rfl h92 (o_pickF _ _ _ rfl h100 rfl rfl) rfl ?_
                                        refine AHead.call (o_pickT _ _ _ rfl h92 rfl rfl) rfl ?_
                                        refine AHead.nil ?_
                                        refine AOps.nil ?_
                                        refine AWP.condF rfl ?_
                                        refine AWP.skip ?_
                                        refine AWP.region ?_
                                        refine AOps.call (o_add _ _ rfl rfl ⟨by (try dsimp only); omega, by (try dsimp only); omega⟩ rfl) ?_
                                        refine AOps.call (o_move _ rfl rfl) ?_
                                        refine AOps.nil ?_
                                        refine ⟨j + 1, ?_, (Weak.mk' rfl ⟨⟨.refl rfl, rfl⟩, ⟨⟨.refl rfl, rfl⟩, ⟨⟨.refl rfl, rfl⟩, ⟨⟨.refl rfl, rfl⟩, ⟨⟨.refl rfl, rfl⟩, ⟨⟨.refl rfl, rfl⟩, ⟨⟨.refl rfl, rfl⟩, ⟨⟨.refl rfl, rfl⟩, ⟨⟨.refl rfl, rfl⟩, ⟨⟨.refl rfl, rfl⟩, ⟨⟨.refl rfl, rfl⟩, ⟨⟨.refl rfl, rfl⟩, ⟨⟨.refl rfl, rfl⟩, ⟨⟨.refl rfl, rfl⟩, trivial⟩⟩⟩⟩⟩⟩⟩⟩⟩⟩⟩⟩⟩⟩ trivial trivial)⟩
                                        exact ⟨by omega, by omega⟩
                                    · skip
                                      have q4 : l[j].known > l[v].known := of_decide_eq_true h100
                                      refine AHead.pass rfl rfl rfl h100 rfl ?_
                                      refine AHead.pass rfl rfl rfl h100 rfl ?_
                                      refine AHead.pass rfl rfl rfl h100 rfl ?_
                                      refine AHead.pass rfl rfl rfl h100 rfl ?_
                                      refine AHead.pass rfl rfl rfl h100 rfl ?_
                                      refine AHead.pass rfl rfl rfl h100 rfl ?_
                                      refine AHead.pass rfl rfl rfl h100 rfl ?_
                                      refine AHead.pass rfl rfl rfl h100 rfl ?_
                                      refine AHead.pass rfl rfl rfl h100 rfl ?_
                                      refine AHead.passU rfl rfl rfl rfl ?_
                                      refine AHead.passU rfl rfl rfl rfl ?_
                                      refine AHead.passU rfl rfl rfl rfl ?_
                                      refine AHead.pass rfl rfl rfl h100 rfl ?_
                                      refine AHead.go rfl rfl rfl h92 (o_pickT _ _ _ rfl h100 rfl rfl) rfl ?_
                                      refine AHead.call (o_pickT _ _ _ rfl h92 rfl rfl) rfl ?_
                                      refine AHead.nil ?_
                                      refine AOps.nil ?_
                                      refine AWP.condT rfl ?_
                                      exfalso
                                      exact hno ⟨q1, q3, .inl q4⟩
                                  · skip
                                    refine AHead.pass rfl rfl rfl h92 rfl ?_
                                    refine AHead.pass rfl rfl rfl h92 rfl ?_
                                    refine AHead.pass rfl rfl rfl h92 rfl ?_
                                    refine AHead.pass rfl rfl rfl h92 rfl ?_
                                    refine AHead.pass rfl rfl rfl h92 rfl ?_
                                    refine AHead.pass rfl rfl rfl h92 rfl ?_
                                    refine AHead.pass rfl rfl rfl h92 rfl ?_
                                    refine AHead.pass rfl rfl rfl h92 rfl ?_
                                    refine AHead.pass rfl rfl rfl h92 rfl ?_
                                    refine AHead.passU rfl rfl rfl rfl ?_
                                    refine AHead.passU rfl rfl rfl rfl ?_
                                    refine AHead.passU rfl rfl rfl rfl ?_
                                    refine AHead.passU rfl rfl rfl rfl ?_
                                    refine AHead.passU rfl rfl rfl rfl ?_
                                    refine AHead.passU rfl rfl rfl rfl ?_
                                    refine AHead.passU rfl rfl rfl rfl ?_
                                    refine AHead.passU rfl rfl rfl rfl ?_
                                    refine AHead.passU rfl rfl rfl rfl ?_
                                    refine AHead.passU rfl rfl rfl rfl ?_
                                    refine AHead.passU rfl rfl rfl rfl ?_
                                    refine AHead.passU rfl rfl rfl rfl ?_
                                    refine AHead.passU rfl rfl rfl rfl ?_
                                    refine AHead.pass rfl rfl rfl h92 rfl ?_
                                    refine AHead.call (o_pickF _ _ _ rfl h92 rfl rfl) rfl ?_
                                    refine AHead.nil ?_
                                    refine AOps.nil ?_
                                    refine AWP.condF rfl ?_
                                    refine AWP.skip ?_
                                    refine AWP.region ?_
                                    refine AOps.call (o_add _ _ rfl rfl ⟨by (try dsimp only); omega, by (try dsimp only); omega⟩ rfl) ?_
                                    refine AOps.call (o_move _ rfl rfl) ?_
                                    refine AOps.nil ?_
                                    refine ⟨j + 1, ?_, (Weak.mk' rfl ⟨⟨.refl rfl, rfl⟩, ⟨⟨.refl rfl, rfl⟩, ⟨⟨.refl rfl, rfl⟩, ⟨⟨.refl rfl, rfl⟩, ⟨⟨.refl rfl, rfl⟩, ⟨⟨.refl rfl, rfl⟩, ⟨⟨.refl rfl, rfl⟩, ⟨⟨.refl rfl, rfl⟩, ⟨⟨.refl rfl, rfl⟩, ⟨⟨.refl rfl, rfl⟩, ⟨⟨.refl rfl, rfl⟩, ⟨⟨.refl rfl, rfl⟩, ⟨⟨.refl rfl, rfl⟩, ⟨⟨.refl rfl, rfl⟩, trivial⟩⟩⟩⟩⟩⟩⟩⟩⟩⟩⟩⟩⟩⟩ trivial trivial)⟩
                                    exact ⟨by omega, by omega⟩
                                · skip
                                  refine AHead.pass rfl rfl rfl h86 rfl ?_
                                  refine AHead.pass rfl rfl rfl h86 rfl ?_
                                  refine AHead.pass rfl rfl rfl h86 rfl ?_
                                  refine AHead.pass rfl rfl rfl h86 rfl ?_
                                  refine AHead.pass rfl rfl rfl h86 rfl ?_
                                  refine AHead.call (o_pickF _ _ _ rfl h86 rfl rfl) rfl ?_
                                  refine AHead.call (o_move _ rfl rfl) rfl ?_
                                  refine AHead.pass rfl rfl rfl rfl rfl ?_
                                  refine AHead.pass rfl rfl rfl rfl rfl ?_
                                  refine AHead.pass rfl rfl rfl rfl rfl ?_
                                  refine AHead.pass rfl rfl rfl rfl rfl ?_
                                  refine AHead.pass rfl rfl rfl rfl rfl ?_
                                  refine AHead.pass rfl rfl rfl rfl rfl ?_
                                  refine AHead.pass rfl rfl rfl rfl rfl ?_
                                  refine AHead.pass rfl rfl rfl rfl rfl ?_
                                  refine AHead.pass rfl rfl rfl rfl rfl ?_
                                  refine AHead.passU rfl rfl rfl rfl ?_
                                  refine AHead.passU rfl rfl rfl rfl ?_
                                  refine AHead.passU rfl rfl rfl rfl ?_
                                  refine AHead.passU rfl rfl rfl rfl ?_
                                  refine AHead.passU rfl rfl rfl rfl ?_
                                  refine AHead.passU rfl rfl rfl rfl ?_
                                  refine AHead.passU rfl rfl rfl rfl ?_
                                  refine AHead.passU rfl rfl rfl rfl ?_
                                  refine AHead.passU rfl rfl rfl rfl ?_
                                  refine AHead.passU rfl rfl rfl rfl ?_
                                  refine AHead.passU rfl rfl rfl rfl ?_
                                  refine AHead.passU rfl rfl rfl rfl ?_
                                  refine AHead.passU rfl rfl rfl rfl ?_
                                  refine AHead.pass rfl rfl rfl rfl rfl ?_
                                  refine AHead.call (o_pickF _ _ _ rfl rfl rfl rfl) rfl ?_
                                  refine AHead.nil ?_
                                  refine AOps.nil ?_
                                  refine AWP.condF rfl ?_
                                  refine AWP.skip ?_
                                  refine AWP.region ?_
                                  refine AOps.call (o_add _ _ rfl rfl ⟨by (try dsimp only); omega, by (try dsimp only); omega⟩ rfl) ?_
                                  refine AOps.call (o_move _ rfl rfl) ?_
                                  refine AOps.nil ?_
                                  refine ⟨j + 1, ?_, (Weak.mk' rfl ⟨⟨.refl rfl, rfl⟩, ⟨⟨.refl rfl, rfl⟩, ⟨⟨.refl rfl, rfl⟩, ⟨⟨.refl rfl, rfl⟩, ⟨⟨.refl rfl, rfl⟩, ⟨⟨.refl rfl, rfl⟩, ⟨⟨.refl rfl, rfl⟩, ⟨⟨.refl rfl, rfl⟩, ⟨⟨.refl rfl, rfl⟩, ⟨⟨.refl rfl, rfl⟩, ⟨⟨.refl rfl, rfl⟩, ⟨⟨.refl rfl, rfl⟩, ⟨⟨.refl rfl, rfl⟩, ⟨⟨.refl rfl, rfl⟩, trivial⟩⟩⟩⟩⟩⟩⟩⟩⟩⟩⟩⟩⟩⟩ trivial trivial)⟩
                                  exact ⟨by omega, by omega⟩
                              · skip
                                refine AHead.pass rfl rfl rfl h84 rfl ?_
                                refine AHead.pass rfl rfl rfl h84 rfl ?_
                                refine AHead.pass rfl rfl rfl h84 rfl ?_
                                refine AHead.call (o_pickF _ _ _ rfl h84 rfl rfl) rfl ?_
                                refine AHead.call (o_move _ rfl rfl) rfl ?_
                                refine AHead.pass rfl rfl rfl rfl rfl ?_
                                refine AHead.pass rfl rfl rfl rfl rfl ?_
                                refine AHead.pass rfl rfl rfl rfl rfl ?_
                                refine AHead.pass rfl rfl rfl rfl rfl ?_
                                refine AHead.pass rfl rfl rfl rfl rfl ?_
                                refine AHead.call (o_pickF _ _ _ rfl rfl rfl rfl) rfl ?_
                                refine AHead.call (o_move _ rfl rfl) rfl ?_
                                refine AHead.pass rfl rfl rfl rfl rfl ?_
                                refine AHead.pass rfl rfl rfl rfl rfl ?_
                                refine AHead.pass rfl rfl rfl rfl rfl ?_
                                refine AHead.pass rfl rfl rfl rfl rfl ?_
                                refine AHead.pass rfl rfl rfl rfl rfl ?_
                                refine AHead.pass rfl rfl rfl rfl rfl ?_
                                refine AHead.pass rfl rfl rfl rfl rfl ?_
                                refine AHead.pass rfl rfl rfl rfl rfl ?_
                                refine AHead.pass rfl rfl rfl rfl rfl ?_
                                refine AHead.passU rfl rfl rfl rfl ?_
                                refine AHead.passU rfl rfl rfl rfl ?_
                                refine AHead.passU rfl rfl rfl rfl ?_
                                refine AHead.passU rfl rfl rfl rfl ?_
                                refine AHead.passU rfl rfl rfl rfl ?_
                                refine AHead.passU rfl rfl rfl rfl ?_
                                refine AHead.passU rfl rfl rfl rfl ?_
                                refine AHead.passU rfl rfl rfl rfl ?_
                                refine AHead.passU rfl rfl rfl rfl ?_
                                refine AHead.passU rfl rfl rfl rfl ?_
                                refine AHead.passU rfl rfl rfl rfl ?_
                                refine AHead.passU rfl rfl rfl rfl ?_
                                refine AHead.passU rfl rfl rfl rfl ?_
                                refine AHead.pass rfl rfl rfl rfl rfl ?_
                                refine AHead.call (o_pickF _ _ _ rfl rfl rfl rfl) rfl ?_
                                refine AHead.nil ?_
                                refine AOps.nil ?_
                                refine AWP.condF rfl ?_
                                refine AWP.skip ?_
                                refine AWP.region ?_
                                refine AOps.call (o_add _ _ rfl rfl ⟨by (try dsimp only); omega, by (try dsimp only); omega⟩ rfl) ?_
                                refine AOps.call (o_move _ rfl rfl) ?_
                                refine AOps.nil ?_
                                refine ⟨j + 1, ?_, (Weak.mk' rfl ⟨⟨.refl rfl, rfl⟩, ⟨⟨.refl rfl, rfl⟩, ⟨⟨.refl rfl, rfl⟩, ⟨⟨.refl rfl, rfl⟩, ⟨⟨.refl rfl, rfl⟩, ⟨⟨.refl rfl, rfl⟩, ⟨⟨.refl rfl, rfl⟩, ⟨⟨.refl rfl, rfl⟩, ⟨⟨.refl rfl, rfl⟩, ⟨⟨.refl rfl, rfl⟩, ⟨⟨.refl rfl, rfl⟩, ⟨⟨.refl rfl, rfl⟩, ⟨⟨.refl rfl, rfl⟩, ⟨⟨.refl rfl, rfl⟩, trivial⟩⟩⟩⟩⟩⟩⟩⟩⟩⟩⟩⟩⟩⟩ trivial trivial)⟩
                                exact ⟨by omega, by omega⟩
                            · skip
                              refine AWP.exit ?_
                              refine AWP.region ?_
                              refine AOps.call (o_add _ _ rfl rfl ⟨by (try dsimp only); omega, by (try dsimp only); omega⟩ rfl) ?_
                              refine AOps.call (o_move _ rfl rfl) ?_
                              refine AOps.nil ?_
                              refine ⟨k + 1, ?_, (Weak.mk' rfl ⟨⟨.refl rfl, rfl⟩, ⟨⟨.refl rfl, rfl⟩, ⟨⟨.refl rfl, rfl⟩, ⟨⟨.refl rfl, rfl⟩, ⟨⟨.refl rfl, rfl⟩, ⟨⟨.refl rfl, rfl⟩, ⟨⟨.refl rfl, rfl⟩, ⟨⟨.refl rfl, rfl⟩, ⟨⟨.refl rfl, rfl⟩, trivial⟩⟩⟩⟩⟩⟩⟩⟩⟩ trivial trivial)⟩
                              exact ⟨by omega, by omega⟩
                        · skip
                          exfalso
                          have hh := h60
                          rw [hcv] at hh
                          cases hh
                      · skip
                        exfalso
                        have hq := of_decide_eq_true h53
                        omega
                    · skip
                      refine AHead.pass rfl rfl rfl h48 rfl ?_
                      refine AHead.pass rfl rfl rfl h48 rfl ?_
                      refine AHead.pass rfl rfl rfl h48 rfl ?_
                      refine AHead.pass rfl rfl rfl h48 rfl ?_
                      refine AHead.pass rfl rfl rfl h48 rfl ?_
                      refine AHead.pass rfl rfl rfl h48 rfl ?_
                      refine AHead.pass rfl rfl rfl h48 rfl ?_
                      refine AHead.go rfl rfl rfl h46 (o_pickF _ _ _ rfl h48 rfl rfl) rfl ?_
                      refine AHead.call (o_pickF _ _ _ rfl h46 rfl rfl) rfl ?_
                      refine AHead.call (o_move _ rfl rfl) rfl ?_
                      refine AHead.go rfl rfl rfl rfl (o_move _ rfl rfl) rfl ?_
                      refine AHead.go rfl rfl rfl rfl (o_loadRd _ rfl Tryd.sizeOf80 Tryd.isAgg80 rfl rfl rfl) rfl ?_
                      refine AHead.go rfl rfl rfl rfl (o_move _ rfl rfl) rfl ?_
                      refine AHead.go rfl rfl rfl rfl (o_index _ _ Tryd.underlying80 Tryd.sizeOf54 rfl rfl (by omega) helv rfl rfl) rfl ?_
                      refine AHead.go rfl rfl rfl rfl (o_fieldRd _ rfl fa54_0 rfl) rfl ?_
                      refine AHead.go rfl rfl rfl rfl (o_loadRd _ rfl Tryd.sizeOf3 Tryd.isAgg3 rfl rfl rfl) rfl ?_
                      refine AHead.go rfl rfl rfl rfl (o_call (Contains_s wd l[v].no (by omega)) Tryd.call39 rfl rfl) rfl ?_
                      refine AHead.call (o_pickF _ _ _ rfl rfl rfl rfl) rfl ?_
                      refine AHead.call (o_move _ rfl rfl) rfl ?_
                      refine AHead.split rfl rfl rfl (fun h123 => ?_) (fun h123 => ?_)
                      · skip
                        refine AHead.go rfl rfl rfl h123 (o_loadRd _ rfl Tryd.sizeOf80 Tryd.isAgg80 rfl rfl rfl) rfl ?_
                        refine AHead.go rfl rfl rfl h123 (o_move _ rfl rfl) rfl ?_
                        refine AHead.go rfl rfl rfl h123 (o_index _ _ Tryd.underlying80 Tryd.sizeOf54 rfl rfl (by omega) helv rfl rfl) rfl ?_
                        refine AHead.go rfl rfl rfl h123 (o_fieldRd _ rfl fa54_3 rfl) rfl ?_
                        refine AHead.go rfl rfl rfl h123 (o_loadRd _ rfl Tryd.sizeOf3 Tryd.isAgg3 rfl rfl rfl) rfl ?_
                        refine AHead.go rfl rfl rfl h123 (o_indexArrRd _ _ Tryd.underlying38 Tryd.sizeOf3 rfl rfl (by omega) (by omega) rfl rfl) rfl ?_
                        refine AHead.go rfl rfl rfl h123 (o_loadRd _ rfl Tryd.sizeOf3 Tryd.isAgg3 rfl rfl rfl) rfl ?_
                        refine AHead.go rfl rfl rfl h123 (o_bin _ _ rfl rfl (fun _ => rfl) rfl) rfl ?_
                        refine AHead.call (o_pickF _ _ _ rfl h123 rfl rfl) rfl ?_
                        refine AHead.nil ?_
                        refine AOps.nil ?_
                        refine AWP.cond _ rfl (fun h131 => ?_) (fun h131 => ?_)
                        · skip
                          exfalso
                          have hq := of_decide_eq_true h131
                          omega
                        · skip
                          refine AWP.skip ?_
                          refine AWP.seq ?_
                          refine AWP.region ?_
                          refine AOps.call (o_loadRd _ rfl Tryd.sizeOf80 Tryd.isAgg80 rfl rfl rfl) ?_
                          refine AOps.call (o_len _ Tryd.underlying80 rfl rfl) ?_
                          refine AOps.call (o_move _ rfl rfl) ?_
                          refine AOps.nil ?_
                          refine AWP.block ?_
                          refine AWP.loop (ι := Nat) (fun i => AS.mk' 302 [(2, .sl (ints wd)), (4, I u), (5, .rd (eS c)), (6, .rd [.sl (shts l)]), (8, .rd [I d0, I d1, I d2]), (11, .sl (ints x)), (66, .sl (ints x)), (67, I (ints x).length), (68, I k), (13, I k), (14, I v), (113, .sl (shts l)), (114, I (shts l).length), (115, I i)] [] [] []) (fun i => i ≤ l.length) (fun i => l.length - i) (0) (Weak.mk' rfl ⟨⟨.refl rfl, rfl⟩, ⟨⟨.refl rfl, rfl⟩, ⟨⟨.refl rfl, rfl⟩, ⟨⟨.refl rfl, rfl⟩, ⟨⟨.refl rfl, rfl⟩, ⟨⟨.refl rfl, rfl⟩, ⟨⟨.refl rfl, rfl⟩, ⟨⟨.refl rfl, rfl⟩, ⟨⟨.refl rfl, rfl⟩, ⟨⟨.refl rfl, rfl⟩, ⟨⟨.refl rfl, rfl⟩, ⟨⟨.refl rfl, rfl⟩, ⟨⟨.refl rfl, rfl⟩, ⟨⟨.refl rfl, rfl⟩, trivial⟩⟩⟩⟩⟩⟩⟩⟩⟩⟩⟩⟩⟩⟩ trivial trivial) (Nat.zero_le _) ?_
                          rintro j hj
                          try dsimp only at *
                          refine AWP.seq ?_
                          refine AWP.region ?_
                          refine AOps.call (o_bin _ _ rfl rfl (fun _ => rfl) rfl) ?_
                          refine AOps.nil ?_
                          refine AWP.seq ?_
                          refine AWP.cond _ rfl (fun h136 => ?_) (fun h136 => ?_)
                          · skip
                            have hlt : j < l.length := by have hq := of_decide_eq_true h136; rw [shts_len] at hq; omega
                            have hel := shts_get hlt
                            have hll := shts_len l
                            have hno := notOver (any_not hov hlt)
                            refine AWP.skip ?_
                            refine AWP.seq ?_
                            refine AWP.block ?_
                            refine AWP.seq ?_
                            refine AWP.region ?_
                            refine AOps.call (o_move _ rfl rfl) ?_
                            refine AOps.call (o_index _ _ Tryd.underlying80 Tryd.sizeOf54 rfl rfl (by omega) hel rfl rfl) ?_
                            refine AOps.call (o_loadRd _ rfl Tryd.sizeOf54 Tryd.isAgg54 rfl rfl rfl) ?_
                            refine AOps.call (o_alloc ze54 rfl rfl) ?_
                            refine AOps.call (o_assign _ rfl rfl) ?_
                            refine AOps.cons (o_store _ _ rfl rfl Tryd.sizeOf54 rfl rfl rfl rfl rfl) ?_
                            refine AOps.nil ?_
                            refine AWP.seq ?_
                            refine AWP.drawn 45 mixed (by kernel_rfl) ?_
                            refine AHead.call (o_fieldRef _ rfl fa54_0 rfl rfl) rfl ?_
                            refine AHead.call (o_loadRef _ rfl rfl Tryd.sizeOf3 Tryd.isAgg3 rfl rfl rfl) rfl ?_
                            refine AHead.call (o_loadRd _ rfl Tryd.sizeOf80 Tryd.isAgg80 rfl rfl rfl) rfl ?_
                            refine AHead.call (o_move _ rfl rfl) rfl ?_
                            refine AHead.call (o_index _ _ Tryd.underlying80 Tryd.sizeOf54 rfl rfl (by omega) helv rfl rfl) rfl ?_
                            refine AHead.call (o_fieldRd _ rfl fa54_0 rfl) rfl ?_
                            refine AHead.call (o_loadRd _ rfl Tryd.sizeOf3 Tryd.isAgg3 rfl rfl rfl) rfl ?_
                            refine AHead.call (o_bin _ _ rfl rfl (fun _ => rfl) rfl) rfl ?_
                            refine AHead.call (o_move _ rfl rfl) rfl ?_
                            refine AHead.split rfl rfl rfl (fun h147 => ?_) (fun h147 => ?_)
                            · skip
                              have q1 : l[j].no = l[v].no := by have hh := h147; simpa using hh
                              refine AHead.go rfl rfl rfl h147 (o_move _ rfl rfl) rfl ?_
                              refine AHead.go rfl rfl rfl h147 (o_move _ rfl rfl) rfl ?_
                              refine AHead.go rfl rfl rfl h147 (o_bin _ _ rfl rfl (fun _ => rfl) rfl) rfl ?_
                              refine AHead.call (o_pickT _ _ _ rfl h147 rfl rfl) rfl ?_
                              refine AHead.call (o_move _ rfl rfl) rfl ?_
                              refine AHead.split rfl rfl rfl (fun h149 => ?_) (fun h149 => ?_)
                              · skip
                                refine AHead.go rfl rfl rfl h149 (o_fieldRef _ rfl fa54_3 rfl rfl) rfl ?_
                                refine AHead.go rfl rfl rfl h149 (o_loadRef _ rfl rfl Tryd.sizeOf3 Tryd.isAgg3 rfl rfl rfl) rfl ?_
                                refine AHead.go rfl rfl rfl h149 (o_indexArrRd _ _ Tryd.underlying38 Tryd.sizeOf3 rfl rfl (by omega) (by omega) rfl rfl) rfl ?_
                                refine AHead.go rfl rfl rfl h149 (o_loadRd _ rfl Tryd.sizeOf3 Tryd.isAgg3 rfl rfl rfl) rfl ?_
                                refine AHead.go rfl rfl rfl h149 (o_bin _ _ rfl rfl (fun _ => rfl) rfl) rfl ?_
                                refine AHead.call (o_pickT _ _ _ rfl h149 rfl rfl) rfl ?_
                                refine AHead.call (o_move _ rfl rfl) rfl ?_
                                refine AHead.split rfl rfl rfl (fun h155 => ?_) (fun h155 => ?_)
                                · skip
                                  have q3 : l[j].known ≤ d0 := of_decide_eq_true h155
                                  refine AHead.go rfl rfl rfl h155 (o_fieldRef _ rfl fa54_3 rfl rfl) rfl ?_
                                  refine AHead.go rfl rfl rfl h155 (o_loadRef _ rfl rfl Tryd.sizeOf3 Tryd.isAgg3 rfl rfl rfl) rfl ?_
                                  refine AHead.go rfl rfl rfl h155 (o_loadRd _ rfl Tryd.sizeOf80 Tryd.isAgg80 rfl rfl rfl) rfl ?_
                                  refine AHead.go rfl rfl rfl h155 (o_move _ rfl rfl) rfl ?_
                                  refine AHead.go rfl rfl rfl h155 (o_index _ _ Tryd.underlying80 Tryd.sizeOf54 rfl rfl (by omega) helv rfl rfl) rfl ?_
                                  refine AHead.go rfl rfl rfl h155 (o_fieldRd _ rfl fa54_3 rfl) rfl ?_
                                  refine AHead.go rfl rfl rfl h155 (o_loadRd _ rfl Tryd.sizeOf3 Tryd.isAgg3 rfl rfl rfl) rfl ?_
                                  refine AHead.go rfl rfl rfl h155 (o_bin _ _ rfl rfl (fun _ => rfl) rfl) rfl ?_
                                  refine AHead.go rfl rfl rfl h155 (o_move _ rfl rfl) rfl ?_
                                  refine AHead.split rfl rfl rfl (fun h163 => ?_) (fun h163 => ?_)
                                  · skip
                                    refine AHead.go rfl rfl rfl h163 (o_fieldRef _ rfl fa54_3 rfl rfl) rfl ?_
                                    refine AHead.go rfl rfl rfl h163 (o_loadRef _ rfl rfl Tryd.sizeOf3 Tryd.isAgg3 rfl rfl rfl) rfl ?_
                                    refine AHead.go rfl rfl rfl h163 (o_loadRd _ rfl Tryd.sizeOf80 Tryd.isAgg80 rfl rfl rfl) rfl ?_
                                    refine AHead.go rfl rfl rfl h163 (o_move _ rfl rfl) rfl ?_
                                    refine AHead.go rfl rfl rfl h163 (o_index _ _ Tryd.underlying80 Tryd.sizeOf54 rfl rfl (by omega) helv rfl rfl) rfl ?_
                                    refine AHead.go rfl rfl rfl h163 (o_fieldRd _ rfl fa54_3 rfl) rfl ?_
                                    refine AHead.go rfl rfl rfl h163 (o_loadRd _ rfl Tryd.sizeOf3 Tryd.isAgg3 rfl rfl rfl) rfl ?_
                                    refine AHead.go rfl rfl rfl h163 (o_bin _ _ rfl rfl (fun _ => rfl) rfl) rfl ?_
                                    refine AHead.go rfl rfl rfl h163 (o_move _ rfl rfl) rfl ?_
                                    refine AHead.split rfl rfl rfl (fun h171 => ?_) (fun h171 => ?_)
                                    · skip
                                      have q5 : l[j].known = l[v].known := by have hh := h171; simpa using hh
                                      refine AHead.go rfl rfl rfl h171 (o_move _ rfl rfl) rfl ?_
                                      refine AHead.go rfl rfl rfl h171 (o_move _ rfl rfl) rfl ?_
                                      refine AHead.go rfl rfl rfl h171 (o_bin _ _ rfl rfl (fun _ => rfl) rfl) rfl ?_
                                      refine AHead.go rfl rfl rfl h163 (o_pickT _ _ _ rfl h171 rfl rfl) rfl ?_
                                      refine AHead.go rfl rfl rfl h155 (o_pickF _ _ _ rfl h163 rfl rfl) rfl ?_
                                      refine AHead.call (o_pickT _ _ _ rfl h155 rfl rfl) rfl ?_
                                      refine AHead.nil ?_
                                      refine AOps.nil ?_
                                      refine AWP.cond _ rfl (fun h173 => ?_) (fun h173 => ?_)
                                      · skip
                                        exfalso
                                        exact hno ⟨q1, q3, .inr ⟨q5, by have hq := of_decide_eq_true h173; omega⟩⟩
                                      · skip
                                        refine AWP.skip ?_
                                        refine AWP.region ?_
                                        refine AOps.call (o_add _ _ rfl rfl ⟨by (try dsimp only); omega, by (try dsimp only); omega⟩ rfl) ?_
                                        refine AOps.call (o_move _ rfl rfl) ?_
                                        refine AOps.nil ?_
                                        refine ⟨j + 1, ?_, (Weak.mk' rfl ⟨⟨.refl rfl, rfl⟩, ⟨⟨.refl rfl, rfl⟩, ⟨⟨.refl rfl, rfl⟩, ⟨⟨.refl rfl, rfl⟩, ⟨⟨.refl rfl, rfl⟩, ⟨⟨.refl rfl, rfl⟩, ⟨⟨.refl rfl, rfl⟩, ⟨⟨.refl rfl, rfl⟩, ⟨⟨.refl rfl, rfl⟩, ⟨⟨.refl rfl, rfl⟩, ⟨⟨.refl rfl, rfl⟩, ⟨⟨.refl rfl, rfl⟩, ⟨⟨.refl rfl, rfl⟩, ⟨⟨.refl rfl, rfl⟩, trivial⟩⟩⟩⟩⟩⟩⟩⟩⟩⟩⟩⟩⟩⟩ trivial trivial)⟩
                                        exact ⟨by omega, by omega⟩
                                    · skip
                                      refine AHead.pass rfl rfl rfl h171 rfl ?_
                                      refine AHead.pass rfl rfl rfl h171 rfl ?_
                                      refine AHead.pass rfl rfl rfl h171 rfl ?_
                                      refine AHead.go rfl rfl rfl h163 (o_pickF _ _ _ rfl h171 rfl rfl) rfl ?_
                                      refine AHead.go rfl rfl rfl h155 (o_pickF _ _ _ rfl h163 rfl rfl) rfl ?_
                                      refine AHead.call (o_pickT _ _ _ rfl h155 rfl rfl) rfl ?_
                                      refine AHead.nil ?_
                                      refine AOps.nil ?_
                                      refine AWP.condF rfl ?_
                                      refine AWP.skip ?_
                                      refine AWP.region ?_
                                      refine AOps.call (o_add _ _ rfl rfl ⟨by (try dsimp only); omega, by (try dsimp only); omega⟩ rfl) ?_
                                      refine AOps.call (o_move _ rfl rfl) ?_
                                      refine AOps.nil ?_
                                      refine ⟨j + 1, ?_, (Weak.mk' rfl ⟨⟨.refl rfl, rfl⟩, ⟨⟨.refl rfl, rfl⟩, ⟨⟨.refl rfl, rfl⟩, ⟨⟨.refl rfl, rfl⟩, ⟨⟨.refl rfl, rfl⟩, ⟨⟨.refl rfl, rfl⟩, ⟨⟨.refl rfl, rfl⟩, ⟨⟨.refl rfl, rfl⟩, ⟨⟨.refl rfl, rfl⟩, ⟨⟨.refl rfl, rfl⟩, ⟨⟨.refl rfl, rfl⟩, ⟨⟨.refl rfl, rfl⟩, ⟨⟨.refl rfl, rfl⟩, ⟨⟨.refl rfl, rfl⟩, trivial⟩⟩⟩⟩⟩⟩⟩⟩⟩⟩⟩⟩⟩⟩ trivial trivial)⟩
                                      exact ⟨by omega, by omega⟩
                                  · skip
                                    have q4 : l[j].known > l[v].known := of_decide_eq_true h163
                                    refine AHead.pass rfl rfl rfl h163 rfl ?_
                                    refine AHead.pass rfl rfl rfl h163 rfl ?_
                                    refine AHead.pass rfl rfl rfl h163 rfl ?_
                                    refine AHead.pass rfl rfl rfl h163 rfl ?_
                                    refine AHead.pass rfl rfl rfl h163 rfl ?_
                                    refine AHead.pass rfl rfl rfl h163 rfl ?_
                                    refine AHead.pass rfl rfl rfl h163 rfl ?_
                                    refine AHead.pass rfl rfl rfl h163 rfl ?_
                                    refine AHead.pass rfl rfl rfl h163 rfl ?_
                                    refine AHead.passU rfl rfl rfl rfl ?_
                                    refine AHead.passU rfl rfl rfl rfl ?_
                                    refine AHead.passU rfl rfl rfl rfl ?_
                                    refine AHead.pass rfl rfl rfl h163 rfl ?_
                                    refine AHead.go rfl rfl rfl h155 (o_pickT _ _ _ rfl h163 rfl rfl) rfl ?_
                                    refine AHead.call (o_pickT _ _ _ rfl h155 rfl rfl) rfl ?_
                                    refine AHead.nil ?_
                                    refine AOps.nil ?_
                                    refine AWP.condT rfl ?_
                                    exfalso
                                    exact hno ⟨q1, q3, .inl q4⟩
                                · skip
                                  refine AHead.pass rfl rfl rfl h155 rfl ?_
                                  refine AHead.pass rfl rfl rfl h155 rfl ?_
                                  refine AHead.pass rfl rfl rfl h155 rfl ?_
                                  refine AHead.pass rfl rfl rfl h155 rfl ?_
                                  refine AHead.pass rfl rfl rfl h155 rfl ?_
                                  refine AHead.pass rfl rfl rfl h155 rfl ?_
                                  refine AHead.pass rfl rfl rfl h155 rfl ?_
                                  refine AHead.pass rfl rfl rfl h155 rfl ?_
                                  refine AHead.pass rfl rfl rfl h155 rfl ?_
                                  refine AHead.passU rfl rfl rfl rfl ?_
                                  refine AHead.passU rfl rfl rfl rfl ?_
                                  refine AHead.passU rfl rfl rfl rfl ?_
                                  refine AHead.passU rfl rfl rfl rfl ?_
                                  refine AHead.passU rfl rfl rfl rfl ?_
                                  refine AHead.passU rfl rfl rfl rfl ?_
                                  refine AHead.passU rfl rfl rfl rfl ?_
                                  refine AHead.passU rfl rfl rfl rfl ?_
                                  refine AHead.passU rfl rfl rfl rfl ?_
                                  refine AHead.passU rfl rfl rfl rfl ?_
                                  refine AHead.passU rfl rfl rfl rfl ?_
                                  refine AHead.passU rfl rfl rfl rfl ?_
                                  refine AHead.passU rfl rfl rfl rfl ?_
                                  refine AHead.pass rfl rfl rfl h155 rfl ?_
                                  refine AHead.call (o_pickF _ _ _ rfl h155 rfl rfl) rfl ?_
                                  refine AHead.nil ?_
                                  refine AOps.nil ?_
                                  refine AWP.condF rfl ?_
                                  refine AWP.skip ?_
                                  refine AWP.region ?_
                                  refine AOps.call (o_add _ _ rfl rfl ⟨by (try dsimp only); omega, by (try dsimp only); omega⟩ rfl) ?_
                                  refine AOps.call (o_move _ rfl rfl) ?_
                                  refine AOps.nil ?_
                                  refine ⟨j + 1, ?_, (Weak.mk' rfl ⟨⟨.refl rfl, rfl⟩, ⟨⟨.refl rfl, rfl⟩, ⟨⟨.refl rfl, rfl⟩, ⟨⟨.refl rfl, rfl⟩, ⟨⟨.refl rfl, rfl⟩, ⟨⟨.refl rfl, rfl⟩, ⟨⟨.refl rfl, rfl⟩, ⟨⟨.refl rfl, rfl⟩, ⟨⟨.refl rfl, rfl⟩, ⟨⟨.refl rfl, rfl⟩, ⟨⟨.refl rfl, rfl⟩, ⟨⟨.refl rfl, rfl⟩, ⟨⟨.refl rfl, rfl⟩, ⟨⟨.refl rfl, rfl⟩, trivial⟩⟩⟩⟩⟩⟩⟩⟩⟩⟩⟩⟩⟩⟩ trivial trivial)⟩
                                  exact ⟨by omega, by omega⟩
                              · skip
                                refine AHead.pass rfl rfl rfl h149 rfl ?_
                                refine AHead.pass rfl rfl rfl h149 rfl ?_
                                refine AHead.pass rfl rfl rfl h149 rfl ?_
                                refine AHead.pass rfl rfl rfl h149 rfl ?_
                                refine AHead.pass rfl rfl rfl h149 rfl ?_
                                refine AHead.call (o_pickF _ _ _ rfl h149 rfl rfl) rfl ?_
                                refine AHead.call (o_move _ rfl rfl) rfl ?_
                                refine AHead.pass rfl rfl rfl rfl rfl ?_
                                refine AHead.pass rfl rfl rfl rfl rfl ?_
                                refine AHead.pass rfl rfl rfl rfl rfl ?_
                                refine AHead.pass rfl rfl rfl rfl rfl ?_
                                refine AHead.pass rfl rfl rfl rfl rfl ?_
                                refine AHead.pass rfl rfl rfl rfl rfl ?_
                                refine AHead.pass rfl rfl rfl rfl rfl ?_
                                refine AHead.pass rfl rfl rfl rfl rfl ?_
                                refine AHead.pass rfl rfl rfl rfl rfl ?_
                                refine AHead.passU rfl rfl rfl rfl ?_
                                refine AHead.passU rfl rfl rfl rfl ?_
                                refine AHead.passU rfl rfl rfl rfl ?_
                                refine AHead.passU rfl rfl rfl rfl ?_
                                refine AHead.passU rfl rfl rfl rfl ?_
                                refine AHead.passU rfl rfl rfl rfl ?_
                                refine AHead.passU rfl rfl rfl rfl ?_
                                refine AHead.passU rfl rfl rfl rfl ?_
                                refine AHead.passU rfl rfl rfl rfl ?_
                                refine AHead.passU rfl rfl rfl rfl ?_
                                refine AHead.passU rfl rfl rfl rfl ?_
                                refine AHead.passU rfl rfl rfl rfl ?_
                                refine AHead.passU rfl rfl rfl rfl ?_
                                refine AHead.pass rfl rfl rfl rfl rfl ?_
                                refine AHead.call (o_pickF _ _ _ rfl rfl rfl rfl) rfl ?_
                                refine AHead.nil ?_
                                refine AOps.nil ?_
                                refine AWP.condF rfl ?_
                                refine AWP.skip ?_
                                refine AWP.region ?_
                                refine AOps.call (o_add _ _ rfl rfl ⟨by (try dsimp only); omega, by (try dsimp only); omega⟩ rfl) ?_
                                refine AOps.call (o_move _ rfl rfl) ?_
                                refine AOps.nil ?_
                                refine ⟨j + 1, ?_, (Weak.mk' rfl ⟨⟨.refl rfl, rfl⟩, ⟨⟨.refl rfl, rfl⟩, ⟨⟨.refl rfl, rfl⟩, ⟨⟨.refl rfl, rfl⟩, ⟨⟨.refl rfl, rfl⟩, ⟨⟨.refl rfl, rfl⟩, ⟨⟨.refl rfl, rfl⟩, ⟨⟨.refl rfl, rfl⟩, ⟨⟨.refl rfl, rfl⟩, ⟨⟨.refl rfl, rfl⟩, ⟨⟨.refl rfl, rfl⟩, ⟨⟨.refl rfl, rfl⟩, ⟨⟨.refl rfl, rfl⟩, ⟨⟨.refl rfl, rfl⟩, trivial⟩⟩⟩⟩⟩⟩⟩⟩⟩⟩⟩⟩⟩⟩ trivial trivial)⟩
                                exact ⟨by omega, by omega⟩
                            · skip
                              refine AHead.pass rfl rfl rfl h147 rfl ?_
                              refine AHead.pass rfl rfl rfl h147 rfl ?_
                              refine AHead.pass rfl rfl rfl h147 rfl ?_
                              refine AHead.call (o_pickF _ _ _ rfl h147 rfl rfl) rfl ?_
                              refine AHead.call (o_move _ rfl rfl) rfl ?_
                              refine AHead.pass rfl rfl rfl rfl rfl ?_
                              refine AHead.pass rfl rfl rfl rfl rfl ?_
                              refine AHead.pass rfl rfl rfl rfl rfl ?_
                              refine AHead.pass rfl rfl rfl rfl rfl ?_
                              refine AHead.pass rfl rfl rfl rfl rfl ?_
                              refine AHead.call (o_pickF _ _ _ rfl rfl rfl rfl) rfl ?_
                              refine AHead.call (o_move _ rfl rfl) rfl ?_
                              refine AHead.pass rfl rfl rfl rfl rfl ?_
                              refine AHead.pass rfl rfl rfl rfl rfl ?_
                              refine AHead.pass rfl rfl rfl rfl rfl ?_
                              refine AHead.pass rfl rfl rfl rfl rfl ?_
                              refine AHead.pass rfl rfl rfl rfl rfl ?_
                              refine AHead.pass rfl rfl rfl rfl rfl ?_
                              refine AHead.pass rfl rfl rfl rfl rfl ?_
                              refine AHead.pass rfl rfl rfl rfl rfl ?_
                              refine AHead.pass rfl rfl rfl rfl rfl ?_
                              refine AHead.passU rfl rfl rfl rfl ?_
                              refine AHead.passU rfl rfl rfl rfl ?_
                              refine AHead.passU rfl rfl rfl rfl ?_
                              refine AHead.passU rfl rfl rfl rfl ?_
                              refine AHead.passU rfl rfl rfl rfl ?_
                              refine AHead.passU rfl rfl rfl rfl ?_
                              refine AHead.passU rfl rfl rfl rfl ?_
                              refine AHead.passU rfl rfl rfl rfl ?_
                              refine AHead.passU rfl rfl rfl rfl ?_
                              refine AHead.passU rfl rfl rfl rfl ?_
                              refine AHead.passU rfl rfl rfl rfl ?_
                              refine AHead.passU rfl rfl rfl rfl ?_
                              refine AHead.passU rfl rfl rfl rfl ?_
                              refine AHead.pass rfl rfl rfl rfl rfl ?_
                              refine AHead.call (o_pickF _ _ _ rfl rfl rfl rfl) rfl ?_
                              refine AHead.nil ?_
                              refine AOps.nil ?_
                              refine AWP.condF rfl ?_
                              refine AWP.skip ?_
                              refine AWP.region ?_
                              refine AOps.call (o_add _ _ rfl rfl ⟨by (try dsimp only); omega, by (try dsimp only); omega⟩ rfl) ?_
                              refine AOps.call (o_move _ rfl rfl) ?_
                              refine AOps.nil ?_
                              refine ⟨j + 1, ?_, (Weak.mk' rfl ⟨⟨.refl rfl, rfl⟩, ⟨⟨.refl rfl, rfl⟩, ⟨⟨.refl rfl, rfl⟩, ⟨⟨.refl rfl, rfl⟩, ⟨⟨.refl rfl, rfl⟩, ⟨⟨.refl rfl, rfl⟩, ⟨⟨.refl rfl, rfl⟩, ⟨⟨.refl rfl, rfl⟩, ⟨⟨.refl rfl, rfl⟩, ⟨⟨.refl rfl, rfl⟩, ⟨⟨.refl rfl, rfl⟩, ⟨⟨.refl rfl, rfl⟩, ⟨⟨.refl rfl, rfl⟩, ⟨⟨.refl rfl, rfl⟩, trivial⟩⟩⟩⟩⟩⟩⟩⟩⟩⟩⟩⟩⟩⟩ trivial trivial)⟩
                              exact ⟨by omega, by omega⟩
                          · skip
                            refine AWP.exit ?_
                            refine AWP.region ?_
                            refine AOps.call (o_add _ _ rfl rfl ⟨by (try dsimp only); omega, by (try dsimp only); omega⟩ rfl) ?_
                            refine AOps.call (o_move _ rfl rfl) ?_
                            refine AOps.nil ?_
                            refine ⟨k + 1, ?_, (Weak.mk' rfl ⟨⟨.refl rfl, rfl⟩, ⟨⟨.refl rfl, rfl⟩, ⟨⟨.refl rfl, rfl⟩, ⟨⟨.refl rfl, rfl⟩, ⟨⟨.refl rfl, rfl⟩, ⟨⟨.refl rfl, rfl⟩, ⟨⟨.refl rfl, rfl⟩, ⟨⟨.refl rfl, rfl⟩, ⟨⟨.refl rfl, rfl⟩, trivial⟩⟩⟩⟩⟩⟩⟩⟩⟩ trivial trivial)⟩
                            exact ⟨by omega, by omega⟩
                      · skip
                        exfalso
                        have hh := h123
                        rw [hcv] at hh
                        cases hh
                  · skip
                    exfalso
                    have hq := of_decide_eq_true h46
                    omega
                · skip
                  exfalso
                  have hq := of_decide_eq_true h42
                  omega
              · skip
                refine AWP.exit ?_
                refine AWP.seq ?_
                refine AWP.seq ?_
                refine AWP.region ?_
                refine AOps.call (o_loadRd _ rfl Tryd.sizeOf80 Tryd.isAgg80 rfl rfl rfl) ?_
                refine AOps.call (o_len _ Tryd.underlying80 rfl rfl) ?_
                refine AOps.call (o_move _ rfl rfl) ?_
                refine AOps.nil ?_
                refine AWP.block ?_
                refine AWP.loop (ι := Nat) (fun i => AS.mk' 302 [(2, .sl (ints wd)), (4, I u), (5, .rd (eS c)), (6, .rd [.sl (shts l)]), (8, .rd [I d0, I d1, I d2]), (11, .sl (ints x)), (167, .sl (shts l)), (168, I (shts l).length), (169, I i)] [] [] []) (fun i => i ≤ l.length) (fun i => l.length - i) (0) (Weak.mk' rfl ⟨⟨.refl rfl, rfl⟩, ⟨⟨.refl rfl, rfl⟩, ⟨⟨.refl rfl, rfl⟩, ⟨⟨.refl rfl, rfl⟩, ⟨⟨.refl rfl, rfl⟩, ⟨⟨.refl rfl, rfl⟩, ⟨⟨.refl rfl, rfl⟩, ⟨⟨.refl rfl, rfl⟩, ⟨⟨.refl rfl, rfl⟩, trivial⟩⟩⟩⟩⟩⟩⟩⟩⟩ trivial trivial) (Nat.zero_le _) ?_
                rintro j hj
                try dsimp only at *
                refine AWP.seq ?_
                refine AWP.region ?_
                refine AOps.call (o_bin _ _ rfl rfl (fun _ => rfl) rfl) ?_
                refine AOps.nil ?_
                refine AWP.seq ?_
                refine AWP.cond _ rfl (fun h184 => ?_) (fun h184 => ?_)
                · skip
                  have hlt : j < l.length := by have hq := of_decide_eq_true h184; rw [shts_len] at hq; omega
                  have hel := shts_get hlt
                  have hll := shts_len l
                  have hst := stands_iff l wd d0 l[j]
                  rw [← hx] at hst
                  change x.any (hasNo l l[j]) = (!wd.contains l[j].no && l.any (actB l[j] d0)) at hst
                  refine AWP.skip ?_
                  refine AWP.seq ?_
                  refine AWP.block ?_
                  refine AWP.seq ?_
                  refine AWP.region ?_
                  refine AOps.call (o_index _ _ Tryd.underlying80 Tryd.sizeOf54 rfl rfl (by omega) (by assumption) rfl rfl) ?_
                  refine AOps.call (o_loadRd _ rfl Tryd.sizeOf54 Tryd.isAgg54 rfl rfl rfl) ?_
                  refine AOps.call (o_alloc ze54 rfl rfl) ?_
                  refine AOps.cons (o_store _ _ rfl rfl Tryd.sizeOf54 rfl rfl rfl rfl rfl) ?_
                  refine AOps.nil ?_
                  refine AWP.seq ?_
                  refine AWP.region ?_
                  refine AOps.weak (Weak.frzv (id := (18, 0)) (t := 18) rfl rfl rfl) ?_
                  refine AOps.call (o_move _ rfl rfl) ?_
                  refine AOps.call (o_makeClo rfl rfl) ?_
                  refine AOps.call (o_call (Contains57_s l l[j] x hxb (by omega)) Tryd.call56 rfl rfl) ?_
                  refine AOps.call (o_assign _ rfl rfl) ?_
                  refine AOps.nil ?_
                  refine AWP.seq ?_
                  refine AWP.region ?_
                  refine AOps.call (o_move _ rfl rfl) ?_
                  refine AOps.call (o_move _ rfl rfl) ?_
                  refine AOps.call (o_fieldRd _ rfl fa54_0 rfl) ?_
                  refine AOps.call (o_loadRd _ rfl Tryd.sizeOf3 Tryd.isAgg3 rfl rfl rfl) ?_
                  refine AOps.call (o_call (Contains_s wd l[j].no (by omega)) Tryd.call39 rfl rfl) ?_
                  refine AOps.call (o_un _ rfl (fun _ => rfl) rfl) ?_
                  refine AOps.call (o_move _ rfl rfl) ?_
                  refine AOps.split rfl rfl rfl (fun h195 => ?_) (fun h195 => ?_)
                  · skip
                    refine AOps.go rfl rfl rfl h195 (o_loadRd _ rfl Tryd.sizeOf80 Tryd.isAgg80 rfl rfl rfl) ?_
                    refine AOps.go rfl rfl rfl h195 (o_makeClo rfl rfl) ?_
                    refine AOps.go rfl rfl rfl h195 (o_call (Contains59_s l[j] d0 d1 d2 l (by omega)) Tryd.call58 rfl rfl) ?_
                    refine AOps.call (o_pickT _ _ _ rfl h195 rfl rfl) ?_
                    refine AOps.call (o_bin _ _ rfl rfl (fun _ => rfl) rfl) ?_
                    refine AOps.nil ?_
                    refine AWP.cond _ rfl (fun h200 => ?_) (fun h200 => ?_)
                    · skip
                      exfalso
                      have hh := h200
                      rw [hst] at hh
                      first
                      | (simp at *; done)
                      | (simp_all; done)
                    · skip
                      refine AWP.skip ?_
                      refine AWP.region ?_
                      refine AOps.call (o_add _ _ rfl rfl ⟨by (try dsimp only); omega, by (try dsimp only); omega⟩ rfl) ?_
                      refine AOps.call (o_move _ rfl rfl) ?_
                      refine AOps.nil ?_
                      refine ⟨j + 1, ?_, (Weak.mk' rfl ⟨⟨.refl rfl, rfl⟩, ⟨⟨.refl rfl, rfl⟩, ⟨⟨.refl rfl, rfl⟩, ⟨⟨.refl rfl, rfl⟩, ⟨⟨.refl rfl, rfl⟩, ⟨⟨.refl rfl, rfl⟩, ⟨⟨.refl rfl, rfl⟩, ⟨⟨.refl rfl, rfl⟩, ⟨⟨.refl rfl, rfl⟩, trivial⟩⟩⟩⟩⟩⟩⟩⟩⟩ trivial trivial)⟩
                      exact ⟨by omega, by omega⟩
                  · skip
                    refine AOps.pass rfl rfl rfl h195 rfl ?_
                    refine AOps.pass rfl rfl rfl h195 rfl ?_
                    refine AOps.pass rfl rfl rfl h195 rfl ?_
                    refine AOps.call (o_pickF _ _ _ rfl h195 rfl rfl) ?_
                    refine AOps.call (o_bin _ _ rfl rfl (fun _ => rfl) rfl) ?_
                    refine AOps.nil ?_
                    refine AWP.cond _ rfl (fun h203 => ?_) (fun h203 => ?_)
                    · skip
                      exfalso
                      have hh := h203
                      rw [hst] at hh
                      first
                      | (simp at *; done)
                      | (simp_all; done)
                    · skip
                      refine AWP.skip ?_
                      refine AWP.region ?_
                      refine AOps.call (o_add _ _ rfl rfl ⟨by (try dsimp only); omega, by (try dsimp only); omega⟩ rfl) ?_
                      refine AOps.call (o_move _ rfl rfl) ?_
                      refine AOps.nil ?_
                      refine ⟨j + 1, ?_, (Weak.mk' rfl ⟨⟨.refl rfl, rfl⟩, ⟨⟨.refl rfl, rfl⟩, ⟨⟨.refl rfl, rfl⟩, ⟨⟨.refl rfl, rfl⟩, ⟨⟨.refl rfl, rfl⟩, ⟨⟨.refl rfl, rfl⟩, ⟨⟨.refl rfl, rfl⟩, ⟨⟨.refl rfl, rfl⟩, ⟨⟨.refl rfl, rfl⟩, trivial⟩⟩⟩⟩⟩⟩⟩⟩⟩ trivial trivial)⟩
                      exact ⟨by omega, by omega⟩
                · skip
                  refine AWP.exit ?_
                  refine AWP.seq ?_
                  refine AWP.seq ?_
                  refine AWP.region ?_
                  refine AOps.call (o_move _ rfl rfl) ?_
                  refine AOps.call (o_bin _ _ rfl rfl (fun _ => rfl) rfl) ?_
                  refine AOps.call (o_move _ rfl rfl) ?_
                  refine AOps.split rfl rfl rfl (fun h207 => ?_) (fun h207 => ?_)
                  · skip
                    refine AOps.go rfl rfl rfl h207 (o_move _ rfl rfl) ?_
                    refine AOps.go rfl rfl rfl h207 (o_loadRd _ rfl Tryd.sizeOf80 Tryd.isAgg80 rfl rfl rfl) ?_
                    refine AOps.go rfl rfl rfl h207 (o_len _ Tryd.underlying80 rfl rfl) ?_
                    refine AOps.go rfl rfl rfl h207 (o_bin _ _ rfl rfl (fun _ => rfl) rfl) ?_
                    refine AOps.call (o_pickT _ _ _ rfl h207 rfl rfl) ?_
                    refine AOps.call (o_move _ rfl rfl) ?_
                    refine AOps.split rfl rfl rfl (fun h212 => ?_) (fun h212 => ?_)
                    · skip
                      have hu : u < l.length := by have hq := of_decide_eq_true h212; rw [shts_len] at hq; omega
                      refine AOps.go rfl rfl rfl h212 (o_move _ rfl rfl) ?_
                      refine AOps.go rfl rfl rfl h212 (o_move _ rfl rfl) ?_
                      refine AOps.go rfl rfl rfl h212 (o_call (Contains_s x u (by omega)) Tryd.call39 rfl rfl) ?_
                      refine AOps.go rfl rfl rfl h212 (o_un _ rfl (fun _ => rfl) rfl) ?_
                      refine AOps.call (o_pickT _ _ _ rfl h212 rfl rfl) ?_
                      refine AOps.nil ?_
                      refine AWP.cond _ rfl (fun h216 => ?_) (fun h216 => ?_)
                      · skip
                        have hun : okS l wd d0 u = false := by
                          have hh := h216
                          rw [hx] at hh
                          unfold standL at hh
                          rw [pickL_contains hu] at hh
                          simpa using hh
                        have hsh := (standE_0 hE)
                        have hD := Standing_s (l.eraseIdx u) wd d0 (Nat.le_trans (List.length_eraseIdx_le ..) (by omega)) (by omega)
                        rw [if_pos (by unfold standE; rw [if_pos (sheetsE_erase hsh.1), if_pos hsh.2]), standL_erase hu hun, ← hx] at hD
                        refine AWP.seq ?_
                        refine AWP.drawnP 15 [(5, (205, 0))] mixed (by kernel_rfl) (by kernel_rfl) ?_
                        refine AHeadP.call (o_loadRd _ rfl Tryd.sizeOf80 Tryd.isAgg80 rfl rfl rfl) rfl rfl rfl ?_
                        refine AHeadP.call (o_callVar (Clone61_s l (by omega) (by omega)) Tryd.call61 rfl rfl) rfl rfl rfl ?_
                        refine AHeadP.call (o_move _ rfl rfl) rfl rfl rfl ?_
                        refine AHeadP.call (o_move _ rfl rfl) rfl rfl rfl ?_
                        refine AHeadP.call (o_add _ _ rfl rfl ⟨by (try dsimp only); omega, by (try dsimp only); omega⟩ rfl) rfl rfl rfl ?_
                        refine AHeadP.spend (o_callC (205, 0) (.tmp 205) (Delete60_s l u (by rw [shts_len]; exact hu)) Tryd.call60 rfl rfl rfl (by exact closeL_self _ (shts_self l)) rfl) rfl rfl ?_
                        refine AHeadP.call (o_move _ rfl rfl) rfl rfl rfl ?_
                        refine AHeadP.call (o_indexArrRd _ _ Tryd.underlying38 Tryd.sizeOf3 rfl rfl (by omega) (by omega) rfl rfl) rfl rfl rfl ?_
                        refine AHeadP.call (o_loadRd _ rfl Tryd.sizeOf3 Tryd.isAgg3 rfl rfl rfl) rfl rfl rfl ?_
                        refine AHeadP.call (o_call (hD) Tryd.call55 rfl rfl) rfl rfl rfl ?_
                        refine AHeadP.call (o_move _ rfl rfl) rfl rfl rfl ?_
                        refine AHeadP.call (o_extract _ rfl rfl rfl rfl) rfl rfl rfl ?_
                        refine AHeadP.call (o_extract _ rfl rfl rfl rfl) rfl rfl rfl ?_
                        refine AHeadP.call (o_assign _ rfl rfl) rfl rfl rfl ?_
                        refine AHeadP.call (o_assign _ rfl rfl) rfl rfl rfl ?_
                        refine AHeadP.nil ?_
                        refine AOps.nil ?_
                        refine AWP.seq ?_
                        refine AWP.seq ?_
                        refine AWP.region ?_
                        refine AOps.call (o_move _ rfl rfl) ?_
                        refine AOps.call (o_bin _ _ rfl rfl (fun _ => rfl) rfl) ?_
                        refine AOps.call (o_move _ rfl rfl) ?_
                        refine AOps.split rfl rfl rfl (fun h230 => ?_) (fun h230 => ?_)
                        · skip
                          refine AOps.go rfl rfl rfl h230 (o_move _ rfl rfl) ?_
                          refine AOps.go rfl rfl rfl h230 (o_len _ Tryd.underlying45 rfl rfl) ?_
                          refine AOps.go rfl rfl rfl h230 (o_move _ rfl rfl) ?_
                          refine AOps.go rfl rfl rfl h230 (o_len _ Tryd.underlying45 rfl rfl) ?_
                          refine AOps.go rfl rfl rfl h230 (o_bin _ _ rfl rfl (fun _ => rfl) rfl) ?_
                          refine AOps.call (o_pickF _ _ _ rfl h230 rfl rfl) ?_
                          refine AOps.nil ?_
                          refine AWP.cond _ rfl (fun h234 => ?_) (fun h234 => ?_)
                          · skip
                            exfalso
                            have hh := h234
                            first
                            | (simp [ints_len] at hh; done)
                            | (simp [ints_len] at *; done)
                          · skip
                            refine AWP.skip ?_
                            refine AWP.seq ?_
                            refine AWP.region ?_
                            refine AOps.call (o_move _ rfl rfl) ?_
                            refine AOps.call (o_len _ Tryd.underlying45 rfl rfl) ?_
                            refine AOps.call (o_move _ rfl rfl) ?_
                            refine AOps.nil ?_
                            refine AWP.block ?_
                            refine AWP.loop (ι := Nat) (fun i => AS.mk' 302 [(4, I u), (5, .rd (eS c)), (6, .rd [.sl (shts l)]), (8, .rd [I d0, I d1, I d2]), (11, .sl (ints x)), (20, .sl (ints (x.map (downI u)))), (225, .sl (ints x)), (226, I (ints x).length), (227, I i)] [] [] []) (fun i => i ≤ x.length) (fun i => x.length - i) (0) (Weak.mk' rfl ⟨⟨.refl rfl, rfl⟩, ⟨⟨.refl rfl, rfl⟩, ⟨⟨.refl rfl, rfl⟩, ⟨⟨.refl rfl, rfl⟩, ⟨⟨.refl rfl, rfl⟩, ⟨⟨.refl rfl, rfl⟩, ⟨⟨.refl rfl, rfl⟩, ⟨⟨.refl rfl, rfl⟩, ⟨⟨.refl rfl, rfl⟩, trivial⟩⟩⟩⟩⟩⟩⟩⟩⟩ trivial trivial) (Nat.zero_le _) ?_
                            rintro k hk
                            try dsimp only at *
                            refine AWP.seq ?_
                            refine AWP.region ?_
                            refine AOps.call (o_bin _ _ rfl rfl (fun _ => rfl) rfl) ?_
                            refine AOps.nil ?_
                            refine AWP.seq ?_
                            refine AWP.cond _ rfl (fun h238 => ?_) (fun h238 => ?_)
                            · skip
                              have hlt : k < x.length := by have hq := of_decide_eq_true h238; rw [ints_len] at hq; omega
                              obtain ⟨v, hv, hxv, hcv, hkv, hov⟩ := hat k hlt
                              have hel : (ints x)[((k : Nat) : Int).toNat]? = some [I (v : Int)] := by rw [← hxv]; exact ints_at hlt
                              have hlt2 : k < (x.map (downI u)).length := by rw [List.length_map]; exact hlt
                              have hil := ints_len (x.map (downI u))
                              rw [List.length_map] at hil
                              have hil2 := ints_len x
                              have hel2 : (ints (x.map (downI u)))[((k : Nat) : Int).toNat]? = some [I (downI u (v : Int))] := by rw [ints_at hlt2, List.getElem_map, hxv]
                              refine AWP.skip ?_
                              refine AWP.seq ?_
                              refine AWP.block ?_
                              refine AWP.seq ?_
                              refine AWP.region ?_
                              refine AOps.call (o_move _ rfl rfl) ?_
                              refine AOps.call (o_index _ _ Tryd.underlying45 Tryd.sizeOf3 rfl rfl (by omega) hel rfl rfl) ?_
                              refine AOps.call (o_loadRd _ rfl Tryd.sizeOf3 Tryd.isAgg3 rfl rfl rfl) ?_
                              refine AOps.call (o_assign _ rfl rfl) ?_
                              refine AOps.call (o_assign _ rfl rfl) ?_
                              refine AOps.nil ?_
                              refine AWP.seq ?_
                              refine AWP.seq ?_
                              refine AWP.region ?_
                              refine AOps.call (o_move _ rfl rfl) ?_
                              refine AOps.call (o_move _ rfl rfl) ?_
                              refine AOps.call (o_bin _ _ rfl rfl (fun _ => rfl) rfl) ?_
                              refine AOps.nil ?_
                              refine AWP.cond _ rfl (fun h243 => ?_) (fun h243 => ?_)
                              · skip
                                have hdn : downI u (v : Int) = (v : Int) - 1 := by unfold downI; rw [if_pos (of_decide_eq_true h243)]
                                refine AWP.region ?_
                                refine AOps.call (o_move _ rfl rfl) ?_
                                refine AOps.call (o_sub _ _ rfl rfl ⟨by (try dsimp only); omega, by (try dsimp only); omega⟩ rfl) ?_
                                refine AOps.call (o_assign _ rfl rfl) ?_
                                refine AOps.nil ?_
                                refine AWP.seq ?_
                                refine AWP.region ?_
                                refine AOps.call (o_move _ rfl rfl) ?_
                                refine AOps.call (o_move _ rfl rfl) ?_
                                refine AOps.call (o_index _ _ Tryd.underlying45 Tryd.sizeOf3 rfl rfl (by omega) hel2 rfl rfl) ?_
                                refine AOps.call (o_loadRd _ rfl Tryd.sizeOf3 Tryd.isAgg3 rfl rfl rfl) ?_
                                refine AOps.call (o_move _ rfl rfl) ?_
                                refine AOps.call (o_bin _ _ rfl rfl (fun _ => rfl) rfl) ?_
                                refine AOps.nil ?_
                                refine AWP.cond _ rfl (fun h248 => ?_) (fun h248 => ?_)
                                · skip
                                  exfalso
                                  have hh := h248
                                  rw [hdn] at hh
                                  simp at hh
                                · skip
                                  refine AWP.skip ?_
                                  refine AWP.region ?_
                                  refine AOps.call (o_add _ _ rfl rfl ⟨by (try dsimp only); omega, by (try dsimp only); omega⟩ rfl) ?_
                                  refine AOps.call (o_move _ rfl rfl) ?_
                                  refine AOps.nil ?_
                                  refine ⟨k + 1, ?_, (Weak.mk' rfl ⟨⟨.refl rfl, rfl⟩, ⟨⟨.refl rfl, rfl⟩, ⟨⟨.refl rfl, rfl⟩, ⟨⟨.refl rfl, rfl⟩, ⟨⟨.refl rfl, rfl⟩, ⟨⟨.refl rfl, rfl⟩, ⟨⟨.refl rfl, rfl⟩, ⟨⟨.refl rfl, rfl⟩, ⟨⟨.refl rfl, rfl⟩, trivial⟩⟩⟩⟩⟩⟩⟩⟩⟩ trivial trivial)⟩
                                  exact ⟨by omega, by omega⟩
                              · skip
                                have hdn : downI u (v : Int) = v := by unfold downI; rw [if_neg (of_decide_eq_false h243)]
                                refine AWP.skip ?_
                                refine AWP.seq ?_
                                refine AWP.region ?_
                                refine AOps.call (o_move _ rfl rfl) ?_
                                refine AOps.call (o_move _ rfl rfl) ?_
                                refine AOps.call (o_index _ _ Tryd.underlying45 Tryd.sizeOf3 rfl rfl (by omega) hel2 rfl rfl) ?_
                                refine AOps.call (o_loadRd _ rfl Tryd.sizeOf3 Tryd.isAgg3 rfl rfl rfl) ?_
                                refine AOps.call (o_move _ rfl rfl) ?_
                                refine AOps.call (o_bin _ _ rfl rfl (fun _ => rfl) rfl) ?_
                                refine AOps.nil ?_
                                refine AWP.cond _ rfl (fun h253 => ?_) (fun h253 => ?_)
                                · skip
                                  exfalso
                                  have hh := h253
                                  rw [hdn] at hh
                                  simp at hh
                                · skip
                                  refine AWP.skip ?_
                                  refine AWP.region ?_
                                  refine AOps.call (o_add _ _ rfl rfl ⟨by (try dsimp only); omega, by (try dsimp only); omega⟩ rfl) ?_
                                  refine AOps.call (o_move _ rfl rfl) ?_
                                  refine AOps.nil ?_
                                  refine ⟨k + 1, ?_, (Weak.mk' rfl ⟨⟨.refl rfl, rfl⟩, ⟨⟨.refl rfl, rfl⟩, ⟨⟨.refl rfl, rfl⟩, ⟨⟨.refl rfl, rfl⟩, ⟨⟨.refl rfl, rfl⟩, ⟨⟨.refl rfl, rfl⟩, ⟨⟨.refl rfl, rfl⟩, ⟨⟨.refl rfl, rfl⟩, ⟨⟨.refl rfl, rfl⟩, trivial⟩⟩⟩⟩⟩⟩⟩⟩⟩ trivial trivial)⟩
                                  exact ⟨by omega, by omega⟩
                            · skip
                              refine AWP.exit ?_
                              refine AWP.seq ?_
                              refine AWP.region ?_
                              refine AOps.call (o_loadRd _ rfl Tryd.sizeOf24 Tryd.isAgg24 rfl rfl rfl) ?_
                              refine AOps.call (o_loadRd _ rfl Tryd.sizeOf80 Tryd.isAgg80 rfl rfl rfl) ?_
                              refine AOps.call (o_indexArrRd _ _ Tryd.underlying38 Tryd.sizeOf3 rfl rfl (by omega) (by omega) rfl rfl) ?_
                              refine AOps.call (o_loadRd _ rfl Tryd.sizeOf3 Tryd.isAgg3 rfl rfl rfl) ?_
                              refine AOps.call (o_indexArrRd _ _ Tryd.underlying38 Tryd.sizeOf3 rfl rfl (by omega) (by omega) rfl rfl) ?_
                              refine AOps.call (o_loadRd _ rfl Tryd.sizeOf3 Tryd.isAgg3 rfl rfl rfl) ?_
                              refine AOps.call (o_call (hC) Tryd.call62 rfl rfl) ?_
                              refine AOps.call (o_move _ rfl rfl) ?_
                              refine AOps.call (o_extract _ rfl rfl rfl rfl) ?_
                              refine AOps.call (o_extract _ rfl rfl rfl rfl) ?_
                              refine AOps.call (o_assign _ rfl rfl) ?_
                              refine AOps.call (o_assign _ rfl rfl) ?_
                              refine AOps.nil ?_
                              refine AWP.seq ?_
                              refine AWP.seq ?_
                              refine AWP.region ?_
                              refine AOps.call (o_move _ rfl rfl) ?_
                              refine AOps.call (o_bin _ _ rfl rfl (fun _ => rfl) rfl) ?_
                              refine AOps.nil ?_
                              refine AWP.cond _ rfl (fun h265 => ?_) (fun h265 => ?_)
                              · skip
                                have hq : ¬ f = 0 := by
                                  have hh := h265
                                  simpa using hh
                                obtain rfl := hz0 hq
                                refine AWP.seq ?_
                                refine AWP.region ?_
                                refine AOps.call (o_move _ rfl rfl) ?_
                                refine AOps.call (o_len _ Tryd.underlying45 rfl rfl) ?_
                                refine AOps.call (o_bin _ _ rfl rfl (fun _ => rfl) rfl) ?_
                                refine AOps.call (o_assign _ rfl rfl) ?_
                                refine AOps.nil ?_
                                refine AWP.ret ?_
                                first
                                | exact postQ.ret1 Tryd.results11 rfl rfl
                                | (exfalso; simp at *; done)
                                | (exfalso; simp_all; done)
                                | (refine postQ.ret1 Tryd.results11 rfl ?_; simp [AV.close, B]; done)
                              · skip
                                have hq : f = 0 := by
                                  have hh := h265
                                  simpa using hh
                                have hz := hz1 hq
                                have hzl : z.length ≤ 40 := by rw [hz]; exact Nat.le_trans (pickL_len _ _) hl40
                                refine AWP.skip ?_
                                refine AWP.seq ?_
                                refine AWP.seq ?_
                                refine AWP.region ?_
                                refine AOps.call (o_loadRd _ rfl Tryd.sizeOf80 Tryd.isAgg80 rfl rfl rfl) ?_
                                refine AOps.call (o_len _ Tryd.underlying80 rfl rfl) ?_
                                refine AOps.call (o_move _ rfl rfl) ?_
                                refine AOps.nil ?_
                                refine AWP.block ?_
                                refine AWP.loop (ι := Nat) (fun i => AS.mk' 302 [(4, I u), (5, .rd (eS c)), (6, .rd [.sl (shts l)]), (8, .rd [I d0, I d1, I d2]), (24, .sl (ints z)), (259, .sl (shts l)), (260, I (shts l).length), (261, I i)] [] [] []) (fun i => i ≤ l.length) (fun i => l.length - i) (0) (Weak.mk' rfl ⟨⟨.refl rfl, rfl⟩, ⟨⟨.refl rfl, rfl⟩, ⟨⟨.refl rfl, rfl⟩, ⟨⟨.refl rfl, rfl⟩, ⟨⟨.refl rfl, rfl⟩, ⟨⟨.refl rfl, rfl⟩, ⟨⟨.refl rfl, rfl⟩, ⟨⟨.refl rfl, rfl⟩, trivial⟩⟩⟩⟩⟩⟩⟩⟩ trivial trivial) (Nat.zero_le _) ?_
                                rintro j hj
                                try dsimp only at *
                                refine AWP.seq ?_
                                refine AWP.region ?_
                                refine AOps.call (o_bin _ _ rfl rfl (fun _ => rfl) rfl) ?_
                                refine AOps.nil ?_
                                refine AWP.seq ?_
                                refine AWP.cond _ rfl (fun h272 => ?_) (fun h272 => ?_)
                                · skip
                                  have hlt : j < l.length := by have hq := of_decide_eq_true h272; rw [shts_len] at hq; omega
                                  have hel := shts_get hlt
                                  have hll := shts_len l
                                  have hcz : z.contains (j : Int) = (decide (l[j].scale = c.no) && difB c l[j] d1 d2) := by rw [hz]; unfold corL; rw [pickL_contains hlt, okC_at hlt]
                                  refine AWP.skip ?_
                                  refine AWP.seq ?_
                                  refine AWP.block ?_
                                  refine AWP.seq ?_
                                  refine AWP.region ?_
                                  refine AOps.call (o_move _ rfl rfl) ?_
                                  refine AOps.call (o_index _ _ Tryd.underlying80 Tryd.sizeOf54 rfl rfl (by omega) (by assumption) rfl rfl) ?_
                                  refine AOps.call (o_loadRd _ rfl Tryd.sizeOf54 Tryd.isAgg54 rfl rfl rfl) ?_
                                  refine AOps.call (o_alloc ze54 rfl rfl) ?_
                                  refine AOps.call (o_assign _ rfl rfl) ?_
                                  refine AOps.cons (o_store _ _ rfl rfl Tryd.sizeOf54 rfl rfl rfl rfl rfl) ?_
                                  refine AOps.nil ?_
                                  refine AWP.seq ?_
                                  refine AWP.region ?_
                                  refine AOps.call (o_loadRd _ rfl Tryd.sizeOf24 Tryd.isAgg24 rfl rfl rfl) ?_
                                  refine AOps.call (o_loadRef _ rfl rfl Tryd.sizeOf54 Tryd.isAgg54 rfl rfl rfl) ?_
                                  refine AOps.call (o_indexArrRd _ _ Tryd.underlying38 Tryd.sizeOf3 rfl rfl (by omega) (by omega) rfl rfl) ?_
                                  refine AOps.call (o_loadRd _ rfl Tryd.sizeOf3 Tryd.isAgg3 rfl rfl rfl) ?_
                                  refine AOps.call (o_call (Course_s c l[j] d1) Tryd.call51 rfl rfl) ?_
                                  refine AOps.call (o_move _ rfl rfl) ?_
                                  refine AOps.call (o_extract _ rfl rfl rfl rfl) ?_
                                  refine AOps.call (o_extract _ rfl rfl rfl rfl) ?_
                                  refine AOps.call (o_alloc ze40 rfl rfl) ?_
                                  refine AOps.cons (o_store _ _ rfl rfl Tryd.sizeOf40 rfl rfl rfl rfl rfl) ?_
                                  refine AOps.call (o_assign _ rfl rfl) ?_
                                  refine AOps.nil ?_
                                  refine AWP.seq ?_
                                  refine AWP.region ?_
                                  refine AOps.call (o_loadRd _ rfl Tryd.sizeOf24 Tryd.isAgg24 rfl rfl rfl) ?_
                                  refine AOps.call (o_loadRef _ rfl rfl Tryd.sizeOf54 Tryd.isAgg54 rfl rfl rfl) ?_
                                  refine AOps.call (o_indexArrRd _ _ Tryd.underlying38 Tryd.sizeOf3 rfl rfl (by omega) (by omega) rfl rfl) ?_
                                  refine AOps.call (o_loadRd _ rfl Tryd.sizeOf3 Tryd.isAgg3 rfl rfl rfl) ?_
                                  refine AOps.call (o_call (Course_s c l[j] d2) Tryd.call51 rfl rfl) ?_
                                  refine AOps.call (o_move _ rfl rfl) ?_
                                  refine AOps.call (o_extract _ rfl rfl rfl rfl) ?_
                                  refine AOps.call (o_extract _ rfl rfl rfl rfl) ?_
                                  refine AOps.call (o_alloc ze40 rfl rfl) ?_
                                  refine AOps.cons (o_store _ _ rfl rfl Tryd.sizeOf40 rfl rfl rfl rfl rfl) ?_
                                  refine AOps.call (o_assign _ rfl rfl) ?_
                                  refine AOps.nil ?_
                                  refine AWP.seq ?_
                                  refine AWP.drawn 19 mixed (by kernel_rfl) ?_
                                  refine AHead.call (o_move _ rfl rfl) rfl ?_
                                  refine AHead.call (o_move _ rfl rfl) rfl ?_
                                  refine AHead.call (o_call (Contains_s z (j : Int) (by omega)) Tryd.call39 rfl rfl) rfl ?_
                                  refine AHead.call (o_fieldRef _ rfl fa54_4 rfl rfl) rfl ?_
                                  refine AHead.call (o_loadRef _ rfl rfl Tryd.sizeOf3 Tryd.isAgg3 rfl rfl rfl) rfl ?_
                                  refine AHead.call (o_fieldRd _ rfl fa24_0 rfl) rfl ?_
                                  refine AHead.call (o_loadRd _ rfl Tryd.sizeOf3 Tryd.isAgg3 rfl rfl rfl) rfl ?_
                                  refine AHead.call (o_bin _ _ rfl rfl (fun _ => rfl) rfl) rfl ?_
                                  refine AHead.call (o_move _ rfl rfl) rfl ?_
                                  refine AHead.split rfl rfl rfl (fun h298 => ?_) (fun h298 => ?_)
                                  · skip
                                    have q1 : l[j].scale = c.no := by have hh := h298; simpa using hh
                                    have hsp : (decide (couR c l[j] d1 = couR c l[j] d2)) = ((couR c l[j] d1).lo == (couR c l[j] d2).lo && (couR c l[j] d1).hi == (couR c l[j] d2).hi) := spn_dec _ _
                                    refine AHead.go rfl rfl rfl h298 (o_loadRef _ rfl rfl Tryd.sizeOf40 Tryd.isAgg40 rfl rfl rfl) rfl ?_
                                    refine AHead.go rfl rfl rfl h298 (o_loadRef _ rfl rfl Tryd.sizeOf40 Tryd.isAgg40 rfl rfl rfl) rfl ?_
                                    refine AHead.go rfl rfl rfl h298 (o_bin _ _ rfl rfl (spanNe _ _ _ _ _ _) rfl) rfl ?_
                                    refine AHead.go rfl rfl rfl h298 (o_move _ rfl rfl) rfl ?_
                                    refine AHead.split rfl rfl rfl (fun h302 => ?_) (fun h302 => ?_)
                                    · skip
                                      have q2 : ((couR c l[j] d1).lo == (couR c l[j] d2).lo && (couR c l[j] d1).hi == (couR c l[j] d2).hi) = true := by simpa only [Bool.not_eq_false'] using h302
                                      have hd : difB c l[j] d1 d2 = !decide (watE c l[j] 0 d1 = watE c l[j] 0 d2) := by unfold difB; rw [Bool.decide_and, hsp, q2, Bool.true_and]
                                      rw [decide_eq_true q1, Bool.true_and, hd] at hcz
                                      refine AHead.go rfl rfl rfl h302 (o_move _ rfl rfl) rfl ?_
                                      refine AHead.go rfl rfl rfl h302 (o_move _ rfl rfl) rfl ?_
                                      refine AHead.go rfl rfl rfl h302 (o_bin _ _ rfl rfl (fun _ => rfl) rfl) rfl ?_
                                      refine AHead.go rfl rfl rfl h298 (o_pickF _ _ _ rfl h302 rfl rfl) rfl ?_
                                      refine AHead.call (o_pickT _ _ _ rfl h298 rfl rfl) rfl ?_
                                      refine AHead.call (o_bin _ _ rfl rfl (fun _ => rfl) rfl) rfl ?_
                                      refine AHead.nil ?_
                                      refine AOps.nil ?_
                                      refine AWP.cond _ rfl (fun h305 => ?_) (fun h305 => ?_)
                                      · skip
                                        exfalso
                                        have hh := h305
                                        rw [hcz] at hh
                                        first
                                        | (simp at hh; done)
                                        | (by_cases hw : watE c l[j] 0 d1 = watE c l[j] 0 d2 <;> simp [hw] at hh; done)
                                      · skip
                                        refine AWP.skip ?_
                                        refine AWP.region ?_
                                        refine AOps.call (o_add _ _ rfl rfl ⟨by (try dsimp only); omega, by (try dsimp only); omega⟩ rfl) ?_
                                        refine AOps.call (o_move _ rfl rfl) ?_
                                        refine AOps.nil ?_
                                        refine ⟨j + 1, ?_, (Weak.mk' rfl ⟨⟨.refl rfl, rfl⟩, ⟨⟨.refl rfl, rfl⟩, ⟨⟨.refl rfl, rfl⟩, ⟨⟨.refl rfl, rfl⟩, ⟨⟨.refl rfl, rfl⟩, ⟨⟨.refl rfl, rfl⟩, ⟨⟨.refl rfl, rfl⟩, ⟨⟨.refl rfl, rfl⟩, trivial⟩⟩⟩⟩⟩⟩⟩⟩ trivial trivial)⟩
                                        exact ⟨by omega, by omega⟩
                                    · skip
                                      have q2 : ((couR c l[j] d1).lo == (couR c l[j] d2).lo && (couR c l[j] d1).hi == (couR c l[j] d2).hi) = false := by
                                        have hh : (!((couR c l[j] d1).lo == (couR c l[j] d2).lo && (couR c l[j] d1).hi == (couR c l[j] d2).hi)) = true := h302
                                        simpa only [Bool.not_eq_true'] using hh
                                      have hd : difB c l[j] d1 d2 = true := by unfold difB; rw [Bool.decide_and, hsp, q2]; rfl
                                      rw [decide_eq_true q1, Bool.true_and, hd] at hcz
                                      refine AHead.pass rfl rfl rfl h302 rfl ?_
                                      refine AHead.pass rfl rfl rfl h302 rfl ?_
                                      refine AHead.pass rfl rfl rfl h302 rfl ?_
                                      refine AHead.go rfl rfl rfl h298 (o_pickT _ _ _ rfl h302 rfl rfl) rfl ?_
                                      refine AHead.call (o_pickT _ _ _ rfl h298 rfl rfl) rfl ?_
                                      refine AHead.call (o_bin _ _ rfl rfl (fun _ => rfl) rfl) rfl ?_
                                      refine AHead.nil ?_
                                      refine AOps.nil ?_
                                      refine AWP.cond _ rfl (fun h308 => ?_) (fun h308 => ?_)
                                      · skip
                                        exfalso
                                        have hh := h308
                                        rw [hcz] at hh
                                        first
                                        | (simp at hh; done)
                                        | (by_cases hw : watE c l[j] 0 d1 = watE c l[j] 0 d2 <;> simp [hw] at hh; done)
                                      · skip
                                        refine AWP.skip ?_
                                        refine AWP.region ?_
                                        refine AOps.call (o_add _ _ rfl rfl ⟨by (try dsimp only); omega, by (try dsimp only); omega⟩ rfl) ?_
                                        refine AOps.call (o_move _ rfl rfl) ?_
                                        refine AOps.nil ?_
                                        refine ⟨j + 1, ?_, (Weak.mk' rfl ⟨⟨.refl rfl, rfl⟩, ⟨⟨.refl rfl, rfl⟩, ⟨⟨.refl rfl, rfl⟩, ⟨⟨.refl rfl, rfl⟩, ⟨⟨.refl rfl, rfl⟩, ⟨⟨.refl rfl, rfl⟩, ⟨⟨.refl rfl, rfl⟩, ⟨⟨.refl rfl, rfl⟩, trivial⟩⟩⟩⟩⟩⟩⟩⟩ trivial trivial)⟩
                                        exact ⟨by omega, by omega⟩
                                  · skip
                                    have q1 : ¬ l[j].scale = c.no := by have hh := h298; simpa using hh
                                    rw [decide_eq_false q1, Bool.false_and] at hcz
                                    refine AHead.pass rfl rfl rfl h298 rfl ?_
                                    refine AHead.pass rfl rfl rfl h298 rfl ?_
                                    refine AHead.pass rfl rfl rfl h298 rfl ?_
                                    refine AHead.pass rfl rfl rfl h298 rfl ?_
                                    refine AHead.passU rfl rfl rfl rfl ?_
                                    refine AHead.passU rfl rfl rfl rfl ?_
                                    refine AHead.passU rfl rfl rfl rfl ?_
                                    refine AHead.pass rfl rfl rfl h298 rfl ?_
                                    refine AHead.call (o_pickF _ _ _ rfl h298 rfl rfl) rfl ?_
                                    refine AHead.call (o_bin _ _ rfl rfl (fun _ => rfl) rfl) rfl ?_
                                    refine AHead.nil ?_
                                    refine AOps.nil ?_
                                    refine AWP.cond _ rfl (fun h311 => ?_) (fun h311 => ?_)
                                    · skip
                                      exfalso
                                      have hh := h311
                                      rw [hcz] at hh
                                      first
                                      | (simp at hh; done)
                                      | (by_cases hw : watE c l[j] 0 d1 = watE c l[j] 0 d2 <;> simp [hw] at hh; done)
                                    · skip
                                      refine AWP.skip ?_
                                      refine AWP.region ?_
                                      refine AOps.call (o_add _ _ rfl rfl ⟨by (try dsimp only); omega, by (try dsimp only); omega⟩ rfl) ?_
                                      refine AOps.call (o_move _ rfl rfl) ?_
                                      refine AOps.nil ?_
                                      refine ⟨j + 1, ?_, (Weak.mk' rfl ⟨⟨.refl rfl, rfl⟩, ⟨⟨.refl rfl, rfl⟩, ⟨⟨.refl rfl, rfl⟩, ⟨⟨.refl rfl, rfl⟩, ⟨⟨.refl rfl, rfl⟩, ⟨⟨.refl rfl, rfl⟩, ⟨⟨.refl rfl, rfl⟩, ⟨⟨.refl rfl, rfl⟩, trivial⟩⟩⟩⟩⟩⟩⟩⟩ trivial trivial)⟩
                                      exact ⟨by omega, by omega⟩
                                · skip
                                  refine AWP.exit ?_
                                  refine AWP.seq ?_
                                  refine AWP.region ?_
                                  refine AOps.call (o_assign _ rfl rfl) ?_
                                  refine AOps.nil ?_
                                  refine AWP.ret ?_
                                  first
                                  | exact postQ.ret1 Tryd.results11 rfl rfl
                                  | (exfalso; simp at *; done)
                                  | (exfalso; simp_all; done)
                                  | (refine postQ.ret1 Tryd.results11 rfl ?_; simp [AV.close, B]; done)
                        · skip
                          exfalso
                          have hh := h230
                          simp at hh
                      · skip
                        refine AWP.skip ?_
                        refine AWP.seq ?_
                        refine AWP.region ?_
                        refine AOps.call (o_loadRd _ rfl Tryd.sizeOf24 Tryd.isAgg24 rfl rfl rfl) ?_
                        refine AOps.call (o_loadRd _ rfl Tryd.sizeOf80 Tryd.isAgg80 rfl rfl rfl) ?_
                        refine AOps.call (o_indexArrRd _ _ Tryd.underlying38 Tryd.sizeOf3 rfl rfl (by omega) (by omega) rfl rfl) ?_
                        refine AOps.call (o_loadRd _ rfl Tryd.sizeOf3 Tryd.isAgg3 rfl rfl rfl) ?_
                        refine AOps.call (o_indexArrRd _ _ Tryd.underlying38 Tryd.sizeOf3 rfl rfl (by omega) (by omega) rfl rfl) ?_
                        refine AOps.call (o_loadRd _ rfl Tryd.sizeOf3 Tryd.isAgg3 rfl rfl rfl) ?_
                        refine AOps.call (o_call (hC) Tryd.call62 rfl rfl) ?_
                        refine AOps.call (o_move _ rfl rfl) ?_
                        refine AOps.call (o_extract _ rfl rfl rfl rfl) ?_
                        refine AOps.call (o_extract _ rfl rfl rfl rfl) ?_
                        refine AOps.call (o_assign _ rfl rfl) ?_
                        refine AOps.call (o_assign _ rfl rfl) ?_
                        refine AOps.nil ?_
                        refine AWP.seq ?_
                        refine AWP.seq ?_
                        refine AWP.region ?_
                        refine AOps.call (o_move _ rfl rfl) ?_
                        refine AOps.call (o_bin _ _ rfl rfl (fun _ => rfl) rfl) ?_
                        refine AOps.nil ?_
                        refine AWP.cond _ rfl (fun h323 => ?_) (fun h323 => ?_)
                        · skip
                          have hq : ¬ f = 0 := by
                            have hh := h323
                            simpa using hh
                          obtain rfl := hz0 hq
                          refine AWP.seq ?_
                          refine AWP.region ?_
                          refine AOps.call (o_move _ rfl rfl) ?_
                          refine AOps.call (o_len _ Tryd.underlying45 rfl rfl) ?_
                          refine AOps.call (o_bin _ _ rfl rfl (fun _ => rfl) rfl) ?_
                          refine AOps.call (o_assign _ rfl rfl) ?_
                          refine AOps.nil ?_
                          refine AWP.ret ?_
                          first
                          | exact postQ.ret1 Tryd.results11 rfl rfl
                          | (exfalso; simp at *; done)
                          | (exfalso; simp_all; done)
                          | (refine postQ.ret1 Tryd.results11 rfl ?_; simp [AV.close, B]; done)
                        · skip
                          have hq : f = 0 := by
                            have hh := h323
                            simpa using hh
                          have hz := hz1 hq
                          have hzl : z.length ≤ 40 := by rw [hz]; exact Nat.le_trans (pickL_len _ _) hl40
                          refine AWP.skip ?_
                          refine AWP.seq ?_
                          refine AWP.seq ?_
                          refine AWP.region ?_
                          refine AOps.call (o_loadRd _ rfl Tryd.sizeOf80 Tryd.isAgg80 rfl rfl rfl) ?_
                          refine AOps.call (o_len _ Tryd.underlying80 rfl rfl) ?_
                          refine AOps.call (o_move _ rfl rfl) ?_
                          refine AOps.nil ?_
                          refine AWP.block ?_
                          refine AWP.loop (ι := Nat) (fun i => AS.mk' 302 [(4, I u), (5, .rd (eS c)), (6, .rd [.sl (shts l)]), (8, .rd [I d0, I d1, I d2]), (24, .sl (ints z)), (259, .sl (shts l)), (260, I (shts l).length), (261, I i)] [] [] []) (fun i => i ≤ l.length) (fun i => l.length - i) (0) (Weak.mk' rfl ⟨⟨.refl rfl, rfl⟩, ⟨⟨.refl rfl, rfl⟩, ⟨⟨.refl rfl, rfl⟩, ⟨⟨.refl rfl, rfl⟩, ⟨⟨.refl rfl, rfl⟩, ⟨⟨.refl rfl, rfl⟩, ⟨⟨.refl rfl, rfl⟩, ⟨⟨.refl rfl, rfl⟩, trivial⟩⟩⟩⟩⟩⟩⟩⟩ trivial trivial) (Nat.zero_le _) ?_
                          rintro j hj
                          try dsimp only at *
                          refine AWP.seq ?_
                          refine AWP.region ?_
                          refine AOps.call (o_bin _ _ rfl rfl (fun _ => rfl) rfl) ?_
                          refine AOps.nil ?_
                          refine AWP.seq ?_
                          refine AWP.cond _ rfl (fun h330 => ?_) (fun h330 => ?_)
                          · skip
                            have hlt : j < l.length := by have hq := of_decide_eq_true h330; rw [shts_len] at hq; omega
                            have hel := shts_get hlt
                            have hll := shts_len l
                            have hcz : z.contains (j : Int) = (decide (l[j].scale = c.no) && difB c l[j] d1 d2) := by rw [hz]; unfold corL; rw [pickL_contains hlt, okC_at hlt]
                            refine AWP.skip ?_
                            refine AWP.seq ?_
                            refine AWP.block ?_
                            refine AWP.seq ?_
                            refine AWP.region ?_
                            refine AOps.call (o_move _ rfl rfl) ?_
                            refine AOps.call (o_index _ _ Tryd.underlying80 Tryd.sizeOf54 rfl rfl (by omega) (by assumption) rfl rfl) ?_
                            refine AOps.call (o_loadRd _ rfl Tryd.sizeOf54 Tryd.isAgg54 rfl rfl rfl) ?_
                            refine AOps.call (o_alloc ze54 rfl rfl) ?_
                            refine AOps.call (o_assign _ rfl rfl) ?_
                            refine AOps.cons (o_store _ _ rfl rfl Tryd.sizeOf54 rfl rfl rfl rfl rfl) ?_
                            refine AOps.nil ?_
                            refine AWP.seq ?_
                            refine AWP.region ?_
                            refine AOps.call (o_loadRd _ rfl Tryd.sizeOf24 Tryd.isAgg24 rfl rfl rfl) ?_
                            refine AOps.call (o_loadRef _ rfl rfl Tryd.sizeOf54 Tryd.isAgg54 rfl rfl rfl) ?_
                            refine AOps.call (o_indexArrRd _ _ Tryd.underlying38 Tryd.sizeOf3 rfl rfl (by omega) (by omega) rfl rfl) ?_
                            refine AOps.call (o_loadRd _ rfl Tryd.sizeOf3 Tryd.isAgg3 rfl rfl rfl) ?_
                            refine AOps.call (o_call (Course_s c l[j] d1) Tryd.call51 rfl rfl) ?_
                            refine AOps.call (o_move _ rfl rfl) ?_
                            refine AOps.call (o_extract _ rfl rfl rfl rfl) ?_
                            refine AOps.call (o_extract _ rfl rfl rfl rfl) ?_
                            refine AOps.call (o_alloc ze40 rfl rfl) ?_
                            refine AOps.cons (o_store _ _ rfl rfl Tryd.sizeOf40 rfl rfl rfl rfl rfl) ?_
                            refine AOps.call (o_assign _ rfl rfl) ?_
                            refine AOps.nil ?_
                            refine AWP.seq ?_
                            refine AWP.region ?_
                            refine AOps.call (o_loadRd _ rfl Tryd.sizeOf24 Tryd.isAgg24 rfl rfl rfl) ?_
                            refine AOps.call (o_loadRef _ rfl rfl Tryd.sizeOf54 Tryd.isAgg54 rfl rfl rfl) ?_
                            refine AOps.call (o_indexArrRd _ _ Tryd.underlying38 Tryd.sizeOf3 rfl rfl (by omega) (by omega) rfl rfl) ?_
                            refine AOps.call (o_loadRd _ rfl Tryd.sizeOf3 Tryd.isAgg3 rfl rfl rfl) ?_
                            refine AOps.call (o_call (Course_s c l[j] d2) Tryd.call51 rfl rfl) ?_
                            refine AOps.call (o_move _ rfl rfl) ?_
                            refine AOps.call (o_extract _ rfl rfl rfl rfl) ?_
                            refine AOps.call (o_extract _ rfl rfl rfl rfl) ?_
                            refine AOps.call (o_alloc ze40 rfl rfl) ?_
                            refine AOps.cons (o_store _ _ rfl rfl Tryd.sizeOf40 rfl rfl rfl rfl rfl) ?_
                            refine AOps.call (o_assign _ rfl rfl) ?_
                            refine AOps.nil ?_
                            refine AWP.seq ?_
                            refine AWP.drawn 19 mixed (by kernel_rfl) ?_
                            refine AHead.call (o_move _ rfl rfl) rfl ?_
                            refine AHead.call (o_move _ rfl rfl) rfl ?_
                            refine AHead.call (o_call (Contains_s z (j : Int) (by omega)) Tryd.call39 rfl rfl) rfl ?_
                            refine AHead.call (o_fieldRef _ rfl fa54_4 rfl rfl) rfl ?_
                            refine AHead.call (o_loadRef _ rfl rfl Tryd.sizeOf3 Tryd.isAgg3 rfl rfl rfl) rfl ?_
                            refine AHead.call (o_fieldRd _ rfl fa24_0 rfl) rfl ?_
                            refine AHead.call (o_loadRd _ rfl Tryd.sizeOf3 Tryd.isAgg3 rfl rfl rfl) rfl ?_
                            refine AHead.call (o_bin _ _ rfl rfl (fun _ => rfl) rfl) rfl ?_
                            refine AHead.call (o_move _ rfl rfl) rfl ?_
                            refine AHead.split rfl rfl rfl (fun h356 => ?_) (fun h356 => ?_)
                            · skip
                              have q1 : l[j].scale = c.no := by have hh := h356; simpa using hh
                              have hsp : (decide (couR c l[j] d1 = couR c l[j] d2)) = ((couR c l[j] d1).lo == (couR c l[j] d2).lo && (couR c l[j] d1).hi == (couR c l[j] d2).hi) := spn_dec _ _
                              refine AHead.go rfl rfl rfl h356 (o_loadRef _ rfl rfl Tryd.sizeOf40 Tryd.isAgg40 rfl rfl rfl) rfl ?_
                              refine AHead.go rfl rfl rfl h356 (o_loadRef _ rfl rfl Tryd.sizeOf40 Tryd.isAgg40 rfl rfl rfl) rfl ?_
                              refine AHead.go rfl rfl rfl h356 (o_bin _ _ rfl rfl (spanNe _ _ _ _ _ _) rfl) rfl ?_
                              refine AHead.go rfl rfl rfl h356 (o_move _ rfl rfl) rfl ?_
                              refine AHead.split rfl rfl rfl (fun h360 => ?_) (fun h360 => ?_)
                              · skip
                                have q2 : ((couR c l[j] d1).lo == (couR c l[j] d2).lo && (couR c l[j] d1).hi == (couR c l[j] d2).hi) = true := by simpa only [Bool.not_eq_false'] using h360
                                have hd : difB c l[j] d1 d2 = !decide (watE c l[j] 0 d1 = watE c l[j] 0 d2) := by unfold difB; rw [Bool.decide_and, hsp, q2, Bool.true_and]
                                rw [decide_eq_true q1, Bool.true_and, hd] at hcz
                                refine AHead.go rfl rfl rfl h360 (o_move _ rfl rfl) rfl ?_
                                refine AHead.go rfl rfl rfl h360 (o_move _ rfl rfl) rfl ?_
                                refine AHead.go rfl rfl rfl h360 (o_bin _ _ rfl rfl (fun _ => rfl) rfl) rfl ?_
                                refine AHead.go rfl rfl rfl h356 (o_pickF _ _ _ rfl h360 rfl rfl) rfl ?_
                                refine AHead.call (o_pickT _ _ _ rfl h356 rfl rfl) rfl ?_
                                refine AHead.call (o_bin _ _ rfl rfl (fun _ => rfl) rfl) rfl ?_
                                refine AHead.nil ?_
                                refine AOps.nil ?_
                                refine AWP.cond _ rfl (fun h363 => ?_) (fun h363 => ?_)
                                · skip
                                  exfalso
                                  have hh := h363
                                  rw [hcz] at hh
                                  first
                                  | (simp at hh; done)
                                  | (by_cases hw : watE c l[j] 0 d1 = watE c l[j] 0 d2 <;> simp [hw] at hh; done)
                                · skip
                                  refine AWP.skip ?_
                                  refine AWP.region ?_
                                  refine AOps.call (o_add _ _ rfl rfl ⟨by (try dsimp only); omega, by (try dsimp only); omega⟩ rfl) ?_
                                  refine AOps.call (o_move _ rfl rfl) ?_
                                  refine AOps.nil ?_
                                  refine ⟨j + 1, ?_, (Weak.mk' rfl ⟨⟨.refl rfl, rfl⟩, ⟨⟨.refl rfl, rfl⟩, ⟨⟨.refl rfl, rfl⟩, ⟨⟨.refl rfl, rfl⟩, ⟨⟨.refl rfl, rfl⟩, ⟨⟨.refl rfl, rfl⟩, ⟨⟨.refl rfl, rfl⟩, ⟨⟨.refl rfl, rfl⟩, trivial⟩⟩⟩⟩⟩⟩⟩⟩ trivial trivial)⟩
                                  exact ⟨by omega, by omega⟩
                              · skip
                                have q2 : ((couR c l[j] d1).lo == (couR c l[j] d2).lo && (couR c l[j] d1).hi == (couR c l[j] d2).hi) = false := by
                                  have hh : (!((couR c l[j] d1).lo == (couR c l[j] d2).lo && (couR c l[j] d1).hi == (couR c l[j] d2).hi)) = true := h360
                                  simpa only [Bool.not_eq_true'] using hh
                                have hd : difB c l[j] d1 d2 = true := by unfold difB; rw [Bool.decide_and, hsp, q2]; rfl
                                rw [decide_eq_true q1, Bool.true_and, hd] at hcz
                                refine AHead.pass rfl rfl rfl h360 rfl ?_
                                refine AHead.pass rfl rfl rfl h360 rfl ?_
                                refine AHead.pass rfl rfl rfl h360 rfl ?_
                                refine AHead.go rfl rfl rfl h356 (o_pickT _ _ _ rfl h360 rfl rfl) rfl ?_
                                refine AHead.call (o_pickT _ _ _ rfl h356 rfl rfl) rfl ?_
                                refine AHead.call (o_bin _ _ rfl rfl (fun _ => rfl) rfl) rfl ?_
                                refine AHead.nil ?_
                                refine AOps.nil ?_
                                refine AWP.cond _ rfl (fun h366 => ?_) (fun h366 => ?_)
                                · skip
                                  exfalso
                                  have hh := h366
                                  rw [hcz] at hh
                                  first
                                  | (simp at hh; done)
                                  | (by_cases hw : watE c l[j] 0 d1 = watE c l[j] 0 d2 <;> simp [hw] at hh; done)
                                · skip
                                  refine AWP.skip ?_
                                  refine AWP.region ?_
                                  refine AOps.call (o_add _ _ rfl rfl ⟨by (try dsimp only); omega, by (try dsimp only); omega⟩ rfl) ?_
                                  refine AOps.call (o_move _ rfl rfl) ?_
                                  refine AOps.nil ?_
                                  refine ⟨j + 1, ?_, (Weak.mk' rfl ⟨⟨.refl rfl, rfl⟩, ⟨⟨.refl rfl, rfl⟩, ⟨⟨.refl rfl, rfl⟩, ⟨⟨.refl rfl, rfl⟩, ⟨⟨.refl rfl, rfl⟩, ⟨⟨.refl rfl, rfl⟩, ⟨⟨.refl rfl, rfl⟩, ⟨⟨.refl rfl, rfl⟩, trivial⟩⟩⟩⟩⟩⟩⟩⟩ trivial trivial)⟩
                                  exact ⟨by omega, by omega⟩
                            · skip
                              have q1 : ¬ l[j].scale = c.no := by have hh := h356; simpa using hh
                              rw [decide_eq_false q1, Bool.false_and] at hcz
                              refine AHead.pass rfl rfl rfl h356 rfl ?_
                              refine AHead.pass rfl rfl rfl h356 rfl ?_
                              refine AHead.pass rfl rfl rfl h356 rfl ?_
                              refine AHead.pass rfl rfl rfl h356 rfl ?_
                              refine AHead.passU rfl rfl rfl rfl ?_
                              refine AHead.passU rfl rfl rfl rfl ?_
                              refine AHead.passU rfl rfl rfl rfl ?_
                              refine AHead.pass rfl rfl rfl h356 rfl ?_
                              refine AHead.call (o_pickF _ _ _ rfl h356 rfl rfl) rfl ?_
                              refine AHead.call (o_bin _ _ rfl rfl (fun _ => rfl) rfl) rfl ?_
                              refine AHead.nil ?_
                              refine AOps.nil ?_
                              refine AWP.cond _ rfl (fun h369 => ?_) (fun h369 => ?_)
                              · skip
                                exfalso
                                have hh := h369
                                rw [hcz] at hh
                                first
                                | (simp at hh; done)
                                | (by_cases hw : watE c l[j] 0 d1 = watE c l[j] 0 d2 <;> simp [hw] at hh; done)
                              · skip
                                refine AWP.skip ?_
                                refine AWP.region ?_
                                refine AOps.call (o_add _ _ rfl rfl ⟨by (try dsimp only); omega, by (try dsimp only); omega⟩ rfl) ?_
                                refine AOps.call (o_move _ rfl rfl) ?_
                                refine AOps.nil ?_
                                refine ⟨j + 1, ?_, (Weak.mk' rfl ⟨⟨.refl rfl, rfl⟩, ⟨⟨.refl rfl, rfl⟩, ⟨⟨.refl rfl, rfl⟩, ⟨⟨.refl rfl, rfl⟩, ⟨⟨.refl rfl, rfl⟩, ⟨⟨.refl rfl, rfl⟩, ⟨⟨.refl rfl, rfl⟩, ⟨⟨.refl rfl, rfl⟩, trivial⟩⟩⟩⟩⟩⟩⟩⟩ trivial trivial)⟩
                                exact ⟨by omega, by omega⟩
                          · skip
                            refine AWP.exit ?_
                            refine AWP.seq ?_
                            refine AWP.region ?_
                            refine AOps.call (o_assign _ rfl rfl) ?_
                            refine AOps.nil ?_
                            refine AWP.ret ?_
                            first
                            | exact postQ.ret1 Tryd.results11 rfl rfl
                            | (exfalso; simp at *; done)
                            | (exfalso; simp_all; done)
                            | (refine postQ.ret1 Tryd.results11 rfl ?_; simp [AV.close, B]; done)
                    · skip
                      refine AOps.pass rfl rfl rfl h212 rfl ?_
                      refine AOps.pass rfl rfl rfl h212 rfl ?_
                      refine AOps.pass rfl rfl rfl h212 rfl ?_
                      refine AOps.pass rfl rfl rfl h212 rfl ?_
                      refine AOps.call (o_pickF _ _ _ rfl h212 rfl rfl) ?_
                      refine AOps.nil ?_
                      refine AWP.condF rfl ?_
                      refine AWP.skip ?_
                      refine AWP.seq ?_
                      refine AWP.region ?_
                      refine AOps.call (o_loadRd _ rfl Tryd.sizeOf24 Tryd.isAgg24 rfl rfl rfl) ?_
                      refine AOps.call (o_loadRd _ rfl Tryd.sizeOf80 Tryd.isAgg80 rfl rfl rfl) ?_
                      refine AOps.call (o_indexArrRd _ _ Tryd.underlying38 Tryd.sizeOf3 rfl rfl (by omega) (by omega) rfl rfl) ?_
                      refine AOps.call (o_loadRd _ rfl Tryd.sizeOf3 Tryd.isAgg3 rfl rfl rfl) ?_
                      refine AOps.call (o_indexArrRd _ _ Tryd.underlying38 Tryd.sizeOf3 rfl rfl (by omega) (by omega) rfl rfl) ?_
                      refine AOps.call (o_loadRd _ rfl Tryd.sizeOf3 Tryd.isAgg3 rfl rfl rfl) ?_
                      refine AOps.call (o_call (hC) Tryd.call62 rfl rfl) ?_
                      refine AOps.call (o_move _ rfl rfl) ?_
                      refine AOps.call (o_extract _ rfl rfl rfl rfl) ?_
                      refine AOps.call (o_extract _ rfl rfl rfl rfl) ?_
                      refine AOps.call (o_assign _ rfl rfl) ?_
                      refine AOps.call (o_assign _ rfl rfl) ?_
                      refine AOps.nil ?_
                      refine AWP.seq ?_
                      refine AWP.seq ?_
                      refine AWP.region ?_
                      refine AOps.call (o_move _ rfl rfl) ?_
                      refine AOps.call (o_bin _ _ rfl rfl (fun _ => rfl) rfl) ?_
                      refine AOps.nil ?_
                      refine AWP.cond _ rfl (fun h381 => ?_) (fun h381 => ?_)
                      · skip
                        have hq : ¬ f = 0 := by
                          have hh := h381
                          simpa using hh
                        obtain rfl := hz0 hq
                        refine AWP.seq ?_
                        refine AWP.region ?_
                        refine AOps.call (o_move _ rfl rfl) ?_
                        refine AOps.call (o_len _ Tryd.underlying45 rfl rfl) ?_
                        refine AOps.call (o_bin _ _ rfl rfl (fun _ => rfl) rfl) ?_
                        refine AOps.call (o_assign _ rfl rfl) ?_
                        refine AOps.nil ?_
                        refine AWP.ret ?_
                        first
                        | exact postQ.ret1 Tryd.results11 rfl rfl
                        | (exfalso; simp at *; done)
                        | (exfalso; simp_all; done)
                        | (refine postQ.ret1 Tryd.results11 rfl ?_; simp [AV.close, B]; done)
                      · skip
                        have hq : f = 0 := by
                          have hh := h381
                          simpa using hh
                        have hz := hz1 hq
                        have hzl : z.length ≤ 40 := by rw [hz]; exact Nat.le_trans (pickL_len _ _) hl40
                        refine AWP.skip ?_
                        refine AWP.seq ?_
                        refine AWP.seq ?_
                        refine AWP.region ?_
                        refine AOps.call (o_loadRd _ rfl Tryd.sizeOf80 Tryd.isAgg80 rfl rfl rfl) ?_
                        refine AOps.call (o_len _ Tryd.underlying80 rfl rfl) ?_
                        refine AOps.call (o_move _ rfl rfl) ?_
                        refine AOps.nil ?_
                        refine AWP.block ?_
                        refine AWP.loop (ι := Nat) (fun i => AS.mk' 302 [(4, I u), (5, .rd (eS c)), (6, .rd [.sl (shts l)]), (8, .rd [I d0, I d1, I d2]), (24, .sl (ints z)), (259, .sl (shts l)), (260, I (shts l).length), (261, I i)] [] [] []) (fun i => i ≤ l.length) (fun i => l.length - i) (0) (Weak.mk' rfl ⟨⟨.refl rfl, rfl⟩, ⟨⟨.refl rfl, rfl⟩, ⟨⟨.refl rfl, rfl⟩, ⟨⟨.refl rfl, rfl⟩, ⟨⟨.refl rfl, rfl⟩, ⟨⟨.refl rfl, rfl⟩, ⟨⟨.refl rfl, rfl⟩, ⟨⟨.refl rfl, rfl⟩, trivial⟩⟩⟩⟩⟩⟩⟩⟩ trivial trivial) (Nat.zero_le _) ?_
                        rintro j hj
                        try dsimp only at *
                        refine AWP.seq ?_
                        refine AWP.region ?_
                        refine AOps.call (o_bin _ _ rfl rfl (fun _ => rfl) rfl) ?_
                        refine AOps.nil ?_
                        refine AWP.seq ?_
                        refine AWP.cond _ rfl (fun h388 => ?_) (fun h388 => ?_)
                        · skip
                          have hlt : j < l.length := by have hq := of_decide_eq_true h388; rw [shts_len] at hq; omega
                          have hel := shts_get hlt
                          have hll := shts_len l
                          have hcz : z.contains (j : Int) = (decide (l[j].scale = c.no) && difB c l[j] d1 d2) := by rw [hz]; unfold corL; rw [pickL_contains hlt, okC_at hlt]
                          refine AWP.skip ?_
                          refine AWP.seq ?_
                          refine AWP.block ?_
                          refine AWP.seq ?_
                          refine AWP.region ?_
                          refine AOps.call (o_move _ rfl rfl) ?_
                          refine AOps.call (o_index _ _ Tryd.underlying80 Tryd.sizeOf54 rfl rfl (by omega) (by assumption) rfl rfl) ?_
                          refine AOps.call (o_loadRd _ rfl Tryd.sizeOf54 Tryd.isAgg54 rfl rfl rfl) ?_
                          refine AOps.call (o_alloc ze54 rfl rfl) ?_
                          refine AOps.call (o_assign _ rfl rfl) ?_
                          refine AOps.cons (o_store _ _ rfl rfl Tryd.sizeOf54 rfl rfl rfl rfl rfl) ?_
                          refine AOps.nil ?_
                          refine AWP.seq ?_
                          refine AWP.region ?_
                          refine AOps.call (o_loadRd _ rfl Tryd.sizeOf24 Tryd.isAgg24 rfl rfl rfl) ?_
                          refine AOps.call (o_loadRef _ rfl rfl Tryd.sizeOf54 Tryd.isAgg54 rfl rfl rfl) ?_
                          refine AOps.call (o_indexArrRd _ _ Tryd.underlying38 Tryd.sizeOf3 rfl rfl (by omega) (by omega) rfl rfl) ?_
                          refine AOps.call (o_loadRd _ rfl Tryd.sizeOf3 Tryd.isAgg3 rfl rfl rfl) ?_
                          refine AOps.call (o_call (Course_s c l[j] d1) Tryd.call51 rfl rfl) ?_
                          refine AOps.call (o_move _ rfl rfl) ?_
                          refine AOps.call (o_extract _ rfl rfl rfl rfl) ?_
                          refine AOps.call (o_extract _ rfl rfl rfl rfl) ?_
                          refine AOps.call (o_alloc ze40 rfl rfl) ?_
                          refine AOps.cons (o_store _ _ rfl rfl Tryd.sizeOf40 rfl rfl rfl rfl rfl) ?_
                          refine AOps.call (o_assign _ rfl rfl) ?_
                          refine AOps.nil ?_
                          refine AWP.seq ?_
                          refine AWP.region ?_
                          refine AOps.call (o_loadRd _ rfl Tryd.sizeOf24 Tryd.isAgg24 rfl rfl rfl) ?_
                          refine AOps.call (o_loadRef _ rfl rfl Tryd.sizeOf54 Tryd.isAgg54 rfl rfl rfl) ?_
                          refine AOps.call (o_indexArrRd _ _ Tryd.underlying38 Tryd.sizeOf3 rfl rfl (by omega) (by omega) rfl rfl) ?_
                          refine AOps.call (o_loadRd _ rfl Tryd.sizeOf3 Tryd.isAgg3 rfl rfl rfl) ?_
                          refine AOps.call (o_call (Course_s c l[j] d2) Tryd.call51 rfl rfl) ?_
                          refine AOps.call (o_move _ rfl rfl) ?_
                          refine AOps.call (o_extract _ rfl rfl rfl rfl) ?_
                          refine AOps.call (o_extract _ rfl rfl rfl rfl) ?_
                          refine AOps.call (o_alloc ze40 rfl rfl) ?_
                          refine AOps.cons (o_store _ _ rfl rfl Tryd.sizeOf40 rfl rfl rfl rfl rfl) ?_
                          refine AOps.call (o_assign _ rfl rfl) ?_
                          refine AOps.nil ?_
                          refine AWP.seq ?_
                          refine AWP.drawn 19 mixed (by kernel_rfl) ?_
                          refine AHead.call (o_move _ rfl rfl) rfl ?_
                          refine AHead.call (o_move _ rfl rfl) rfl ?_
                          refine AHead.call (o_call (Contains_s z (j : Int) (by omega)) Tryd.call39 rfl rfl) rfl ?_
                          refine AHead.call (o_fieldRef _ rfl fa54_4 rfl rfl) rfl ?_
                          refine AHead.call (o_loadRef _ rfl rfl Tryd.sizeOf3 Tryd.isAgg3 rfl rfl rfl) rfl ?_
                          refine AHead.call (o_fieldRd _ rfl fa24_0 rfl) rfl ?_
                          refine AHead.call (o_loadRd _ rfl Tryd.sizeOf3 Tryd.isAgg3 rfl rfl rfl) rfl ?_
                          refine AHead.call (o_bin _ _ rfl rfl (fun _ => rfl) rfl) rfl ?_
                          refine AHead.call (o_move _ rfl rfl) rfl ?_
                          refine AHead.split rfl rfl rfl (fun h414 => ?_) (fun h414 => ?_)
                          · skip
                            have q1 : l[j].scale = c.no := by have hh := h414; simpa using hh
                            have hsp : (decide (couR c l[j] d1 = couR c l[j] d2)) = ((couR c l[j] d1).lo == (couR c l[j] d2).lo && (couR c l[j] d1).hi == (couR c l[j] d2).hi) := spn_dec _ _
                            refine AHead.go rfl rfl rfl h414 (o_loadRef _ rfl rfl Tryd.sizeOf40 Tryd.isAgg40 rfl rfl rfl) rfl ?_
                            refine AHead.go rfl rfl rfl h414 (o_loadRef _ rfl rfl Tryd.sizeOf40 Tryd.isAgg40 rfl rfl rfl) rfl ?_
                            refine AHead.go rfl rfl rfl h414 (o_bin _ _ rfl rfl (spanNe _ _ _ _ _ _) rfl) rfl ?_
                            refine AHead.go rfl rfl rfl h414 (o_move _ rfl rfl) rfl ?_
                            refine AHead.split rfl rfl rfl (fun h418 => ?_) (fun h418 => ?_)
                            · skip
                              have q2 : ((couR c l[j] d1).lo == (couR c l[j] d2).lo && (couR c l[j] d1).hi == (couR c l[j] d2).hi) = true := by simpa only [Bool.not_eq_false'] using h418
                              have hd : difB c l[j] d1 d2 = !decide (watE c l[j] 0 d1 = watE c l[j] 0 d2) := by unfold difB; rw [Bool.decide_and, hsp, q2, Bool.true_and]
                              rw [decide_eq_true q1, Bool.true_and, hd] at hcz
                              refine AHead.go rfl rfl rfl h418 (o_move _ rfl rfl) rfl ?_
                              refine AHead.go rfl rfl rfl h418 (o_move _ rfl rfl) rfl ?_
                              refine AHead.go rfl rfl rfl h418 (o_bin _ _ rfl rfl (fun _ => rfl) rfl) rfl ?_
                              refine AHead.go rfl rfl rfl h414 (o_pickF _ _ _ rfl h418 rfl rfl) rfl ?_
                              refine AHead.call (o_pickT _ _ _ rfl h414 rfl rfl) rfl ?_
                              refine AHead.call (o_bin _ _ rfl rfl (fun _ => rfl) rfl) rfl ?_
                              refine AHead.nil ?_
                              refine AOps.nil ?_
                              refine AWP.cond _ rfl (fun h421 => ?_) (fun h421 => ?_)
                              · skip
                                exfalso
                                have hh := h421
                                rw [hcz] at hh
                                first
                                | (simp at hh; done)
                                | (by_cases hw : watE c l[j] 0 d1 = watE c l[j] 0 d2 <;> simp [hw] at hh; done)
                              · skip
                                refine AWP.skip ?_
                                refine AWP.region ?_
                                refine AOps.call (o_add _ _ rfl rfl ⟨by (try dsimp only); omega, by (try dsimp only); omega⟩ rfl) ?_
                                refine AOps.call (o_move _ rfl rfl) ?_
                                refine AOps.nil ?_
                                refine ⟨j + 1, ?_, (Weak.mk' rfl ⟨⟨.refl rfl, rfl⟩, ⟨⟨.refl rfl, rfl⟩, ⟨⟨.refl rfl, rfl⟩, ⟨⟨.refl rfl, rfl⟩, ⟨⟨.refl rfl, rfl⟩, ⟨⟨.refl rfl, rfl⟩, ⟨⟨.refl rfl, rfl⟩, ⟨⟨.refl rfl, rfl⟩, trivial⟩⟩⟩⟩⟩⟩⟩⟩ trivial trivial)⟩
                                exact ⟨by omega, by omega⟩
                            · skip
                              have q2 : ((couR c l[j] d1).lo == (couR c l[j] d2).lo && (couR c l[j] d1).hi == (couR c l[j] d2).hi) = false := by
                                have hh : (!((couR c l[j] d1).lo == (couR c l[j] d2).lo && (couR c l[j] d1).hi == (couR c l[j] d2).hi)) = true := h418
                                simpa only [Bool.not_eq_true'] using hh
                              have hd : difB c l[j] d1 d2 = true := by unfold difB; rw [Bool.decide_and, hsp, q2]; rfl
                              rw [decide_eq_true q1, Bool.true_and, hd] at hcz
                              refine AHead.pass rfl rfl rfl h418 rfl ?_
                              refine AHead.pass rfl rfl rfl h418 rfl ?_
                              refine AHead.pass rfl rfl rfl h418 rfl ?_
                              refine AHead.go rfl rfl rfl h414 (o_pickT _ _ _ rfl h418 rfl rfl) rfl ?_
                              refine AHead.call (o_pickT _ _ _ rfl h414 rfl rfl) rfl ?_
                              refine AHead.call (o_bin _ _ rfl rfl (fun _ => rfl) rfl) rfl ?_
                              refine AHead.nil ?_
                              refine AOps.nil ?_
                              refine AWP.cond _ rfl (fun h424 => ?_) (fun h424 => ?_)
                              · skip
                                exfalso
                                have hh := h424
                                rw [hcz] at hh
                                first
                                | (simp at hh; done)
                                | (by_cases hw : watE c l[j] 0 d1 = watE c l[j] 0 d2 <;> simp [hw] at hh; done)
                              · skip
                                refine AWP.skip ?_
                                refine AWP.region ?_
                                refine AOps.call (o_add _ _ rfl rfl ⟨by (try dsimp only); omega, by (try dsimp only); omega⟩ rfl) ?_
                                refine AOps.call (o_move _ rfl rfl) ?_
                                refine AOps.nil ?_
                                refine ⟨j + 1, ?_, (Weak.mk' rfl ⟨⟨.refl rfl, rfl⟩, ⟨⟨.refl rfl, rfl⟩, ⟨⟨.refl rfl, rfl⟩, ⟨⟨.refl rfl, rfl⟩, ⟨⟨.refl rfl, rfl⟩, ⟨⟨.refl rfl, rfl⟩, ⟨⟨.refl rfl, rfl⟩, ⟨⟨.refl rfl, rfl⟩, trivial⟩⟩⟩⟩⟩⟩⟩⟩ trivial trivial)⟩
                                exact ⟨by omega, by omega⟩
                          · skip
                            have q1 : ¬ l[j].scale = c.no := by have hh := h414; simpa using hh
                            rw [decide_eq_false q1, Bool.false_and] at hcz
                            refine AHead.pass rfl rfl rfl h414 rfl ?_
                            refine AHead.pass rfl rfl rfl h414 rfl ?_
                            refine AHead.pass rfl rfl rfl h414 rfl ?_
                            refine AHead.pass rfl rfl rfl h414 rfl ?_
                            refine AHead.passU rfl rfl rfl rfl ?_
                            refine AHead.passU rfl rfl rfl rfl ?_
                            refine AHead.passU rfl rfl rfl rfl ?_
                            refine AHead.pass rfl rfl rfl h414 rfl ?_
                            refine AHead.call (o_pickF _ _ _ rfl h414 rfl rfl) rfl ?_
                            refine AHead.call (o_bin _ _ rfl rfl (fun _ => rfl) rfl) rfl ?_
                            refine AHead.nil ?_
                            refine AOps.nil ?_
                            refine AWP.cond _ rfl (fun h427 => ?_) (fun h427 => ?_)
                            · skip
                              exfalso
                              have hh := h427
                              rw [hcz] at hh
                              first
                              | (simp at hh; done)
                              | (by_cases hw : watE c l[j] 0 d1 = watE c l[j] 0 d2 <;> simp [hw] at hh; done)
                            · skip
                              refine AWP.skip ?_
                              refine AWP.region ?_
                              refine AOps.call (o_add _ _ rfl rfl ⟨by (try dsimp only); omega, by (try dsimp only); omega⟩ rfl) ?_
                              refine AOps.call (o_move _ rfl rfl) ?_
                              refine AOps.nil ?_
                              refine ⟨j + 1, ?_, (Weak.mk' rfl ⟨⟨.refl rfl, rfl⟩, ⟨⟨.refl rfl, rfl⟩, ⟨⟨.refl rfl, rfl⟩, ⟨⟨.refl rfl, rfl⟩, ⟨⟨.refl rfl, rfl⟩, ⟨⟨.refl rfl, rfl⟩, ⟨⟨.refl rfl, rfl⟩, ⟨⟨.refl rfl, rfl⟩, trivial⟩⟩⟩⟩⟩⟩⟩⟩ trivial trivial)⟩
                              exact ⟨by omega, by omega⟩
                        · skip
                          refine AWP.exit ?_
                          refine AWP.seq ?_
                          refine AWP.region ?_
                          refine AOps.call (o_assign _ rfl rfl) ?_
                          refine AOps.nil ?_
                          refine AWP.ret ?_
                          first
                          | exact postQ.ret1 Tryd.results11 rfl rfl
                          | (exfalso; simp at *; done)
                          | (exfalso; simp_all; done)
                          | (refine postQ.ret1 Tryd.results11 rfl ?_; simp [AV.close, B]; done)
                  · skip
                    refine AOps.pass rfl rfl rfl h207 rfl ?_
                    refine AOps.pass rfl rfl rfl h207 rfl ?_
                    refine AOps.pass rfl rfl rfl h207 rfl ?_
                    refine AOps.pass rfl rfl rfl h207 rfl ?_
                    refine AOps.call (o_pickF _ _ _ rfl h207 rfl rfl) ?_
                    refine AOps.call (o_move _ rfl rfl) ?_
                    refine AOps.pass rfl rfl rfl rfl rfl ?_
                    refine AOps.pass rfl rfl rfl rfl rfl ?_
                    refine AOps.pass rfl rfl rfl rfl rfl ?_
                    refine AOps.pass rfl rfl rfl rfl rfl ?_
                    refine AOps.call (o_pickF _ _ _ rfl rfl rfl rfl) ?_
                    refine AOps.nil ?_
                    refine AWP.condF rfl ?_
                    refine AWP.skip ?_
                    refine AWP.seq ?_
                    refine AWP.region ?_
                    refine AOps.call (o_loadRd _ rfl Tryd.sizeOf24 Tryd.isAgg24 rfl rfl rfl) ?_
                    refine AOps.call (o_loadRd _ rfl Tryd.sizeOf80 Tryd.isAgg80 rfl rfl rfl) ?_
                    refine AOps.call (o_indexArrRd _ _ Tryd.underlying38 Tryd.sizeOf3 rfl rfl (by omega) (by omega) rfl rfl) ?_
                    refine AOps.call (o_loadRd _ rfl Tryd.sizeOf3 Tryd.isAgg3 rfl rfl rfl) ?_
                    refine AOps.call (o_indexArrRd _ _ Tryd.underlying38 Tryd.sizeOf3 rfl rfl (by omega) (by omega) rfl rfl) ?_
                    refine AOps.call (o_loadRd _ rfl Tryd.sizeOf3 Tryd.isAgg3 rfl rfl rfl) ?_
                    refine AOps.call (o_call (hC) Tryd.call62 rfl rfl) ?_
                    refine AOps.call (o_move _ rfl rfl) ?_
                    refine AOps.call (o_extract _ rfl rfl rfl rfl) ?_
                    refine AOps.call (o_extract _ rfl rfl rfl rfl) ?_
                    refine AOps.call (o_assign _ rfl rfl) ?_
                    refine AOps.call (o_assign _ rfl rfl) ?_
                    refine AOps.nil ?_
                    refine AWP.seq ?_
                    refine AWP.seq ?_
                    refine AWP.region ?_
                    refine AOps.call (o_move _ rfl rfl) ?_
                    refine AOps.call (o_bin _ _ rfl rfl (fun _ => rfl) rfl) ?_
                    refine AOps.nil ?_
                    refine AWP.cond _ rfl (fun h439 => ?_) (fun h439 => ?_)
                    · skip
                      have hq : ¬ f = 0 := by
                        have hh := h439
                        simpa using hh
                      obtain rfl := hz0 hq
                      refine AWP.seq ?_
                      refine AWP.region ?_
                      refine AOps.call (o_move _ rfl rfl) ?_
                      refine AOps.call (o_len _ Tryd.underlying45 rfl rfl) ?_
                      refine AOps.call (o_bin _ _ rfl rfl (fun _ => rfl) rfl) ?_
                      refine AOps.call (o_assign _ rfl rfl) ?_
                      refine AOps.nil ?_
                      refine AWP.ret ?_
                      first
                      | exact postQ.ret1 Tryd.results11 rfl rfl
                      | (exfalso; simp at *; done)
                      | (exfalso; simp_all; done)
                      | (refine postQ.ret1 Tryd.results11 rfl ?_; simp [AV.close, B]; done)
                    · skip
                      have hq : f = 0 := by
                        have hh := h439
                        simpa using hh
                      have hz := hz1 hq
                      have hzl : z.length ≤ 40 := by rw [hz]; exact Nat.le_trans (pickL_len _ _) hl40
                      refine AWP.skip ?_
                      refine AWP.seq ?_
                      refine AWP.seq ?_
                      refine AWP.region ?_
                      refine AOps.call (o_loadRd _ rfl Tryd.sizeOf80 Tryd.isAgg80 rfl rfl rfl) ?_
                      refine AOps.call (o_len _ Tryd.underlying80 rfl rfl) ?_
                      refine AOps.call (o_move _ rfl rfl) ?_
                      refine AOps.nil ?_
                      refine AWP.block ?_
                      refine AWP.loop (ι := Nat) (fun i => AS.mk' 302 [(4, I u), (5, .rd (eS c)), (6, .rd [.sl (shts l)]), (8, .rd [I d0, I d1, I d2]), (24, .sl (ints z)), (259, .sl (shts l)), (260, I (shts l).length), (261, I i)] [] [] []) (fun i => i ≤ l.length) (fun i => l.length - i) (0) (Weak.mk' rfl ⟨⟨.refl rfl, rfl⟩, ⟨⟨.refl rfl, rfl⟩, ⟨⟨.refl rfl, rfl⟩, ⟨⟨.refl rfl, rfl⟩, ⟨⟨.refl rfl, rfl⟩, ⟨⟨.refl rfl, rfl⟩, ⟨⟨.refl rfl, rfl⟩, ⟨⟨.refl rfl, rfl⟩, trivial⟩⟩⟩⟩⟩⟩⟩⟩ trivial trivial) (Nat.zero_le _) ?_
                      rintro j hj
                      try dsimp only at *
                      refine AWP.seq ?_
                      refine AWP.region ?_
                      refine AOps.call (o_bin _ _ rfl rfl (fun _ => rfl) rfl) ?_
                      refine AOps.nil ?_
                      refine AWP.seq ?_
                      refine AWP.cond _ rfl (fun h446 => ?_) (fun h446 => ?_)
                      · skip
                        have hlt : j < l.length := by have hq := of_decide_eq_true h446; rw [shts_len] at hq; omega
                        have hel := shts_get hlt
                        have hll := shts_len l
                        have hcz : z.contains (j : Int) = (decide (l[j].scale = c.no) && difB c l[j] d1 d2) := by rw [hz]; unfold corL; rw [pickL_contains hlt, okC_at hlt]
                        refine AWP.skip ?_
                        refine AWP.seq ?_
                        refine AWP.block ?_
                        refine AWP.seq ?_
                        refine AWP.region ?_
                        refine AOps.call (o_move _ rfl rfl) ?_
                        refine AOps.call (o_index _ _ Tryd.underlying80 Tryd.sizeOf54 rfl rfl (by omega) (by assumption) rfl rfl) ?_
                        refine AOps.call (o_loadRd _ rfl Tryd.sizeOf54 Tryd.isAgg54 rfl rfl rfl) ?_
                        refine AOps.call (o_alloc ze54 rfl rfl) ?_
                        refine AOps.call (o_assign _ rfl rfl) ?_
                        refine AOps.cons (o_store _ _ rfl rfl Tryd.sizeOf54 rfl rfl rfl rfl rfl) ?_
                        refine AOps.nil ?_
                        refine AWP.seq ?_
                        refine AWP.region ?_
                        refine AOps.call (o_loadRd _ rfl Tryd.sizeOf24 Tryd.isAgg24 rfl rfl rfl) ?_
                        refine AOps.call (o_loadRef _ rfl rfl Tryd.sizeOf54 Tryd.isAgg54 rfl rfl rfl) ?_
                        refine AOps.call (o_indexArrRd _ _ Tryd.underlying38 Tryd.sizeOf3 rfl rfl (by omega) (by omega) rfl rfl) ?_
                        refine AOps.call (o_loadRd _ rfl Tryd.sizeOf3 Tryd.isAgg3 rfl rfl rfl) ?_
                        refine AOps.call (o_call (Course_s c l[j] d1) Tryd.call51 rfl rfl) ?_
                        refine AOps.call (o_move _ rfl rfl) ?_
                        refine AOps.call (o_extract _ rfl rfl rfl rfl) ?_
                        refine AOps.call (o_extract _ rfl rfl rfl rfl) ?_
                        refine AOps.call (o_alloc ze40 rfl rfl) ?_
                        refine AOps.cons (o_store _ _ rfl rfl Tryd.sizeOf40 rfl rfl rfl rfl rfl) ?_
                        refine AOps.call (o_assign _ rfl rfl) ?_
                        refine AOps.nil ?_
                        refine AWP.seq ?_
                        refine AWP.region ?_
                        refine AOps.call (o_loadRd _ rfl Tryd.sizeOf24 Tryd.isAgg24 rfl rfl rfl) ?_
                        refine AOps.call (o_loadRef _ rfl rfl Tryd.sizeOf54 Tryd.isAgg54 rfl rfl rfl) ?_
                        refine AOps.call (o_indexArrRd _ _ Tryd.underlying38 Tryd.sizeOf3 rfl rfl (by omega) (by omega) rfl rfl) ?_
                        refine AOps.call (o_loadRd _ rfl Tryd.sizeOf3 Tryd.isAgg3 rfl rfl rfl) ?_
                        refine AOps.call (o_call (Course_s c l[j] d2) Tryd.call51 rfl rfl) ?_
                        refine AOps.call (o_move _ rfl rfl) ?_
                        refine AOps.call (o_extract _ rfl rfl rfl rfl) ?_
                        refine AOps.call (o_extract _ rfl rfl rfl rfl) ?_
                        refine AOps.call (o_alloc ze40 rfl rfl) ?_
                        refine AOps.cons (o_store _ _ rfl rfl Tryd.sizeOf40 rfl rfl rfl rfl rfl) ?_
                        refine AOps.call (o_assign _ rfl rfl) ?_
                        refine AOps.nil ?_
                        refine AWP.seq ?_
                        refine AWP.drawn 19 mixed (by kernel_rfl) ?_
                        refine AHead.call (o_move _ rfl rfl) rfl ?_
                        refine AHead.call (o_move _ rfl rfl) rfl ?_
                        refine AHead.call (o_call (Contains_s z (j : Int) (by omega)) Tryd.call39 rfl rfl) rfl ?_
                        refine AHead.call (o_fieldRef _ rfl fa54_4 rfl rfl) rfl ?_
                        refine AHead.call (o_loadRef _ rfl rfl Tryd.sizeOf3 Tryd.isAgg3 rfl rfl rfl) rfl ?_
                        refine AHead.call (o_fieldRd _ rfl fa24_0 rfl) rfl ?_
                        refine AHead.call (o_loadRd _ rfl Tryd.sizeOf3 Tryd.isAgg3 rfl rfl rfl) rfl ?_
                        refine AHead.call (o_bin _ _ rfl rfl (fun _ => rfl) rfl) rfl ?_
                        refine AHead.call (o_move _ rfl rfl) rfl ?_
                        refine AHead.split rfl rfl rfl (fun h472 => ?_) (fun h472 => ?_)
                        · skip
                          have q1 : l[j].scale = c.no := by have hh := h472; simpa using hh
                          have hsp : (decide (couR c l[j] d1 = couR c l[j] d2)) = ((couR c l[j] d1).lo == (couR c l[j] d2).lo && (couR c l[j] d1).hi == (couR c l[j] d2).hi) := spn_dec _ _
                          refine AHead.go rfl rfl rfl h472 (o_loadRef _ rfl rfl Tryd.sizeOf40 Tryd.isAgg40 rfl rfl rfl) rfl ?_
                          refine AHead.go rfl rfl rfl h472 (o_loadRef _ rfl rfl Tryd.sizeOf40 Tryd.isAgg40 rfl rfl rfl) rfl ?_
                          refine AHead.go rfl rfl rfl h472 (o_bin _ _ rfl rfl (spanNe _ _ _ _ _ _) rfl) rfl ?_
                          refine AHead.go rfl rfl rfl h472 (o_move _ rfl rfl) rfl ?_
                          refine AHead.split rfl rfl rfl (fun h476 => ?_) (fun h476 => ?_)
                          · skip
                            have q2 : ((couR c l[j] d1).lo == (couR c l[j] d2).lo && (couR c l[j] d1).hi == (couR c l[j] d2).hi) = true := by simpa only [Bool.not_eq_false'] using h476
                            have hd : difB c l[j] d1 d2 = !decide (watE c l[j] 0 d1 = watE c l[j] 0 d2) := by unfold difB; rw [Bool.decide_and, hsp, q2, Bool.true_and]
                            rw [decide_eq_true q1, Bool.true_and, hd] at hcz
                            refine AHead.go rfl rfl rfl h476 (o_move _ rfl rfl) rfl ?_
                            refine AHead.go rfl rfl rfl h476 (o_move _ rfl rfl) rfl ?_
                            refine AHead.go rfl rfl rfl h476 (o_bin _ _ rfl rfl (fun _ => rfl) rfl) rfl ?_
                            refine AHead.go rfl rfl rfl h472 (o_pickF _ _ _ rfl h476 rfl rfl) rfl ?_
                            refine AHead.call (o_pickT _ _ _ rfl h472 rfl rfl) rfl ?_
                            refine AHead.call (o_bin _ _ rfl rfl (fun _ => rfl) rfl) rfl ?_
                            refine AHead.nil ?_
                            refine AOps.nil ?_
                            refine AWP.cond _ rfl (fun h479 => ?_) (fun h479 => ?_)
                            · skip
                              exfalso
                              have hh := h479
                              rw [hcz] at hh
                              first
                              | (simp at hh; done)
                              | (by_cases hw : watE c l[j] 0 d1 = watE c l[j] 0 d2 <;> simp [hw] at hh; done)
                            · skip
                              refine AWP.skip ?_
                              refine AWP.region ?_
                              refine AOps.call (o_add _ _ rfl rfl ⟨by (try dsimp only); omega, by (try dsimp only); omega⟩ rfl) ?_
                              refine AOps.call (o_move _ rfl rfl) ?_
                              refine AOps.nil ?_
                              refine ⟨j + 1, ?_, (Weak.mk' rfl ⟨⟨.refl rfl, rfl⟩, ⟨⟨.refl rfl, rfl⟩, ⟨⟨.refl rfl, rfl⟩, ⟨⟨.refl rfl, rfl⟩, ⟨⟨.refl rfl, rfl⟩, ⟨⟨.refl rfl, rfl⟩, ⟨⟨.refl rfl, rfl⟩, ⟨⟨.refl rfl, rfl⟩, trivial⟩⟩⟩⟩⟩⟩⟩⟩ trivial trivial)⟩
                              exact ⟨by omega, by omega⟩
                          · skip
                            have q2 : ((couR c l[j] d1).lo == (couR c l[j] d2).lo && (couR c l[j] d1).hi == (couR c l[j] d2).hi) = false := by
                              have hh : (!((couR c l[j] d1).lo == (couR c l[j] d2).lo && (couR c l[j] d1).hi == (couR c l[j] d2).hi)) = true := h476
                              simpa only [Bool.not_eq_true'] using hh
                            have hd : difB c l[j] d1 d2 = true := by unfold difB; rw [Bool.decide_and, hsp, q2]; rfl
                            rw [decide_eq_true q1, Bool.true_and, hd] at hcz
                            refine AHead.pass rfl rfl rfl h476 rfl ?_
                            refine AHead.pass rfl rfl rfl h476 rfl ?_
                            refine AHead.pass rfl rfl rfl h476 rfl ?_
                            refine AHead.go rfl rfl rfl h472 (o_pickT _ _ _ rfl h476 rfl rfl) rfl ?_
                            refine AHead.call (o_pickT _ _ _ rfl h472 rfl rfl) rfl ?_
                            refine AHead.call (o_bin _ _ rfl rfl (fun _ => rfl) rfl) rfl ?_
                            refine AHead.nil ?_
                            refine AOps.nil ?_
                            refine AWP.cond _ rfl (fun h482 => ?_) (fun h482 => ?_)
                            · skip
                              exfalso
                              have hh := h482
                              rw [hcz] at hh
                              first
                              | (simp at hh; done)
                              | (by_cases hw : watE c l[j] 0 d1 = watE c l[j] 0 d2 <;> simp [hw] at hh; done)
                            · skip
                              refine AWP.skip ?_
                              refine AWP.region ?_
                              refine AOps.call (o_add _ _ rfl rfl ⟨by (try dsimp only); omega, by (try dsimp only); omega⟩ rfl) ?_
                              refine AOps.call (o_move _ rfl rfl) ?_
                              refine AOps.nil ?_
                              refine ⟨j + 1, ?_, (Weak.mk' rfl ⟨⟨.refl rfl, rfl⟩, ⟨⟨.refl rfl, rfl⟩, ⟨⟨.refl rfl, rfl⟩, ⟨⟨.refl rfl, rfl⟩, ⟨⟨.refl rfl, rfl⟩, ⟨⟨.refl rfl, rfl⟩, ⟨⟨.refl rfl, rfl⟩, ⟨⟨.refl rfl, rfl⟩, trivial⟩⟩⟩⟩⟩⟩⟩⟩ trivial trivial)⟩
                              exact ⟨by omega, by omega⟩
                        · skip
                          have q1 : ¬ l[j].scale = c.no := by have hh := h472; simpa using hh
                          rw [decide_eq_false q1, Bool.false_and] at hcz
                          refine AHead.pass rfl rfl rfl h472 rfl ?_
                          refine AHead.pass rfl rfl rfl h472 rfl ?_
                          refine AHead.pass rfl rfl rfl h472 rfl ?_
                          refine AHead.pass rfl rfl rfl h472 rfl ?_
                          refine AHead.passU rfl rfl rfl rfl ?_
                          refine AHead.passU rfl rfl rfl rfl ?_
                          refine AHead.passU rfl rfl rfl rfl ?_
                          refine AHead.pass rfl rfl rfl h472 rfl ?_
                          refine AHead.call (o_pickF _ _ _ rfl h472 rfl rfl) rfl ?_
                          refine AHead.call (o_bin _ _ rfl rfl (fun _ => rfl) rfl) rfl ?_
                          refine AHead.nil ?_
                          refine AOps.nil ?_
                          refine AWP.cond _ rfl (fun h485 => ?_) (fun h485 => ?_)
                          · skip
                            exfalso
                            have hh := h485
                            rw [hcz] at hh
                            first
                            | (simp at hh; done)
                            | (by_cases hw : watE c l[j] 0 d1 = watE c l[j] 0 d2 <;> simp [hw] at hh; done)
                          · skip
                            refine AWP.skip ?_
                            refine AWP.region ?_
                            refine AOps.call (o_add _ _ rfl rfl ⟨by (try dsimp only); omega, by (try dsimp only); omega⟩ rfl) ?_
                            refine AOps.call (o_move _ rfl rfl) ?_
                            refine AOps.nil ?_
                            refine ⟨j + 1, ?_, (Weak.mk' rfl ⟨⟨.refl rfl, rfl⟩, ⟨⟨.refl rfl, rfl⟩, ⟨⟨.refl rfl, rfl⟩, ⟨⟨.refl rfl, rfl⟩, ⟨⟨.refl rfl, rfl⟩, ⟨⟨.refl rfl, rfl⟩, ⟨⟨.refl rfl, rfl⟩, ⟨⟨.refl rfl, rfl⟩, trivial⟩⟩⟩⟩⟩⟩⟩⟩ trivial trivial)⟩
                            exact ⟨by omega, by omega⟩
                      · skip
                        refine AWP.exit ?_
                        refine AWP.seq ?_
                        refine AWP.region ?_
                        refine AOps.call (o_assign _ rfl rfl) ?_
                        refine AOps.nil ?_
                        refine AWP.ret ?_
                        first
                        | exact postQ.ret1 Tryd.results11 rfl rfl
                        | (exfalso; simp at *; done)
                        | (exfalso; simp_all; done)
                        | (refine postQ.ret1 Tryd.results11 rfl ?_; simp [AV.close, B]; done)
        · skip
          refine AOps.pass rfl rfl rfl h19 rfl ?_
          refine AOps.pass rfl rfl rfl h19 rfl ?_
          refine AOps.pass rfl rfl rfl h19 rfl ?_
          refine AOps.call (o_pickT _ _ _ rfl h19 rfl rfl) ?_
          refine AOps.nil ?_
          refine AWP.condT rfl ?_
          refine AWP.seq ?_
          refine AWP.region ?_
          refine AOps.call (o_assign _ rfl rfl) ?_
          refine AOps.nil ?_
          refine AWP.ret ?_
          first
          | exact postQ.ret1 Tryd.results11 rfl rfl
          | (exfalso; simp at *; done)
          | (exfalso; simp_all; done)
          | (refine postQ.ret1 Tryd.results11 rfl ?_; simp [AV.close, B]; done)
      · skip
        refine AOps.pass rfl rfl rfl h15 rfl ?_
        refine AOps.pass rfl rfl rfl h15 rfl ?_
        refine AOps.pass rfl rfl rfl h15 rfl ?_
        refine AOps.call (o_pickT _ _ _ rfl h15 rfl rfl) ?_
        refine AOps.call (o_move _ rfl rfl) ?_
        refine AOps.pass rfl rfl rfl rfl rfl ?_
        refine AOps.pass rfl rfl rfl rfl rfl ?_
        refine AOps.pass rfl rfl rfl rfl rfl ?_
        refine AOps.call (o_pickT _ _ _ rfl rfl rfl rfl) ?_
        refine AOps.nil ?_
        refine AWP.condT rfl ?_
        refine AWP.seq ?_
        refine AWP.region ?_
        refine AOps.call (o_assign _ rfl rfl) ?_
        refine AOps.nil ?_
        refine AWP.ret ?_
        first
        | exact postQ.ret1 Tryd.results11 rfl rfl
        | (exfalso; simp at *; done)
        | (exfalso; simp_all; done)
        | (refine postQ.ret1 Tryd.results11 rfl ?_; simp [AV.close, B]; done)
    · skip
      refine AOps.pass rfl rfl rfl h11 rfl ?_
      refine AOps.pass rfl rfl rfl h11 rfl ?_
      refine AOps.pass rfl rfl rfl h11 rfl ?_
      refine AOps.call (o_pickT _ _ _ rfl h11 rfl rfl) ?_
      refine AOps.call (o_move _ rfl rfl) ?_
      refine AOps.pass rfl rfl rfl rfl rfl ?_
      refine AOps.pass rfl rfl rfl rfl rfl ?_
      refine AOps.pass rfl rfl rfl rfl rfl ?_
      refine AOps.call (o_pickT _ _ _ rfl rfl rfl rfl) ?_
      refine AOps.call (o_move _ rfl rfl) ?_
      refine AOps.pass rfl rfl rfl rfl rfl ?_
      refine AOps.pass rfl rfl rfl rfl rfl ?_
      refine AOps.pass rfl rfl rfl rfl rfl ?_
      refine AOps.call (o_pickT _ _ _ rfl rfl rfl rfl) ?_
      refine AOps.nil ?_
      refine AWP.condT rfl ?_
      refine AWP.seq ?_
      refine AWP.region ?_
      refine AOps.call (o_assign _ rfl rfl) ?_
      refine AOps.nil ?_
      refine AWP.ret ?_
      first
      | exact postQ.ret1 Tryd.results11 rfl rfl
      | (exfalso; simp at *; done)
      | (exfalso; simp_all; done)
      | (refine postQ.ret1 Tryd.results11 rfl ?_; simp [AV.close, B]; done)

set_option maxHeartbeats 8000000 in
set_option maxRecDepth 20000 in
theorem CourseStands_b (c : Scl) (l : List Sht) (wd : List Int) (d0 d1 d2 : Int) (g : Int) (hg : g < 0) : FSpecG Tryd.prog TAB 11 [.agg (eS c), .sl (shts l), .sl (ints wd), .agg [I d0, I d1, I d2], I g] (B true) (none) := by
  refine FSpecG.of_body tab_stable Tryd.func11 rfl (leB rfl) fun w0 M0 hG => ?_
  refine AWP.seq ?_
  refine AWP.region ?_
  refine AOps.call (o_box _ rfl rfl rfl) ?_
  refine AOps.call (o_box _ rfl rfl rfl) ?_
  refine AOps.call (o_box _ rfl rfl rfl) ?_
  refine AOps.call (o_assign _ rfl rfl) ?_
  refine AOps.nil ?_
  refine AWP.seq ?_
  refine AWP.seq ?_
  refine AWP.region ?_
  refine AOps.call (o_callG (sane_s) hG Tryd.call12 rfl rfl) ?_
  refine AOps.call (o_un _ rfl (fun _ => rfl) rfl) ?_
  refine AOps.nil ?_
  refine AWP.cond _ rfl (fun h6 => ?_) (fun h6 => ?_)
  · skip
    refine AWP.seq ?_
    refine AWP.region ?_
    refine AOps.call (o_assign _ rfl rfl) ?_
    refine AOps.nil ?_
    refine AWP.ret ?_
    first
    | exact postQ.ret1 Tryd.results11 rfl rfl
    | (exfalso; simp at *; done)
    | (exfalso; simp_all; done)
    | (refine postQ.ret1 Tryd.results11 rfl ?_; simp [AV.close, B]; done)
  · skip
    refine AWP.skip ?_
    refine AWP.seq ?_
    refine AWP.seq ?_
    refine AWP.region ?_
    refine AOps.weak (Weak.frzv (id := (5, 0)) (t := 5) rfl rfl rfl) ?_
    refine AOps.weak (Weak.frzv (id := (6, 0)) (t := 6) rfl rfl rfl) ?_
    refine AOps.weak (Weak.frzv (id := (8, 0)) (t := 8) rfl rfl rfl) ?_
    refine AOps.call (o_fieldRd _ rfl fa24_2 rfl) ?_
    refine AOps.call (o_loadRd _ rfl Tryd.sizeOf22 Tryd.isAgg22 rfl rfl rfl) ?_
    refine AOps.call (o_len _ Tryd.underlying22 rfl rfl) ?_
    refine AOps.call (o_bin _ _ rfl rfl (fun _ => rfl) rfl) ?_
    refine AOps.call (o_move _ rfl rfl) ?_
    refine AOps.split rfl rfl rfl (fun h11 => ?_) (fun h11 => ?_)
    · skip
      refine AOps.go rfl rfl rfl h11 (o_loadRd _ rfl Tryd.sizeOf80 Tryd.isAgg80 rfl rfl rfl) ?_
      refine AOps.go rfl rfl rfl h11 (o_len _ Tryd.underlying80 rfl rfl) ?_
      refine AOps.go rfl rfl rfl h11 (o_bin _ _ rfl rfl (fun _ => rfl) rfl) ?_
      refine AOps.call (o_pickF _ _ _ rfl h11 rfl rfl) ?_
      refine AOps.call (o_move _ rfl rfl) ?_
      refine AOps.split rfl rfl rfl (fun h15 => ?_) (fun h15 => ?_)
      · skip
        have hl40 : l.length ≤ 40 := by have hq := of_decide_eq_false h15; rw [shts_len] at hq; omega
        refine AOps.go rfl rfl rfl h15 (o_loadRd _ rfl Tryd.sizeOf80 Tryd.isAgg80 rfl rfl rfl) ?_
        refine AOps.go rfl rfl rfl h15 (o_call (short_s l) Tryd.call54 rfl rfl) ?_
        refine AOps.go rfl rfl rfl h15 (o_un _ rfl (fun _ => rfl) rfl) ?_
        refine AOps.call (o_pickF _ _ _ rfl h15 rfl rfl) ?_
        refine AOps.call (o_move _ rfl rfl) ?_
        refine AOps.split rfl rfl rfl (fun h19 => ?_) (fun h19 => ?_)
        · skip
          refine AOps.go rfl rfl rfl h19 (o_move _ rfl rfl) ?_
          refine AOps.go rfl rfl rfl h19 (o_len _ Tryd.underlying45 rfl rfl) ?_
          refine AOps.go rfl rfl rfl h19 (o_bin _ _ rfl rfl (fun _ => rfl) rfl) ?_
          refine AOps.call (o_pickF _ _ _ rfl h19 rfl rfl) ?_
          refine AOps.nil ?_
          refine AWP.cond _ rfl (fun h23 => ?_) (fun h23 => ?_)
          · skip
            refine AWP.seq ?_
            refine AWP.region ?_
            refine AOps.call (o_assign _ rfl rfl) ?_
            refine AOps.nil ?_
            refine AWP.ret ?_
            first
            | exact postQ.ret1 Tryd.results11 rfl rfl
            | (exfalso; simp at *; done)
            | (exfalso; simp_all; done)
            | (refine postQ.ret1 Tryd.results11 rfl ?_; simp [AV.close, B]; done)
          · skip
            have hl300 : l.length ≤ 40 := hl40
            have hw5 : wd.length ≤ 5000 := by have hq := of_decide_eq_false h23; rw [ints_len] at hq; omega
            obtain ⟨x, e, hA, hx0, hx1⟩ : ∃ (x : List Int) (e : Int), FSpec Tryd.prog 55 [.sl (shts l), .sl (ints wd), I d0] (.tup [.sl (ints x), I e]) none ∧ (¬ e = 0 → x = []) ∧ (e = 0 → standE l wd d0 = 0 ∧ x = standL l wd d0) := by
              have h1 := Standing_s l wd d0 (by omega) (by omega)
              by_cases hz : standE l wd d0 = 0
              · rw [if_pos hz] at h1; exact ⟨_, _, h1, fun h => absurd rfl h, fun _ => ⟨hz, rfl⟩⟩
              · rw [if_neg hz] at h1; exact ⟨[], _, h1, fun _ => rfl, fun h => absurd h hz⟩
            obtain ⟨z, f, hC, hz0, hz1⟩ : ∃ (z : List Int) (f : Int), FSpec Tryd.prog 62 [.agg (eS c), .sl (shts l), I d1, I d2] (.tup [.sl (ints z), I f]) none ∧ (¬ f = 0 → z = []) ∧ (f = 0 → z = corL c l d1 d2) := by
              have h1 := Corrected_s c l d1 d2 (by omega)
              by_cases hz : corE c l d1 d2 = 0
              · rw [if_pos hz] at h1; exact ⟨_, _, h1, fun h => absurd rfl h, fun _ => rfl⟩
              · rw [if_neg hz] at h1; exact ⟨[], _, h1, fun _ => rfl, fun h => absurd h hz⟩
            refine AWP.skip ?_
            refine AWP.seq ?_
            refine AWP.region ?_
            refine AOps.call (o_loadRd _ rfl Tryd.sizeOf80 Tryd.isAgg80 rfl rfl rfl) ?_
            refine AOps.call (o_move _ rfl rfl) ?_
            refine AOps.call (o_indexArrRd _ _ Tryd.underlying38 Tryd.sizeOf3 rfl rfl (by omega) (by omega) rfl rfl) ?_
            refine AOps.call (o_loadRd _ rfl Tryd.sizeOf3 Tryd.isAgg3 rfl rfl rfl) ?_
            refine AOps.call (o_call (hA) Tryd.call55 rfl rfl) ?_
            refine AOps.call (o_move _ rfl rfl) ?_
            refine AOps.call (o_extract _ rfl rfl rfl rfl) ?_
            refine AOps.call (o_extract _ rfl rfl rfl rfl) ?_
            refine AOps.call (o_assign _ rfl rfl) ?_
            refine AOps.call (o_assign _ rfl rfl) ?_
            refine AOps.nil ?_
            refine AWP.seq ?_
            refine AWP.seq ?_
            refine AWP.region ?_
            refine AOps.call (o_move _ rfl rfl) ?_
            refine AOps.call (o_bin _ _ rfl rfl (fun _ => rfl) rfl) ?_
            refine AOps.nil ?_
            refine AWP.cond _ rfl (fun h32 => ?_) (fun h32 => ?_)
            · skip
              have hq : ¬ e = 0 := by
                have hh := h32
                simpa using hh
              obtain rfl := hx0 hq
              refine AWP.seq ?_
              refine AWP.region ?_
              refine AOps.call (o_move _ rfl rfl) ?_
              refine AOps.call (o_len _ Tryd.underlying45 rfl rfl) ?_
              refine AOps.call (o_bin _ _ rfl rfl (fun _ => rfl) rfl) ?_
              refine AOps.call (o_assign _ rfl rfl) ?_
              refine AOps.nil ?_
              refine AWP.ret ?_
              first
              | exact postQ.ret1 Tryd.results11 rfl rfl
              | (exfalso; simp at *; done)
              | (exfalso; simp_all; done)
              | (refine postQ.ret1 Tryd.results11 rfl ?_; simp [AV.close, B]; done)
            · skip
              have hq : e = 0 := by
                have hh := h32
                simpa using hh
              obtain ⟨hE, hx⟩ := hx1 hq
              have hxl : x.length ≤ 40 := by rw [hx]; exact Nat.le_trans (pickL_len _ _) hl40
              have hxb : ∀ y ∈ x, 0 ≤ y ∧ y.toNat < l.length := fun y hy => by
                rw [hx] at hy
                obtain ⟨i, hi, _, rfl⟩ := pickL_mem.1 hy
                exact ⟨by omega, by omega⟩
              have hpw : x.Pairwise (· < ·) := by rw [hx]; exact stand_pw _ _ _
              have hat : ∀ (j : Nat) (hj : j < x.length), ∃ u : Nat, ∃ hu : u < l.length, x[j] = (u : Int) ∧ wd.contains l[u].no = false ∧ l[u].known ≤ d0 ∧ anyF (overB l[u] u d0) l 0 = false := fun j hj => by
                subst hx; exact stand_at hj
              refine AWP.skip ?_
              refine AWP.seq ?_
              refine AWP.seq ?_
              refine AWP.region ?_
              refine AOps.call (o_move _ rfl rfl) ?_
              refine AOps.call (o_len _ Tryd.underlying45 rfl rfl) ?_
              refine AOps.call (o_move _ rfl rfl) ?_
              refine AOps.nil ?_
              refine AWP.block ?_
              refine AWP.loop (ι := Nat) (fun i => AS.mk' 302 [(2, .sl (ints wd)), (4, I g), (5, .rd (eS c)), (6, .rd [.sl (shts l)]), (8, .rd [I d0, I d1, I d2]), (11, .sl (ints x)), (66, .sl (ints x)), (67, I (ints x).length), (68, I i)] [] [] []) (fun i => i ≤ x.length) (fun i => x.length - i) (0) (Weak.mk' rfl ⟨⟨.refl rfl, rfl⟩, ⟨⟨.refl rfl, rfl⟩, ⟨⟨.refl rfl, rfl⟩, ⟨⟨.refl rfl, rfl⟩, ⟨⟨.refl rfl, rfl⟩, ⟨⟨.refl rfl, rfl⟩, ⟨⟨.refl rfl, rfl⟩, ⟨⟨.refl rfl, rfl⟩, ⟨⟨.refl rfl, rfl⟩, trivial⟩⟩⟩⟩⟩⟩⟩⟩⟩ trivial trivial) (Nat.zero_le _) ?_
              rintro k hk
              try dsimp only at *
              refine AWP.seq ?_
              refine AWP.region ?_
              refine AOps.call (o_bin _ _ rfl rfl (fun _ => rfl) rfl) ?_
              refine AOps.nil ?_
              refine AWP.seq ?_
              refine AWP.cond _ rfl (fun h38 => ?_) (fun h38 => ?_)
              · skip
                have hlt : k < x.length := by have hq := of_decide_eq_true h38; rw [ints_len] at hq; omega
                obtain ⟨v, hv, hxv, hcv, hkv, hov⟩ := hat k hlt
                have hel : (ints x)[((k : Nat) : Int).toNat]? = some [I (v : Int)] := by rw [← hxv]; exact ints_at hlt
                have helv := shts_get hv
                have hll := shts_len l
                refine AWP.skip ?_
                refine AWP.seq ?_
                refine AWP.block ?_
                refine AWP.seq ?_
                refine AWP.region ?_
                refine AOps.call (o_move _ rfl rfl) ?_
                refine AOps.call (o_index _ _ Tryd.underlying45 Tryd.sizeOf3 rfl rfl (by have := ints_len x; omega) hel rfl rfl) ?_
                refine AOps.call (o_loadRd _ rfl Tryd.sizeOf3 Tryd.isAgg3 rfl rfl rfl) ?_
                refine AOps.call (o_assign _ rfl rfl) ?_
                refine AOps.call (o_assign _ rfl rfl) ?_
                refine AOps.nil ?_
                refine AWP.seq ?_
                refine AWP.seq ?_
                refine AWP.drawn 40 mixed (by kernel_rfl) ?_
                refine AHead.call (o_move _ rfl rfl) rfl ?_
                refine AHead.call (o_bin _ _ rfl rfl (fun _ => rfl) rfl) rfl ?_
                refine AHead.call (o_move _ rfl rfl) rfl ?_
                refine AHead.split rfl rfl rfl (fun h42 => ?_) (fun h42 => ?_)
                · skip
                  refine AHead.go rfl rfl rfl h42 (o_move _ rfl rfl) rfl ?_
                  refine AHead.go rfl rfl rfl h42 (o_loadRd _ rfl Tryd.sizeOf80 Tryd.isAgg80 rfl rfl rfl) rfl ?_
                  refine AHead.go rfl rfl rfl h42 (o_len _ Tryd.underlying80 rfl rfl) rfl ?_
                  refine AHead.go rfl rfl rfl h42 (o_bin _ _ rfl rfl (fun _ => rfl) rfl) rfl ?_
                  refine AHead.call (o_pickF _ _ _ rfl h42 rfl rfl) rfl ?_
                  refine AHead.call (o_move _ rfl rfl) rfl ?_
                  refine AHead.split rfl rfl rfl (fun h46 => ?_) (fun h46 => ?_)
                  · skip
                    refine AHead.go rfl rfl rfl h46 (o_move _ rfl rfl) rfl ?_
                    refine AHead.go rfl rfl rfl h46 (o_bin _ _ rfl rfl (fun _ => rfl) rfl) rfl ?_
                    refine AHead.go rfl rfl rfl h46 (o_move _ rfl rfl) rfl ?_
                    refine AHead.split rfl rfl rfl (fun h48 => ?_) (fun h48 => ?_)
                    · skip
                      have hk0 : 0 < k := by have hq := of_decide_eq_true h48; omega
                      have hlt1 : k - 1 < x.length := by omega
                      have hel1 : (ints x)[((k : Int) - 1).toNat]? = some [I x[k - 1]] := by rw [show ((k : Int) - 1).toNat = k - 1 by omega]; simp [ints, hlt1]
                      have hil := ints_len x
                      have hpq : x[k - 1] < (v : Int) := by rw [← hxv]; exact List.pairwise_iff_getElem.1 hpw _ _ hlt1 hlt (by omega)
                      refine AHead.go rfl rfl rfl h48 (o_move _ rfl rfl) rfl ?_
                      refine AHead.go rfl rfl rfl h48 (o_move _ rfl rfl) rfl ?_
                      refine AHead.go rfl rfl rfl h48 (o_sub _ _ rfl rfl ⟨by (try dsimp only); omega, by (try dsimp only); omega⟩ rfl) rfl ?_
                      refine AHead.go rfl rfl rfl h48 (o_index _ _ Tryd.underlying45 Tryd.sizeOf3 rfl rfl (by omega) hel1 rfl rfl) rfl ?_
                      refine AHead.go rfl rfl rfl h48 (o_loadRd _ rfl Tryd.sizeOf3 Tryd.isAgg3 rfl rfl rfl) rfl ?_
                      refine AHead.go rfl rfl rfl h48 (o_move _ rfl rfl) rfl ?_
                      refine AHead.go rfl rfl rfl h48 (o_bin _ _ rfl rfl (fun _ => rfl) rfl) rfl ?_
                      refine AHead.go rfl rfl rfl h46 (o_pickT _ _ _ rfl h48 rfl rfl) rfl ?_
                      refine AHead.call (o_pickF _ _ _ rfl h46 rfl rfl) rfl ?_
                      refine AHead.call (o_move _ rfl rfl) rfl ?_
                      refine AHead.split rfl rfl rfl (fun h53 => ?_) (fun h53 => ?_)
                      · skip
                        refine AHead.go rfl rfl rfl h53 (o_move _ rfl rfl) rfl ?_
                        refine AHead.go rfl rfl rfl h53 (o_loadRd _ rfl Tryd.sizeOf80 Tryd.isAgg80 rfl rfl rfl) rfl ?_
                        refine AHead.go rfl rfl rfl h53 (o_move _ rfl rfl) rfl ?_
                        refine AHead.go rfl rfl rfl h53 (o_index _ _ Tryd.underlying80 Tryd.sizeOf54 rfl rfl (by omega) helv rfl rfl) rfl ?_
                        refine AHead.go rfl rfl rfl h53 (o_fieldRd _ rfl fa54_0 rfl) rfl ?_
                        refine AHead.go rfl rfl rfl h53 (o_loadRd _ rfl Tryd.sizeOf3 Tryd.isAgg3 rfl rfl rfl) rfl ?_
                        refine AHead.go rfl rfl rfl h53 (o_call (Contains_s wd l[v].no (by omega)) Tryd.call39 rfl rfl) rfl ?_
                        refine AHead.call (o_pickF _ _ _ rfl h53 rfl rfl) rfl ?_
                        refine AHead.call (o_move _ rfl rfl) rfl ?_
                        refine AHead.split rfl rfl rfl (fun h60 => ?_) (fun h60 => ?_)
                        · skip
                          refine AHead.go rfl rfl rfl h60 (o_loadRd _ rfl Tryd.sizeOf80 Tryd.isAgg80 rfl rfl rfl) rfl ?_
                          refine AHead.go rfl rfl rfl h60 (o_move _ rfl rfl) rfl ?_
                          refine AHead.go rfl rfl rfl h60 (o_index _ _ Tryd.underlying80 Tryd.sizeOf54 rfl rfl (by omega) helv rfl rfl) rfl ?_
                          refine AHead.go rfl rfl rfl h60 (o_fieldRd _ rfl fa54_3 rfl) rfl ?_
                          refine AHead.go rfl rfl rfl h60 (o_loadRd _ rfl Tryd.sizeOf3 Tryd.isAgg3 rfl rfl rfl) rfl ?_
                          refine AHead.go rfl rfl rfl h60 (o_indexArrRd _ _ Tryd.underlying38 Tryd.sizeOf3 rfl rfl (by omega) (by omega) rfl rfl) rfl ?_
                          refine AHead.go rfl rfl rfl h60 (o_loadRd _ rfl Tryd.sizeOf3 Tryd.isAgg3 rfl rfl rfl) rfl ?_
                          refine AHead.go rfl rfl rfl h60 (o_bin _ _ rfl rfl (fun _ => rfl) rfl) rfl ?_
                          refine AHead.call (o_pickF _ _ _ rfl h60 rfl rfl) rfl ?_
                          refine AHead.nil ?_
                          refine AOps.nil ?_
                          refine AWP.cond _ rfl (fun h68 => ?_) (fun h68 => ?_)
                          · skip
                            exfalso
                            have hq := of_decide_eq_true h68
                            omega
                          · skip
                            refine AWP.skip ?_
                            refine AWP.seq ?_
                            refine AWP.region ?_
                            refine AOps.call (o_loadRd _ rfl Tryd.sizeOf80 Tryd.isAgg80 rfl rfl rfl) ?_
                            refine AOps.call (o_len _ Tryd.underlying80 rfl rfl) ?_
                            refine AOps.call (o_move _ rfl rfl) ?_
                            refine AOps.nil ?_
                            refine AWP.block ?_
                            refine AWP.loop (ι := Nat) (fun i => AS.mk' 302 [(2, .sl (ints wd)), (4, I g), (5, .rd (eS c)), (6, .rd [.sl (shts l)]), (8, .rd [I d0, I d1, I d2]), (11, .sl (ints x)), (66, .sl (ints x)), (67, I (ints x).length), (68, I k), (13, I k), (14, I v), (113, .sl (shts l)), (114, I (shts l).length), (115, I i)] [] [] []) (fun i => i ≤ l.length) (fun i => l.length - i) (0) (Weak.mk' rfl ⟨⟨.refl rfl, rfl⟩, ⟨⟨.refl rfl, rfl⟩, ⟨⟨.refl rfl, rfl⟩, ⟨⟨.refl rfl, rfl⟩, ⟨⟨.refl rfl, rfl⟩, ⟨⟨.refl rfl, rfl⟩, ⟨⟨.refl rfl, rfl⟩, ⟨⟨.refl rfl, rfl⟩, ⟨⟨.refl rfl, rfl⟩, ⟨⟨.refl rfl, rfl⟩, ⟨⟨.refl rfl, rfl⟩, ⟨⟨.refl rfl, rfl⟩, ⟨⟨.refl rfl, rfl⟩, ⟨⟨.refl rfl, rfl⟩, trivial⟩⟩⟩⟩⟩⟩⟩⟩⟩⟩⟩⟩⟩⟩ trivial trivial) (Nat.zero_le _) ?_
                            rintro j hj
                            try dsimp only at *
                            refine AWP.seq ?_
                            refine AWP.region ?_
                            refine AOps.call (o_bin _ _ rfl rfl (fun _ => rfl) rfl) ?_
                            refine AOps.nil ?_
                            refine AWP.seq ?_
                            refine AWP.cond _ rfl (fun h73 => ?_) (fun h73 => ?_)
                            · skip
                              have hlt : j < l.length := by have hq := of_decide_eq_true h73; rw [shts_len] at hq; omega
                              have hel := shts_get hlt
                              have hll := shts_len l
                              have hno := notOver (any_not hov hlt)
                              refine AWP.skip ?_
                              refine AWP.seq ?_
                              refine AWP.block ?_
                              refine AWP.seq ?_
                              refine AWP.region ?_
                              refine AOps.call (o_move _ rfl rfl) ?_
                              refine AOps.call (o_index _ _ Tryd.underlying80 Tryd.sizeOf54 rfl rfl (by omega) hel rfl rfl) ?_
                              refine AOps.call (o_loadRd _ rfl Tryd.sizeOf54 Tryd.isAgg54 rfl rfl rfl) ?_
                              refine AOps.call (o_alloc ze54 rfl rfl) ?_
                              refine AOps.call (o_assign _ rfl rfl) ?_
                              refine AOps.cons (o_store _ _ rfl rfl Tryd.sizeOf54 rfl rfl rfl rfl rfl) ?_
                              refine AOps.nil ?_
                              refine AWP.seq ?_
                              refine AWP.drawn 45 mixed (by kernel_rfl) ?_
                              refine AHead.call (o_fieldRef _ rfl fa54_0 rfl rfl) rfl ?_
                              refine AHead.call (o_loadRef _ rfl rfl Tryd.sizeOf3 Tryd.isAgg3 rfl rfl rfl) rfl ?_
                              refine AHead.call (o_loadRd _ rfl Tryd.sizeOf80 Tryd.isAgg80 rfl rfl rfl) rfl ?_
                              refine AHead.call (o_move _ rfl rfl) rfl ?_
                              refine AHead.call (o_index _ _ Tryd.underlying80 Tryd.sizeOf54 rfl rfl (by omega) helv rfl rfl) rfl ?_
                              refine AHead.call (o_fieldRd _ rfl fa54_0 rfl) rfl ?_
                              refine AHead.call (o_loadRd _ rfl Tryd.sizeOf3 Tryd.isAgg3 rfl rfl rfl) rfl ?_
                              refine AHead.call (o_bin _ _ rfl rfl (fun _ => rfl) rfl) rfl ?_
                              refine AHead.call (o_move _ rfl rfl) rfl ?_
                              refine AHead.split rfl rfl rfl (fun h84 => ?_) (fun h84 => ?_)
                              · skip
                                have q1 : l[j].no = l[v].no := by have hh := h84; simpa using hh
                                refine AHead.go rfl rfl rfl h84 (o_move _ rfl rfl) rfl ?_
                                refine AHead.go rfl rfl rfl h84 (o_move _ rfl rfl) rfl ?_
                                refine AHead.go rfl rfl rfl h84 (o_bin _ _ rfl rfl (fun _ => rfl) rfl) rfl ?_
                                refine AHead.call (o_pickT _ _ _ rfl h84 rfl rfl) rfl ?_
                                refine AHead.call (o_move _ rfl rfl) rfl ?_
                                refine AHead.split rfl rfl rfl (fun h86 => ?_) (fun h86 => ?_)
                                · skip
                                  refine AHead.go rfl rfl rfl h86 (o_fieldRef _ rfl fa54_3 rfl rfl) rfl ?_
                                  refine AHead.go rfl rfl rfl h86 (o_loadRef _ rfl rfl Tryd.sizeOf3 Tryd.isAgg3 rfl rfl rfl) rfl ?_
                                  refine AHead.go rfl rfl rfl h86 (o_indexArrRd _ _ Tryd.underlying38 Tryd.sizeOf3 rfl rfl (by omega) (by omega) rfl rfl) rfl ?_
                                  refine AHead.go rfl rfl rfl h86 (o_loadRd _ rfl Tryd.sizeOf3 Tryd.isAgg3 rfl rfl rfl) rfl ?_
                                  refine AHead.go rfl rfl rfl h86 (o_bin _ _ rfl rfl (fun _ => rfl) rfl) rfl ?_
                                  refine AHead.call (o_pickT _ _ _ rfl h86 rfl rfl) rfl ?_
                                  refine AHead.call (o_move _ rfl rfl) rfl ?_
                                  refine AHead.split rfl rfl rfl (fun h92 => ?_) (fun h92 => ?_)
                                  · skip
                                    have q3 : l[j].known ≤ d0 := of_decide_eq_true h92
                                    refine AHead.go rfl rfl rfl h92 (o_fieldRef _ rfl fa54_3 rfl rfl) rfl ?_
                                    refine AHead.go rfl rfl rfl h92 (o_loadRef _ rfl rfl Tryd.sizeOf3 Tryd.isAgg3 rfl rfl rfl) rfl ?_
                                    refine AHead.go rfl rfl rfl h92 (o_loadRd _ rfl Tryd.sizeOf80 Tryd.isAgg80 rfl rfl rfl) rfl ?_
                                    refine AHead.go rfl rfl rfl h92 (o_move _ rfl rfl) rfl ?_
                                    refine AHead.go rfl rfl rfl h92 (o_index _ _ Tryd.underlying80 Tryd.sizeOf54 rfl rfl (by omega) helv rfl rfl) rfl ?_
                                    refine AHead.go rfl rfl rfl h92 (o_fieldRd _ rfl fa54_3 rfl) rfl ?_
                                    refine AHead.go rfl rfl rfl h92 (o_loadRd _ rfl Tryd.sizeOf3 Tryd.isAgg3 rfl rfl rfl) rfl ?_
                                    refine AHead.go rfl rfl rfl h92 (o_bin _ _ rfl rfl (fun _ => rfl) rfl) rfl ?_
                                    refine AHead.go rfl rfl rfl h92 (o_move _ rfl rfl) rfl ?_
                                    refine AHead.split rfl rfl rfl (fun h100 => ?_) (fun h100 => ?_)
                                    · skip
                                      refine AHead.go rfl rfl rfl h100 (o_fieldRef _ rfl fa54_3 rfl rfl) rfl ?_
                                      refine AHead.go rfl rfl rfl h100 (o_loadRef _ rfl rfl Tryd.sizeOf3 Tryd.isAgg3 rfl rfl rfl) rfl ?_
                                      refine AHead.go rfl rfl rfl h100 (o_loadRd _ rfl Tryd.sizeOf80 Tryd.isAgg80 rfl rfl rfl) rfl ?_
                                      refine AHead.go rfl rfl rfl h100 (o_move _ rfl rfl) rfl ?_
                                      refine AHead.go rfl rfl rfl h100 (o_index _ _ Tryd.underlying80 Tryd.sizeOf54 rfl rfl (by omega) helv rfl rfl) rfl ?_
                                      refine AHead.go rfl rfl rfl h100 (o_fieldRd _ rfl fa54_3 rfl) rfl ?_
                                      refine AHead.go rfl rfl rfl h100 (o_loadRd _ rfl Tryd.sizeOf3 Tryd.isAgg3 rfl rfl rfl) rfl ?_
                                      refine AHead.go rfl rfl rfl h100 (o_bin _ _ rfl rfl (fun _ => rfl) rfl) rfl ?_
                                      refine AHead.go rfl rfl rfl h100 (o_move _ rfl rfl) rfl ?_
                                      refine AHead.split rfl rfl rfl (fun h108 => ?_) (fun h108 => ?_)
                                      · skip
                                        have q5 : l[j].known = l[v].known := by have hh := h108; simpa using hh
                                        refine AHead.go rfl rfl rfl h108 (o_move _ rfl rfl) rfl ?_
                                        refine AHead.go rfl rfl rfl h108 (o_move _ rfl rfl) rfl ?_
                                        refine AHead.go rfl rfl rfl h108 (o_bin _ _ rfl rfl (fun _ => rfl) rfl) rfl ?_
                                        refine AHead.go rfl rfl rfl h100 (o_pickT _ _ _ rfl h108 rfl rfl) rfl ?_
                                        refine AHead.go rfl rfl rfl h92 (o_pickF _ _ _ rfl h100 rfl rfl) rfl ?_
                                        refine AHead.call (o_pickT _ _ _ rfl h92 rfl rfl) rfl ?_
                                        refine AHead.nil ?_
                                        refine AOps.nil ?_
                                        refine AWP.cond _ rfl (fun h110 => ?_) (fun h110 => ?_)
                                        · skip
                                          exfalso
                                          exact hno ⟨q1, q3, .inr ⟨q5, by have hq := of_decide_eq_true h110; omega⟩⟩
                                        · skip
                                          refine AWP.skip ?_
                                          refine AWP.region ?_
                                          refine AOps.call (o_add _ _ rfl rfl ⟨by (try dsimp only); omega, by (try dsimp only); omega⟩ rfl) ?_
                                          refine AOps.call (o_move _ rfl rfl) ?_
                                          refine AOps.nil ?_
                                          refine ⟨j + 1, ?_, (Weak.mk' rfl ⟨⟨.refl rfl, rfl⟩, ⟨⟨.refl rfl, rfl⟩, ⟨⟨.refl rfl, rfl⟩, ⟨⟨.refl rfl, rfl⟩, ⟨⟨.refl rfl, rfl⟩, ⟨⟨.refl rfl, rfl⟩, ⟨⟨.refl rfl, rfl⟩, ⟨⟨.refl rfl, rfl⟩, ⟨⟨.refl rfl, rfl⟩, ⟨⟨.refl rfl, rfl⟩, ⟨⟨.refl rfl, rfl⟩, ⟨⟨.refl rfl, rfl⟩, ⟨⟨.refl rfl, rfl⟩, ⟨⟨.refl rfl, rfl⟩, trivial⟩⟩⟩⟩⟩⟩⟩⟩⟩⟩⟩⟩⟩⟩ trivial trivial)⟩
                                          exact ⟨by omega, by omega⟩
                                      · skip
                                        refine AHead.pass rfl rfl rfl h108 rfl ?_
                                        refine AHead.pass rfl rfl rfl h108 rfl ?_
                                        refine AHead.pass rfl rfl rfl h108 rfl ?_
                                        refine AHead.go rfl rfl rfl h100 (o_pickF _ _ _ rfl h108 rfl rfl) rfl ?_
                                        refine AHead.go rfl rfl rfl h92 (o_pickF _ _ _ rfl h100 rfl rfl) rfl ?_
                                        refine AHead.call (o_pickT _ _ _ rfl h92 rfl rfl) rfl ?_
                                        refine AHead.nil ?_
                                        refine AOps.nil ?_
                                        refine AWP.condF rfl ?_
                                        refine AWP.skip ?_
                                        refine AWP.region ?_
                                        refine AOps.call (o_add _ _ rfl rfl ⟨by (try dsimp only); omega, by (try dsimp only); omega⟩ rfl) ?_
                                        refine AOps.call (o_move _ rfl rfl) ?_
                                        refine AOps.nil ?_
                                        refine ⟨j + 1, ?_, (Weak.mk' rfl ⟨⟨.refl rfl, rfl⟩, ⟨⟨.refl rfl, rfl⟩, ⟨⟨.refl rfl, rfl⟩, ⟨⟨.refl rfl, rfl⟩, ⟨⟨.refl rfl, rfl⟩, ⟨⟨.refl rfl, rfl⟩, ⟨⟨.refl rfl, rfl⟩, ⟨⟨.refl rfl, rfl⟩, ⟨⟨.refl rfl, rfl⟩, ⟨⟨.refl rfl, rfl⟩, ⟨⟨.refl rfl, rfl⟩, ⟨⟨.refl rfl, rfl⟩, ⟨⟨.refl rfl, rfl⟩, ⟨⟨.refl rfl, rfl⟩, trivial⟩⟩⟩⟩⟩⟩⟩⟩⟩⟩⟩⟩⟩⟩ trivial trivial)⟩
                                        exact ⟨by omega, by omega⟩
                                    · skip
                                      have q4 : l[j].known > l[v].known := of_decide_eq_true h100
                                      refine AHead.pass rfl rfl rfl h100 rfl ?_
                                      refine AHead.pass rfl rfl rfl h100 rfl ?_
                                      refine AHead.pass rfl rfl rfl h100 rfl ?_
                                      refine AHead.pass rfl rfl rfl h100 rfl ?_
                                      refine AHead.pass rfl rfl rfl h100 rfl ?_
                                      refine AHead.pass rfl rfl rfl h100 rfl ?_
                                      refine AHead.pass rfl rfl rfl h100 rfl ?_
                                      refine AHead.pass rfl rfl rfl h100 rfl ?_
                                      refine AHead.pass rfl rfl rfl h100 rfl ?_
                                      refine AHead.passU rfl rfl rfl rfl ?_
                                      refine AHead.passU rfl rfl rfl rfl ?_
                                      refine AHead.passU rfl rfl rfl rfl ?_
                                      refine AHead.pass rfl rfl rfl h100 rfl ?_
                                      refine AHead.go rfl rfl rfl h92 (o_pickT _ _ _ rfl h100 rfl rfl) rfl ?_
                                      refine AHead.call (o_pickT _ _ _ rfl h92 rfl rfl) rfl ?_
                                      refine AHead.nil ?_
                                      refine AOps.nil ?_
                                      refine AWP.condT rfl ?_
                                      exfalso
                                      exact hno ⟨q1, q3, .inl q4⟩
                                  · skip
                                    refine AHead.pass rfl rfl rfl h92 rfl ?_
                                    refine AHead.pass rfl rfl rfl h92 rfl ?_
                                    refine AHead.pass rfl rfl rfl h92 rfl ?_
                                    refine AHead.pass rfl rfl rfl h92 rfl ?_
                                    refine AHead.pass rfl rfl rfl h92 rfl ?_
                                    refine AHead.pass rfl rfl rfl h92 rfl ?_
                                    refine AHead.pass rfl rfl rfl h92 rfl ?_
                                    refine AHead.pass rfl rfl rfl h92 rfl ?_
                                    refine AHead.pass rfl rfl rfl h92 rfl ?_
                                    refine AHead.passU rfl rfl rfl rfl ?_
                                    refine AHead.passU rfl rfl rfl rfl ?_
                                    refine AHead.passU rfl rfl rfl rfl ?_
                                    refine AHead.passU rfl rfl rfl rfl ?_
                                    refine AHead.passU rfl rfl rfl rfl ?_
                                    refine AHead.passU rfl rfl rfl rfl ?_
                                    refine AHead.passU rfl rfl rfl rfl ?_
                                    refine AHead.passU rfl rfl rfl rfl ?_
                                    refine AHead.passU rfl rfl rfl rfl ?_
                                    refine AHead.passU rfl rfl rfl rfl ?_
                                    refine AHead.passU rfl rfl rfl rfl ?_
                                    refine AHead.passU rfl rfl rfl rfl ?_
                                    refine AHead.passU rfl rfl rfl rfl ?_
                                    refine AHead.pass rfl rfl rfl h92 rfl ?_
                                    refine AHead.call (o_pickF _ _ _ rfl h92 rfl rfl) rfl ?_
                                    refine AHead.nil ?_
                                    refine AOps.nil ?_
                                    refine AWP.condF rfl ?_
                                    refine AWP.skip ?_
                                    refine AWP.region ?_
                                    refine AOps.call (o_add _ _ rfl rfl ⟨by (try dsimp only); omega, by (try dsimp only); omega⟩ rfl) ?_
                                    refine AOps.call (o_move _ rfl rfl) ?_
                                    refine AOps.nil ?_
                                    refine ⟨j + 1, ?_, (Weak.mk' rfl ⟨⟨.refl rfl, rfl⟩, ⟨⟨.refl rfl, rfl⟩, ⟨⟨.refl rfl, rfl⟩, ⟨⟨.refl rfl, rfl⟩, ⟨⟨.refl rfl, rfl⟩, ⟨⟨.refl rfl, rfl⟩, ⟨⟨.refl rfl, rfl⟩, ⟨⟨.refl rfl, rfl⟩, ⟨⟨.refl rfl, rfl⟩, ⟨⟨.refl rfl, rfl⟩, ⟨⟨.refl rfl, rfl⟩, ⟨⟨.refl rfl, rfl⟩, ⟨⟨.refl rfl, rfl⟩, ⟨⟨.refl rfl, rfl⟩, trivial⟩⟩⟩⟩⟩⟩⟩⟩⟩⟩⟩⟩⟩⟩ trivial trivial)⟩
                                    exact ⟨by omega, by omega⟩
                                · skip
                                  refine AHead.pass rfl rfl rfl h86 rfl ?_
                                  refine AHead.pass rfl rfl rfl h86 rfl ?_
                                  refine AHead.pass rfl rfl rfl h86 rfl ?_
                                  refine AHead.pass rfl rfl rfl h86 rfl ?_
                                  refine AHead.pass rfl rfl rfl h86 rfl ?_
                                  refine AHead.call (o_pickF _ _ _ rfl h86 rfl rfl) rfl ?_
                                  refine AHead.call (o_move _ rfl rfl) rfl ?_
                                  refine AHead.pass rfl rfl rfl rfl rfl ?_
                                  refine AHead.pass rfl rfl rfl rfl rfl ?_
                                  refine AHead.pass rfl rfl rfl rfl rfl ?_
                                  refine AHead.pass rfl rfl rfl rfl rfl ?_
                                  refine AHead.pass rfl rfl rfl rfl rfl ?_
                                  refine AHead.pass rfl rfl rfl rfl rfl ?_
                                  refine AHead.pass rfl rfl rfl rfl rfl ?_
                                  refine AHead.pass rfl rfl rfl rfl rfl ?_
                                  refine AHead.pass rfl rfl rfl rfl rfl ?_
                                  refine AHead.passU rfl rfl rfl rfl ?_
                                  refine AHead.passU rfl rfl rfl rfl ?_
                                  refine AHead.passU rfl rfl rfl rfl ?_
                                  refine AHead.passU rfl rfl rfl rfl ?_
                                  refine AHead.passU rfl rfl rfl rfl ?_
                                  refine AHead.passU rfl rfl rfl rfl ?_
                                  refine AHead.passU rfl rfl rfl rfl ?_
                                  refine AHead.passU rfl rfl rfl rfl ?_
                                  refine AHead.passU rfl rfl rfl rfl ?_
                                  refine AHead.passU rfl rfl rfl rfl ?_
                                  refine AHead.passU rfl rfl rfl rfl ?_
                                  refine AHead.passU rfl rfl rfl rfl ?_
                                  refine AHead.passU rfl rfl rfl rfl ?_
                                  refine AHead.pass rfl rfl rfl rfl rfl ?_
                                  refine AHead.call (o_pickF _ _ _ rfl rfl rfl rfl) rfl ?_
                                  refine AHead.nil ?_
                                  refine AOps.nil ?_
                                  refine AWP.condF rfl ?_
                                  refine AWP.skip ?_
                                  refine AWP.region ?_
                                  refine AOps.call (o_add _ _ rfl rfl ⟨by (try dsimp only); omega, by (try dsimp only); omega⟩ rfl) ?_
                                  refine AOps.call (o_move _ rfl rfl) ?_
                                  refine AOps.nil ?_
                                  refine ⟨j + 1, ?_, (Weak.mk' rfl ⟨⟨.refl rfl, rfl⟩, ⟨⟨.refl rfl, rfl⟩, ⟨⟨.refl rfl, rfl⟩, ⟨⟨.refl rfl, rfl⟩, ⟨⟨.refl rfl, rfl⟩, ⟨⟨.refl rfl, rfl⟩, ⟨⟨.refl rfl, rfl⟩, ⟨⟨.refl rfl, rfl⟩, ⟨⟨.refl rfl, rfl⟩, ⟨⟨.refl rfl, rfl⟩, ⟨⟨.refl rfl, rfl⟩, ⟨⟨.refl rfl, rfl⟩, ⟨⟨.refl rfl, rfl⟩, ⟨⟨.refl rfl, rfl⟩, trivial⟩⟩⟩⟩⟩⟩⟩⟩⟩⟩⟩⟩⟩⟩ trivial trivial)⟩
                                  exact ⟨by omega, by omega⟩
                              · skip
                                refine AHead.pass rfl rfl rfl h84 rfl ?_
                                refine AHead.pass rfl rfl rfl h84 rfl ?_
                                refine AHead.pass rfl rfl rfl h84 rfl ?_
                                refine AHead.call (o_pickF _ _ _ rfl h84 rfl rfl) rfl ?_
                                refine AHead.call (o_move _ rfl rfl) rfl ?_
                                refine AHead.pass rfl rfl rfl rfl rfl ?_
                                refine AHead.pass rfl rfl rfl rfl rfl ?_
                                refine AHead.pass rfl rfl rfl rfl rfl ?_
                                refine AHead.pass rfl rfl rfl rfl rfl ?_
                                refine AHead.pass rfl rfl rfl rfl rfl ?_
                                refine AHead.call (o_pickF _ _ _ rfl rfl rfl rfl) rfl ?_
                                refine AHead.call (o_move _ rfl rfl) rfl ?_
                                refine AHead.pass rfl rfl rfl rfl rfl ?_
                                refine AHead.pass rfl rfl rfl rfl rfl ?_
                                refine AHead.pass rfl rfl rfl rfl rfl ?_
                                refine AHead.pass rfl rfl rfl rfl rfl ?_
                                refine AHead.pass rfl rfl rfl rfl rfl ?_
                                refine AHead.pass rfl rfl rfl rfl rfl ?_
                                refine AHead.pass rfl rfl rfl rfl rfl ?_
                                refine AHead.pass rfl rfl rfl rfl rfl ?_
                                refine AHead.pass rfl rfl rfl rfl rfl ?_
                                refine AHead.passU rfl rfl rfl rfl ?_
                                refine AHead.passU rfl rfl rfl rfl ?_
                                refine AHead.passU rfl rfl rfl rfl ?_
                                refine AHead.passU rfl rfl rfl rfl ?_
                                refine AHead.passU rfl rfl rfl rfl ?_
                                refine AHead.passU rfl rfl rfl rfl ?_
                                refine AHead.passU rfl rfl rfl rfl ?_
                                refine AHead.passU rfl rfl rfl rfl ?_
                                refine AHead.passU rfl rfl rfl rfl ?_
                                refine AHead.passU rfl rfl rfl rfl ?_
                                refine AHead.passU rfl rfl rfl rfl ?_
                                refine AHead.passU rfl rfl rfl rfl ?_
                                refine AHead.passU rfl rfl rfl rfl ?_
                                refine AHead.pass rfl rfl rfl rfl rfl ?_
                                refine AHead.call (o_pickF _ _ _ rfl rfl rfl rfl) rfl ?_
                                refine AHead.nil ?_
                                refine AOps.nil ?_
                                refine AWP.condF rfl ?_
                                refine AWP.skip ?_
                                refine AWP.region ?_
                                refine AOps.call (o_add _ _ rfl rfl ⟨by (try dsimp only); omega, by (try dsimp only); omega⟩ rfl) ?_
                                refine AOps.call (o_move _ rfl rfl) ?_
                                refine AOps.nil ?_
                                refine ⟨j + 1, ?_, (Weak.mk' rfl ⟨⟨.refl rfl, rfl⟩, ⟨⟨.refl rfl, rfl⟩, ⟨⟨.refl rfl, rfl⟩, ⟨⟨.refl rfl, rfl⟩, ⟨⟨.refl rfl, rfl⟩, ⟨⟨.refl rfl, rfl⟩, ⟨⟨.refl rfl, rfl⟩, ⟨⟨.refl rfl, rfl⟩, ⟨⟨.refl rfl, rfl⟩, ⟨⟨.refl rfl, rfl⟩, ⟨⟨.refl rfl, rfl⟩, ⟨⟨.refl rfl, rfl⟩, ⟨⟨.refl rfl, rfl⟩, ⟨⟨.refl rfl, rfl⟩, trivial⟩⟩⟩⟩⟩⟩⟩⟩⟩⟩⟩⟩⟩⟩ trivial trivial)⟩
                                exact ⟨by omega, by omega⟩
                            · skip
                              refine AWP.exit ?_
                              refine AWP.region ?_
                              refine AOps.call (o_add _ _ rfl rfl ⟨by (try dsimp only); omega, by (try dsimp only); omega⟩ rfl) ?_
                              refine AOps.call (o_move _ rfl rfl) ?_
                              refine AOps.nil ?_
                              refine ⟨k + 1, ?_, (Weak.mk' rfl ⟨⟨.refl rfl, rfl⟩, ⟨⟨.refl rfl, rfl⟩, ⟨⟨.refl rfl, rfl⟩, ⟨⟨.refl rfl, rfl⟩, ⟨⟨.refl rfl, rfl⟩, ⟨⟨.refl rfl, rfl⟩, ⟨⟨.refl rfl, rfl⟩, ⟨⟨.refl rfl, rfl⟩, ⟨⟨.refl rfl, rfl⟩, trivial⟩⟩⟩⟩⟩⟩⟩⟩⟩ trivial trivial)⟩
                              exact ⟨by omega, by omega⟩
                        · skip
                          exfalso
                          have hh := h60
                          rw [hcv] at hh
                          cases hh
                      · skip
                        exfalso
                        have hq := of_decide_eq_true h53
                        omega
                    · skip
                      refine AHead.pass rfl rfl rfl h48 rfl ?_
                      refine AHead.pass rfl rfl rfl h48 rfl ?_
                      refine AHead.pass rfl rfl rfl h48 rfl ?_
                      refine AHead.pass rfl rfl rfl h48 rfl ?_
                      refine AHead.pass rfl rfl rfl h48 rfl ?_
                      refine AHead.pass rfl rfl rfl h48 rfl ?_
                      refine AHead.pass rfl rfl rfl h48 rfl ?_
                      refine AHead.go rfl rfl rfl h46 (o_pickF _ _ _ rfl h48 rfl rfl) rfl ?_
                      refine AHead.call (o_pickF _ _ _ rfl h46 rfl rfl) rfl ?_
                      refine AHead.call (o_move _ rfl rfl) rfl ?_
                      refine AHead.go rfl rfl rfl rfl (o_move _ rfl rfl) rfl ?_
                      refine AHead.go rfl rfl rfl rfl (o_loadRd _ rfl Tryd.sizeOf80 Tryd.isAgg80 rfl rfl rfl) rfl ?_
                      refine AHead.go rfl rfl rfl rfl (o_move _ rfl rfl) rfl ?_
                      refine AHead.go rfl rfl rfl rfl (o_index _ _ Tryd.underlying80 Tryd.sizeOf54 rfl rfl (by omega) helv rfl rfl) rfl ?_
                      refine AHead.go rfl rfl rfl rfl (o_fieldRd _ rfl fa54_0 rfl) rfl ?_
                      refine AHead.go rfl rfl rfl rfl (o_loadRd _ rfl Tryd.sizeOf3 Tryd.isAgg3 rfl rfl rfl) rfl ?_
                      refine AHead.go rfl rfl rfl rfl (o_call (Contains_s wd l[v].no (by omega)) Tryd.call39 rfl rfl) rfl ?_
                      refine AHead.call (o_pickF _ _ _ rfl rfl rfl rfl) rfl ?_
                      refine AHead.call (o_move _ rfl rfl) rfl ?_
                      refine AHead.split rfl rfl rfl (fun h123 => ?_) (fun h123 => ?_)
                      · skip
                        refine AHead.go rfl rfl rfl h123 (o_loadRd _ rfl Tryd.sizeOf80 Tryd.isAgg80 rfl rfl rfl) rfl ?_
                        refine AHead.go rfl rfl rfl h123 (o_move _ rfl rfl) rfl ?_
                        refine AHead.go rfl rfl rfl h123 (o_index _ _ Tryd.underlying80 Tryd.sizeOf54 rfl rfl (by omega) helv rfl rfl) rfl ?_
                        refine AHead.go rfl rfl rfl h123 (o_fieldRd _ rfl fa54_3 rfl) rfl ?_
                        refine AHead.go rfl rfl rfl h123 (o_loadRd _ rfl Tryd.sizeOf3 Tryd.isAgg3 rfl rfl rfl) rfl ?_
                        refine AHead.go rfl rfl rfl h123 (o_indexArrRd _ _ Tryd.underlying38 Tryd.sizeOf3 rfl rfl (by omega) (by omega) rfl rfl) rfl ?_
                        refine AHead.go rfl rfl rfl h123 (o_loadRd _ rfl Tryd.sizeOf3 Tryd.isAgg3 rfl rfl rfl) rfl ?_
                        refine AHead.go rfl rfl rfl h123 (o_bin _ _ rfl rfl (fun _ => rfl) rfl) rfl ?_
                        refine AHead.call (o_pickF _ _ _ rfl h123 rfl rfl) rfl ?_
                        refine AHead.nil ?_
                        refine AOps.nil ?_
                        refine AWP.cond _ rfl (fun h131 => ?_) (fun h131 => ?_)
                        · skip
                          exfalso
                          have hq := of_decide_eq_true h131
                          omega
                        · skip
                          refine AWP.skip ?_
                          refine AWP.seq ?_
                          refine AWP.region ?_
                          refine AOps.call (o_loadRd _ rfl Tryd.sizeOf80 Tryd.isAgg80 rfl rfl rfl) ?_
                          refine AOps.call (o_len _ Tryd.underlying80 rfl rfl) ?_
                          refine AOps.call (o_move _ rfl rfl) ?_
                          refine AOps.nil ?_
                          refine AWP.block ?_
                          refine AWP.loop (ι := Nat) (fun i => AS.mk' 302 [(2, .sl (ints wd)), (4, I g), (5, .rd (eS c)), (6, .rd [.sl (shts l)]), (8, .rd [I d0, I d1, I d2]), (11, .sl (ints x)), (66, .sl (ints x)), (67, I (ints x).length), (68, I k), (13, I k), (14, I v), (113, .sl (shts l)), (114, I (shts l).length), (115, I i)] [] [] []) (fun i => i ≤ l.length) (fun i => l.length - i) (0) (Weak.mk' rfl ⟨⟨.refl rfl, rfl⟩, ⟨⟨.refl rfl, rfl⟩, ⟨⟨.refl rfl, rfl⟩, ⟨⟨.refl rfl, rfl⟩, ⟨⟨.refl rfl, rfl⟩, ⟨⟨.refl rfl, rfl⟩, ⟨⟨.refl rfl, rfl⟩, ⟨⟨.refl rfl, rfl⟩, ⟨⟨.refl rfl, rfl⟩, ⟨⟨.refl rfl, rfl⟩, ⟨⟨.refl rfl, rfl⟩, ⟨⟨.refl rfl, rfl⟩, ⟨⟨.refl rfl, rfl⟩, ⟨⟨.refl rfl, rfl⟩, trivial⟩⟩⟩⟩⟩⟩⟩⟩⟩⟩⟩⟩⟩⟩ trivial trivial) (Nat.zero_le _) ?_
                          rintro j hj
                          try dsimp only at *
                          refine AWP.seq ?_
                          refine AWP.region ?_
                          refine AOps.call (o_bin _ _ rfl rfl (fun _ => rfl) rfl) ?_
                          refine AOps.nil ?_
                          refine AWP.seq ?_
                          refine AWP.cond _ rfl (fun h136 => ?_) (fun h136 => ?_)
                          · skip
                            have hlt : j < l.length := by have hq := of_decide_eq_true h136; rw [shts_len] at hq; omega
                            have hel := shts_get hlt
                            have hll := shts_len l
                            have hno := notOver (any_not hov hlt)
                            refine AWP.skip ?_
                            refine AWP.seq ?_
                            refine AWP.block ?_
                            refine AWP.seq ?_
                            refine AWP.region ?_
                            refine AOps.call (o_move _ rfl rfl) ?_
                            refine AOps.call (o_index _ _ Tryd.underlying80 Tryd.sizeOf54 rfl rfl (by omega) hel rfl rfl) ?_
                            refine AOps.call (o_loadRd _ rfl Tryd.sizeOf54 Tryd.isAgg54 rfl rfl rfl) ?_
                            refine AOps.call (o_alloc ze54 rfl rfl) ?_
                            refine AOps.call (o_assign _ rfl rfl) ?_
                            refine AOps.cons (o_store _ _ rfl rfl Tryd.sizeOf54 rfl rfl rfl rfl rfl) ?_
                            refine AOps.nil ?_
                            refine AWP.seq ?_
                            refine AWP.drawn 45 mixed (by kernel_rfl) ?_
                            refine AHead.call (o_fieldRef _ rfl fa54_0 rfl rfl) rfl ?_
                            refine AHead.call (o_loadRef _ rfl rfl Tryd.sizeOf3 Tryd.isAgg3 rfl rfl rfl) rfl ?_
                            refine AHead.call (o_loadRd _ rfl Tryd.sizeOf80 Tryd.isAgg80 rfl rfl rfl) rfl ?_
                            refine AHead.call (o_move _ rfl rfl) rfl ?_
                            refine AHead.call (o_index _ _ Tryd.underlying80 Tryd.sizeOf54 rfl rfl (by omega) helv rfl rfl) rfl ?_
                            refine AHead.call (o_fieldRd _ rfl fa54_0 rfl) rfl ?_
                            refine AHead.call (o_loadRd _ rfl Tryd.sizeOf3 Tryd.isAgg3 rfl rfl rfl) rfl ?_
                            refine AHead.call (o_bin _ _ rfl rfl (fun _ => rfl) rfl) rfl ?_
                            refine AHead.call (o_move _ rfl rfl) rfl ?_
                            refine AHead.split rfl rfl rfl (fun h147 => ?_) (fun h147 => ?_)
                            · skip
                              have q1 : l[j].no = l[v].no := by have hh := h147; simpa using hh
                              refine AHead.go rfl rfl rfl h147 (o_move _ rfl rfl) rfl ?_
                              refine AHead.go rfl rfl rfl h147 (o_move _ rfl rfl) rfl ?_
                              refine AHead.go rfl rfl rfl h147 (o_bin _ _ rfl rfl (fun _ => rfl) rfl) rfl ?_
                              refine AHead.call (o_pickT _ _ _ rfl h147 rfl rfl) rfl ?_
                              refine AHead.call (o_move _ rfl rfl) rfl ?_
                              refine AHead.split rfl rfl rfl (fun h149 => ?_) (fun h149 => ?_)
                              · skip
                                refine AHead.go rfl rfl rfl h149 (o_fieldRef _ rfl fa54_3 rfl rfl) rfl ?_
                                refine AHead.go rfl rfl rfl h149 (o_loadRef _ rfl rfl Tryd.sizeOf3 Tryd.isAgg3 rfl rfl rfl) rfl ?_
                                refine AHead.go rfl rfl rfl h149 (o_indexArrRd _ _ Tryd.underlying38 Tryd.sizeOf3 rfl rfl (by omega) (by omega) rfl rfl) rfl ?_
                                refine AHead.go rfl rfl rfl h149 (o_loadRd _ rfl Tryd.sizeOf3 Tryd.isAgg3 rfl rfl rfl) rfl ?_
                                refine AHead.go rfl rfl rfl h149 (o_bin _ _ rfl rfl (fun _ => rfl) rfl) rfl ?_
                                refine AHead.call (o_pickT _ _ _ rfl h149 rfl rfl) rfl ?_
                                refine AHead.call (o_move _ rfl rfl) rfl ?_
                                refine AHead.split rfl rfl rfl (fun h155 => ?_) (fun h155 => ?_)
                                · skip
                                  have q3 : l[j].known ≤ d0 := of_decide_eq_true h155
                                  refine AHead.go rfl rfl rfl h155 (o_fieldRef _ rfl fa54_3 rfl rfl) rfl ?_
                                  refine AHead.go rfl rfl rfl h155 (o_loadRef _ rfl rfl Tryd.sizeOf3 Tryd.isAgg3 rfl rfl rfl) rfl ?_
                                  refine AHead.go rfl rfl rfl h155 (o_loadRd _ rfl Tryd.sizeOf80 Tryd.isAgg80 rfl rfl rfl) rfl ?_
                                  refine AHead.go rfl rfl rfl h155 (o_move _ rfl rfl) rfl ?_
                                  refine AHead.go rfl rfl rfl h155 (o_index _ _ Tryd.underlying80 Tryd.sizeOf54 rfl rfl (by omega) helv rfl rfl) rfl ?_
                                  refine AHead.go rfl rfl rfl h155 (o_fieldRd _ rfl fa54_3 rfl) rfl ?_
                                  refine AHead.go rfl rfl rfl h155 (o_loadRd _ rfl Tryd.sizeOf3 Tryd.isAgg3 rfl rfl rfl) rfl ?_
                                  refine AHead.go rfl rfl rfl h155 (o_bin _ _ rfl rfl (fun _ => rfl) rfl) rfl ?_
                                  refine AHead.go rfl rfl rfl h155 (o_move _ rfl rfl) rfl ?_
                                  refine AHead.split rfl rfl rfl (fun h163 => ?_) (fun h163 => ?_)
                                  · skip
                                    refine AHead.go rfl rfl rfl h163 (o_fieldRef _ rfl fa54_3 rfl rfl) rfl ?_
                                    refine AHead.go rfl rfl rfl h163 (o_loadRef _ rfl rfl Tryd.sizeOf3 Tryd.isAgg3 rfl rfl rfl) rfl ?_
                                    refine AHead.go rfl rfl rfl h163 (o_loadRd _ rfl Tryd.sizeOf80 Tryd.isAgg80 rfl rfl rfl) rfl ?_
                                    refine AHead.go rfl rfl rfl h163 (o_move _ rfl rfl) rfl ?_
                                    refine AHead.go rfl rfl rfl h163 (o_index _ _ Tryd.underlying80 Tryd.sizeOf54 rfl rfl (by omega) helv rfl rfl) rfl ?_
                                    refine AHead.go rfl rfl rfl h163 (o_fieldRd _ rfl fa54_3 rfl) rfl ?_
                                    refine AHead.go rfl rfl rfl h163 (o_loadRd _ rfl Tryd.sizeOf3 Tryd.isAgg3 rfl rfl rfl) rfl ?_
                                    refine AHead.go rfl rfl rfl h163 (o_bin _ _ rfl rfl (fun _ => rfl) rfl) rfl ?_
                                    refine AHead.go rfl rfl rfl h163 (o_move _ rfl rfl) rfl ?_
                                    refine AHead.split rfl rfl rfl (fun h171 => ?_) (fun h171 => ?_)
                                    · skip
                                      have q5 : l[j].known = l[v].known := by have hh := h171; simpa using hh
                                      refine AHead.go rfl rfl rfl h171 (o_move _ rfl rfl) rfl ?_
                                      refine AHead.go rfl rfl rfl h171 (o_move _ rfl rfl) rfl ?_
                                      refine AHead.go rfl rfl rfl h171 (o_bin _ _ rfl rfl (fun _ => rfl) rfl) rfl ?_
                                      refine AHead.go rfl rfl rfl h163 (o_pickT _ _ _ rfl h171 rfl rfl) rfl ?_
                                      refine AHead.go rfl rfl rfl h155 (o_pickF _ _ _ rfl h163 rfl rfl) rfl ?_
                                      refine AHead.call (o_pickT _ _ _ rfl h155 rfl rfl) rfl ?_
                                      refine AHead.nil ?_
                                      refine AOps.nil ?_
                                      refine AWP.cond _ rfl (fun h173 => ?_) (fun h173 => ?_)
                                      · skip
                                        exfalso
                                        exact hno ⟨q1, q3, .inr ⟨q5, by have hq := of_decide_eq_true h173; omega⟩⟩
                                      · skip
                                        refine AWP.skip ?_
                                        refine AWP.region ?_
                                        refine AOps.call (o_add _ _ rfl rfl ⟨by (try dsimp only); omega, by (try dsimp only); omega⟩ rfl) ?_
                                        refine AOps.call (o_move _ rfl rfl) ?_
                                        refine AOps.nil ?_
                                        refine ⟨j + 1, ?_, (Weak.mk' rfl ⟨⟨.refl rfl, rfl⟩, ⟨⟨.refl rfl, rfl⟩, ⟨⟨.refl rfl, rfl⟩, ⟨⟨.refl rfl, rfl⟩, ⟨⟨.refl rfl, rfl⟩, ⟨⟨.refl rfl, rfl⟩, ⟨⟨.refl rfl, rfl⟩, ⟨⟨.refl rfl, rfl⟩, ⟨⟨.refl rfl, rfl⟩, ⟨⟨.refl rfl, rfl⟩, ⟨⟨.refl rfl, rfl⟩, ⟨⟨.refl rfl, rfl⟩, ⟨⟨.refl rfl, rfl⟩, ⟨⟨.refl rfl, rfl⟩, trivial⟩⟩⟩⟩⟩⟩⟩⟩⟩⟩⟩⟩⟩⟩ trivial trivial)⟩
                                        exact ⟨by omega, by omega⟩
                                    · skip
                                      refine AHead.pass rfl rfl rfl h171 rfl ?_
                                      refine AHead.pass rfl rfl rfl h171 rfl ?_
                                      refine AHead.pass rfl rfl rfl h171 rfl ?_
                                      refine AHead.go rfl rfl rfl h163 (o_pickF _ _ _ rfl h171 rfl rfl) rfl ?_
                                      refine AHead.go rfl rfl rfl h155 (o_pickF _ _ _ rfl h163 rfl rfl) rfl ?_
                                      refine AHead.call (o_pickT _ _ _ rfl h155 rfl rfl) rfl ?_
                                      refine AHead.nil ?_
                                      refine AOps.nil ?_
                                      refine AWP.condF rfl ?_
                                      refine AWP.skip ?_
                                      refine AWP.region ?_
                                      refine AOps.call (o_add _ _ rfl rfl ⟨by (try dsimp only); omega, by (try dsimp only); omega⟩ rfl) ?_
                                      refine AOps.call (o_move _ rfl rfl) ?_
                                      refine AOps.nil ?_
                                      refine ⟨j + 1, ?_, (Weak.mk' rfl ⟨⟨.refl rfl, rfl⟩, ⟨⟨.refl rfl, rfl⟩, ⟨⟨.refl rfl, rfl⟩, ⟨⟨.refl rfl, rfl⟩, ⟨⟨.refl rfl, rfl⟩, ⟨⟨.refl rfl, rfl⟩, ⟨⟨.refl rfl, rfl⟩, ⟨⟨.refl rfl, rfl⟩, ⟨⟨.refl rfl, rfl⟩, ⟨⟨.refl rfl, rfl⟩, ⟨⟨.refl rfl, rfl⟩, ⟨⟨.refl rfl, rfl⟩, ⟨⟨.refl rfl, rfl⟩, ⟨⟨.refl rfl, rfl⟩, trivial⟩⟩⟩⟩⟩⟩⟩⟩⟩⟩⟩⟩⟩⟩ trivial trivial)⟩
                                      exact ⟨by omega, by omega⟩
                                  · skip
                                    have q4 : l[j].known > l[v].known := of_decide_eq_true h163
                                    refine AHead.pass rfl rfl rfl h163 rfl ?_
                                    refine AHead.pass rfl rfl rfl h163 rfl ?_
                                    refine AHead.pass rfl rfl rfl h163 rfl ?_
                                    refine AHead.pass rfl rfl rfl h163 rfl ?_
                                    refine AHead.pass rfl rfl rfl h163 rfl ?_
                                    refine AHead.pass rfl rfl rfl h163 rfl ?_
                                    refine AHead.pass rfl rfl rfl h163 rfl ?_
                                    refine AHead.pass rfl rfl rfl h163 rfl ?_
                                    refine AHead.pass rfl rfl rfl h163 rfl ?_
                                    refine AHead.passU rfl rfl rfl rfl ?_
                                    refine AHead.passU rfl rfl rfl rfl ?_
                                    refine AHead.passU rfl rfl rfl rfl ?_
                                    refine AHead.pass rfl rfl rfl h163 rfl ?_
                                    refine AHead.go rfl rfl rfl h155 (o_pickT _ _ _ rfl h163 rfl rfl) rfl ?_
                                    refine AHead.call (o_pickT _ _ _ rfl h155 rfl rfl) rfl ?_
                                    refine AHead.nil ?_
                                    refine AOps.nil ?_
                                    refine AWP.condT rfl ?_
                                    exfalso
                                    exact hno ⟨q1, q3, .inl q4⟩
                                · skip
                                  refine AHead.pass rfl rfl rfl h155 rfl ?_
                                  refine AHead.pass rfl rfl rfl h155 rfl ?_
                                  refine AHead.pass rfl rfl rfl h155 rfl ?_
                                  refine AHead.pass rfl rfl rfl h155 rfl ?_
                                  refine AHead.pass rfl rfl rfl h155 rfl ?_
                                  refine AHead.pass rfl rfl rfl h155 rfl ?_
                                  refine AHead.pass rfl rfl rfl h155 rfl ?_
                                  refine AHead.pass rfl rfl rfl h155 rfl ?_
                                  refine AHead.pass rfl rfl rfl h155 rfl ?_
                                  refine AHead.passU rfl rfl rfl rfl ?_
                                  refine AHead.passU rfl rfl rfl rfl ?_
                                  refine AHead.passU rfl rfl rfl rfl ?_
                                  refine AHead.passU rfl rfl rfl rfl ?_
                                  refine AHead.passU rfl rfl rfl rfl ?_
                                  refine AHead.passU rfl rfl rfl rfl ?_
                                  refine AHead.passU rfl rfl rfl rfl ?_
                                  refine AHead.passU rfl rfl rfl rfl ?_
                                  refine AHead.passU rfl rfl rfl rfl ?_
                                  refine AHead.passU rfl rfl rfl rfl ?_
                                  refine AHead.passU rfl rfl rfl rfl ?_
                                  refine AHead.passU rfl rfl rfl rfl ?_
                                  refine AHead.passU rfl rfl rfl rfl ?_
                                  refine AHead.pass rfl rfl rfl h155 rfl ?_
                                  refine AHead.call (o_pickF _ _ _ rfl h155 rfl rfl) rfl ?_
                                  refine AHead.nil ?_
                                  refine AOps.nil ?_
                                  refine AWP.condF rfl ?_
                                  refine AWP.skip ?_
                                  refine AWP.region ?_
                                  refine AOps.call (o_add _ _ rfl rfl ⟨by (try dsimp only); omega, by (try dsimp only); omega⟩ rfl) ?_
                                  refine AOps.call (o_move _ rfl rfl) ?_
                                  refine AOps.nil ?_
                                  refine ⟨j + 1, ?_, (Weak.mk' rfl ⟨⟨.refl rfl, rfl⟩, ⟨⟨.refl rfl, rfl⟩, ⟨⟨.refl rfl, rfl⟩, ⟨⟨.refl rfl, rfl⟩, ⟨⟨.refl rfl, rfl⟩, ⟨⟨.refl rfl, rfl⟩, ⟨⟨.refl rfl, rfl⟩, ⟨⟨.refl rfl, rfl⟩, ⟨⟨.refl rfl, rfl⟩, ⟨⟨.refl rfl, rfl⟩, ⟨⟨.refl rfl, rfl⟩, ⟨⟨.refl rfl, rfl⟩, ⟨⟨.refl rfl, rfl⟩, ⟨⟨.refl rfl, rfl⟩, trivial⟩⟩⟩⟩⟩⟩⟩⟩⟩⟩⟩⟩⟩⟩ trivial trivial)⟩
                                  exact ⟨by omega, by omega⟩
                              · skip
                                refine AHead.pass rfl rfl rfl h149 rfl ?_
                                refine AHead.pass rfl rfl rfl h149 rfl ?_
                                refine AHead.pass rfl rfl rfl h149 rfl ?_
                                refine AHead.pass rfl rfl rfl h149 rfl ?_
                                refine AHead.pass rfl rfl rfl h149 rfl ?_
                                refine AHead.call (o_pickF _ _ _ rfl h149 rfl rfl) rfl ?_
                                refine AHead.call (o_move _ rfl rfl) rfl ?_
                                refine AHead.pass rfl rfl rfl rfl rfl ?_
                                refine AHead.pass rfl rfl rfl rfl rfl ?_
                                refine AHead.pass rfl rfl rfl rfl rfl ?_
                                refine AHead.pass rfl rfl rfl rfl rfl ?_
                                refine AHead.pass rfl rfl rfl rfl rfl ?_
                                refine AHead.pass rfl rfl rfl rfl rfl ?_
                                refine AHead.pass rfl rfl rfl rfl rfl ?_
                                refine AHead.pass rfl rfl rfl rfl rfl ?_
                                refine AHead.pass rfl rfl rfl rfl rfl ?_
                                refine AHead.passU rfl rfl rfl rfl ?_
                                refine AHead.passU rfl rfl rfl rfl ?_
                                refine AHead.passU rfl rfl rfl rfl ?_
                                refine AHead.passU rfl rfl rfl rfl ?_
                                refine AHead.passU rfl rfl rfl rfl ?_
                                refine AHead.passU rfl rfl rfl rfl ?_
                                refine AHead.passU rfl rfl rfl rfl ?_
                                refine AHead.passU rfl rfl rfl rfl ?_
                                refine AHead.passU rfl rfl rfl rfl ?_
                                refine AHead.passU rfl rfl rfl rfl ?_
                                refine AHead.passU rfl rfl rfl rfl ?_
                                refine AHead.passU rfl rfl rfl rfl ?_
                                refine AHead.passU rfl rfl rfl rfl ?_
                                refine AHead.pass rfl rfl rfl rfl rfl ?_
                                refine AHead.call (o_pickF _ _ _ rfl rfl rfl rfl) rfl ?_
                                refine AHead.nil ?_
                                refine AOps.nil ?_
                                refine AWP.condF rfl ?_
                                refine AWP.skip ?_
                                refine AWP.region ?_
                                refine AOps.call (o_add _ _ rfl rfl ⟨by (try dsimp only); omega, by (try dsimp only); omega⟩ rfl) ?_
                                refine AOps.call (o_move _ rfl rfl) ?_
                                refine AOps.nil ?_
                                refine ⟨j + 1, ?_, (Weak.mk' rfl ⟨⟨.refl rfl, rfl⟩, ⟨⟨.refl rfl, rfl⟩, ⟨⟨.refl rfl, rfl⟩, ⟨⟨.refl rfl, rfl⟩, ⟨⟨.refl rfl, rfl⟩, ⟨⟨.refl rfl, rfl⟩, ⟨⟨.refl rfl, rfl⟩, ⟨⟨.refl rfl, rfl⟩, ⟨⟨.refl rfl, rfl⟩, ⟨⟨.refl rfl, rfl⟩, ⟨⟨.refl rfl, rfl⟩, ⟨⟨.refl rfl, rfl⟩, ⟨⟨.refl rfl, rfl⟩, ⟨⟨.refl rfl, rfl⟩, trivial⟩⟩⟩⟩⟩⟩⟩⟩⟩⟩⟩⟩⟩⟩ trivial trivial)⟩
                                exact ⟨by omega, by omega⟩
                            · skip
                              refine AHead.pass rfl rfl rfl h147 rfl ?_
                              refine AHead.pass rfl rfl rfl h147 rfl ?_
                              refine AHead.pass rfl rfl rfl h147 rfl ?_
                              refine AHead.call (o_pickF _ _ _ rfl h147 rfl rfl) rfl ?_
                              refine AHead.call (o_move _ rfl rfl) rfl ?_
                              refine AHead.pass rfl rfl rfl rfl rfl ?_
                              refine AHead.pass rfl rfl rfl rfl rfl ?_
                              refine AHead.pass rfl rfl rfl rfl rfl ?_
                              refine AHead.pass rfl rfl rfl rfl rfl ?_
                              refine AHead.pass rfl rfl rfl rfl rfl ?_
                              refine AHead.call (o_pickF _ _ _ rfl rfl rfl rfl) rfl ?_
                              refine AHead.call (o_move _ rfl rfl) rfl ?_
                              refine AHead.pass rfl rfl rfl rfl rfl ?_
                              refine AHead.pass rfl rfl rfl rfl rfl ?_
                              refine AHead.pass rfl rfl rfl rfl rfl ?_
                              refine AHead.pass rfl rfl rfl rfl rfl ?_
                              refine AHead.pass rfl rfl rfl rfl rfl ?_
                              refine AHead.pass rfl rfl rfl rfl rfl ?_
                              refine AHead.pass rfl rfl rfl rfl rfl ?_
                              refine AHead.pass rfl rfl rfl rfl rfl ?_
                              refine AHead.pass rfl rfl rfl rfl rfl ?_
                              refine AHead.passU rfl rfl rfl rfl ?_
                              refine AHead.passU rfl rfl rfl rfl ?_
                              refine AHead.passU rfl rfl rfl rfl ?_
                              refine AHead.passU rfl rfl rfl rfl ?_
                              refine AHead.passU rfl rfl rfl rfl ?_
                              refine AHead.passU rfl rfl rfl rfl ?_
                              refine AHead.passU rfl rfl rfl rfl ?_
                              refine AHead.passU rfl rfl rfl rfl ?_
                              refine AHead.passU rfl rfl rfl rfl ?_
                              refine AHead.passU rfl rfl rfl rfl ?_
                              refine AHead.passU rfl rfl rfl rfl ?_
                              refine AHead.passU rfl rfl rfl rfl ?_
                              refine AHead.passU rfl rfl rfl rfl ?_
                              refine AHead.pass rfl rfl rfl rfl rfl ?_
                              refine AHead.call (o_pickF _ _ _ rfl rfl rfl rfl) rfl ?_
                              refine AHead.nil ?_
                              refine AOps.nil ?_
                              refine AWP.condF rfl ?_
                              refine AWP.skip ?_
                              refine AWP.region ?_
                              refine AOps.call (o_add _ _ rfl rfl ⟨by (try dsimp only); omega, by (try dsimp only); omega⟩ rfl) ?_
                              refine AOps.call (o_move _ rfl rfl) ?_
                              refine AOps.nil ?_
                              refine ⟨j + 1, ?_, (Weak.mk' rfl ⟨⟨.refl rfl, rfl⟩, ⟨⟨.refl rfl, rfl⟩, ⟨⟨.refl rfl, rfl⟩, ⟨⟨.refl rfl, rfl⟩, ⟨⟨.refl rfl, rfl⟩, ⟨⟨.refl rfl, rfl⟩, ⟨⟨.refl rfl, rfl⟩, ⟨⟨.refl rfl, rfl⟩, ⟨⟨.refl rfl, rfl⟩, ⟨⟨.refl rfl, rfl⟩, ⟨⟨.refl rfl, rfl⟩, ⟨⟨.refl rfl, rfl⟩, ⟨⟨.refl rfl, rfl⟩, ⟨⟨.refl rfl, rfl⟩, trivial⟩⟩⟩⟩⟩⟩⟩⟩⟩⟩⟩⟩⟩⟩ trivial trivial)⟩
                              exact ⟨by omega, by omega⟩
                          · skip
                            refine AWP.exit ?_
                            refine AWP.region ?_
                            refine AOps.call (o_add _ _ rfl rfl ⟨by (try dsimp only); omega, by (try dsimp only); omega⟩ rfl) ?_
                            refine AOps.call (o_move _ rfl rfl) ?_
                            refine AOps.nil ?_
                            refine ⟨k + 1, ?_, (Weak.mk' rfl ⟨⟨.refl rfl, rfl⟩, ⟨⟨.refl rfl, rfl⟩, ⟨⟨.refl rfl, rfl⟩, ⟨⟨.refl rfl, rfl⟩, ⟨⟨.refl rfl, rfl⟩, ⟨⟨.refl rfl, rfl⟩, ⟨⟨.refl rfl, rfl⟩, ⟨⟨.refl rfl, rfl⟩, ⟨⟨.refl rfl, rfl⟩, trivial⟩⟩⟩⟩⟩⟩⟩⟩⟩ trivial trivial)⟩
                            exact ⟨by omega, by omega⟩
                      · skip
                        exfalso
                        have hh := h123
                        rw [hcv] at hh
                        cases hh
                  · skip
                    exfalso
                    have hq := of_decide_eq_true h46
                    omega
                · skip
                  exfalso
                  have hq := of_decide_eq_true h42
                  omega
              · skip
                refine AWP.exit ?_
                refine AWP.seq ?_
                refine AWP.seq ?_
                refine AWP.region ?_
                refine AOps.call (o_loadRd _ rfl Tryd.sizeOf80 Tryd.isAgg80 rfl rfl rfl) ?_
                refine AOps.call (o_len _ Tryd.underlying80 rfl rfl) ?_
                refine AOps.call (o_move _ rfl rfl) ?_
                refine AOps.nil ?_
                refine AWP.block ?_
                refine AWP.loop (ι := Nat) (fun i => AS.mk' 302 [(2, .sl (ints wd)), (4, I g), (5, .rd (eS c)), (6, .rd [.sl (shts l)]), (8, .rd [I d0, I d1, I d2]), (11, .sl (ints x)), (167, .sl (shts l)), (168, I (shts l).length), (169, I i)] [] [] []) (fun i => i ≤ l.length) (fun i => l.length - i) (0) (Weak.mk' rfl ⟨⟨.refl rfl, rfl⟩, ⟨⟨.refl rfl, rfl⟩, ⟨⟨.refl rfl, rfl⟩, ⟨⟨.refl rfl, rfl⟩, ⟨⟨.refl rfl, rfl⟩, ⟨⟨.refl rfl, rfl⟩, ⟨⟨.refl rfl, rfl⟩, ⟨⟨.refl rfl, rfl⟩, ⟨⟨.refl rfl, rfl⟩, trivial⟩⟩⟩⟩⟩⟩⟩⟩⟩ trivial trivial) (Nat.zero_le _) ?_
                rintro j hj
                try dsimp only at *
                refine AWP.seq ?_
                refine AWP.region ?_
                refine AOps.call (o_bin _ _ rfl rfl (fun _ => rfl) rfl) ?_
                refine AOps.nil ?_
                refine AWP.seq ?_
                refine AWP.cond _ rfl (fun h184 => ?_) (fun h184 => ?_)
                · skip
                  have hlt : j < l.length := by have hq := of_decide_eq_true h184; rw [shts_len] at hq; omega
                  have hel := shts_get hlt
                  have hll := shts_len l
                  have hst := stands_iff l wd d0 l[j]
                  rw [← hx] at hst
                  change x.any (hasNo l l[j]) = (!wd.contains l[j].no && l.any (actB l[j] d0)) at hst
                  refine AWP.skip ?_
                  refine AWP.seq ?_
                  refine AWP.block ?_
                  refine AWP.seq ?_
                  refine AWP.region ?_
                  refine AOps.call (o_index _ _ Tryd.underlying80 Tryd.sizeOf54 rfl rfl (by omega) (by assumption) rfl rfl) ?_
                  refine AOps.call (o_loadRd _ rfl Tryd.sizeOf54 Tryd.isAgg54 rfl rfl rfl) ?_
                  refine AOps.call (o_alloc ze54 rfl rfl) ?_
                  refine AOps.cons (o_store _ _ rfl rfl Tryd.sizeOf54 rfl rfl rfl rfl rfl) ?_
                  refine AOps.nil ?_
                  refine AWP.seq ?_
                  refine AWP.region ?_
                  refine AOps.weak (Weak.frzv (id := (18, 0)) (t := 18) rfl rfl rfl) ?_
                  refine AOps.call (o_move _ rfl rfl) ?_
                  refine AOps.call (o_makeClo rfl rfl) ?_
                  refine AOps.call (o_call (Contains57_s l l[j] x hxb (by omega)) Tryd.call56 rfl rfl) ?_
                  refine AOps.call (o_assign _ rfl rfl) ?_
                  refine AOps.nil ?_
                  refine AWP.seq ?_
                  refine AWP.region ?_
                  refine AOps.call (o_move _ rfl rfl) ?_
                  refine AOps.call (o_move _ rfl rfl) ?_
                  refine AOps.call (o_fieldRd _ rfl fa54_0 rfl) ?_
                  refine AOps.call (o_loadRd _ rfl Tryd.sizeOf3 Tryd.isAgg3 rfl rfl rfl) ?_
                  refine AOps.call (o_call (Contains_s wd l[j].no (by omega)) Tryd.call39 rfl rfl) ?_
                  refine AOps.call (o_un _ rfl (fun _ => rfl) rfl) ?_
                  refine AOps.call (o_move _ rfl rfl) ?_
                  refine AOps.split rfl rfl rfl (fun h195 => ?_) (fun h195 => ?_)
                  · skip
                    refine AOps.go rfl rfl rfl h195 (o_loadRd _ rfl Tryd.sizeOf80 Tryd.isAgg80 rfl rfl rfl) ?_
                    refine AOps.go rfl rfl rfl h195 (o_makeClo rfl rfl) ?_
                    refine AOps.go rfl rfl rfl h195 (o_call (Contains59_s l[j] d0 d1 d2 l (by omega)) Tryd.call58 rfl rfl) ?_
                    refine AOps.call (o_pickT _ _ _ rfl h195 rfl rfl) ?_
                    refine AOps.call (o_bin _ _ rfl rfl (fun _ => rfl) rfl) ?_
                    refine AOps.nil ?_
                    refine AWP.cond _ rfl (fun h200 => ?_) (fun h200 => ?_)
                    · skip
                      exfalso
                      have hh := h200
                      rw [hst] at hh
                      first
                      | (simp at *; done)
                      | (simp_all; done)
                    · skip
                      refine AWP.skip ?_
                      refine AWP.region ?_
                      refine AOps.call (o_add _ _ rfl rfl ⟨by (try dsimp only); omega, by (try dsimp only); omega⟩ rfl) ?_
                      refine AOps.call (o_move _ rfl rfl) ?_
                      refine AOps.nil ?_
                      refine ⟨j + 1, ?_, (Weak.mk' rfl ⟨⟨.refl rfl, rfl⟩, ⟨⟨.refl rfl, rfl⟩, ⟨⟨.refl rfl, rfl⟩, ⟨⟨.refl rfl, rfl⟩, ⟨⟨.refl rfl, rfl⟩, ⟨⟨.refl rfl, rfl⟩, ⟨⟨.refl rfl, rfl⟩, ⟨⟨.refl rfl, rfl⟩, ⟨⟨.refl rfl, rfl⟩, trivial⟩⟩⟩⟩⟩⟩⟩⟩⟩ trivial trivial)⟩
                      exact ⟨by omega, by omega⟩
                  · skip
                    refine AOps.pass rfl rfl rfl h195 rfl ?_
                    refine AOps.pass rfl rfl rfl h195 rfl ?_
                    refine AOps.pass rfl rfl rfl h195 rfl ?_
                    refine AOps.call (o_pickF _ _ _ rfl h195 rfl rfl) ?_
                    refine AOps.call (o_bin _ _ rfl rfl (fun _ => rfl) rfl) ?_
                    refine AOps.nil ?_
                    refine AWP.cond _ rfl (fun h203 => ?_) (fun h203 => ?_)
                    · skip
                      exfalso
                      have hh := h203
                      rw [hst] at hh
                      first
                      | (simp at *; done)
                      | (simp_all; done)
                    · skip
                      refine AWP.skip ?_
                      refine AWP.region ?_
                      refine AOps.call (o_add _ _ rfl rfl ⟨by (try dsimp only); omega, by (try dsimp only); omega⟩ rfl) ?_
                      refine AOps.call (o_move _ rfl rfl) ?_
                      refine AOps.nil ?_
                      refine ⟨j + 1, ?_, (Weak.mk' rfl ⟨⟨.refl rfl, rfl⟩, ⟨⟨.refl rfl, rfl⟩, ⟨⟨.refl rfl, rfl⟩, ⟨⟨.refl rfl, rfl⟩, ⟨⟨.refl rfl, rfl⟩, ⟨⟨.refl rfl, rfl⟩, ⟨⟨.refl rfl, rfl⟩, ⟨⟨.refl rfl, rfl⟩, ⟨⟨.refl rfl, rfl⟩, trivial⟩⟩⟩⟩⟩⟩⟩⟩⟩ trivial trivial)⟩
                      exact ⟨by omega, by omega⟩
                · skip
                  refine AWP.exit ?_
                  refine AWP.seq ?_
                  refine AWP.seq ?_
                  refine AWP.region ?_
                  refine AOps.call (o_move _ rfl rfl) ?_
                  refine AOps.call (o_bin _ _ rfl rfl (fun _ => rfl) rfl) ?_
                  refine AOps.call (o_move _ rfl rfl) ?_
                  refine AOps.split rfl rfl rfl (fun h207 => ?_) (fun h207 => ?_)
                  · skip
                    exfalso
                    have hq := of_decide_eq_true h207
                    omega
                  · skip
                    refine AOps.pass rfl rfl rfl h207 rfl ?_
                    refine AOps.pass rfl rfl rfl h207 rfl ?_
                    refine AOps.pass rfl rfl rfl h207 rfl ?_
                    refine AOps.pass rfl rfl rfl h207 rfl ?_
                    refine AOps.call (o_pickF _ _ _ rfl h207 rfl rfl) ?_
                    refine AOps.call (o_move _ rfl rfl) ?_
                    refine AOps.pass rfl rfl rfl rfl rfl ?_
                    refine AOps.pass rfl rfl rfl rfl rfl ?_
                    refine AOps.pass rfl rfl rfl rfl rfl ?_
                    refine AOps.pass rfl rfl rfl rfl rfl ?_
                    refine AOps.call (o_pickF _ _ _ rfl rfl rfl rfl) ?_
                    refine AOps.nil ?_
                    refine AWP.condF rfl ?_
                    refine AWP.skip ?_
                    refine AWP.seq ?_
                    refine AWP.region ?_
                    refine AOps.call (o_loadRd _ rfl Tryd.sizeOf24 Tryd.isAgg24 rfl rfl rfl) ?_
                    refine AOps.call (o_loadRd _ rfl Tryd.sizeOf80 Tryd.isAgg80 rfl rfl rfl) ?_
                    refine AOps.call (o_indexArrRd _ _ Tryd.underlying38 Tryd.sizeOf3 rfl rfl (by omega) (by omega) rfl rfl) ?_
                    refine AOps.call (o_loadRd _ rfl Tryd.sizeOf3 Tryd.isAgg3 rfl rfl rfl) ?_
                    refine AOps.call (o_indexArrRd _ _ Tryd.underlying38 Tryd.sizeOf3 rfl rfl (by omega) (by omega) rfl rfl) ?_
                    refine AOps.call (o_loadRd _ rfl Tryd.sizeOf3 Tryd.isAgg3 rfl rfl rfl) ?_
                    refine AOps.call (o_call (hC) Tryd.call62 rfl rfl) ?_
                    refine AOps.call (o_move _ rfl rfl) ?_
                    refine AOps.call (o_extract _ rfl rfl rfl rfl) ?_
                    refine AOps.call (o_extract _ rfl rfl rfl rfl) ?_
                    refine AOps.call (o_assign _ rfl rfl) ?_
                    refine AOps.call (o_assign _ rfl rfl) ?_
                    refine AOps.nil ?_
                    refine AWP.seq ?_
                    refine AWP.seq ?_
                    refine AWP.region ?_
                    refine AOps.call (o_move _ rfl rfl) ?_
                    refine AOps.call (o_bin _ _ rfl rfl (fun _ => rfl) rfl) ?_
                    refine AOps.nil ?_
                    refine AWP.cond _ rfl (fun h218 => ?_) (fun h218 => ?_)
                    · skip
                      have hq : ¬ f = 0 := by
                        have hh := h218
                        simpa using hh
                      obtain rfl := hz0 hq
                      refine AWP.seq ?_
                      refine AWP.region ?_
                      refine AOps.call (o_move _ rfl rfl) ?_
                      refine AOps.call (o_len _ Tryd.underlying45 rfl rfl) ?_
                      refine AOps.call (o_bin _ _ rfl rfl (fun _ => rfl) rfl) ?_
                      refine AOps.call (o_assign _ rfl rfl) ?_
                      refine AOps.nil ?_
                      refine AWP.ret ?_
                      first
                      | exact postQ.ret1 Tryd.results11 rfl rfl
                      | (exfalso; simp at *; done)
                      | (exfalso; simp_all; done)
                      | (refine postQ.ret1 Tryd.results11 rfl ?_; simp [AV.close, B]; done)
                    · skip
                      have hq : f = 0 := by
                        have hh := h218
                        simpa using hh
                      have hz := hz1 hq
                      have hzl : z.length ≤ 40 := by rw [hz]; exact Nat.le_trans (pickL_len _ _) hl40
                      refine AWP.skip ?_
                      refine AWP.seq ?_
                      refine AWP.seq ?_
                      refine AWP.region ?_
                      refine AOps.call (o_loadRd _ rfl Tryd.sizeOf80 Tryd.isAgg80 rfl rfl rfl) ?_
                      refine AOps.call (o_len _ Tryd.underlying80 rfl rfl) ?_
                      refine AOps.call (o_move _ rfl rfl) ?_
                      refine AOps.nil ?_
                      refine AWP.block ?_
                      refine AWP.loop (ι := Nat) (fun i => AS.mk' 302 [(4, I g), (5, .rd (eS c)), (6, .rd [.sl (shts l)]), (8, .rd [I d0, I d1, I d2]), (24, .sl (ints z)), (259, .sl (shts l)), (260, I (shts l).length), (261, I i)] [] [] []) (fun i => i ≤ l.length) (fun i => l.length - i) (0) (Weak.mk' rfl ⟨⟨.refl rfl, rfl⟩, ⟨⟨.refl rfl, rfl⟩, ⟨⟨.refl rfl, rfl⟩, ⟨⟨.refl rfl, rfl⟩, ⟨⟨.refl rfl, rfl⟩, ⟨⟨.refl rfl, rfl⟩, ⟨⟨.refl rfl, rfl⟩, ⟨⟨.refl rfl, rfl⟩, trivial⟩⟩⟩⟩⟩⟩⟩⟩ trivial trivial) (Nat.zero_le _) ?_
                      rintro j hj
                      try dsimp only at *
                      refine AWP.seq ?_
                      refine AWP.region ?_
                      refine AOps.call (o_bin _ _ rfl rfl (fun _ => rfl) rfl) ?_
                      refine AOps.nil ?_
                      refine AWP.seq ?_
                      refine AWP.cond _ rfl (fun h225 => ?_) (fun h225 => ?_)
                      · skip
                        have hlt : j < l.length := by have hq := of_decide_eq_true h225; rw [shts_len] at hq; omega
                        have hel := shts_get hlt
                        have hll := shts_len l
                        have hcz : z.contains (j : Int) = (decide (l[j].scale = c.no) && difB c l[j] d1 d2) := by rw [hz]; unfold corL; rw [pickL_contains hlt, okC_at hlt]
                        refine AWP.skip ?_
                        refine AWP.seq ?_
                        refine AWP.block ?_
                        refine AWP.seq ?_
                        refine AWP.region ?_
                        refine AOps.call (o_move _ rfl rfl) ?_
                        refine AOps.call (o_index _ _ Tryd.underlying80 Tryd.sizeOf54 rfl rfl (by omega) (by assumption) rfl rfl) ?_
                        refine AOps.call (o_loadRd _ rfl Tryd.sizeOf54 Tryd.isAgg54 rfl rfl rfl) ?_
                        refine AOps.call (o_alloc ze54 rfl rfl) ?_
                        refine AOps.call (o_assign _ rfl rfl) ?_
                        refine AOps.cons (o_store _ _ rfl rfl Tryd.sizeOf54 rfl rfl rfl rfl rfl) ?_
                        refine AOps.nil ?_
                        refine AWP.seq ?_
                        refine AWP.region ?_
                        refine AOps.call (o_loadRd _ rfl Tryd.sizeOf24 Tryd.isAgg24 rfl rfl rfl) ?_
                        refine AOps.call (o_loadRef _ rfl rfl Tryd.sizeOf54 Tryd.isAgg54 rfl rfl rfl) ?_
                        refine AOps.call (o_indexArrRd _ _ Tryd.underlying38 Tryd.sizeOf3 rfl rfl (by omega) (by omega) rfl rfl) ?_
                        refine AOps.call (o_loadRd _ rfl Tryd.sizeOf3 Tryd.isAgg3 rfl rfl rfl) ?_
                        refine AOps.call (o_call (Course_s c l[j] d1) Tryd.call51 rfl rfl) ?_
                        refine AOps.call (o_move _ rfl rfl) ?_
                        refine AOps.call (o_extract _ rfl rfl rfl rfl) ?_
                        refine AOps.call (o_extract _ rfl rfl rfl rfl) ?_
                        refine AOps.call (o_alloc ze40 rfl rfl) ?_
                        refine AOps.cons (o_store _ _ rfl rfl Tryd.sizeOf40 rfl rfl rfl rfl rfl) ?_
                        refine AOps.call (o_assign _ rfl rfl) ?_
                        refine AOps.nil ?_
                        refine AWP.seq ?_
                        refine AWP.region ?_
                        refine AOps.call (o_loadRd _ rfl Tryd.sizeOf24 Tryd.isAgg24 rfl rfl rfl) ?_
                        refine AOps.call (o_loadRef _ rfl rfl Tryd.sizeOf54 Tryd.isAgg54 rfl rfl rfl) ?_
                        refine AOps.call (o_indexArrRd _ _ Tryd.underlying38 Tryd.sizeOf3 rfl rfl (by omega) (by omega) rfl rfl) ?_
                        refine AOps.call (o_loadRd _ rfl Tryd.sizeOf3 Tryd.isAgg3 rfl rfl rfl) ?_
                        refine AOps.call (o_call (Course_s c l[j] d2) Tryd.call51 rfl rfl) ?_
                        refine AOps.call (o_move _ rfl rfl) ?_
                        refine AOps.call (o_extract _ rfl rfl rfl rfl) ?_
                        refine AOps.call (o_extract _ rfl rfl rfl rfl) ?_
                        refine AOps.call (o_alloc ze40 rfl rfl) ?_
                        refine AOps.cons (o_store _ _ rfl rfl Tryd.sizeOf40 rfl rfl rfl rfl rfl) ?_
                        refine AOps.call (o_assign _ rfl rfl) ?_
                        refine AOps.nil ?_
                        refine AWP.seq ?_
                        refine AWP.drawn 19 mixed (by kernel_rfl) ?_
                        refine AHead.call (o_move _ rfl rfl) rfl ?_
                        refine AHead.call (o_move _ rfl rfl) rfl ?_
                        refine AHead.call (o_call (Contains_s z (j : Int) (by omega)) Tryd.call39 rfl rfl) rfl ?_
                        refine AHead.call (o_fieldRef _ rfl fa54_4 rfl rfl) rfl ?_
                        refine AHead.call (o_loadRef _ rfl rfl Tryd.sizeOf3 Tryd.isAgg3 rfl rfl rfl) rfl ?_
                        refine AHead.call (o_fieldRd _ rfl fa24_0 rfl) rfl ?_
                        refine AHead.call (o_loadRd _ rfl Tryd.sizeOf3 Tryd.isAgg3 rfl rfl rfl) rfl ?_
                        refine AHead.call (o_bin _ _ rfl rfl (fun _ => rfl) rfl) rfl ?_
                        refine AHead.call (o_move _ rfl rfl) rfl ?_
                        refine AHead.split rfl rfl rfl (fun h251 => ?_) (fun h251 => ?_)
                        · skip
                          have q1 : l[j].scale = c.no := by have hh := h251; simpa using hh
                          have hsp : (decide (couR c l[j] d1 = couR c l[j] d2)) = ((couR c l[j] d1).lo == (couR c l[j] d2).lo && (couR c l[j] d1).hi == (couR c l[j] d2).hi) := spn_dec _ _
                          refine AHead.go rfl rfl rfl h251 (o_loadRef _ rfl rfl Tryd.sizeOf40 Tryd.isAgg40 rfl rfl rfl) rfl ?_
                          refine AHead.go rfl rfl rfl h251 (o_loadRef _ rfl rfl Tryd.sizeOf40 Tryd.isAgg40 rfl rfl rfl) rfl ?_
                          refine AHead.go rfl rfl rfl h251 (o_bin _ _ rfl rfl (spanNe _ _ _ _ _ _) rfl) rfl ?_
                          refine AHead.go rfl rfl rfl h251 (o_move _ rfl rfl) rfl ?_
                          refine AHead.split rfl rfl rfl (fun h255 => ?_) (fun h255 => ?_)
                          · skip
                            have q2 : ((couR c l[j] d1).lo == (couR c l[j] d2).lo && (couR c l[j] d1).hi == (couR c l[j] d2).hi) = true := by simpa only [Bool.not_eq_false'] using h255
                            have hd : difB c l[j] d1 d2 = !decide (watE c l[j] 0 d1 = watE c l[j] 0 d2) := by unfold difB; rw [Bool.decide_and, hsp, q2, Bool.true_and]
                            rw [decide_eq_true q1, Bool.true_and, hd] at hcz
                            refine AHead.go rfl rfl rfl h255 (o_move _ rfl rfl) rfl ?_
                            refine AHead.go rfl rfl rfl h255 (o_move _ rfl rfl) rfl ?_
                            refine AHead.go rfl rfl rfl h255 (o_bin _ _ rfl rfl (fun _ => rfl) rfl) rfl ?_
                            refine AHead.go rfl rfl rfl h251 (o_pickF _ _ _ rfl h255 rfl rfl) rfl ?_
                            refine AHead.call (o_pickT _ _ _ rfl h251 rfl rfl) rfl ?_
                            refine AHead.call (o_bin _ _ rfl rfl (fun _ => rfl) rfl) rfl ?_
                            refine AHead.nil ?_
                            refine AOps.nil ?_
                            refine AWP.cond _ rfl (fun h258 => ?_) (fun h258 => ?_)
                            · skip
                              exfalso
                              have hh := h258
                              rw [hcz] at hh
                              first
                              | (simp at hh; done)
                              | (by_cases hw : watE c l[j] 0 d1 = watE c l[j] 0 d2 <;> simp [hw] at hh; done)
                            · skip
                              refine AWP.skip ?_
                              refine AWP.region ?_
                              refine AOps.call (o_add _ _ rfl rfl ⟨by (try dsimp only); omega, by (try dsimp only); omega⟩ rfl) ?_
                              refine AOps.call (o_move _ rfl rfl) ?_
                              refine AOps.nil ?_
                              refine ⟨j + 1, ?_, (Weak.mk' rfl ⟨⟨.refl rfl, rfl⟩, ⟨⟨.refl rfl, rfl⟩, ⟨⟨.refl rfl, rfl⟩, ⟨⟨.refl rfl, rfl⟩, ⟨⟨.refl rfl, rfl⟩, ⟨⟨.refl rfl, rfl⟩, ⟨⟨.refl rfl, rfl⟩, ⟨⟨.refl rfl, rfl⟩, trivial⟩⟩⟩⟩⟩⟩⟩⟩ trivial trivial)⟩
                              exact ⟨by omega, by omega⟩
                          · skip
                            have q2 : ((couR c l[j] d1).lo == (couR c l[j] d2).lo && (couR c l[j] d1).hi == (couR c l[j] d2).hi) = false := by
                              have hh : (!((couR c l[j] d1).lo == (couR c l[j] d2).lo && (couR c l[j] d1).hi == (couR c l[j] d2).hi)) = true := h255
                              simpa only [Bool.not_eq_true'] using hh
                            have hd : difB c l[j] d1 d2 = true := by unfold difB; rw [Bool.decide_and, hsp, q2]; rfl
                            rw [decide_eq_true q1, Bool.true_and, hd] at hcz
                            refine AHead.pass rfl rfl rfl h255 rfl ?_
                            refine AHead.pass rfl rfl rfl h255 rfl ?_
                            refine AHead.pass rfl rfl rfl h255 rfl ?_
                            refine AHead.go rfl rfl rfl h251 (o_pickT _ _ _ rfl h255 rfl rfl) rfl ?_
                            refine AHead.call (o_pickT _ _ _ rfl h251 rfl rfl) rfl ?_
                            refine AHead.call (o_bin _ _ rfl rfl (fun _ => rfl) rfl) rfl ?_
                            refine AHead.nil ?_
                            refine AOps.nil ?_
                            refine AWP.cond _ rfl (fun h261 => ?_) (fun h261 => ?_)
                            · skip
                              exfalso
                              have hh := h261
                              rw [hcz] at hh
                              first
                              | (simp at hh; done)
                              | (by_cases hw : watE c l[j] 0 d1 = watE c l[j] 0 d2 <;> simp [hw] at hh; done)
                            · skip
                              refine AWP.skip ?_
                              refine AWP.region ?_
                              refine AOps.call (o_add _ _ rfl rfl ⟨by (try dsimp only); omega, by (try dsimp only); omega⟩ rfl) ?_
                              refine AOps.call (o_move _ rfl rfl) ?_
                              refine AOps.nil ?_
                              refine ⟨j + 1, ?_, (Weak.mk' rfl ⟨⟨.refl rfl, rfl⟩, ⟨⟨.refl rfl, rfl⟩, ⟨⟨.refl rfl, rfl⟩, ⟨⟨.refl rfl, rfl⟩, ⟨⟨.refl rfl, rfl⟩, ⟨⟨.refl rfl, rfl⟩, ⟨⟨.refl rfl, rfl⟩, ⟨⟨.refl rfl, rfl⟩, trivial⟩⟩⟩⟩⟩⟩⟩⟩ trivial trivial)⟩
                              exact ⟨by omega, by omega⟩
                        · skip
                          have q1 : ¬ l[j].scale = c.no := by have hh := h251; simpa using hh
                          rw [decide_eq_false q1, Bool.false_and] at hcz
                          refine AHead.pass rfl rfl rfl h251 rfl ?_
                          refine AHead.pass rfl rfl rfl h251 rfl ?_
                          refine AHead.pass rfl rfl rfl h251 rfl ?_
                          refine AHead.pass rfl rfl rfl h251 rfl ?_
                          refine AHead.passU rfl rfl rfl rfl ?_
                          refine AHead.passU rfl rfl rfl rfl ?_
                          refine AHead.passU rfl rfl rfl rfl ?_
                          refine AHead.pass rfl rfl rfl h251 rfl ?_
                          refine AHead.call (o_pickF _ _ _ rfl h251 rfl rfl) rfl ?_
                          refine AHead.call (o_bin _ _ rfl rfl (fun _ => rfl) rfl) rfl ?_
                          refine AHead.nil ?_
                          refine AOps.nil ?_
                          refine AWP.cond _ rfl (fun h264 => ?_) (fun h264 => ?_)
                          · skip
                            exfalso
                            have hh := h264
                            rw [hcz] at hh
                            first
                            | (simp at hh; done)
                            | (by_cases hw : watE c l[j] 0 d1 = watE c l[j] 0 d2 <;> simp [hw] at hh; done)
                          · skip
                            refine AWP.skip ?_
                            refine AWP.region ?_
                            refine AOps.call (o_add _ _ rfl rfl ⟨by (try dsimp only); omega, by (try dsimp only); omega⟩ rfl) ?_
                            refine AOps.call (o_move _ rfl rfl) ?_
                            refine AOps.nil ?_
                            refine ⟨j + 1, ?_, (Weak.mk' rfl ⟨⟨.refl rfl, rfl⟩, ⟨⟨.refl rfl, rfl⟩, ⟨⟨.refl rfl, rfl⟩, ⟨⟨.refl rfl, rfl⟩, ⟨⟨.refl rfl, rfl⟩, ⟨⟨.refl rfl, rfl⟩, ⟨⟨.refl rfl, rfl⟩, ⟨⟨.refl rfl, rfl⟩, trivial⟩⟩⟩⟩⟩⟩⟩⟩ trivial trivial)⟩
                            exact ⟨by omega, by omega⟩
                      · skip
                        refine AWP.exit ?_
                        refine AWP.seq ?_
                        refine AWP.region ?_
                        refine AOps.call (o_assign _ rfl rfl) ?_
                        refine AOps.nil ?_
                        refine AWP.ret ?_
                        first
                        | exact postQ.ret1 Tryd.results11 rfl rfl
                        | (exfalso; simp at *; done)
                        | (exfalso; simp_all; done)
                        | (refine postQ.ret1 Tryd.results11 rfl ?_; simp [AV.close, B]; done)
        · skip
          refine AOps.pass rfl rfl rfl h19 rfl ?_
          refine AOps.pass rfl rfl rfl h19 rfl ?_
          refine AOps.pass rfl rfl rfl h19 rfl ?_
          refine AOps.call (o_pickT _ _ _ rfl h19 rfl rfl) ?_
          refine AOps.nil ?_
          refine AWP.condT rfl ?_
          refine AWP.seq ?_
          refine AWP.region ?_
          refine AOps.call (o_assign _ rfl rfl) ?_
          refine AOps.nil ?_
          refine AWP.ret ?_
          first
          | exact postQ.ret1 Tryd.results11 rfl rfl
          | (exfalso; simp at *; done)
          | (exfalso; simp_all; done)
          | (refine postQ.ret1 Tryd.results11 rfl ?_; simp [AV.close, B]; done)
      · skip
        refine AOps.pass rfl rfl rfl h15 rfl ?_
        refine AOps.pass rfl rfl rfl h15 rfl ?_
        refine AOps.pass rfl rfl rfl h15 rfl ?_
        refine AOps.call (o_pickT _ _ _ rfl h15 rfl rfl) ?_
        refine AOps.call (o_move _ rfl rfl) ?_
        refine AOps.pass rfl rfl rfl rfl rfl ?_
        refine AOps.pass rfl rfl rfl rfl rfl ?_
        refine AOps.pass rfl rfl rfl rfl rfl ?_
        refine AOps.call (o_pickT _ _ _ rfl rfl rfl rfl) ?_
        refine AOps.nil ?_
        refine AWP.condT rfl ?_
        refine AWP.seq ?_
        refine AWP.region ?_
        refine AOps.call (o_assign _ rfl rfl) ?_
        refine AOps.nil ?_
        refine AWP.ret ?_
        first
        | exact postQ.ret1 Tryd.results11 rfl rfl
        | (exfalso; simp at *; done)
        | (exfalso; simp_all; done)
        | (refine postQ.ret1 Tryd.results11 rfl ?_; simp [AV.close, B]; done)
    · skip
      refine AOps.pass rfl rfl rfl h11 rfl ?_
      refine AOps.pass rfl rfl rfl h11 rfl ?_
      refine AOps.pass rfl rfl rfl h11 rfl ?_
      refine AOps.call (o_pickT _ _ _ rfl h11 rfl rfl) ?_
      refine AOps.call (o_move _ rfl rfl) ?_
      refine AOps.pass rfl rfl rfl rfl rfl ?_
      refine AOps.pass rfl rfl rfl rfl rfl ?_
      refine AOps.pass rfl rfl rfl rfl rfl ?_
      refine AOps.call (o_pickT _ _ _ rfl rfl rfl rfl) ?_
      refine AOps.call (o_move _ rfl rfl) ?_
      refine AOps.pass rfl rfl rfl rfl rfl ?_
      refine AOps.pass rfl rfl rfl rfl rfl ?_
      refine AOps.pass rfl rfl rfl rfl rfl ?_
      refine AOps.call (o_pickT _ _ _ rfl rfl rfl rfl) ?_
      refine AOps.nil ?_
      refine AWP.condT rfl ?_
      refine AWP.seq ?_
      refine AWP.region ?_
      refine AOps.call (o_assign _ rfl rfl) ?_
      refine AOps.nil ?_
      refine AWP.ret ?_
      first
      | exact postQ.ret1 Tryd.results11 rfl rfl
      | (exfalso; simp at *; done)
      | (exfalso; simp_all; done)
      | (refine postQ.ret1 Tryd.results11 rfl ?_; simp [AV.close, B]; done)

theorem CourseStands_s (c : Scl) (l : List Sht) (wd : List Int) (d0 d1 d2 g : Int) : FSpecG Tryd.prog TAB 11 [.agg (eS c), .sl (shts l), .sl (ints wd), .agg [I d0, I d1, I d2], I g] (B true) none := by
  rcases Int.lt_or_le g 0 with h | h
  · exact CourseStands_b c l wd d0 d1 d2 g h
  · obtain ⟨u, rfl⟩ := Int.eq_ofNat_of_zero_le h
    exact CourseStands_a c l wd d0 d1 d2 u

end Go.Proofs.YtphoomnonenalaaDoor
