import Derived.Test.YtgagfmjpmdgfdaaDoorQ12
set_option linter.unusedSimpArgs false
set_option linter.unusedVariables false
namespace Go.Proofs.YtgagfmjpmdgfdaaDoor
open Go.Ab

theorem joinN_go {L : List Lay} {n : Nat} (h : n < L.length) (h2 : 2 ≤ L.length) (hj : (join1 L).length = L.length - 1) : joinN L.length L n = joinN (join1 L).length (join1 L) n := by
  obtain ⟨f, hf⟩ : ∃ f, L.length = f + 1 := ⟨L.length - 1, by omega⟩
  rw [hj, show L.length - 1 = f by omega]
  conv => lhs; rw [hf]
  rw [joinN, if_pos h]
theorem joinN_end {L : List Lay} {n : Nat} (h : ¬ n < L.length) : joinN L.length L n = L := by
  cases hL : L.length with
  | zero => rfl
  | succ f => rw [joinN, if_neg h]
theorem joinOk_of {p : List Lay} (h : packE p = 0) : joinOk p := by
  obtain ⟨_, h2, h3, h4⟩ := packE_0.1 h
  exact ⟨fun l hl => by have := (layB_iff.1 (h2 l hl)).1; omega, h3, h4⟩
theorem del_at {P R J L : List Lay} {x b : Lay} {c i : Nat} (hL : L = P ++ x :: R) (hi : P.length = i) (hc : L.length + 1 ≤ c) (hl : L.length ≤ 63) :
    FSpecM Tryd.prog 84 [.arr (1000000, 0) 0 (L.length + 1) c, I ((i : Int) + 1), I ((i : Int) + 2)] [rowC (P ++ x :: b :: R ++ J)] (.arr (1000000, 0) 0 L.length c) none [rowC (L ++ zLay :: J)] := by
  subst hL
  have hlen : (P ++ x :: R).length = P.length + (R.length + 1) := by simp
  rw [hlen] at hc hl ⊢
  have h := delete_s (P ++ [x]) R J b c (by simp; omega) (by simp; omega)
  have h1 : (P ++ [x]).length = i + 1 := by simp [hi]
  have e1 : P ++ [x] ++ b :: R ++ J = P ++ x :: b :: R ++ J := by simp
  have e2 : P ++ [x] ++ R ++ zLay :: J = P ++ x :: R ++ zLay :: J := by simp
  rw [h1, e1, e2, show ((i + 1 : Nat) : Int) = (i : Int) + 1 by omega, show (i : Int) + 1 + 1 = (i : Int) + 2 by omega, show i + 1 + (R.length + 1) = P.length + (R.length + 1) + 1 by omega, show i + 1 + R.length = P.length + (R.length + 1) by omega] at h
  exact h

set_option maxRecDepth 20000 in
theorem Joined_a (p : List Lay) (n : Int) (h0 : 0 < p.length) : FSpec Tryd.prog 52 [.agg (eK p), I n] (.tup [.agg (eK (joiM p n).1), I (joiM p n).2]) (none) := by
  refine FSpec.of_body Tryd.func52 rfl (leB rfl) fun w0 M0 => ?_
  have hpl := lays_len p
  refine AWP.seq ?_
  refine AWP.region ?_
  refine AOps.call (o_box _ rfl rfl rfl) ?_
  refine AOps.call (o_alloc ze24 rfl rfl) ?_
  refine AOps.call (o_assign _ rfl rfl) ?_
  refine AOps.nil ?_
  refine AWP.seq ?_
  refine AWP.seq ?_
  refine AWP.region ?_
  refine AOps.call (o_loadRef _ rfl rfl Tryd.sizeOf24 Tryd.isAgg24 rfl rfl rfl) ?_
  refine AOps.call (o_call (Check_s _) Tryd.call26 rfl rfl) ?_
  refine AOps.call (o_assign _ rfl rfl) ?_
  refine AOps.nil ?_
  refine AWP.seq ?_
  refine AWP.region ?_
  refine AOps.call (o_move _ rfl rfl) ?_
  refine AOps.call (o_bin _ _ rfl rfl (fun _ => rfl) rfl) ?_
  refine AOps.nil ?_
  refine AWP.cond _ rfl (fun h7 => ?_) (fun h7 => ?_)
  · skip
    have hp : ¬ packE p = 0 := by simpa using h7
    have hp20 := packE_20 hp
    have hE : (joiM p n) = ([], packE p) := by unfold joiM; rw [if_neg hp, hp20]
    refine AWP.seq ?_
    refine AWP.region ?_
    refine AOps.call (o_noPack rfl) ?_
    refine AOps.call (o_move _ rfl rfl) ?_
    refine AOps.cons (o_store _ _ rfl rfl Tryd.sizeOf24 rfl rfl rfl rfl rfl) ?_
    refine AOps.call (o_assign _ rfl rfl) ?_
    refine AOps.nil ?_
    refine AWP.ret ?_
    refine postQ.retC1 Tryd.results52 rfl rfl Tryd.sizeOf24 Tryd.isAgg24 rfl rfl ?_
    rw [hE]
    rfl
  · skip
    have hp : packE p = 0 := by simpa using h7
    have hpn := (packE_0.1 hp).1
    refine AWP.skip ?_
    refine AWP.seq ?_
    refine AWP.seq ?_
    refine AWP.region ?_
    refine AOps.call (o_move _ rfl rfl) ?_
    refine AOps.call (o_bin _ _ rfl rfl (fun _ => rfl) rfl) ?_
    refine AOps.call (o_move _ rfl rfl) ?_
    refine AOps.split rfl rfl rfl (fun h11 => ?_) (fun h11 => ?_)
    · skip
      have hn1 : 1 ≤ n := by have hq := of_decide_eq_false h11; omega
      refine AOps.go rfl rfl rfl h11 (o_move _ rfl rfl) ?_
      refine AOps.go rfl rfl rfl h11 (o_bin _ _ rfl rfl (fun _ => rfl) rfl) ?_
      refine AOps.call (o_pickF _ _ _ rfl h11 rfl rfl) ?_
      refine AOps.nil ?_
      refine AWP.cond _ rfl (fun h14 => ?_) (fun h14 => ?_)
      · skip
        have hn : ¬ (1 ≤ n ∧ n ≤ 64) := by have hq := of_decide_eq_true h14; omega
        have hE : (joiM p n) = ([], 1) := by unfold joiM; rw [if_pos hp, if_neg hn]
        refine AWP.seq ?_
        refine AWP.region ?_
        refine AOps.call (o_noPack rfl) ?_
        refine AOps.cons (o_store _ _ rfl rfl Tryd.sizeOf24 rfl rfl rfl rfl rfl) ?_
        refine AOps.call (o_assign _ rfl rfl) ?_
        refine AOps.nil ?_
        refine AWP.ret ?_
        refine postQ.retC1 Tryd.results52 rfl rfl Tryd.sizeOf24 Tryd.isAgg24 rfl rfl ?_
        rw [hE]
        rfl
      · skip
        have hn2 : n ≤ 64 := by have hq := of_decide_eq_false h14; omega
        have hn : 1 ≤ n ∧ n ≤ 64 := ⟨hn1, hn2⟩
        refine AWP.skip ?_
        refine AWP.seq ?_
        refine AWP.region ?_
        refine AOps.call (o_fieldRef _ rfl fa24_0 rfl rfl) ?_
        refine AOps.call (o_loadRef _ rfl rfl Tryd.sizeOf22 Tryd.isAgg22 rfl rfl rfl) ?_
        refine AOps.cons (o_appNilSl _ Tryd.underlying22 info28 rfl rfl rfl rfl rfl rfl lays_z (lays_scs p) (by omega) (by unfold Tryd.t28; simp only []; omega) rfl rfl) ?_
        refine AOps.call (o_assign _ rfl rfl) ?_
        refine AOps.nil ?_
        refine AWP.seq ?_
        refine AWP.block ?_
        refine AWP.loop (ι := List Lay × List Lay) (fun i => AS.mk' 52 [(1, I n), (4, .ref (4, 0) 0), (7, .arr (24, 0) 0 i.1.length (lays p).length)] [((4, 0), [.sc (.slice none 0 0)]), ((24, 0), rowC (i.1 ++ i.2))] [] [(4, 1), (24, 1)]) (fun i => i.1.length + i.2.length = p.length ∧ joinOk i.1 ∧ joinN p.length p n.toNat = joinN i.1.length i.1 n.toNat) (fun i => i.1.length) (p, []) (Weak.mk' rfl ⟨⟨.refl rfl, rfl⟩, ⟨⟨.refl rfl, rfl⟩, ⟨⟨.refl (by rw [hpl]; rfl), rfl⟩, trivial⟩⟩⟩ ⟨⟨rfl, rfl, rfl⟩, ⟨⟨(by rw [List.append_nil]; rfl), lowL_sc _ _ (row_lays _), rfl⟩, trivial⟩⟩ trivial) (⟨by simp, joinOk_of hp, rfl⟩) ?_
        rintro ⟨L, J⟩ ⟨hlen, hok, heq⟩
        try dsimp only at *
        refine AWP.seq ?_
        refine AWP.seq ?_
        refine AWP.region ?_
        refine AOps.call (o_move _ rfl rfl) ?_
        refine AOps.call (o_lenArr _ Tryd.underlying22 rfl rfl) ?_
        refine AOps.call (o_move _ rfl rfl) ?_
        refine AOps.call (o_bin _ _ rfl rfl (fun _ => rfl) rfl) ?_
        refine AOps.nil ?_
        refine AWP.cond _ rfl (fun h23 => ?_) (fun h23 => ?_)
        · skip
          have hgt : n < L.length := by have hq := of_decide_eq_true h23; omega
          have h2 : 2 ≤ L.length := by omega
          have hj1 := join1_ok hok h2
          have hbd := joinOk_bd hok
          obtain ⟨P, a, b, R, e1, e2, e3⟩ := thin_split h2
          have hLl : L.length = P.length + (R.length + 2) := by rw [e1]; simp
          have hma : a ∈ L := by rw [e1]; simp
          have hmb : b ∈ L := by rw [e1]; simp
          have hA : partA true 3 ((rowC (L ++ J)).drop (P.length * 3)) = some (.agg (eL a)) := by
            rw [row_lay (A := L ++ J) (i := P.length) (by simp; omega) rfl]; simp [e1]
          have hB : partA true 3 ((rowC (L ++ J)).drop ((P.length + 1) * 3)) = some (.agg (eL b)) := by
            rw [row_lay (A := L ++ J) (i := P.length + 1) (by simp; omega) rfl]; simp [e1]
          have hS : splice (rowC (L ++ J)) (eL (joinF a b)) (P.length * 3) = rowC (P ++ joinF a b :: b :: R ++ J) := by
            rw [e1, List.append_assoc, List.append_assoc]; exact row_set rfl
          have hD := del_at (J := J) (b := b) (c := (lays p).length) e3 e2 (by omega) (by omega)
          rw [show (join1 L).length + 1 = L.length by omega] at hD
          refine AWP.skip ?_
          refine AWP.block ?_
          refine AWP.seq ?_
          refine AWP.region ?_
          refine AOps.call (o_move _ rfl rfl) ?_
          refine AOps.cons (o_callMC [(24, 0)] (thinnest_s L J (lays p).length h2 hok (by omega)) Tryd.call82 rfl rfl (lentOf1 (row_close _)) rfl rfl rfl) ?_
          refine AOps.call (o_assign _ rfl rfl) ?_
          refine AOps.nil ?_
          refine AWP.seq ?_
          refine AWP.drawn 13 mixed (by kernel_rfl) ?_
          refine AHead.call (o_move _ rfl rfl) rfl ?_
          refine AHead.call (o_move _ rfl rfl) rfl ?_
          refine AHead.call (o_move _ rfl rfl) rfl ?_
          refine AHead.call (o_move _ rfl rfl) rfl ?_
          refine AHead.call (o_indexArr (o := P.length * 3) _ _ Tryd.underlying22 Tryd.sizeOf28 rfl rfl (by omega) (by omega) (by omega) rfl) rfl ?_
          refine AHead.call (o_loadRefE _ rfl rfl Tryd.sizeOf28 Tryd.isAgg28 hA rfl) rfl ?_
          refine AHead.call (o_move _ rfl rfl) rfl ?_
          refine AHead.call (o_move _ rfl rfl) rfl ?_
          refine AHead.call (o_add _ _ rfl rfl ⟨by (try dsimp only); omega, by (try dsimp only); omega⟩ rfl) rfl ?_
          refine AHead.call (o_indexArr (o := (P.length + 1) * 3) _ _ Tryd.underlying22 Tryd.sizeOf28 rfl rfl (by omega) (by omega) (by omega) rfl) rfl ?_
          refine AHead.call (o_loadRefE _ rfl rfl Tryd.sizeOf28 Tryd.isAgg28 hB rfl) rfl ?_
          refine AHead.call (o_call (join_s a b (hbd a hma) (hbd b hmb)) Tryd.call83 rfl rfl) rfl ?_
          refine AHead.call (o_indexArr (o := P.length * 3) _ _ Tryd.underlying22 Tryd.sizeOf28 rfl rfl (by omega) (by omega) (by omega) rfl) rfl ?_
          refine AHead.nil ?_
          refine AOps.cons (o_storeE _ _ rfl rfl Tryd.sizeOf28 rfl rfl (by rw [row_len]; simp; omega) hS rfl) ?_
          refine AOps.nil ?_
          refine AWP.region ?_
          refine AOps.call (o_move _ rfl rfl) ?_
          refine AOps.call (o_move _ rfl rfl) ?_
          refine AOps.call (o_add _ _ rfl rfl ⟨by (try dsimp only); omega, by (try dsimp only); omega⟩ rfl) ?_
          refine AOps.call (o_move _ rfl rfl) ?_
          refine AOps.call (o_add _ _ rfl rfl ⟨by (try dsimp only); omega, by (try dsimp only); omega⟩ rfl) ?_
          refine AOps.cons (o_callMC [(24, 0)] hD Tryd.call84 rfl rfl (lentOf1 (row_close _)) rfl rfl rfl) ?_
          refine AOps.call (o_assign _ rfl rfl) ?_
          refine AOps.nil ?_
          refine ⟨(join1 L, zLay :: J), ?_, (Weak.mk' rfl ⟨⟨.refl rfl, rfl⟩, ⟨⟨.refl rfl, rfl⟩, ⟨⟨.refl rfl, rfl⟩, trivial⟩⟩⟩ ⟨⟨rfl, rfl, rfl⟩, ⟨⟨rfl, lowL_sc _ _ (row_lays _), rfl⟩, trivial⟩⟩ trivial)⟩
          exact ⟨⟨by simp only [List.length_cons]; omega, hj1.1, by rw [heq, joinN_go (by omega) h2 hj1.2.1]⟩, by simp only []; omega⟩
        · skip
          have hle : ¬ n.toNat < L.length := by have hq := of_decide_eq_false h23; omega
          have hE : (joiM p n) = (L, 0) := by unfold joiM; rw [if_pos hp, if_pos hn, heq, joinN_end hle]
          refine AWP.weak (Weak.frzP (id := (24, 0)) (t := 7) (z := 3) (es := lays L) (cs' := rowC (L ++ J)) rfl rfl (row_close _) (fun j c h => by unfold rowC; rw [lays_app, List.getElem?_append_left (List.getElem?_eq_some_iff.1 h).1]; exact h) lays_z (lays_len L)) ?_
          refine AWP.exit ?_
          refine AWP.seq ?_
          refine AWP.region ?_
          refine AOps.call (o_move _ rfl rfl) ?_
          refine AOps.call (o_build bu24 rfl rfl rfl) ?_
          refine AOps.cons (o_store _ _ rfl rfl Tryd.sizeOf24 rfl rfl rfl rfl rfl) ?_
          refine AOps.call (o_assign _ rfl rfl) ?_
          refine AOps.nil ?_
          refine AWP.ret ?_
          refine postQ.retC1 Tryd.results52 rfl rfl Tryd.sizeOf24 Tryd.isAgg24 rfl rfl ?_
          rw [hE]
          rfl
    · skip
      have hn : ¬ (1 ≤ n ∧ n ≤ 64) := by have hq := of_decide_eq_true h11; omega
      have hE : (joiM p n) = ([], 1) := by unfold joiM; rw [if_pos hp, if_neg hn]
      refine AOps.pass rfl rfl rfl h11 rfl ?_
      refine AOps.pass rfl rfl rfl h11 rfl ?_
      refine AOps.call (o_pickT _ _ _ rfl h11 rfl rfl) ?_
      refine AOps.nil ?_
      refine AWP.condT rfl ?_
      refine AWP.seq ?_
      refine AWP.region ?_
      refine AOps.call (o_noPack rfl) ?_
      refine AOps.cons (o_store _ _ rfl rfl Tryd.sizeOf24 rfl rfl rfl rfl rfl) ?_
      refine AOps.call (o_assign _ rfl rfl) ?_
      refine AOps.nil ?_
      refine AWP.ret ?_
      refine postQ.retC1 Tryd.results52 rfl rfl Tryd.sizeOf24 Tryd.isAgg24 rfl rfl ?_
      rw [hE]
      rfl

set_option maxRecDepth 20000 in
theorem Joined_c (n : Int) : FSpec Tryd.prog 52 [.agg (eK []), I n] (.tup [.agg (eK (joiM [] n).1), I (joiM [] n).2]) (none) := by
  refine FSpec.of_body Tryd.func52 rfl (leB rfl) fun w0 M0 => ?_
  refine AWP.seq ?_
  refine AWP.region ?_
  refine AOps.call (o_box _ rfl rfl rfl) ?_
  refine AOps.call (o_alloc ze24 rfl rfl) ?_
  refine AOps.call (o_assign _ rfl rfl) ?_
  refine AOps.nil ?_
  refine AWP.seq ?_
  refine AWP.seq ?_
  refine AWP.region ?_
  refine AOps.call (o_loadRef _ rfl rfl Tryd.sizeOf24 Tryd.isAgg24 rfl rfl rfl) ?_
  refine AOps.call (o_call (Check_s _) Tryd.call26 rfl rfl) ?_
  refine AOps.call (o_assign _ rfl rfl) ?_
  refine AOps.nil ?_
  refine AWP.seq ?_
  refine AWP.region ?_
  refine AOps.call (o_move _ rfl rfl) ?_
  refine AOps.call (o_bin _ _ rfl rfl (fun _ => rfl) rfl) ?_
  refine AOps.nil ?_
  refine AWP.cond _ rfl (fun h7 => ?_) (fun h7 => ?_)
  · skip
    have hp : ¬ packE [] = 0 := by simpa using h7
    have hp20 := packE_20 hp
    have hE : (joiM [] n) = ([], packE []) := by unfold joiM; rw [if_neg hp, hp20]
    refine AWP.seq ?_
    refine AWP.region ?_
    refine AOps.call (o_noPack rfl) ?_
    refine AOps.call (o_move _ rfl rfl) ?_
    refine AOps.cons (o_store _ _ rfl rfl Tryd.sizeOf24 rfl rfl rfl rfl rfl) ?_
    refine AOps.call (o_assign _ rfl rfl) ?_
    refine AOps.nil ?_
    refine AWP.ret ?_
    refine postQ.retC1 Tryd.results52 rfl rfl Tryd.sizeOf24 Tryd.isAgg24 rfl rfl ?_
    rw [hE]
    rfl
  · skip
    have hp : packE [] = 0 := by simpa using h7
    have hpn := (packE_0.1 hp).1
    refine AWP.skip ?_
    refine AWP.seq ?_
    refine AWP.seq ?_
    refine AWP.region ?_
    refine AOps.call (o_move _ rfl rfl) ?_
    refine AOps.call (o_bin _ _ rfl rfl (fun _ => rfl) rfl) ?_
    refine AOps.call (o_move _ rfl rfl) ?_
    refine AOps.split rfl rfl rfl (fun h11 => ?_) (fun h11 => ?_)
    · skip
      have hn1 : 1 ≤ n := by have hq := of_decide_eq_false h11; omega
      refine AOps.go rfl rfl rfl h11 (o_move _ rfl rfl) ?_
      refine AOps.go rfl rfl rfl h11 (o_bin _ _ rfl rfl (fun _ => rfl) rfl) ?_
      refine AOps.call (o_pickF _ _ _ rfl h11 rfl rfl) ?_
      refine AOps.nil ?_
      refine AWP.cond _ rfl (fun h14 => ?_) (fun h14 => ?_)
      · skip
        have hn : ¬ (1 ≤ n ∧ n ≤ 64) := by have hq := of_decide_eq_true h14; omega
        have hE : (joiM [] n) = ([], 1) := by unfold joiM; rw [if_pos hp, if_neg hn]
        refine AWP.seq ?_
        refine AWP.region ?_
        refine AOps.call (o_noPack rfl) ?_
        refine AOps.cons (o_store _ _ rfl rfl Tryd.sizeOf24 rfl rfl rfl rfl rfl) ?_
        refine AOps.call (o_assign _ rfl rfl) ?_
        refine AOps.nil ?_
        refine AWP.ret ?_
        refine postQ.retC1 Tryd.results52 rfl rfl Tryd.sizeOf24 Tryd.isAgg24 rfl rfl ?_
        rw [hE]
        rfl
      · skip
        have hn2 : n ≤ 64 := by have hq := of_decide_eq_false h14; omega
        have hn : 1 ≤ n ∧ n ≤ 64 := ⟨hn1, hn2⟩
        refine AWP.skip ?_
        refine AWP.seq ?_
        refine AWP.region ?_
        refine AOps.call (o_fieldRef _ rfl fa24_0 rfl rfl) ?_
        refine AOps.call (o_loadRef _ rfl rfl Tryd.sizeOf22 Tryd.isAgg22 rfl rfl rfl) ?_
        refine AOps.cons (o_appNilE _ Tryd.underlying22 Tryd.sizeOf28 rfl rfl) ?_
        refine AOps.call (o_assign _ rfl rfl) ?_
        refine AOps.nil ?_
        refine AWP.seq ?_
        refine AWP.block ?_
        refine AWP.loop (ι := Unit) (fun i => AS.mk' 52 [(1, I n), (4, .ref (4, 0) 0), (7, .sl [])] [((4, 0), [.sc (.slice none 0 0)])] [] [(4, 1)]) (fun i => True) (fun i => 0) (()) (Weak.mk' rfl ⟨⟨.refl rfl, rfl⟩, ⟨⟨.refl rfl, rfl⟩, ⟨⟨.refl rfl, rfl⟩, trivial⟩⟩⟩ ⟨⟨rfl, rfl, rfl⟩, trivial⟩ trivial) (trivial) ?_
        rintro _ _
        try dsimp only at *
        refine AWP.seq ?_
        refine AWP.seq ?_
        refine AWP.region ?_
        refine AOps.call (o_move _ rfl rfl) ?_
        refine AOps.call (o_len _ Tryd.underlying22 rfl rfl) ?_
        refine AOps.call (o_move _ rfl rfl) ?_
        refine AOps.call (o_bin _ _ rfl rfl (fun _ => rfl) rfl) ?_
        refine AOps.nil ?_
        refine AWP.cond _ rfl (fun h23 => ?_) (fun h23 => ?_)
        · skip
          exfalso
          have hq := of_decide_eq_true h23
          simp at hq
          omega
        · skip
          have hE : (joiM [] n) = ([], 0) := by unfold joiM; rw [if_pos hp, if_pos hn]; rfl
          refine AWP.exit ?_
          refine AWP.seq ?_
          refine AWP.region ?_
          refine AOps.call (o_move _ rfl rfl) ?_
          refine AOps.call (o_build bu24 rfl rfl rfl) ?_
          refine AOps.cons (o_store _ _ rfl rfl Tryd.sizeOf24 rfl rfl rfl rfl rfl) ?_
          refine AOps.call (o_assign _ rfl rfl) ?_
          refine AOps.nil ?_
          refine AWP.ret ?_
          refine postQ.retC1 Tryd.results52 rfl rfl Tryd.sizeOf24 Tryd.isAgg24 rfl rfl ?_
          rw [hE]
          rfl
    · skip
      have hn : ¬ (1 ≤ n ∧ n ≤ 64) := by have hq := of_decide_eq_true h11; omega
      have hE : (joiM [] n) = ([], 1) := by unfold joiM; rw [if_pos hp, if_neg hn]
      refine AOps.pass rfl rfl rfl h11 rfl ?_
      refine AOps.pass rfl rfl rfl h11 rfl ?_
      refine AOps.call (o_pickT _ _ _ rfl h11 rfl rfl) ?_
      refine AOps.nil ?_
      refine AWP.condT rfl ?_
      refine AWP.seq ?_
      refine AWP.region ?_
      refine AOps.call (o_noPack rfl) ?_
      refine AOps.cons (o_store _ _ rfl rfl Tryd.sizeOf24 rfl rfl rfl rfl rfl) ?_
      refine AOps.call (o_assign _ rfl rfl) ?_
      refine AOps.nil ?_
      refine AWP.ret ?_
      refine postQ.retC1 Tryd.results52 rfl rfl Tryd.sizeOf24 Tryd.isAgg24 rfl rfl ?_
      rw [hE]
      rfl

theorem Joined_s (p : List Lay) (n : Int) : FSpec Tryd.prog 52 [.agg (eK p), I n] (.tup [.agg (eK (joiM p n).1), I (joiM p n).2]) none := by
  rcases Nat.eq_zero_or_pos p.length with h | h
  · obtain rfl := List.eq_nil_of_length_eq_zero h; exact Joined_c n
  · exact Joined_a p n h

end Go.Proofs.YtgagfmjpmdgfdaaDoor
