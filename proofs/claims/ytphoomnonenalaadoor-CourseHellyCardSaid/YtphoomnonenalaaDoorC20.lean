import Derived.Test.YtphoomnonenalaaDoorAbB
import Derived.Test.YtphoomnonenalaaDoorC19
set_option linter.unusedSimpArgs false
set_option linter.unusedVariables false
namespace Go.Proofs.YtphoomnonenalaaDoor
open Go.Ab

theorem testsZ {l : List Tst} : ∀ e ∈ tests l, e.length = 4 := by intro e he; obtain ⟨_, _, rfl⟩ := List.mem_map.1 he; rfl
theorem tests_scs (l : List Tst) : ∀ x ∈ (tests l).flatten, ∃ v, x = .sc v := by
  intro x hx
  obtain ⟨c, hc, hx⟩ := List.mem_flatten.1 hx
  obtain ⟨k, _, rfl⟩ := List.mem_map.1 hc
  simp only [eT, I, List.mem_cons, List.not_mem_nil, or_false] at hx
  rcases hx with rfl | rfl | rfl | rfl <;> exact ⟨_, rfl⟩
theorem sc_self {l : List AV} (h : ∀ x ∈ l, ∃ v, x = .sc v) : ∀ x ∈ l, x.close = some x := by
  intro x hx; obtain ⟨v, rfl⟩ := h x hx; rfl
theorem part_flat {es : List (List AV)} {z k o : Nat} {e : List AV} (hz : ∀ e ∈ es, e.length = z) (h : es[k]? = some e) (ho : o = k * z) : partA true z (es.flatten.drop o) = some (.agg e) := by
  subst ho
  have hlt := (List.getElem?_eq_some_iff.1 h).1
  have he : es[k] = e := (List.getElem?_eq_some_iff.1 h).2
  rw [flat_drop es k hz, List.drop_eq_getElem_cons hlt, List.flatten_cons, he]
  have hl : e.length = z := by rw [← he]; exact hz _ (List.getElem_mem hlt)
  unfold partA
  have hb : Nat.ble z (e ++ (es.drop (k + 1)).flatten).length = true := Nat.ble_eq_true_of_le (by rw [List.length_append]; omega)
  rw [hb]
  show some (AV.agg ((e ++ (es.drop (k + 1)).flatten).take z)) = _
  rw [List.take_append_of_le_length (by omega), List.take_of_length_le (by omega)]
theorem splice_flat {es : List (List AV)} {z k o : Nat} {e : List AV} (hz : ∀ e ∈ es, e.length = z) (he : e.length = z) (hk : k < es.length) (ho : o = k * z) : splice es.flatten e o = (es.set k e).flatten := by
  subst ho
  unfold splice
  rw [flat_take es k hz, show k * z + e.length = (k + 1) * z by rw [Nat.add_mul, he]; omega, flat_drop es (k + 1) hz, List.set_eq_take_append_cons_drop, if_pos hk]
  simp
theorem lentOf1 {σ : AS} {id : OId} {cs : List AV} (h : (σ.va id).bind AV.close.closeL = some cs) : lentOf σ [id] = some [cs] := by
  unfold lentOf; rw [h]; rfl
theorem tests_set (l : List Tst) (i : Nat) (t : Tst) : tests (l.set i t) = (tests l).set i (eT t) := by unfold tests; rw [List.map_set]
def lateB (day : Int) (t : Tst) : Bool := decide (t.known > day)

set_option maxRecDepth 20000 in
theorem Clone105_v (l : List Tst) (hl : l.length ≤ 1000000) (h0 : 0 < l.length) : FSpecV Tryd.prog 105 [.sl (tests l)] (tests l).flatten (tests l).length := by
  refine FSpecV.of_body Tryd.func105 rfl (leB rfl) fun w0 M0 => ?_
  have hll := tests_len l
  refine AWP.seq ?_
  refine AWP.region ?_
  refine AOps.call (o_nil (z := 4) (e := 26) rfl) ?_
  refine AOps.nil ?_
  refine AWP.seq ?_
  refine AWP.seq ?_
  refine AWP.region ?_
  refine AOps.call (o_move _ rfl rfl) ?_
  refine AOps.nilq _ Tryd.underlying22 rfl rfl ?_
  intro bq hbq
  refine AOps.nil ?_
  refine AWP.cond _ rfl (fun h4 => ?_) (fun h4 => ?_)
  · skip
    exfalso
    have hnil := hbq h4
    rw [hnil] at hll
    simp at hll
    omega
  · skip
    refine AWP.skip ?_
    refine AWP.seq ?_
    refine AWP.region ?_
    refine AOps.call (o_lit Tryd.underlying22 Tryd.sizeOf26 Tryd.zeroValue26 rfl rfl rfl rfl rfl rfl rfl) ?_
    refine AOps.call (o_move _ rfl rfl) ?_
    refine AOps.appArr _ _ Tryd.underlying22 info26 rfl rfl rfl rfl rfl rfl rfl rfl testsZ (by omega) (by rw [hll]; unfold Tryd.t26; simp only []; omega) rfl rfl ?_
    refine AOps.call (o_assign _ rfl rfl) ?_
    refine AOps.nil ?_
    refine AWP.ret ?_
    exact postQV.ret Tryd.results105 rfl (closeL_self _ (sc_self (tests_scs l)))

set_option maxRecDepth 20000 in
theorem late106_s (t : Tst) (day : Int) : FSpec Tryd.prog 106 [.agg (eT t), .rd [I day]] (B (lateB day t)) (none) := by
  refine FSpec.of_body Tryd.func106 rfl (leB rfl) fun w0 M0 => ?_
  refine AWP.seq ?_
  refine AWP.region ?_
  refine AOps.call (o_box _ rfl rfl rfl) ?_
  refine AOps.call (o_assign _ rfl rfl) ?_
  refine AOps.nil ?_
  refine AWP.seq ?_
  refine AWP.region ?_
  refine AOps.call (o_fieldRef _ rfl fa26_1 rfl rfl) ?_
  refine AOps.call (o_loadRef _ rfl rfl Tryd.sizeOf3 Tryd.isAgg3 rfl rfl rfl) ?_
  refine AOps.call (o_loadRd _ rfl Tryd.sizeOf3 Tryd.isAgg3 rfl rfl rfl) ?_
  refine AOps.call (o_bin _ _ rfl rfl (fun _ => rfl) rfl) ?_
  refine AOps.call (o_assign _ rfl rfl) ?_
  refine AOps.nil ?_
  refine AWP.ret ?_
  exact postQ.ret1 Tryd.results106 rfl rfl

set_option maxRecDepth 20000 in
theorem IndexFunc127_s (l : List Tst) (day : Int) (hl : l.length ≤ 1000000) : FSpecM Tryd.prog 127 [.arr (1000000, 0) 0 (tests l).length (tests l).length, .clo 106 [.rd [I day]]] [(tests l).flatten] (I (firstA (lateB day) l 0)) none [(tests l).flatten] := by
  refine FSpecM.of_body Tryd.func127 rfl (leB rfl) (leB rfl) rfl fun w0 M0 => ?_
  have hll := tests_len l
  refine AWP.seq ?_
  refine AWP.region ?_
  refine AOps.call (o_assign _ rfl rfl) ?_
  refine AOps.nil ?_
  refine AWP.seq ?_
  refine AWP.seq ?_
  refine AWP.region ?_
  refine AOps.call (o_move _ rfl rfl) ?_
  refine AOps.call (o_lenArr _ Tryd.underlying22 rfl rfl) ?_
  refine AOps.call (o_move _ rfl rfl) ?_
  refine AOps.nil ?_
  refine AWP.block ?_
  refine AWP.loop (ι := Nat) (fun i => AS.mk' 19 [(0, .arr (1000000, 0) 0 (tests l).length (tests l).length), (1, .clo 106 [.rd [I day]]), (7, I (tests l).length), (8, I i)] [((1000000, 0), (tests l).flatten)] [] [(1000000, 1)]) (fun i => i ≤ l.length ∧ firstA (lateB day) l 0 = firstA (lateB day) (l.drop i) i) (fun i => l.length - i) (0) (Weak.mk' rfl ⟨⟨.refl rfl, rfl⟩, ⟨⟨.refl rfl, rfl⟩, ⟨⟨.refl rfl, rfl⟩, ⟨⟨.refl rfl, rfl⟩, trivial⟩⟩⟩⟩ ⟨⟨rfl, lowL_sc _ _ (tests_scs _), rfl⟩, trivial⟩ trivial) (⟨Nat.zero_le _, rfl⟩) ?_
  rintro k ⟨hk, hinv⟩
  try dsimp only at *
  refine AWP.seq ?_
  refine AWP.region ?_
  refine AOps.call (o_bin _ _ rfl rfl (fun _ => rfl) rfl) ?_
  refine AOps.nil ?_
  refine AWP.seq ?_
  refine AWP.cond _ rfl (fun h6 => ?_) (fun h6 => ?_)
  · skip
    have hlt : k < l.length := by have hq := of_decide_eq_true h6; omega
    refine AWP.skip ?_
    refine AWP.seq ?_
    refine AWP.block ?_
    refine AWP.seq ?_
    refine AWP.region ?_
    refine AOps.call (o_move _ rfl rfl) ?_
    refine AOps.call (o_assign _ rfl rfl) ?_
    refine AOps.nil ?_
    refine AWP.seq ?_
    refine AWP.region ?_
    refine AOps.call (o_move _ rfl rfl) ?_
    refine AOps.call (o_move _ rfl rfl) ?_
    refine AOps.call (o_move _ rfl rfl) ?_
    refine AOps.call (o_indexArr _ _ Tryd.underlying22 Tryd.sizeOf26 rfl rfl (by omega) (by omega) rfl rfl) ?_
    refine AOps.call (o_loadRefE _ rfl rfl Tryd.sizeOf26 Tryd.isAgg26 (part_flat testsZ (tests_get hlt) (by simp)) rfl) ?_
    refine AOps.call (o_callV (cl := [.agg (eT l[k])]) (ccl := [.rd [I day]]) _ rfl (late106_s l[k] day) Tryd.call106 rfl rfl rfl) ?_
    refine AOps.nil ?_
    refine AWP.cond _ rfl (fun h12 => ?_) (fun h12 => ?_)
    · skip
      have hq : lateB day l[k] = true := h12
      refine AWP.seq ?_
      refine AWP.region ?_
      refine AOps.call (o_move _ rfl rfl) ?_
      refine AOps.call (o_assign _ rfl rfl) ?_
      refine AOps.nil ?_
      refine AWP.ret ?_
      have hres : ∀ (x : Int), firstA (lateB day) l 0 = x → I x = I (firstA (lateB day) l 0) := fun x h => by rw [h]
      first
      | exact ⟨⟨[I _], ⟨rfl, trivial⟩, congrArg some (hres _ (by rw [hinv, firstA_at hlt, hq]; rfl))⟩, ⟨closeL_self _ (sc_self (tests_scs l)), trivial⟩⟩
      | exact ⟨⟨[I _], ⟨rfl, trivial⟩, congrArg some (hres _ (by rw [hinv]; rfl))⟩, ⟨closeL_self _ (sc_self (tests_scs l)), trivial⟩⟩
    · skip
      have hq : lateB day l[k] = false := h12
      refine AWP.skip ?_
      refine AWP.region ?_
      refine AOps.call (o_add _ _ rfl rfl ⟨by (try dsimp only); omega, by (try dsimp only); omega⟩ rfl) ?_
      refine AOps.call (o_move _ rfl rfl) ?_
      refine AOps.nil ?_
      refine ⟨k + 1, ?_, (Weak.mk' rfl ⟨⟨.refl rfl, rfl⟩, ⟨⟨.refl rfl, rfl⟩, ⟨⟨.refl rfl, rfl⟩, ⟨⟨.refl rfl, rfl⟩, trivial⟩⟩⟩⟩ ⟨⟨rfl, lowL_sc _ _ (tests_scs _), rfl⟩, trivial⟩ trivial)⟩
      refine ⟨⟨by omega, ?_⟩, by omega⟩
      rw [hinv, firstA_at hlt, hq]; rfl
  · skip
    have hkl : k = l.length := by have hq := of_decide_eq_false h6; omega
    subst hkl
    rw [List.drop_length] at hinv
    refine AWP.exit ?_
    refine AWP.seq ?_
    refine AWP.region ?_
    refine AOps.call (o_assign _ rfl rfl) ?_
    refine AOps.nil ?_
    refine AWP.ret ?_
    have hres : ∀ (x : Int), firstA (lateB day) l 0 = x → I x = I (firstA (lateB day) l 0) := fun x h => by rw [h]
    first
    | exact ⟨⟨[I _], ⟨rfl, trivial⟩, congrArg some (hres _ (by rw [hinv, firstA_at hlt, hq]; rfl))⟩, ⟨closeL_self _ (sc_self (tests_scs l)), trivial⟩⟩
    | exact ⟨⟨[I _], ⟨rfl, trivial⟩, congrArg some (hres _ (by rw [hinv]; rfl))⟩, ⟨closeL_self _ (sc_self (tests_scs l)), trivial⟩⟩

theorem keep_step {l L : List Tst} {q : Tst → Bool} {i j : Nat} (hij : i < j) (hjl : j < l.length) (hLl : L.length = l.length) (hpre : L.take i = (l.take j).filter q) (hsuf : L.drop j = l.drop j) (hq : q l[j] = true) :
    (L.set i l[j]).take (i + 1) = (l.take (j + 1)).filter q ∧ (L.set i l[j]).drop (j + 1) = l.drop (j + 1) := by
  constructor
  · rw [List.take_succ_eq_append_getElem hjl, List.filter_append, ← hpre, List.take_succ_eq_append_getElem (by rw [List.length_set]; omega), List.take_set_of_le (Nat.le_refl _), List.getElem_set_self]
    simp [hq]
  · rw [List.drop_set_of_lt (by omega), ← List.drop_drop (i := 1) (j := j), hsuf, List.drop_drop]
theorem skip_step {l L : List Tst} {q : Tst → Bool} {i j : Nat} (hjl : j < l.length) (hpre : L.take i = (l.take j).filter q) (hsuf : L.drop j = l.drop j) (hq : q l[j] = false) :
    L.take i = (l.take (j + 1)).filter q ∧ L.drop (j + 1) = l.drop (j + 1) := by
  constructor
  · rw [List.take_succ_eq_append_getElem hjl, List.filter_append, ← hpre]
    simp [hq]
  · rw [← List.drop_drop (i := 1) (j := j), hsuf, List.drop_drop]
theorem dl_set {L : List Tst} {i : Nat} {t : Tst} (hi : i < L.length) : splice (tests L).flatten (eT t) (0 + ((i : Nat) : Int).toNat * 4) = (tests (L.set i t)).flatten := by
  rw [tests_set]
  exact splice_flat testsZ rfl (by rw [tests_len]; exact hi) (by simp)
theorem clr_closed {cs Z : List AV} {off : Nat} (h1 : ∀ x ∈ cs, x.close = some x) (h2 : ∀ x ∈ Z, x.close = some x) : AV.close.closeL (splice cs Z off) = some (splice cs Z off) := by
  refine closeL_self _ fun x hx => ?_
  unfold splice at hx
  rcases List.mem_append.1 hx with h | h
  · rcases List.mem_append.1 h with h | h
    · exact h1 x (List.mem_of_mem_take h)
    · exact h2 x h
  · exact h1 x (List.mem_of_mem_drop h)
theorem clr_get {L F : List Tst} {i : Nat} {Z : List AV} (hF : L.take i = F) (j : Nat) (c : AV) (h : (tests F).flatten[j]? = some c) : (splice (tests L).flatten Z (i * 4))[j]? = some c := by
  subst hF
  have e : (tests (L.take i)).flatten = (tests L).flatten.take (i * 4) := by
    rw [flat_take _ _ testsZ]; unfold tests; rw [List.map_take]
  rw [e] at h
  unfold splice
  rw [List.append_assoc, List.getElem?_append_left (List.getElem?_eq_some_iff.1 h).1]
  exact h
theorem firstA_cases {p : Tst → Bool} : ∀ (l : List Tst) (k : Nat), (firstA p l k = -1 ∧ l.filter (fun t => !p t) = l) ∨ ∃ i, i < l.length ∧ firstA p l k = ((k + i : Nat) : Int) ∧ (l.take (i + 1)).filter (fun t => !p t) = l.take i := by
  intro l
  induction l with
  | nil => intro k; exact .inl ⟨rfl, rfl⟩
  | cons a l ih =>
    intro k
    have hf : firstA p (a :: l) k = if p a = true then (k : Int) else firstA p l (k + 1) := rfl
    by_cases h : p a = true
    · exact .inr ⟨0, by simp, by rw [hf, if_pos h]; rfl, by simp [h]⟩
    · rcases ih (k + 1) with ⟨h1, h2⟩ | ⟨i, h1, h2, h3⟩
      · refine .inl ⟨by rw [hf, if_neg h]; exact h1, ?_⟩
        rw [List.filter_cons_of_pos (by simpa using h), h2]
      · refine .inr ⟨i + 1, by simp; omega, by rw [hf, if_neg h, h2]; congr 1; omega, ?_⟩
        rw [List.take_succ_cons, List.filter_cons_of_pos (by simpa using h), h3, List.take_succ_cons]
theorem late_not (day : Int) : (fun t : Tst => !lateB day t) = fun t => decide (t.known ≤ day) := by
  funext t
  unfold lateB
  rw [Bool.eq_iff_iff]
  simp only [Bool.not_eq_true', decide_eq_true_eq, decide_eq_false_iff_not]
  omega

set_option maxRecDepth 20000 in
theorem DeleteFunc_a (l : List Tst) (day : Int) (hl : l.length ≤ 1000000) (hF : firstA (lateB day) l 0 = -1) (hfil : l.filter (fun t => decide (t.known ≤ day)) = l) : FSpecC Tryd.prog 104 [.arr (1000000, 0) 0 (tests l).length (tests l).length, .clo 106 [.rd [I day]]] [(tests l).flatten] (.sl (tests (l.filter (fun t => decide (t.known ≤ day))))) := by
  refine FSpecC.of_body Tryd.func104 rfl (leB rfl) (leB rfl) fun w0 M0 => ?_
  have hI := IndexFunc127_s l day hl
  rw [hF] at hI
  rw [hfil]
  refine AWP.seq ?_
  refine AWP.region ?_
  refine AOps.call (o_nil (z := 4) (e := 26) rfl) ?_
  refine AOps.nil ?_
  refine AWP.seq ?_
  refine AWP.region ?_
  refine AOps.call (o_move _ rfl rfl) ?_
  refine AOps.call (o_move _ rfl rfl) ?_
  refine AOps.cons (ok_callM [(1000000, 0)] hI Tryd.call127 rfl rfl (lentOf1 (by exact closeL_self _ (sc_self (tests_scs l)))) rfl rfl rfl) ?_
  refine AOps.call (o_assign _ rfl rfl) ?_
  refine AOps.nil ?_
  refine AWP.seq ?_
  refine AWP.seq ?_
  refine AWP.region ?_
  refine AOps.call (o_move _ rfl rfl) ?_
  refine AOps.call (o_bin _ _ rfl rfl (fun _ => rfl) rfl) ?_
  refine AOps.nil ?_
  refine AWP.cond _ rfl (fun h6 => ?_) (fun h6 => ?_)
  · skip
    refine AWP.seq ?_
    refine AWP.region ?_
    refine AOps.weak (Weak.frzP (id := (1000000, 0)) (t := 0) (z := 4) (es := tests l) rfl rfl (closeL_self _ (sc_self (tests_scs l))) (fun j c h => h) testsZ rfl) ?_
    refine AOps.call (o_move _ rfl rfl) ?_
    refine AOps.call (o_assign _ rfl rfl) ?_
    refine AOps.nil ?_
    refine AWP.ret ?_
    exact postQC.ret Tryd.results104 rfl rfl
  · skip
    exfalso
    simp at h6

set_option maxRecDepth 20000 in
theorem DeleteFunc_b (l : List Tst) (day : Int) (i0 : Nat) (hl : l.length ≤ 1000000) (hF : firstA (lateB day) l 0 = (i0 : Int)) (hi0 : i0 + 1 ≤ l.length) (hfil : l.take i0 = (l.take (i0 + 1)).filter (fun t => decide (t.known ≤ day))) : FSpecC Tryd.prog 104 [.arr (1000000, 0) 0 (tests l).length (tests l).length, .clo 106 [.rd [I day]]] [(tests l).flatten] (.sl (tests (l.filter (fun t => decide (t.known ≤ day))))) := by
  refine FSpecC.of_body Tryd.func104 rfl (leB rfl) (leB rfl) fun w0 M0 => ?_
  have hI := IndexFunc127_s l day hl
  rw [hF] at hI
  have hll := tests_len l
  refine AWP.seq ?_
  refine AWP.region ?_
  refine AOps.call (o_nil (z := 4) (e := 26) rfl) ?_
  refine AOps.nil ?_
  refine AWP.seq ?_
  refine AWP.region ?_
  refine AOps.call (o_move _ rfl rfl) ?_
  refine AOps.call (o_move _ rfl rfl) ?_
  refine AOps.cons (ok_callM [(1000000, 0)] hI Tryd.call127 rfl rfl (lentOf1 (by exact closeL_self _ (sc_self (tests_scs l)))) rfl rfl rfl) ?_
  refine AOps.call (o_assign _ rfl rfl) ?_
  refine AOps.nil ?_
  refine AWP.seq ?_
  refine AWP.seq ?_
  refine AWP.region ?_
  refine AOps.call (o_move _ rfl rfl) ?_
  refine AOps.call (o_bin _ _ rfl rfl (fun _ => rfl) rfl) ?_
  refine AOps.nil ?_
  refine AWP.cond _ rfl (fun h6 => ?_) (fun h6 => ?_)
  · skip
    exfalso
    simp at h6
  · skip
    refine AWP.skip ?_
    refine AWP.seq ?_
    refine AWP.seq ?_
    refine AWP.region ?_
    refine AOps.call (o_move _ rfl rfl) ?_
    refine AOps.call (o_add _ _ rfl rfl ⟨by (try dsimp only); omega, by (try dsimp only); omega⟩ rfl) ?_
    refine AOps.call (o_assign _ rfl rfl) ?_
    refine AOps.nil ?_
    refine AWP.block ?_
    refine AWP.loop (ι := Nat × Nat × List Tst) (fun i => AS.mk' 42 [(0, .arr (1000000, 0) 0 (tests l).length (tests l).length), (1, .clo 106 [.rd [I day]]), (5, I i.1), (6, I i.2.1)] [((1000000, 0), (tests i.2.2).flatten)] [] [(1000000, 1)]) (fun i => i.1 < i.2.1 ∧ i.2.1 ≤ l.length ∧ i.2.2.length = l.length ∧ i.2.2.take i.1 = (l.take i.2.1).filter (fun t => decide (t.known ≤ day)) ∧ i.2.2.drop i.2.1 = l.drop i.2.1) (fun i => l.length - i.2.1) ((i0, i0 + 1, l)) (Weak.mk' rfl ⟨⟨.refl rfl, rfl⟩, ⟨⟨.refl rfl, rfl⟩, ⟨⟨.refl rfl, rfl⟩, ⟨⟨.refl rfl, rfl⟩, trivial⟩⟩⟩⟩ ⟨⟨rfl, lowL_sc _ _ (tests_scs _), rfl⟩, trivial⟩ trivial) (⟨Nat.lt_succ_self _, hi0, rfl, hfil, rfl⟩) ?_
    rintro ⟨i, j, L⟩ ⟨hij, hjl, hLl, hpre, hsuf⟩
    try dsimp only at *
    refine AWP.seq ?_
    refine AWP.seq ?_
    refine AWP.region ?_
    refine AOps.call (o_move _ rfl rfl) ?_
    refine AOps.call (o_move _ rfl rfl) ?_
    refine AOps.call (o_lenArr _ Tryd.underlying22 rfl rfl) ?_
    refine AOps.call (o_bin _ _ rfl rfl (fun _ => rfl) rfl) ?_
    refine AOps.nil ?_
    refine AWP.cond _ rfl (fun h11 => ?_) (fun h11 => ?_)
    · skip
      have hjlt : j < l.length := by have hq := of_decide_eq_true h11; omega
      have eLj : L[j]? = some l[j] := by
        have := congrArg (fun x => x[0]?) hsuf
        simpa [List.getElem?_drop, hjlt] using this
      have hLj : (tests L)[((j : Nat) : Int).toNat]? = some (eT l[j]) := by simp [tests, eLj]
      have htL := tests_len L
      have hiL : i < L.length := by omega
      refine AWP.skip ?_
      refine AWP.seq ?_
      refine AWP.block ?_
      refine AWP.seq ?_
      refine AWP.region ?_
      refine AOps.call (o_move _ rfl rfl) ?_
      refine AOps.call (o_move _ rfl rfl) ?_
      refine AOps.call (o_indexArr _ _ Tryd.underlying22 Tryd.sizeOf26 rfl rfl (by omega) (by omega) rfl rfl) ?_
      refine AOps.call (o_loadRefE _ rfl rfl Tryd.sizeOf26 Tryd.isAgg26 (part_flat testsZ hLj (by simp)) rfl) ?_
      refine AOps.call (o_alloc ze26 rfl rfl) ?_
      refine AOps.cons (o_store _ _ rfl rfl Tryd.sizeOf26 rfl rfl rfl rfl rfl) ?_
      refine AOps.nil ?_
      refine AWP.seq ?_
      refine AWP.region ?_
      refine AOps.call (o_move _ rfl rfl) ?_
      refine AOps.call (o_loadRef _ rfl rfl Tryd.sizeOf26 Tryd.isAgg26 rfl rfl rfl) ?_
      refine AOps.call (o_callV (cl := [.agg (eT l[j])]) (ccl := [.rd [I day]]) _ rfl (late106_s l[j] day) Tryd.call106 rfl rfl rfl) ?_
      refine AOps.call (o_un _ rfl (fun _ => rfl) rfl) ?_
      refine AOps.nil ?_
      refine AWP.cond _ rfl (fun h20 => ?_) (fun h20 => ?_)
      · skip
        have hkeep := h20
        refine AWP.seq ?_
        refine AWP.region ?_
        refine AOps.call (o_move _ rfl rfl) ?_
        refine AOps.call (o_move _ rfl rfl) ?_
        refine AOps.call (o_loadRef _ rfl rfl Tryd.sizeOf26 Tryd.isAgg26 rfl rfl rfl) ?_
        refine AOps.call (o_indexArr _ _ Tryd.underlying22 Tryd.sizeOf26 rfl rfl (by omega) (by omega) rfl rfl) ?_
        refine AOps.cons (o_storeE _ _ rfl rfl Tryd.sizeOf26 rfl rfl (by rw [flat_len _ testsZ]; omega) rfl rfl) ?_
        refine AOps.nil ?_
        refine AWP.region ?_
        refine AOps.call (o_move _ rfl rfl) ?_
        refine AOps.call (o_add _ _ rfl rfl ⟨by (try dsimp only); omega, by (try dsimp only); omega⟩ rfl) ?_
        refine AOps.call (o_assign _ rfl rfl) ?_
        refine AOps.nil ?_
        refine AWP.region ?_
        refine AOps.call (o_move _ rfl rfl) ?_
        refine AOps.call (o_add _ _ rfl rfl ⟨by (try dsimp only); omega, by (try dsimp only); omega⟩ rfl) ?_
        refine AOps.call (o_assign _ rfl rfl) ?_
        refine AOps.nil ?_
        first
        | (obtain ⟨e1, e2⟩ := keep_step hij hjlt hLl hpre hsuf (by simpa [lateB] using hkeep)
           refine ⟨(i + 1, j + 1, L.set i l[j]), ?_, (Weak.mk' rfl ⟨⟨.refl rfl, rfl⟩, ⟨⟨.refl rfl, rfl⟩, ⟨⟨.refl rfl, rfl⟩, ⟨⟨.refl rfl, rfl⟩, trivial⟩⟩⟩⟩ ⟨⟨(congrArg some (dl_set hiL)), lowL_sc _ _ (tests_scs _), rfl⟩, trivial⟩ trivial)⟩
           exact ⟨⟨by simp only []; omega, by simp only []; omega, by rw [List.length_set]; exact hLl, e1, e2⟩, by simp only []; omega⟩)
        | (obtain ⟨e1, e2⟩ := skip_step (q := (fun t => decide (t.known ≤ day))) hjlt hpre hsuf (by simpa [lateB] using hkeep)
           refine ⟨(i, j + 1, L), ?_, (Weak.mk' rfl ⟨⟨.refl rfl, rfl⟩, ⟨⟨.refl rfl, rfl⟩, ⟨⟨.refl rfl, rfl⟩, ⟨⟨.refl rfl, rfl⟩, trivial⟩⟩⟩⟩ ⟨⟨rfl, lowL_sc _ _ (tests_scs _), rfl⟩, trivial⟩ trivial)⟩
           exact ⟨⟨by simp only []; omega, by simp only []; omega, hLl, e1, e2⟩, by simp only []; omega⟩)
      · skip
        have hkeep := h20
        refine AWP.skip ?_
        refine AWP.region ?_
        refine AOps.call (o_move _ rfl rfl) ?_
        refine AOps.call (o_add _ _ rfl rfl ⟨by (try dsimp only); omega, by (try dsimp only); omega⟩ rfl) ?_
        refine AOps.call (o_assign _ rfl rfl) ?_
        refine AOps.nil ?_
        first
        | (obtain ⟨e1, e2⟩ := keep_step hij hjlt hLl hpre hsuf (by simpa [lateB] using hkeep)
           refine ⟨(i + 1, j + 1, L.set i l[j]), ?_, (Weak.mk' rfl ⟨⟨.refl rfl, rfl⟩, ⟨⟨.refl rfl, rfl⟩, ⟨⟨.refl rfl, rfl⟩, ⟨⟨.refl rfl, rfl⟩, trivial⟩⟩⟩⟩ ⟨⟨(congrArg some (dl_set hiL)), lowL_sc _ _ (tests_scs _), rfl⟩, trivial⟩ trivial)⟩
           exact ⟨⟨by simp only []; omega, by simp only []; omega, by rw [List.length_set]; exact hLl, e1, e2⟩, by simp only []; omega⟩)
        | (obtain ⟨e1, e2⟩ := skip_step (q := (fun t => decide (t.known ≤ day))) hjlt hpre hsuf (by simpa [lateB] using hkeep)
           refine ⟨(i, j + 1, L), ?_, (Weak.mk' rfl ⟨⟨.refl rfl, rfl⟩, ⟨⟨.refl rfl, rfl⟩, ⟨⟨.refl rfl, rfl⟩, ⟨⟨.refl rfl, rfl⟩, trivial⟩⟩⟩⟩ ⟨⟨rfl, lowL_sc _ _ (tests_scs _), rfl⟩, trivial⟩ trivial)⟩
           exact ⟨⟨by simp only []; omega, by simp only []; omega, hLl, e1, e2⟩, by simp only []; omega⟩)
    · skip
      have hje : j = l.length := by have hq := of_decide_eq_false h11; omega
      have htL := tests_len L
      have hfin : L.take i = l.filter (fun t => decide (t.known ≤ day)) := by rw [hpre, hje, List.take_length]
      have hfl : (tests (l.filter (fun t => decide (t.known ≤ day)))).length = i := by rw [tests_len, ← hfin, List.length_take]; omega
      refine AWP.exit ?_
      refine AWP.seq ?_
      refine AWP.region ?_
      refine AOps.call (o_move _ rfl rfl) ?_
      refine AOps.call (o_move _ rfl rfl) ?_
      refine AOps.call (o_sliceLo (l := i) (o := i * 4) _ _ Tryd.underlying22 Tryd.sizeOf26 rfl (boundA_some rfl (by omega) (by omega)) (by omega) (by omega) (by omega) rfl) ?_
      refine AOps.cons (ok_clearA (z := 4) _ Tryd.underlying22 Tryd.zeroValue26 rfl rfl rfl rfl rfl (by omega) (by rw [flat_len _ testsZ]; omega) rfl) ?_
      refine AOps.nil ?_
      refine AWP.seq ?_
      refine AWP.region ?_
      refine AOps.call (o_move _ rfl rfl) ?_
      refine AOps.call (o_move _ rfl rfl) ?_
      refine AOps.call (o_sliceHi (h := i) _ _ Tryd.underlying22 Tryd.sizeOf26 rfl (boundA_some rfl (by omega) (by omega)) (by omega) rfl) ?_
      refine AOps.weak (Weak.frzP (id := (1000000, 0)) (t := 41) (z := 4) (es := tests (l.filter (fun t => decide (t.known ≤ day)))) rfl rfl (clr_closed (sc_self (tests_scs _)) rep_self) (fun j c h => clr_get hfin j c h) testsZ hfl) ?_
      refine AOps.call (o_assign _ rfl rfl) ?_
      refine AOps.nil ?_
      refine AWP.ret ?_
      exact postQC.ret Tryd.results104 rfl rfl

theorem DeleteFunc_s (l : List Tst) (day : Int) (hl : l.length ≤ 1000000) : FSpecC Tryd.prog 104 [.arr (1000000, 0) 0 (tests l).length (tests l).length, .clo 106 [.rd [I day]]] [(tests l).flatten] (.sl (tests (l.filter (fun t => decide (t.known ≤ day))))) := by
  rcases firstA_cases (p := lateB day) l 0 with ⟨h1, h2⟩ | ⟨i, h1, h2, h3⟩
  · rw [late_not] at h2; exact DeleteFunc_a l day hl h1 h2
  · rw [late_not] at h3; exact DeleteFunc_b l day i hl (by rw [h2, Nat.zero_add]) h1 h3.symm

set_option maxRecDepth 20000 in
theorem IndexFunc_nil (day : Int) : FSpec Tryd.prog 127 [.sl [], .clo 106 [.rd [I day]]] (I (-1)) (none) := by
  refine FSpec.of_body Tryd.func127 rfl (leB rfl) fun w0 M0 => ?_
  refine AWP.seq ?_
  refine AWP.region ?_
  refine AOps.call (o_assign _ rfl rfl) ?_
  refine AOps.nil ?_
  refine AWP.seq ?_
  refine AWP.seq ?_
  refine AWP.region ?_
  refine AOps.call (o_move _ rfl rfl) ?_
  refine AOps.call (o_len _ Tryd.underlying22 rfl rfl) ?_
  refine AOps.call (o_move _ rfl rfl) ?_
  refine AOps.nil ?_
  refine AWP.block ?_
  refine AWP.loop (ι := Nat) (fun i => AS.mk' 19 [(0, .sl []), (1, .clo 106 [.rd [I day]]), (7, I 0), (8, I i)] [] [] []) (fun i => i ≤ 0) (fun i => 0 - i) (0) (Weak.mk' rfl ⟨⟨.refl rfl, rfl⟩, ⟨⟨.refl rfl, rfl⟩, ⟨⟨.refl rfl, rfl⟩, ⟨⟨.refl rfl, rfl⟩, trivial⟩⟩⟩⟩ trivial trivial) (Nat.le_refl _) ?_
  rintro k hk
  try dsimp only at *
  refine AWP.seq ?_
  refine AWP.region ?_
  refine AOps.call (o_bin _ _ rfl rfl (fun _ => rfl) rfl) ?_
  refine AOps.nil ?_
  refine AWP.seq ?_
  refine AWP.cond _ rfl (fun h6 => ?_) (fun h6 => ?_)
  · skip
    exfalso
    simp at h6
    omega
  · skip
    refine AWP.exit ?_
    refine AWP.seq ?_
    refine AWP.region ?_
    refine AOps.call (o_assign _ rfl rfl) ?_
    refine AOps.nil ?_
    refine AWP.ret ?_
    exact postQ.ret1 Tryd.results127 rfl rfl

set_option maxRecDepth 20000 in
theorem DeleteFunc_nil (day : Int) : FSpec Tryd.prog 104 [.sl [], .clo 106 [.rd [I day]]] (.sl []) (none) := by
  refine FSpec.of_body Tryd.func104 rfl (leB rfl) fun w0 M0 => ?_
  refine AWP.seq ?_
  refine AWP.region ?_
  refine AOps.call (o_nil (z := 4) (e := 26) rfl) ?_
  refine AOps.nil ?_
  refine AWP.seq ?_
  refine AWP.region ?_
  refine AOps.call (o_move _ rfl rfl) ?_
  refine AOps.call (o_move _ rfl rfl) ?_
  refine AOps.call (o_call (IndexFunc_nil day) Tryd.call127 rfl rfl) ?_
  refine AOps.call (o_assign _ rfl rfl) ?_
  refine AOps.nil ?_
  refine AWP.seq ?_
  refine AWP.seq ?_
  refine AWP.region ?_
  refine AOps.call (o_move _ rfl rfl) ?_
  refine AOps.call (o_bin _ _ rfl rfl (fun _ => rfl) rfl) ?_
  refine AOps.nil ?_
  refine AWP.cond _ rfl (fun h6 => ?_) (fun h6 => ?_)
  · skip
    refine AWP.seq ?_
    refine AWP.region ?_
    refine AOps.call (o_move _ rfl rfl) ?_
    refine AOps.call (o_assign _ rfl rfl) ?_
    refine AOps.nil ?_
    refine AWP.ret ?_
    exact postQ.ret1 Tryd.results104 rfl rfl
  · skip
    exfalso
    simp at h6

set_option maxRecDepth 20000 in
theorem known_a (s : Scl) (day : Int) (hl : s.tests.length ≤ 1000000) (h0 : 0 < s.tests.length) : FSpec Tryd.prog 38 [.agg (eS s), I day] (.agg (eS (⟨s.no, s.rate, s.tests.filter (fun t => decide (t.known ≤ day))⟩ : Scl))) (none) := by
  refine FSpec.of_body Tryd.func38 rfl (leB rfl) fun w0 M0 => ?_
  refine AWP.seq ?_
  refine AWP.region ?_
  refine AOps.call (o_box _ rfl rfl rfl) ?_
  refine AOps.call (o_box _ rfl rfl rfl) ?_
  refine AOps.call (o_alloc ze24 rfl rfl) ?_
  refine AOps.nil ?_
  refine AWP.seq ?_
  refine AWP.region ?_
  refine AOps.call (o_fieldRef _ rfl fa24_2 rfl rfl) ?_
  refine AOps.call (o_loadRef _ rfl rfl Tryd.sizeOf22 Tryd.isAgg22 rfl rfl rfl) ?_
  refine AOps.call (o_callVar (Clone105_v s.tests hl h0) Tryd.call105 rfl rfl) ?_
  refine AOps.weak (Weak.frzv (id := (3, 0)) (t := 3) rfl rfl rfl) ?_
  refine AOps.call (o_makeClo rfl rfl) ?_
  refine AOps.cons (OpAnyM.seq (o_callC (7, 0) (.tmp 7) (DeleteFunc_s s.tests day hl) Tryd.call104 rfl rfl rfl (by exact closeL_self _ (sc_self (tests_scs _))) rfl)) ?_
  refine AOps.call (o_fieldRef _ rfl fa24_2 rfl rfl) ?_
  refine AOps.cons (o_store _ _ rfl rfl Tryd.sizeOf22 rfl rfl rfl rfl rfl) ?_
  refine AOps.nil ?_
  refine AWP.seq ?_
  refine AWP.region ?_
  refine AOps.call (o_loadRef _ rfl rfl Tryd.sizeOf24 Tryd.isAgg24 rfl rfl rfl) ?_
  refine AOps.cons (o_store _ _ rfl rfl Tryd.sizeOf24 rfl rfl rfl rfl rfl) ?_
  refine AOps.nil ?_
  refine AWP.ret ?_
  exact postQ.retC Tryd.results38 rfl rfl Tryd.sizeOf24 Tryd.isAgg24 rfl rfl

set_option maxRecDepth 20000 in
theorem known_b (no rate day : Int) : FSpec Tryd.prog 38 [.agg (eS ⟨no, rate, []⟩), I day] (.agg (eS ⟨no, rate, []⟩)) (none) := by
  refine FSpec.of_body Tryd.func38 rfl (leB rfl) fun w0 M0 => ?_
  refine AWP.seq ?_
  refine AWP.region ?_
  refine AOps.call (o_box _ rfl rfl rfl) ?_
  refine AOps.call (o_box _ rfl rfl rfl) ?_
  refine AOps.call (o_alloc ze24 rfl rfl) ?_
  refine AOps.nil ?_
  refine AWP.seq ?_
  refine AWP.region ?_
  refine AOps.call (o_fieldRef _ rfl fa24_2 rfl rfl) ?_
  refine AOps.call (o_loadRef _ rfl rfl Tryd.sizeOf22 Tryd.isAgg22 rfl rfl rfl) ?_
  refine AOps.call (o_call (Clone105_s [] (by simp)) Tryd.call105 rfl rfl) ?_
  refine AOps.weak (Weak.frzv (id := (3, 0)) (t := 3) rfl rfl rfl) ?_
  refine AOps.call (o_makeClo rfl rfl) ?_
  refine AOps.call (o_call (DeleteFunc_nil day) Tryd.call104 rfl rfl) ?_
  refine AOps.call (o_fieldRef _ rfl fa24_2 rfl rfl) ?_
  refine AOps.cons (o_store _ _ rfl rfl Tryd.sizeOf22 rfl rfl rfl rfl rfl) ?_
  refine AOps.nil ?_
  refine AWP.seq ?_
  refine AWP.region ?_
  refine AOps.call (o_loadRef _ rfl rfl Tryd.sizeOf24 Tryd.isAgg24 rfl rfl rfl) ?_
  refine AOps.cons (o_store _ _ rfl rfl Tryd.sizeOf24 rfl rfl rfl rfl rfl) ?_
  refine AOps.nil ?_
  refine AWP.ret ?_
  exact postQ.retC Tryd.results38 rfl rfl Tryd.sizeOf24 Tryd.isAgg24 rfl rfl

theorem known_s (s : Scl) (day : Int) (hl : s.tests.length ≤ 1000000) : FSpec Tryd.prog 38 [.agg (eS s), I day] (.agg (eS ⟨s.no, s.rate, knownL s day⟩)) none := by
  rcases Nat.eq_zero_or_pos s.tests.length with h | h
  · obtain ⟨no, rate, l⟩ := s
    obtain rfl : l = [] := List.length_eq_zero_iff.1 h
    exact known_b no rate day
  · exact known_a s day hl h

end Go.Proofs.YtphoomnonenalaaDoor
