import Derived.Test.YtphoomnonenalaaDoorSh
import Derived.Test.YtphoomnonenalaaDoorAbB
import Derived.Lib.ItoaLen
set_option linter.unusedSimpArgs false
set_option linter.unusedVariables false
namespace Go.Proofs.YtphoomnonenalaaDoor
open Go.Ab
def joinedS (sep : ByteArray) (l : List Int) : ByteArray := joinS (l.map itoaS) sep
theorem joinTail_len {m : Nat} {sep : List UInt8} : ∀ (r : List (List UInt8)), (∀ x ∈ r, x.length ≤ m) → (Lib.joinTail sep r).length ≤ r.length * (m + sep.length) := by
  intro r
  induction r with
  | nil => intro _; simp [Lib.joinTail]
  | cons x r ih =>
    intro h
    have h1 := ih fun y hy => h y (List.mem_cons_of_mem _ hy)
    have h2 := h x List.mem_cons_self
    simp only [Lib.joinTail, List.map_cons, List.flatten_cons, List.length_append, List.length_cons] at h1 ⊢
    rw [Nat.add_mul]; omega
theorem join_len {m : Nat} {sep : List UInt8} : ∀ (r : List (List UInt8)), (∀ x ∈ r, x.length ≤ m) → (Lib.join r sep).length ≤ r.length * (m + sep.length) := by
  intro r h
  cases r with
  | nil => simp [Lib.join_nil]
  | cons x r =>
    rw [Lib.join_cons, List.length_append]
    have h1 := joinTail_len (m := m) (sep := sep) r fun y hy => h y (List.mem_cons_of_mem _ hy)
    have h2 := h x List.mem_cons_self
    rw [List.length_cons, Nat.add_mul]; omega
theorem itoa_len {n : Int} (h0 : -9223372036854775808 ≤ n) (h1 : n ≤ 9223372036854775807) : (Lib.itoa n).length ≤ 21 := by
  unfold Lib.itoa
  split
  · have := Lib.nDigits_le20 n.natAbs (by omega)
    rw [List.length_cons, Lib.decDigits_length]; omega
  · have := Lib.nDigits_le20 n.toNat (by omega)
    rw [Lib.decDigits_length]; omega
theorem joined_lenN (sep : ByteArray) (l : List Int) (hs : sep.size ≤ 10) (hv : ∀ x ∈ l, -9223372036854775808 ≤ x ∧ x ≤ 9223372036854775807) : (Lib.join ((l.map itoaS).map (·.data.toList)) sep.data.toList).length ≤ l.length * 31 := by
  have h := join_len (m := 21) (sep := sep.data.toList) ((l.map itoaS).map (·.data.toList)) (by
    intro x hx
    simp only [List.map_map, List.mem_map, Function.comp] at hx
    obtain ⟨n, hn, rfl⟩ := hx
    exact itoa_len (hv n hn).1 (hv n hn).2)
  refine Nat.le_trans h ?_
  rw [List.length_map, List.length_map]
  exact Nat.mul_le_mul (Nat.le_refl _) (by have : sep.data.toList.length = sep.size := Array.length_toList
                                           omega)
theorem joined_len (sep : ByteArray) (l : List Int) (hl : l.length ≤ 1000) (hs : sep.size ≤ 10) (hv : ∀ x ∈ l, -9223372036854775808 ≤ x ∧ x ≤ 9223372036854775807) : (Lib.join ((l.map itoaS).map (·.data.toList)) sep.data.toList).length ≤ 140737488355328 := by
  have := joined_lenN sep l hs hv
  omega

set_option maxRecDepth 20000 in
theorem joined_s (sep : ByteArray) (l : List Int) (hl : l.length ≤ 1000) (hs : sep.size ≤ 10) (hv : ∀ x ∈ l, -9223372036854775808 ≤ x ∧ x ≤ 9223372036854775807) : FSpecG Tryd.prog TAB 120 [.sc (.string sep), .sl (ints l)] (.sc (.string (joinedS sep l))) (none) := by
  refine FSpecG.of_body tab_stable Tryd.func120 rfl (leB rfl) fun w0 M0 hG => ?_
  have hil := ints_len l
  refine AWP.seq ?_
  refine AWP.region ?_
  refine AOps.call (o_assign _ rfl rfl) ?_
  refine AOps.nil ?_
  refine AWP.seq ?_
  refine AWP.region ?_
  refine AOps.call (o_move _ rfl rfl) ?_
  refine AOps.call (o_len _ Tryd.underlying45 rfl rfl) ?_
  refine AOps.mkarr (n := l.length) (zs := [.string ⟨#[]⟩]) (cs := (l.take 0).map (fun x => AV.sc (.string (itoaS x))) ++ List.replicate (l.length - 0) (.sc (.string ⟨#[]⟩))) _ _ Tryd.underlying135 info9 rfl rfl rfl rfl rfl rfl rfl rfl rfl (by rw [ints_len]) (by omega) rfl rfl (by simp [flat_rep1]) ?_
  refine AOps.call (o_assign _ rfl rfl) ?_
  refine AOps.nil ?_
  refine AWP.seq ?_
  refine AWP.seq ?_
  refine AWP.region ?_
  refine AOps.call (o_move _ rfl rfl) ?_
  refine AOps.call (o_len _ Tryd.underlying45 rfl rfl) ?_
  refine AOps.call (o_move _ rfl rfl) ?_
  refine AOps.nil ?_
  refine AWP.block ?_
  refine AWP.loop (ι := Nat) (fun i => AS.mk' 27 [(0, .sc (.string sep)), (5, .arr (10, 0) 0 l.length l.length), (11, .sl (ints l)), (12, I (ints l).length), (13, I i)] [((10, 0), (l.take i).map (fun x => AV.sc (.string (itoaS x))) ++ List.replicate (l.length - i) (.sc (.string ⟨#[]⟩)))] [] [(10, 1)]) (fun i => i ≤ l.length) (fun i => l.length - i) (0) (Weak.mk' rfl ⟨⟨.refl rfl, rfl⟩, ⟨⟨.refl rfl, rfl⟩, ⟨⟨.refl rfl, rfl⟩, ⟨⟨.refl rfl, rfl⟩, ⟨⟨.refl rfl, rfl⟩, trivial⟩⟩⟩⟩⟩ ⟨⟨rfl, lowL_fillV _ (fun x => Value.string (itoaS x)) _ _ _, rfl⟩, trivial⟩ trivial) (Nat.zero_le _) ?_
  rintro k hk
  try dsimp only at *
  refine AWP.seq ?_
  refine AWP.region ?_
  refine AOps.call (o_bin _ _ rfl rfl (fun _ => rfl) rfl) ?_
  refine AOps.nil ?_
  refine AWP.seq ?_
  refine AWP.cond _ rfl (fun h9 => ?_) (fun h9 => ?_)
  · skip
    have hlt : k < l.length := by simpa [ints] using h9
    have hel := ints_get hlt
    refine AWP.skip ?_
    refine AWP.seq ?_
    refine AWP.block ?_
    refine AWP.seq ?_
    refine AWP.region ?_
    refine AOps.call (o_move _ rfl rfl) ?_
    refine AOps.call (o_index _ _ Tryd.underlying45 Tryd.sizeOf3 rfl rfl (by omega) (by assumption) rfl rfl) ?_
    refine AOps.call (o_loadRd _ rfl Tryd.sizeOf3 Tryd.isAgg3 rfl rfl rfl) ?_
    refine AOps.call (o_assign _ rfl rfl) ?_
    refine AOps.call (o_assign _ rfl rfl) ?_
    refine AOps.nil ?_
    refine AWP.region ?_
    refine AOps.call (o_move _ rfl rfl) ?_
    refine AOps.call (o_move _ rfl rfl) ?_
    refine AOps.call (o_move _ rfl rfl) ?_
    refine AOps.call (o_callG (Itoa_s l[k] (hv _ (List.getElem_mem hlt)).1 (hv _ (List.getElem_mem hlt)).2) hG Tryd.call130 rfl rfl) ?_
    refine AOps.call (o_indexArr (o := k) _ _ Tryd.underlying135 Tryd.sizeOf9 rfl rfl (by omega) (by omega) (by simp) rfl) ?_
    refine AOps.cons (o_storeE _ _ rfl rfl Tryd.sizeOf9 rfl rfl (by simp; omega) (fill_at _ _ _ hlt) rfl) ?_
    refine AOps.nil ?_
    refine AWP.region ?_
    refine AOps.call (o_add _ _ rfl rfl ⟨by (try dsimp only); omega, by (try dsimp only); omega⟩ rfl) ?_
    refine AOps.call (o_move _ rfl rfl) ?_
    refine AOps.nil ?_
    refine ⟨k + 1, ?_, (Weak.mk' rfl ⟨⟨.refl rfl, rfl⟩, ⟨⟨.refl rfl, rfl⟩, ⟨⟨.refl rfl, rfl⟩, ⟨⟨.refl rfl, rfl⟩, ⟨⟨.refl rfl, rfl⟩, trivial⟩⟩⟩⟩⟩ ⟨⟨rfl, lowL_fillV _ (fun x => Value.string (itoaS x)) _ _ _, rfl⟩, trivial⟩ trivial)⟩
    exact ⟨by omega, by omega⟩
  · skip
    have hkl : k = l.length := by simp [ints] at h9 hk; omega
    subst hkl
    refine AWP.weak (Weak.frz (id := (10, 0)) (t := 5) (z := 1) (es := strs (l.map itoaS)) (cs' := l.map (fun x => AV.sc (.string (itoaS x)))) rfl rfl (by rw [List.take_length, Nat.sub_self, List.replicate_zero, List.append_nil]; exact closeL_sc (fun x => Value.string (itoaS x)) _) (by unfold strs; rw [flat1, List.map_map]; rfl) strs_z (by rw [strs_len, List.length_map])) ?_
    refine AWP.exit ?_
    refine AWP.seq ?_
    refine AWP.region ?_
    refine AOps.call (o_move _ rfl rfl) ?_
    refine AOps.call (o_move _ rfl rfl) ?_
    refine AOps.call (o_call (Join_s (l.map itoaS) sep (by rw [List.length_map]; omega) (joined_len sep l hl hs hv)) Tryd.call122 rfl rfl) ?_
    refine AOps.call (o_assign _ rfl rfl) ?_
    refine AOps.nil ?_
    refine AWP.ret ?_
    exact postQ.ret1 Tryd.results120 rfl rfl

end Go.Proofs.YtphoomnonenalaaDoor
