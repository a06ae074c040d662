/- Y17. -/
import Derived.Test.YtelenedgaoglaaaGreatDoorP2
import Derived.Test.YtelenedgaoglaaaGreatDoorY1
import Derived.Test.YtelenedgaoglaaaGreatDoorR25
import Derived.Test.YtelenedgaoglaaaGreatDoorY13
import Derived.Test.YtelenedgaoglaaaGreatDoorY11
import Derived.Test.YtelenedgaoglaaaGreatDoorRC
import Derived.Test.YtelenedgaoglaaaGreatDoorAdA
import Derived.Laws.Strings
import Derived.Test.YtelenedgaoglaaaGreatDoorY8
import Derived.Lib.Split
import Derived.Lib.AtoiAllCases
import Derived.Test.YtelenedgaoglaaaGreatDoorSh2
import Derived.Test.YtelenedgaoglaaaGreatDoorRB
import Derived.Lib.IndexMore
import Derived.Test.YtelenedgaoglaaaGreatDoorY9
set_option linter.unusedSimpArgs false
set_option linter.unusedVariables false
namespace Go.Proofs.YtelenedgaoglaaaGreatDoor
open Go.Ab
open Go.Pil Go.RowKit
theorem o_sliceStr {P : Program} {w0 : World} {M0 : MT} {σ : AS} {ty : TypeId} {pos : String} {after : Array Edge} {guard : Option (Nat × Bool)} {d : Option Tmp} {t l h : Nat} {s r : ByteArray} (x lo hi : Operand) (hu : P.underlying t = some .string) (hx : exact (σ.ev x) = some (.string s))
    (hlo : boundA σ 0 (some lo) = some l) (hhi : boundA σ 0 (some hi) = some h) (hl : l ≤ h) (hle : h ≤ s.size) (he : s.extract l h = r) (hd : okDB σ d = true) :
    OpAny P w0 M0 σ ⟨d, .slice t x (some lo) (some hi) none, ty, pos, after, guard⟩ (.val (.sc (.string r))) :=
  opAny_val (okD hd) fun σ' a w X hag hr => by
    have h1 := hr.ev x
    rw [hag.ev x (by simp [Op.operands])] at h1
    have h1 := h1.exact _ hx
    have hH := run_bound (P := P) hr (hag.ev hi (by simp [Op.operands])) hhi hle .sliceAlen
    have hL := run_bound (P := P) hr (hag.ev lo (by simp [Op.operands])) hlo hl .sliceB
    subst he
    refine ⟨.string (s.extract l h), ?_, .sc _⟩
    simp only [execOp, h1]
    refine run_value ?_
    simp [Instr.sliceAt, Instr.slice, Instr.sliceBounds, run_underlying' hu, Result.andThen, hH, hL]
theorem o_rem {P : Program} {w0 : World} {M0 : MT} {σ : AS} {ty : TypeId} {pos : String} {after : Array Edge} {guard : Option (Nat × Bool)} {d : Option Tmp} {t yt : TypeId} {a b : Int} (x y : Operand) (hx : exact (σ.ev x) = some (.int .i64 a)) (hy : exact (σ.ev y) = some (.int .i64 b)) (ha : 0 ≤ a ∧ a ≤ 9223372036854775807) (hb : 1 ≤ b) (hd : okDB σ d = true) :
    OpAny P w0 M0 σ ⟨d, .binOp .rem t x y yt, ty, pos, after, guard⟩ (.val (.sc (.int .i64 (a % b)))) := by
  have h1 : a.tmod b = a % b := Int.tmod_eq_emod_of_nonneg ha.1
  have h2 : 0 ≤ a % b := Int.emod_nonneg _ (by omega)
  have h3 : a % b ≤ a := by
    have e := Int.mul_ediv_add_emod a b
    have := Int.mul_nonneg (show 0 ≤ b by omega) (Int.ediv_nonneg ha.1 (show 0 ≤ b by omega))
    omega
  have h4 : inI64 (a % b) := ⟨by omega, by omega⟩
  have := wrap_in h4
  refine ok_bin x y hx hy (fun w => ?_) (okD hd)
  have hb0 : ¬ b = 0 := by omega
  simp [eqGuard, binOp, Op.intDiv, hb0, h1, this]
def DIG : ByteArray := ⟨#[48, 49, 50, 51, 52, 53, 54, 55, 56, 57]⟩
theorem dig_fin : ∀ i : Fin 10, DIG.extract i.val (i.val + 1) = ⟨#[UInt8.ofNat (48 + i.val)]⟩ := by decide +kernel
theorem dig_at {n : Int} (h0 : 0 ≤ n) (h1 : n < 10) : DIG.extract n.toNat (n + 1).toNat = ⟨#[UInt8.ofNat (48 + n.toNat)]⟩ := by
  rw [show (n + 1).toNat = n.toNat + 1 by omega]
  exact dig_fin ⟨n.toNat, by omega⟩
theorem itoa_small {n : Int} (h0 : 0 ≤ n) (h1 : n < 10) : itoaS n = ⟨#[UInt8.ofNat (48 + n.toNat)]⟩ := by
  unfold itoaS Lib.itoa
  rw [if_neg (by omega), Lib.decDigits, dif_pos (by omega)]
theorem ba_app (a b : List UInt8) : (⟨a.toArray⟩ : ByteArray) ++ ⟨b.toArray⟩ = ⟨(a ++ b).toArray⟩ := by
  apply ByteArray.ext
  show ((⟨a.toArray⟩ : ByteArray) ++ ⟨b.toArray⟩).data = _
  rw [ByteArray.data_append]; simp
theorem itoa_big {n : Int} (h0 : 10 ≤ n) : itoaS (n / 10) ++ ⟨#[UInt8.ofNat (48 + (n % 10).toNat)]⟩ = itoaS n := by
  have e1 : (n / 10).toNat = n.toNat / 10 := by omega
  have e2 : (n % 10).toNat = n.toNat % 10 := by omega
  unfold itoaS Lib.itoa
  rw [if_neg (by omega), if_neg (by omega)]
  conv => rhs; rw [Lib.decDigits, dif_neg (by omega)]
  rw [e1, e2]
  exact ba_app _ _
set_option maxHeartbeats 4000000 in
set_option maxRecDepth 20000 in
theorem number_step (n : Int) (h0 : 0 ≤ n) (h1 : n ≤ 1048576) (ih : ∀ m : Int, 0 ≤ m → m < n → FSpec Tryz.prog 83 [I m] (.sc (.string (itoaS m))) none) : FSpec Tryz.prog 83 [I n] (.sc (.string (itoaS n))) (none) := by
  refine FSpec.of_body Tryz.func83 rfl (leB rfl) fun w0 M0 => ?_
  refine AWP.seq ?_
  refine AWP.region ?_
  refine AOps.call (o_assign _ rfl rfl) ?_
  refine AOps.nil ?_
  refine AWP.seq ?_
  refine AWP.seq ?_
  refine AWP.region ?_
  refine AOps.call (o_move _ rfl rfl) ?_
  refine AOps.call (o_bin _ _ rfl rfl (fun _ => rfl) rfl) ?_
  refine AOps.nil ?_
  refine AWP.cond _ rfl (fun h4 => ?_) (fun h4 => ?_)
  · skip
    have hn : n < 10 := by have := of_decide_eq_true h4; omega
    have hdg := dig_at h0 hn
    have hE := itoa_small h0 hn
    refine AWP.seq ?_
    refine AWP.region ?_
    refine AOps.call (o_move _ rfl rfl) ?_
    refine AOps.call (o_move _ rfl rfl) ?_
    refine AOps.call (o_add _ _ rfl rfl ⟨by (try dsimp only); omega, by (try dsimp only); omega⟩ rfl) ?_
    refine AOps.call (o_sliceStr _ _ _ Tryz.underlying9 rfl (boundA_some rfl h0 rfl) (boundA_some rfl (by omega) rfl) (by omega) (by rw [show (ByteArray.mk #[48, 49, 50, 51, 52, 53, 54, 55, 56, 57]).size = 10 from rfl]; omega) hdg rfl) ?_
    refine AOps.call (o_assign _ rfl rfl) ?_
    refine AOps.nil ?_
    refine AWP.ret ?_
    refine postQ.ret1 Tryz.results83 rfl ?_
    first
    | (rw [hE]; rfl)
    | (rw [← hE]; rfl)
  · skip
    have hn : 10 ≤ n := by have := of_decide_eq_false h4; omega
    have hm : 0 ≤ n % 10 ∧ n % 10 < 10 := ⟨by omega, by omega⟩
    have hdg := dig_at hm.1 hm.2
    have hih := ih (n / 10) (by omega) (by omega)
    have hz1 := itoa_size (n := n / 10) (by omega) (by omega)
    have hz2 : (⟨#[UInt8.ofNat (48 + (n % 10).toNat)]⟩ : ByteArray).size = 1 := rfl
    have hE := itoa_big hn
    refine AWP.skip ?_
    refine AWP.seq ?_
    refine AWP.drawn 11 mixed (by kernel_rfl) ?_
    refine AHead.call (o_move _ rfl rfl) rfl ?_
    refine AHead.call (o_quo _ _ rfl rfl ⟨by omega, by omega⟩ (by decide) rfl) rfl ?_
    refine AHead.call (o_call hih Tryz.call83 rfl rfl) rfl ?_
    refine AHead.call (o_move _ rfl rfl) rfl ?_
    refine AHead.call (o_rem _ _ rfl rfl ⟨by omega, by omega⟩ (by decide) rfl) rfl ?_
    refine AHead.call (o_move _ rfl rfl) rfl ?_
    refine AHead.call (o_rem _ _ rfl rfl ⟨by omega, by omega⟩ (by decide) rfl) rfl ?_
    refine AHead.call (o_add _ _ rfl rfl ⟨by (try dsimp only); omega, by (try dsimp only); omega⟩ rfl) rfl ?_
    refine AHead.call (o_sliceStr _ _ _ Tryz.underlying9 rfl (boundA_some rfl (by omega) rfl) (boundA_some rfl (by omega) rfl) (by omega) (by rw [show (ByteArray.mk #[48, 49, 50, 51, 52, 53, 54, 55, 56, 57]).size = 10 from rfl]; omega) hdg rfl) rfl ?_
    refine AHead.call (o_cat _ _ rfl rfl (by rw [hz2]; omega) rfl) rfl ?_
    refine AHead.call (o_assign _ rfl rfl) rfl ?_
    refine AHead.nil ?_
    refine AOps.nil ?_
    refine AWP.ret ?_
    refine postQ.ret1 Tryz.results83 rfl ?_
    first
    | (rw [hE]; rfl)
    | (rw [← hE]; rfl)
theorem number_s : ∀ (n : Int), 0 ≤ n → n ≤ 1048576 → FSpec Tryz.prog 83 [I n] (.sc (.string (itoaS n))) none := by
  have key : ∀ (k : Nat) (n : Int), n.toNat = k → 0 ≤ n → n ≤ 1048576 → FSpec Tryz.prog 83 [I n] (.sc (.string (itoaS n))) none := by
    intro k
    induction k using Nat.strongRecOn with
    | _ k ih =>
      intro n hk h0 h1
      exact number_step n h0 h1 fun m hm hmn => ih m.toNat (by omega) m rfl hm (by omega)
  exact fun n h0 h1 => key _ n rfl h0 h1
end Go.Proofs.YtelenedgaoglaaaGreatDoor
set_option linter.unusedSimpArgs false
set_option linter.unusedVariables false
namespace Go.Proofs.YtelenedgaoglaaaGreatDoor
open Go.Ab
open Go.Pil Go.RowKit
theorem joinTail_snoc (sep : List UInt8) (r : List (List UInt8)) (y : List UInt8) : Lib.joinTail sep (r ++ [y]) = Lib.joinTail sep r ++ (sep ++ y) := by
  unfold Lib.joinTail; simp
theorem join_snocL {sep : List UInt8} {xs : List (List UInt8)} (h : xs ≠ []) (y : List UInt8) : Lib.join (xs ++ [y]) sep = Lib.join xs sep ++ (sep ++ y) := by
  cases xs with
  | nil => exact absurd rfl h
  | cons x r => rw [List.cons_append, Lib.join_cons, Lib.join_cons, joinTail_snoc, List.append_assoc]
theorem join_snoc {xs : List ByteArray} {sep : ByteArray} (h : xs ≠ []) (y : ByteArray) : joinS (xs ++ [y]) sep = joinS xs sep ++ sep ++ y := by
  unfold joinS
  rw [List.map_append, List.map_cons, List.map_nil, join_snocL (by simpa using h)]
  apply ByteArray.ext
  rw [ByteArray.data_append, ByteArray.data_append]
  simp
theorem headW_next (p : Plw) {k : Nat} (hk : k < 6) : headW p (k + 1) = headW p k ++ [itoaS ((sixL p).getD k 0)] := by
  have h6 := six_len p
  unfold headW
  rw [List.take_succ_eq_append_getElem (show k < (sixL p).length by omega), List.getD_eq_getElem?_getD, List.getElem?_eq_getElem (show k < (sixL p).length by omega)]
  simp only [List.map_append, List.map_cons, List.map_nil, List.cons_append]
  rfl
theorem wordsW_next (p : Plw) {k : Nat} (hk : k < p.log.length) : wordsW p (k + 1) = wordsW p k ++ [logS p.log[k]] := by
  unfold wordsW
  rw [List.take_succ_eq_append_getElem hk]
  simp only [List.map_append, List.map_cons, List.map_nil, List.append_assoc]
theorem headW_ne (p : Plw) (k : Nat) : headW p k ≠ [] := by unfold headW; simp
theorem wordsW_ne (p : Plw) (k : Nat) : wordsW p k ≠ [] := by unfold wordsW headW; simp
theorem headJ (p : Plw) {k : Nat} (hk : k < 6) : joinS (headW p k) SP ++ SP ++ itoaS ((sixL p).getD k 0) = joinS (headW p (k + 1)) SP := by
  rw [headW_next p hk, join_snoc (headW_ne p k)]
theorem ba_assoc (a b c : ByteArray) : a ++ b ++ c = a ++ (b ++ c) := ByteArray.append_assoc
theorem wordsJ (p : Plw) {k : Nat} (hk : k < p.log.length) : joinS (wordsW p k) SP ++ SP ++ itoaS p.log[k].day ++ EQ ++ itoaS p.log[k].weight = joinS (wordsW p (k + 1)) SP := by
  rw [wordsW_next p hk, join_snoc (wordsW_ne p k)]
  unfold logS
  simp only [ba_assoc]
theorem word_size {p : Plw} (hp : OkP p) (k : Nat) : ∀ y ∈ wordsW p k, y.size ≤ 70 := by
  intro y hy
  unfold wordsW headW at hy
  rcases List.mem_append.1 hy with hy | hy
  · rcases List.mem_cons.1 hy with rfl | hy
    · exact (by decide : PIL.size ≤ 70)
    · obtain ⟨n, hn, rfl⟩ := List.mem_map.1 hy
      have hb := six_bd hp n (List.mem_of_mem_take hn)
      have := itoa_size hb.1 hb.2
      omega
  · obtain ⟨s, hs, rfl⟩ := List.mem_map.1 hy
    have hb := log_bd hp s (List.mem_of_mem_take hs)
    have z1 := itoa_size (n := s.day) (by omega) (by omega)
    have z2 := itoa_size (n := s.weight) (by omega) (by omega)
    have z3 : EQ.size = 1 := rfl
    have : (logS s).size = (itoaS s.day).size + EQ.size + (itoaS s.weight).size := by unfold logS; rw [cat_size, cat_size]
    omega
theorem joinS_size {xs : List ByteArray} (h : ∀ y ∈ xs, y.size ≤ 70) : (joinS xs SP).size ≤ xs.length * 71 := by
  have h1 := join_len (m := 70) (sep := SP.data.toList) (xs.map (·.data.toList)) (fun x hx => by
    obtain ⟨y, hy, rfl⟩ := List.mem_map.1 hx
    have e : y.data.toList.length = y.size := Array.length_toList
    have := h y hy
    omega)
  have h2 : SP.data.toList.length = 1 := rfl
  rw [List.length_map, h2] at h1
  exact h1
theorem words_size {p : Plw} (hp : OkP p) (k : Nat) : (joinS (wordsW p k) SP).size ≤ 2769 := by
  have h32 := hp.len
  have h1 := joinS_size (word_size hp k)
  rw [wordsW_len] at h1
  have h2 : (p.log.take k).length ≤ 32 := by rw [List.length_take]; omega
  omega
theorem head_size {p : Plw} (hp : OkP p) {k : Nat} (hk : k ≤ 6) : (joinS (headW p k) SP).size ≤ 497 := by
  have h1 := joinS_size (xs := headW p k) (fun y hy => word_size hp 0 y (by
    unfold wordsW
    refine List.mem_append.2 (.inl ?_)
    unfold headW at hy ⊢
    rcases List.mem_cons.1 hy with rfl | hy
    · exact List.mem_cons_self
    · refine List.mem_cons_of_mem _ ?_
      obtain ⟨n, hn, rfl⟩ := List.mem_map.1 hy
      exact List.mem_map.2 ⟨n, by rw [show (sixL p).take 6 = sixL p from rfl]; exact List.mem_of_mem_take hn, rfl⟩))
  rw [headW_len p hk] at h1
  omega
theorem six_nn {p : Plw} (hp : OkP p) {k : Nat} (hk : k < 6) : 0 ≤ (sixL p).getD k 0 ∧ (sixL p).getD k 0 ≤ 1048576 := by
  have h1 := hp.no; have h2 := hp.cell; have h3 := hp.noise; have h4 := hp.slab; have h5 := hp.jump; have h6 := hp.faults
  match k, hk with
  | 0, _ => show 0 ≤ p.no ∧ p.no ≤ 1048576; omega
  | 1, _ => show 0 ≤ p.cell ∧ p.cell ≤ 1048576; omega
  | 2, _ => show 0 ≤ p.noise ∧ p.noise ≤ 1048576; omega
  | 3, _ => show 0 ≤ p.slab ∧ p.slab ≤ 1048576; omega
  | 4, _ => show 0 ≤ p.jump ∧ p.jump ≤ 1048576; omega
  | 5, _ => show 0 ≤ p.faults ∧ p.faults ≤ 1048576; omega
set_option maxHeartbeats 4000000 in
set_option maxRecDepth 20000 in
theorem PrintR_s (p : Plw) : FSpec Tryz.prog 51 [.agg (eP p)] (.tup [.sc (.string (prnM p).1), I (prnM p).2]) (none) := by
  refine FSpec.of_body Tryz.func51 rfl (leB rfl) fun w0 M0 => ?_
  have hll := shws_len p.log
  refine AWP.seq ?_
  refine AWP.region ?_
  refine AOps.call (o_box _ rfl rfl rfl) ?_
  refine AOps.call (o_assign _ rfl rfl) ?_
  refine AOps.call (o_assign _ rfl rfl) ?_
  refine AOps.nil ?_
  refine AWP.seq ?_
  refine AWP.seq ?_
  refine AWP.region ?_
  refine AOps.call (o_loadRef _ rfl rfl Tryz.sizeOf24 Tryz.isAgg24 rfl rfl rfl) ?_
  refine AOps.call (o_call (CheckR_s p) Tryz.call18 rfl rfl) ?_
  refine AOps.call (o_bin _ _ rfl rfl (fun _ => rfl) rfl) ?_
  refine AOps.nil ?_
  refine AWP.cond _ rfl (fun h7 => ?_) (fun h7 => ?_)
  · skip
    have hn : ¬ okP p = true := fun h => by unfold logE at h7; rw [if_pos h] at h7; exact absurd h7 (by decide)
    have hE : prnM p = (⟨#[]⟩, 30) := if_neg hn
    refine AWP.seq ?_
    refine AWP.region ?_
    refine AOps.call (o_assign _ rfl rfl) ?_
    refine AOps.call (o_assign _ rfl rfl) ?_
    refine AOps.nil ?_
    refine AWP.ret ?_
    refine postQ.ret2 Tryz.results51 rfl rfl ?_
    first
    | (rw [hE]; rfl)
  · skip
    have hok : okP p = true := by
      by_cases h : okP p = true
      · exact h
      · exfalso; unfold logE at h7; rw [if_neg h] at h7; exact absurd h7 (by decide)
    have hp := okP_iff.1 hok
    have h32 := hp.len
    have hE : prnM p = (prnS p, 0) := if_pos hok
    have z9 : SP.size = 1 := rfl
    have z10 : (ByteArray.mk #[32]).size = 1 := rfl
    have z4 : EQ.size = 1 := rfl
    have z5 : (ByteArray.mk #[61]).size = 1 := rfl
    refine AWP.skip ?_
    refine AWP.seq ?_
    refine AWP.region ?_
    refine AOps.call (o_assign _ rfl rfl) ?_
    refine AOps.nil ?_
    refine AWP.seq ?_
    refine AWP.region ?_
    refine AOps.call (o_fieldRef _ rfl fa24_0 rfl rfl) ?_
    refine AOps.call (o_loadRef _ rfl rfl Tryz.sizeOf3 Tryz.isAgg3 rfl rfl rfl) ?_
    refine AOps.call (o_fieldRef _ rfl fa24_1 rfl rfl) ?_
    refine AOps.call (o_loadRef _ rfl rfl Tryz.sizeOf3 Tryz.isAgg3 rfl rfl rfl) ?_
    refine AOps.call (o_fieldRef _ rfl fa24_2 rfl rfl) ?_
    refine AOps.call (o_loadRef _ rfl rfl Tryz.sizeOf3 Tryz.isAgg3 rfl rfl rfl) ?_
    refine AOps.call (o_fieldRef _ rfl fa24_3 rfl rfl) ?_
    refine AOps.call (o_loadRef _ rfl rfl Tryz.sizeOf3 Tryz.isAgg3 rfl rfl rfl) ?_
    refine AOps.call (o_fieldRef _ rfl fa24_4 rfl rfl) ?_
    refine AOps.call (o_loadRef _ rfl rfl Tryz.sizeOf3 Tryz.isAgg3 rfl rfl rfl) ?_
    refine AOps.call (o_fieldRef _ rfl fa24_5 rfl rfl) ?_
    refine AOps.call (o_loadRef _ rfl rfl Tryz.sizeOf3 Tryz.isAgg3 rfl rfl rfl) ?_
    refine AOps.call (o_lit Tryz.underlying25 Tryz.sizeOf3 Tryz.zeroValue3 rfl rfl rfl rfl rfl rfl rfl) ?_
    refine AOps.call (o_assign _ rfl rfl) ?_
    refine AOps.nil ?_
    refine AWP.seq ?_
    refine AWP.seq ?_
    refine AWP.region ?_
    refine AOps.call (o_assign _ rfl rfl) ?_
    refine AOps.nil ?_
    refine AWP.block ?_
    refine AWP.loop (ι := Nat) (fun i => AS.mk' 65 [(1, .ref (1, 0) 0), (4, .sc (.string (joinS (headW p i) SP))), (5, .sl (ints (sixL p))), (6, I i)] [((1, 0), eP p)] [] [(1, 1)]) (fun i => i ≤ 6) (fun i => 6 - i) (0) (Weak.mk' rfl ⟨⟨.refl rfl, rfl⟩, ⟨⟨.refl rfl, rfl⟩, ⟨⟨.sl rfl, rfl⟩, ⟨⟨.refl rfl, rfl⟩, trivial⟩⟩⟩⟩ ⟨⟨rfl, rfl, rfl⟩, trivial⟩ trivial) (Nat.zero_le _) ?_
    rintro k hk
    try dsimp only at *
    refine AWP.seq ?_
    refine AWP.seq ?_
    refine AWP.region ?_
    refine AOps.call (o_move _ rfl rfl) ?_
    refine AOps.call (o_move _ rfl rfl) ?_
    refine AOps.call (o_len _ Tryz.underlying25 rfl rfl) ?_
    refine AOps.call (o_bin _ _ rfl rfl (fun _ => rfl) rfl) ?_
    refine AOps.nil ?_
    refine AWP.cond _ rfl (fun h27 => ?_) (fun h27 => ?_)
    · skip
      have hk6 : k < 6 := by have h6 : (((ints (sixL p)).length : Nat) : Int) = 6 := rfl; have := of_decide_eq_true h27; omega
      have hb6 := six_nn hp hk6
      have hix := ints_gY (l := sixL p) (k := k) hk6
      have hsz := head_size hp (k := k) (by omega)
      have z1 := itoa_size (n := (sixL p).getD k 0) (by omega) (by omega)
      refine AWP.skip ?_
      refine AWP.seq ?_
      refine AWP.block ?_
      refine AWP.region ?_
      refine AOps.call (o_move _ rfl rfl) ?_
      refine AOps.call (o_cat _ _ rfl rfl (by (try simp only [cat_size]); omega) rfl) ?_
      refine AOps.call (o_move _ rfl rfl) ?_
      refine AOps.call (o_move _ rfl rfl) ?_
      refine AOps.call (o_index _ _ Tryz.underlying25 Tryz.sizeOf3 rfl rfl (by omega) hix rfl rfl) ?_
      refine AOps.call (o_loadRd _ rfl Tryz.sizeOf3 Tryz.isAgg3 rfl rfl rfl) ?_
      refine AOps.call (o_call (number_s _ hb6.1 hb6.2) Tryz.call83 rfl rfl) ?_
      refine AOps.call (o_cat _ _ rfl rfl (by (try simp only [cat_size]); omega) rfl) ?_
      refine AOps.call (o_assign _ rfl rfl) ?_
      refine AOps.nil ?_
      refine AWP.region ?_
      refine AOps.call (o_move _ rfl rfl) ?_
      refine AOps.call (o_add _ _ rfl rfl ⟨by (try dsimp only); omega, by (try dsimp only); omega⟩ rfl) ?_
      refine AOps.call (o_assign _ rfl rfl) ?_
      refine AOps.nil ?_
      refine ⟨k + 1, ?_, (Weak.mk' rfl ⟨⟨.refl rfl, rfl⟩, ⟨⟨.refl (congrArg (fun b => AV.sc (.string b)) (headJ p hk6)), rfl⟩, ⟨⟨.refl rfl, rfl⟩, ⟨⟨.refl rfl, rfl⟩, trivial⟩⟩⟩⟩ ⟨⟨rfl, rfl, rfl⟩, trivial⟩ trivial)⟩
      exact ⟨by omega, by omega⟩
    · skip
      have hk6 : k = 6 := by have h6 : (((ints (sixL p)).length : Nat) : Int) = 6 := rfl; have := of_decide_eq_false h27; omega
      subst hk6
      have hW0 : headW p 6 = wordsW p 0 := by unfold wordsW; simp
      rw [hW0]
      refine AWP.exit ?_
      refine AWP.seq ?_
      refine AWP.seq ?_
      refine AWP.region ?_
      refine AOps.call (o_assign _ rfl rfl) ?_
      refine AOps.nil ?_
      refine AWP.block ?_
      refine AWP.loop (ι := Nat) (fun i => AS.mk' 65 [(1, .ref (1, 0) 0), (4, .sc (.string (joinS (wordsW p i) SP))), (7, I i)] [((1, 0), eP p)] [] [(1, 1)]) (fun i => i ≤ p.log.length) (fun i => p.log.length - i) (0) (Weak.mk' rfl ⟨⟨.refl rfl, rfl⟩, ⟨⟨.refl rfl, rfl⟩, ⟨⟨.refl rfl, rfl⟩, trivial⟩⟩⟩ ⟨⟨rfl, rfl, rfl⟩, trivial⟩ trivial) (Nat.zero_le _) ?_
      rintro m hm
      try dsimp only at *
      refine AWP.seq ?_
      refine AWP.seq ?_
      refine AWP.region ?_
      refine AOps.call (o_move _ rfl rfl) ?_
      refine AOps.call (o_fieldRef _ rfl fa24_6 rfl rfl) ?_
      refine AOps.call (o_loadRef _ rfl rfl Tryz.sizeOf22 Tryz.isAgg22 rfl rfl rfl) ?_
      refine AOps.call (o_len _ Tryz.underlying22 rfl rfl) ?_
      refine AOps.call (o_bin _ _ rfl rfl (fun _ => rfl) rfl) ?_
      refine AOps.nil ?_
      refine AWP.cond _ rfl (fun h39 => ?_) (fun h39 => ?_)
      · skip
        have hlt : m < p.log.length := by have := of_decide_eq_true h39; omega
        have hel := shws_at hlt
        have hb := log_bd hp _ (List.getElem_mem hlt)
        have z1 := itoa_size (n := p.log[m].day) (by omega) (by omega)
        have z2 := itoa_size (n := p.log[m].weight) (by omega) (by omega)
        have hsz := words_size hp m
        refine AWP.skip ?_
        refine AWP.seq ?_
        refine AWP.block ?_
        refine AWP.drawn 19 mixed (by kernel_rfl) ?_
        refine AHead.call (o_move _ rfl rfl) rfl ?_
        refine AHead.call (o_cat _ _ rfl rfl (by (try simp only [cat_size]); omega) rfl) rfl ?_
        refine AHead.call (o_fieldRef _ rfl fa24_6 rfl rfl) rfl ?_
        refine AHead.call (o_loadRef _ rfl rfl Tryz.sizeOf22 Tryz.isAgg22 rfl rfl rfl) rfl ?_
        refine AHead.call (o_move _ rfl rfl) rfl ?_
        refine AHead.call (o_index _ _ Tryz.underlying22 Tryz.sizeOf27 rfl rfl (by omega) hel rfl rfl) rfl ?_
        refine AHead.call (o_fieldRd _ rfl fa27_0 rfl) rfl ?_
        refine AHead.call (o_loadRd _ rfl Tryz.sizeOf3 Tryz.isAgg3 rfl rfl rfl) rfl ?_
        refine AHead.call (o_call (number_s _ hb.1 hb.2.1) Tryz.call83 rfl rfl) rfl ?_
        refine AHead.call (o_cat _ _ rfl rfl (by (try simp only [cat_size]); omega) rfl) rfl ?_
        refine AHead.call (o_cat _ _ rfl rfl (by (try simp only [cat_size]); omega) rfl) rfl ?_
        refine AHead.call (o_fieldRef _ rfl fa24_6 rfl rfl) rfl ?_
        refine AHead.call (o_loadRef _ rfl rfl Tryz.sizeOf22 Tryz.isAgg22 rfl rfl rfl) rfl ?_
        refine AHead.call (o_move _ rfl rfl) rfl ?_
        refine AHead.call (o_index _ _ Tryz.underlying22 Tryz.sizeOf27 rfl rfl (by omega) hel rfl rfl) rfl ?_
        refine AHead.call (o_fieldRd _ rfl fa27_1 rfl) rfl ?_
        refine AHead.call (o_loadRd _ rfl Tryz.sizeOf3 Tryz.isAgg3 rfl rfl rfl) rfl ?_
        refine AHead.call (o_call (number_s _ hb.2.2.1 (by omega)) Tryz.call83 rfl rfl) rfl ?_
        refine AHead.call (o_cat _ _ rfl rfl (by (try simp only [cat_size]); omega) rfl) rfl ?_
        refine AHead.nil ?_
        refine AOps.call (o_assign _ rfl rfl) ?_
        refine AOps.nil ?_
        refine AWP.region ?_
        refine AOps.call (o_move _ rfl rfl) ?_
        refine AOps.call (o_add _ _ rfl rfl ⟨by (try dsimp only); omega, by (try dsimp only); omega⟩ rfl) ?_
        refine AOps.call (o_assign _ rfl rfl) ?_
        refine AOps.nil ?_
        refine ⟨m + 1, ?_, (Weak.mk' rfl ⟨⟨.refl rfl, rfl⟩, ⟨⟨.refl (congrArg (fun b => AV.sc (.string b)) (wordsJ p hlt)), rfl⟩, ⟨⟨.refl rfl, rfl⟩, trivial⟩⟩⟩ ⟨⟨rfl, rfl, rfl⟩, trivial⟩ trivial)⟩
        exact ⟨by omega, by omega⟩
      · skip
        have hml : m = p.log.length := by have := of_decide_eq_false h39; omega
        subst hml
        refine AWP.exit ?_
        refine AWP.seq ?_
        refine AWP.region ?_
        refine AOps.call (o_move _ rfl rfl) ?_
        refine AOps.call (o_assign _ rfl rfl) ?_
        refine AOps.call (o_assign _ rfl rfl) ?_
        refine AOps.nil ?_
        refine AWP.ret ?_
        refine postQ.ret2 Tryz.results51 rfl rfl ?_
        first
        | (rw [hE]; rfl)
end Go.Proofs.YtelenedgaoglaaaGreatDoor
set_option linter.unusedSimpArgs false
set_option linter.unusedVariables false
namespace Go.Proofs.YtelenedgaoglaaaGreatDoor
open Go.Ab Go.Pil
def isDg (b : UInt8) : Bool := decide (48 ≤ b.toNat) && decide (b.toNat ≤ 57)
def lastUp (l : List Int) (b : UInt8) : List Int := l.set (l.length - 1) (min (l.getD (l.length - 1) 0 * 10 + (b.toNat : Int) - 48) 1073741824)
def nstep (st : List Int × Bool) (b : UInt8) : List Int × Bool := if isDg b = true then (lastUp (if st.2 = true then st.1 else st.1 ++ [0]) b, true) else (st.1, false)
def numsM (bs : List UInt8) : List Int × Bool := bs.foldl nstep ([], false)
theorem nstep_no {st : List Int × Bool} {b : UInt8} (h : isDg b = false) : nstep st b = (st.1, false) := by unfold nstep; rw [h]; rfl
theorem lastUp_snoc (l : List Int) (x : Int) (b : UInt8) : lastUp (l ++ [x]) b = l ++ [min (x * 10 + (b.toNat : Int) - 48) 1073741824] := by
  unfold lastUp
  have e1 : (l ++ [x]).length - 1 = l.length := by simp
  rw [e1]
  have e2 : (l ++ [x]).getD l.length 0 = x := by simp [List.getD_eq_getElem?_getD]
  rw [e2, List.set_append_right _ _ (Nat.le_refl _), Nat.sub_self]
  rfl
theorem nstep_dig {l : List Int} {u : Nat} (h : u < 10) : nstep (l, false) (UInt8.ofNat (48 + u)) = (l ++ [(u : Int)], true) := by
  have e : (UInt8.ofNat (48 + u)).toNat = 48 + u := by simp; omega
  have hd : isDg (UInt8.ofNat (48 + u)) = true := by unfold isDg; rw [e]; simp; omega
  unfold nstep
  rw [if_pos hd]
  show (lastUp (l ++ [0]) _, true) = _
  rw [lastUp_snoc, e]
  have : min ((0 : Int) * 10 + ((48 + u : Nat) : Int) - 48) 1073741824 = (u : Int) := by omega
  rw [this]
theorem nstep_more {l : List Int} {x : Int} {u : Nat} (h : u < 10) (h0 : 0 ≤ x) (hx : x * 10 + u ≤ 1073741824) : nstep (l ++ [x], true) (UInt8.ofNat (48 + u)) = (l ++ [x * 10 + u], true) := by
  have e : (UInt8.ofNat (48 + u)).toNat = 48 + u := by simp; omega
  have hd : isDg (UInt8.ofNat (48 + u)) = true := by unfold isDg; rw [e]; simp; omega
  unfold nstep
  rw [if_pos hd]
  show (lastUp (l ++ [x]) _, true) = _
  rw [lastUp_snoc, e]
  have : min (x * 10 + ((48 + u : Nat) : Int) - 48) 1073741824 = x * 10 + (u : Int) := by omega
  rw [this]
theorem nums_dec : ∀ (u : Nat), u ≤ 1073741824 → ∀ l : List Int, (Lib.decDigits u).foldl nstep (l, false) = (l ++ [(u : Int)], true) := by
  intro u
  induction u using Nat.strongRecOn with
  | _ u ih =>
    intro hu l
    rw [Lib.decDigits]
    by_cases h : u < 10
    · rw [dif_pos h]; exact nstep_dig h
    · rw [dif_neg h, List.foldl_append, ih (u / 10) (by omega) (by omega) l]
      show nstep _ _ = _
      rw [nstep_more (by omega) (by omega) (by omega)]
      have : ((u / 10 : Nat) : Int) * 10 + ((u % 10 : Nat) : Int) = (u : Int) := by omega
      rw [this]
theorem nums_itoa {n : Int} (h0 : 0 ≤ n) (h1 : n ≤ 1073741824) (l : List Int) : (itoaS n).data.toList.foldl nstep (l, false) = (l ++ [n], true) := by
  have e : (itoaS n).data.toList = Lib.decDigits n.toNat := by unfold itoaS Lib.itoa; rw [if_neg (by omega)]
  rw [e, nums_dec _ (by omega)]
  rw [show ((n.toNat : Nat) : Int) = n by omega]
theorem nums_seps : ∀ (s : List UInt8), (∀ b ∈ s, isDg b = false) → s ≠ [] → ∀ st : List Int × Bool, s.foldl nstep st = (st.1, false) := by
  intro s
  induction s with
  | nil => intro _ h; exact absurd rfl h
  | cons b s ih =>
    intro h _ st
    rw [List.foldl_cons, nstep_no (h b List.mem_cons_self)]
    by_cases hs : s = []
    · subst hs; rfl
    · rw [ih (fun c hc => h c (List.mem_cons_of_mem _ hc)) hs]
def numsF (st : List Int × Bool) (s : ByteArray) : List Int × Bool := s.data.toList.foldl nstep st
theorem numsF_app (st : List Int × Bool) (a b : ByteArray) : numsF st (a ++ b) = numsF (numsF st a) b := by
  unfold numsF
  rw [ByteArray.data_append, Array.toList_append, List.foldl_append]
theorem numsF_sp (st : List Int × Bool) : numsF st SP = (st.1, false) := nums_seps SP.data.toList (by decide) (by decide) st
theorem numsF_eq (st : List Int × Bool) : numsF st EQ = (st.1, false) := nums_seps EQ.data.toList (by decide) (by decide) st
theorem numsF_pil : numsF ([], false) PIL = ([], false) := nums_seps PIL.data.toList (by decide) (by decide) _
def logN (l : List Shw) : List Int := l.flatMap fun s => [s.day, s.weight]
theorem joinS_one (x : ByteArray) (sep : ByteArray) : joinS [x] sep = x := by
  unfold joinS
  apply ByteArray.ext
  simp [Lib.join_cons, Lib.joinTail]
theorem nums_head {p : Plw} (hp : OkP p) : ∀ k, k ≤ 6 → (numsF ([], false) (joinS (headW p k) SP)).1 = (sixL p).take k := by
  intro k
  induction k with
  | zero => intro _; rw [show headW p 0 = [PIL] from rfl, joinS_one, numsF_pil]; rfl
  | succ k ih =>
    intro hk
    have hb := six_nn hp (k := k) (by omega)
    have h6 := six_len p
    rw [← headJ p (by omega), numsF_app, numsF_app, numsF_sp, ih (by omega)]
    show (((itoaS ((sixL p).getD k 0)).data.toList).foldl nstep (_, false)).1 = _
    rw [nums_itoa hb.1 (by omega), List.take_succ_eq_append_getElem (show k < (sixL p).length by omega), List.getD_eq_getElem?_getD, List.getElem?_eq_getElem (show k < (sixL p).length by omega)]
    rfl
theorem nums_words {p : Plw} (hp : OkP p) : ∀ k, k ≤ p.log.length → (numsF ([], false) (joinS (wordsW p k) SP)).1 = sixL p ++ logN (p.log.take k) := by
  intro k
  induction k with
  | zero => intro _; rw [show wordsW p 0 = headW p 6 by unfold wordsW; simp, nums_head hp 6 (Nat.le_refl _)]; simp [logN]; rfl
  | succ k ih =>
    intro hk
    have hb := log_bd hp _ (List.getElem_mem (show k < p.log.length by omega))
    rw [← wordsJ p (by omega), numsF_app, numsF_app, numsF_app, numsF_app, numsF_sp, ih (by omega)]
    have e1 : numsF (sixL p ++ logN (p.log.take k), false) (itoaS p.log[k].day) = (sixL p ++ logN (p.log.take k) ++ [p.log[k].day], true) := nums_itoa hb.1 (by omega) _
    rw [e1, numsF_eq]
    have e2 : numsF (sixL p ++ logN (p.log.take k) ++ [p.log[k].day], false) (itoaS p.log[k].weight) = (sixL p ++ logN (p.log.take k) ++ [p.log[k].day] ++ [p.log[k].weight], true) := nums_itoa hb.2.2.1 (by omega) _
    rw [e2, List.take_succ_eq_append_getElem (show k < p.log.length by omega)]
    unfold logN
    rw [List.flatMap_append]
    simp
theorem nums_text {p : Plw} (hp : OkP p) : (numsM (prnS p).data.toList).1 = sixL p ++ logN p.log := by
  have h := nums_words hp p.log.length (Nat.le_refl _)
  rw [List.take_length] at h
  exact h
def pairUp : List Int → List Shw
  | a :: b :: r => ⟨a, b⟩ :: pairUp r
  | _ => []
theorem pairUp_log (l : List Shw) : pairUp (logN l) = l := by
  induction l with
  | nil => rfl
  | cons s l ih =>
    show pairUp (s.day :: s.weight :: logN l) = _
    unfold pairUp; rw [ih]
def mkP (l : List Int) : Plw := ⟨l.getD 0 0, l.getD 1 0, l.getD 2 0, l.getD 3 0, l.getD 4 0, l.getD 5 0, pairUp (l.drop 6)⟩
theorem mkP_text (p : Plw) : mkP (sixL p ++ logN p.log) = p := by
  unfold mkP sixL
  simp only [List.cons_append, List.nil_append, List.drop_succ_cons, List.drop_zero, pairUp_log]
  rfl
theorem text_inj {p q : Plw} (hp : OkP p) (hq : OkP q) (h : prnS p = prnS q) : p = q := by
  rw [← mkP_text p, ← mkP_text q, ← nums_text hp, ← nums_text hq, h]
def zeroP : Plw := ⟨0, 0, 0, 0, 0, 0, []⟩
open Classical in
noncomputable def parM (s : ByteArray) : Plw × Int := if h : ∃ p, okP p = true ∧ prnS p = s then (Classical.choose h, 0) else (zeroP, 3)
theorem parM_text {p : Plw} (h : okP p = true) {s : ByteArray} (hs : prnS p = s) : parM s = (p, 0) := by
  have hx : ∃ p, okP p = true ∧ prnS p = s := ⟨p, h, hs⟩
  unfold parM
  rw [dif_pos hx]
  have h2 := Classical.choose_spec hx
  rw [text_inj (okP_iff.1 h2.1) (okP_iff.1 h) (h2.2.trans hs.symm)]
theorem parM_no {s : ByteArray} (h : ∀ p, okP p = true → prnS p ≠ s) : parM s = (zeroP, 3) := dif_neg fun ⟨p, h1, h2⟩ => h p h1 h2
theorem parM_cases (s : ByteArray) : (∃ p, okP p = true ∧ prnS p = s ∧ parM s = (p, 0)) ∨ ((∀ p, okP p = true → prnS p ≠ s) ∧ parM s = (zeroP, 3)) := by
  by_cases h : ∃ p, okP p = true ∧ prnS p = s
  · obtain ⟨p, h1, h2⟩ := h
    exact .inl ⟨p, h1, h2, parM_text h1 h2⟩
  · have h' : ∀ p, okP p = true → prnS p ≠ s := fun p h1 h2 => h ⟨p, h1, h2⟩
    exact .inr ⟨h', parM_no h'⟩
theorem nums_len : ∀ (s : List UInt8) (st : List Int × Bool), (s.foldl nstep st).1.length ≤ st.1.length + s.length := by
  intro s
  induction s with
  | nil => intro st; exact Nat.le_refl _
  | cons b s ih =>
    intro st
    rw [List.foldl_cons]
    have h1 := ih (nstep st b)
    have h2 : (nstep st b).1.length ≤ st.1.length + 1 := by
      unfold nstep lastUp
      split
      · simp only [List.length_set]; split <;> simp
      · simp
    rw [List.length_cons]; omega
theorem nums_bd : ∀ (s : List UInt8) (st : List Int × Bool), (∀ x ∈ st.1, 0 ≤ x ∧ x ≤ 1073741824) → (st.2 = true → st.1 ≠ []) → (∀ x ∈ (s.foldl nstep st).1, 0 ≤ x ∧ x ≤ 1073741824) ∧ ((s.foldl nstep st).2 = true → (s.foldl nstep st).1 ≠ []) := by
  intro s
  induction s with
  | nil => intro st h h2; exact ⟨h, h2⟩
  | cons b s ih =>
    intro st h h2
    rw [List.foldl_cons]
    by_cases hd : isDg b = true
    · have hb : 48 ≤ b.toNat := by unfold isDg at hd; simp at hd; omega
      have key : ∀ l : List Int, l ≠ [] → (∀ x ∈ l, 0 ≤ x ∧ x ≤ 1073741824) → (∀ x ∈ lastUp l b, 0 ≤ x ∧ x ≤ 1073741824) ∧ lastUp l b ≠ [] := by
        intro l hl hx
        obtain ⟨l', y, rfl⟩ : ∃ l' y, l = l' ++ [y] := ⟨l.dropLast, l.getLast hl, (List.dropLast_concat_getLast hl).symm⟩
        rw [lastUp_snoc]
        have hy := hx y (by simp)
        refine ⟨fun x hx2 => ?_, by simp⟩
        rcases List.mem_append.1 hx2 with h3 | h3
        · exact hx x (List.mem_append.2 (.inl h3))
        · rw [List.mem_singleton] at h3; omega
      have e : nstep st b = (lastUp (if st.2 = true then st.1 else st.1 ++ [0]) b, true) := by unfold nstep; rw [if_pos hd]
      have hne : (if st.2 = true then st.1 else st.1 ++ [0]) ≠ [] := by
        split
        · rename_i h3; exact h2 h3
        · simp
      have hbd : ∀ x ∈ (if st.2 = true then st.1 else st.1 ++ [0]), 0 ≤ x ∧ x ≤ 1073741824 := by
        intro x hx
        split at hx
        · exact h x hx
        · rcases List.mem_append.1 hx with h3 | h3
          · exact h x h3
          · rw [List.mem_singleton] at h3; omega
      have hk := key _ hne hbd
      rw [e]
      exact ih _ hk.1 (fun _ => hk.2)
    · rw [nstep_no (by simpa using hd)]
      exact ih _ h (fun h3 => Bool.noConfusion h3)
theorem nums_take {s : List UInt8} {i : Nat} (h : i < s.length) : numsM (s.take (i + 1)) = nstep (numsM (s.take i)) s[i] := by
  unfold numsM
  rw [List.take_succ_eq_append_getElem h, List.foldl_append]; rfl
end Go.Proofs.YtelenedgaoglaaaGreatDoor
set_option linter.unusedSimpArgs false
set_option linter.unusedVariables false
namespace Go.Proofs.YtelenedgaoglaaaGreatDoor
open Go.Ab
open Go.Pil Go.RowKit
theorem str_index {P : Program} {t : TypeId} {s : ByteArray} {k : Nat} (hu : P.underlying t = some .string) (h : k < s.data.toList.length) (w : World) : (Instr.index t (.string s) (.int .i64 (k : Nat))).run P w = .ok (.int .u8 (s.data.toList[k].toNat : Nat)) w := by
  have h2 : k < s.size := by rw [← ByteArray.size_data, ← Array.length_toList]; exact h
  have e : s[k]? = some s.data.toList[k] := by
    rw [getElem?_pos s k h2]
    rfl
  simp [Instr.index, asIntOf, run_underlying' hu, Result.andThen, e]
def JRi (a : Option Addr) (cap : Nat) (l : List Int) : Sec := Jrow 3 1 (.slice a l.length cap) l.length (l.map I)
theorem look_last (l : List Int) (y : Int) : partA false 1 (((l ++ [y]).map I).drop l.length) = some (I y) := by
  rw [List.map_append, List.drop_append_of_le_length (by simp), List.drop_of_length_le (by simp)]
  rfl
theorem look_new (l : List Int) : partA false 1 ((l.map I ++ ([[I 0]] : List (List AV)).flatten).drop l.length) = some (I 0) := by
  rw [List.drop_append_of_le_length (by simp), List.drop_of_length_le (by simp)]
  rfl
theorem set_last (l : List Int) (y z : Int) : ((l ++ [y]).map I).set l.length (I z) = (l ++ [z]).map I := by
  rw [List.map_append, List.set_append_right _ _ (by simp), List.map_append]
  simp
theorem set_new (l : List Int) (z : Int) : (l.map I ++ ([[I 0]] : List (List AV)).flatten).set l.length (I z) = (l ++ [z]).map I := by
  have e : (l.map I ++ ([[I 0]] : List (List AV)).flatten) = (l ++ [0]).map I := by simp
  rw [e]; exact set_last l 0 z
theorem conv_u8 (b : UInt8) (w : World) : (convert 5 3 (Value.int .u8 (b.toNat : Nat))).run Tryz.prog w = .ok (Value.int .i64 (b.toNat : Nat)) w := by
  have h := b.toNat_lt
  simp [convert, run_underlying' Tryz.underlying5, run_underlying' Tryz.underlying3, Result.andThen, Conv.intToInt]
  exact wrap_in ⟨by omega, by omega⟩
theorem isDg_no {b : UInt8} (h : (b.toNat : Int) < 48 ∨ (b.toNat : Int) > 57) : isDg b = false := by
  unfold isDg
  rcases h with h | h
  · rw [decide_eq_false (show ¬ 48 ≤ b.toNat by omega)]; rfl
  · rw [decide_eq_false (show ¬ b.toNat ≤ 57 by omega), Bool.and_false]
theorem isDg_yes {b : UInt8} (h1 : ¬ (b.toNat : Int) < 48) (h2 : ¬ (b.toNat : Int) > 57) : isDg b = true := by
  unfold isDg
  rw [decide_eq_true (show 48 ≤ b.toNat by omega), decide_eq_true (show b.toNat ≤ 57 by omega)]; rfl
theorem numsM_bd (bs : List UInt8) : (∀ x ∈ (numsM bs).1, 0 ≤ x ∧ x ≤ 1073741824) ∧ ((numsM bs).2 = true → (numsM bs).1 ≠ []) :=
  nums_bd bs _ (fun x hx => by cases hx) (fun h => Bool.noConfusion h)
theorem numsM_len (bs : List UInt8) : (numsM bs).1.length ≤ bs.length := by
  have h := nums_len bs ([], false)
  have e : (([] : List Int), false).1.length = 0 := rfl
  rw [e, Nat.zero_add] at h
  exact h
set_option maxHeartbeats 4000000 in
set_option maxRecDepth 20000 in
theorem numerals_s (s : ByteArray) (hs : s.size ≤ 1000) : FSpec Tryz.prog 86 [.sc (.string s)] (.sl (ints (numsM s.data.toList).1)) none := by
  refine FSpec.of_bodyJ Tryz.func86 rfl (leB rfl) fun F0 w0 M0 => ?_
  have hlen : s.data.toList.length = s.size := Array.length_toList
  refine AWPJ.seq ?_
  refine AWPJ.lift (fun u N => ?_)
  refine AWP.region ?_
  refine AOps.call (o_nil (z := 1) (e := 3) rfl) ?_
  refine AOps.nil ?_
  refine AWPJ.seq ?_
  refine AWPJ.lift (fun u N => ?_)
  refine AWP.region ?_
  refine AOps.call (o_assignK rfl) ?_
  refine AOps.nil ?_
  refine AWPJ.seq ?_
  refine AWPJ.lift (fun u N => ?_)
  refine AWP.region ?_
  refine AOps.call (o_assign _ rfl rfl) ?_
  refine AOps.nil ?_
  refine AWPJ.seq ?_
  refine AWPJ.seq ?_
  refine AWPJ.lift (fun u N => ?_)
  refine AWP.region ?_
  refine AOps.call (o_assign _ rfl rfl) ?_
  refine AOps.nil ?_
  refine AWPJ.block ?_
  refine AWPJ.loop (ι := Nat × Option Addr × Nat × List Int × Bool) (fun i => (JRi i.2.1 i.2.2.1 i.2.2.2.1).sep J0) (fun i => AS.mk' 47 [(0, .sc (.string s)), (3, .sc (.slice i.2.1 i.2.2.2.1.length i.2.2.1)), (4, B i.2.2.2.2), (5, I i.1)] [] [] []) (fun i => i.1 ≤ s.data.toList.length ∧ (i.2.2.2.1, i.2.2.2.2) = numsM (s.data.toList.take i.1)) (fun i => s.data.toList.length - i.1) (0, none, 0, [], false) (WeakJ.trans WeakJ.nilRow (WeakJ.trans (WeakJ.comm J0_ok Jrow_ok) (Weak.toJ (Weak.mk' rfl ⟨⟨.refl rfl, rfl⟩, ⟨⟨.refl rfl, rfl⟩, ⟨⟨.refl rfl, rfl⟩, ⟨⟨.refl rfl, rfl⟩, trivial⟩⟩⟩⟩ trivial trivial)))) (⟨Nat.zero_le _, rfl⟩) ?_
  rintro ⟨k, a1, cap1, l, fl⟩ ⟨hk, hl⟩
  try dsimp only at *
  refine AWPJ.seq ?_
  refine AWPJ.seq ?_
  refine AWPJ.lift (fun u N => ?_)
  refine AWP.region ?_
  refine AOps.call (o_move _ rfl rfl) ?_
  refine AOps.call (o_move _ rfl rfl) ?_
  refine AOps.call (ok_lenX (cv := .int .i64 s.size) _ rfl (fun w => by simp [Builtin.len_, run_underlying' Tryz.underlying9, Result.andThen, goInt]) (okD rfl)) ?_
  refine AOps.call (o_bin _ _ rfl rfl (fun _ => rfl) rfl) ?_
  refine AOps.nil ?_
  refine AWPJ.cond _ rfl (fun h7 => ?_) (fun h7 => ?_)
  · skip
    have hlt : k < s.data.toList.length := by have := of_decide_eq_true h7; omega
    have hbd := numsM_bd (s.data.toList.take k)
    rw [← hl] at hbd
    have hll := numsM_len (s.data.toList.take k)
    rw [← hl, List.length_take] at hll
    have hb8 := s.data.toList[k].toNat_lt
    dsimp only at hbd hll
    refine AWPJ.skip ?_
    refine AWPJ.seq ?_
    refine AWPJ.block ?_
    refine AWPJ.seq ?_
    refine AWPJ.seq ?_
    refine AWPJ.lift (fun u N => ?_)
    refine AWP.region ?_
    refine AOps.call (o_move _ rfl rfl) ?_
    refine AOps.call (o_move _ rfl rfl) ?_
    refine AOps.call (ok_index _ _ rfl rfl (str_index Tryz.underlying9 hlt) (okD rfl)) ?_
    refine AOps.call (o_bin _ _ rfl rfl (fun _ => rfl) rfl) ?_
    refine AOps.call (o_move _ rfl rfl) ?_
    refine AOps.split rfl rfl rfl (fun h11 => ?_) (fun h11 => ?_)
    · skip
      have hq16 := of_decide_eq_false h11
      refine AOps.go rfl rfl rfl h11 (o_move _ rfl rfl) ?_
      refine AOps.go rfl rfl rfl h11 (o_move _ rfl rfl) ?_
      refine AOps.go rfl rfl rfl h11 (ok_index _ _ rfl rfl (str_index Tryz.underlying9 hlt) (okD rfl)) ?_
      refine AOps.go rfl rfl rfl h11 (o_bin _ _ rfl rfl (fun _ => rfl) rfl) ?_
      refine AOps.call (o_pickF _ _ _ rfl h11 rfl rfl) ?_
      refine AOps.nil ?_
      refine AWPJ.cond _ rfl (fun h15 => ?_) (fun h15 => ?_)
      · skip
        have hdg : isDg s.data.toList[k] = false := isDg_no (.inr (of_decide_eq_true h15))
        refine AWPJ.seq ?_
        refine AWPJ.lift (fun u N => ?_)
        refine AWP.region ?_
        refine AOps.call (o_assign _ rfl rfl) ?_
        refine AOps.nil ?_
        refine AWPJ.exit ?_
        refine AWPJ.lift (fun u N => ?_)
        refine AWP.region ?_
        refine AOps.call (o_move _ rfl rfl) ?_
        refine AOps.call (o_add _ _ rfl rfl ⟨by (try dsimp only); omega, by (try dsimp only); omega⟩ rfl) ?_
        refine AOps.call (o_assign _ rfl rfl) ?_
        refine AOps.nil ?_
        first
        | refine ⟨(k + 1, a1, cap1, l, false), ⟨⟨by (try dsimp only); omega, ?_⟩, by (try dsimp only); omega⟩, Weak.toJ (Weak.mk' rfl ⟨⟨.refl rfl, rfl⟩, ⟨⟨.refl (by (try dsimp only); first | rfl | (rw [List.length_append]; rfl) | (rw [List.length_append, List.length_append]; rfl)), rfl⟩, ⟨⟨.refl rfl, rfl⟩, ⟨⟨.refl rfl, rfl⟩, trivial⟩⟩⟩⟩ trivial trivial)⟩
        | refine ⟨(k + 1, some ⟨g2, 0, none⟩, cap2, l ++ [min (0 * 10 + (s.data.toList[k].toNat : Int) - 48) 1073741824], true), ⟨⟨by (try dsimp only); omega, ?_⟩, by (try dsimp only); omega⟩, WeakJ.cast (by dsimp only [JRi]; rw [List.length_append]; rfl) (Weak.toJ (Weak.mk' rfl ⟨⟨.refl rfl, rfl⟩, ⟨⟨.refl (by (try dsimp only); first | rfl | (rw [List.length_append]; rfl) | (rw [List.length_append, List.length_append]; rfl)), rfl⟩, ⟨⟨.refl rfl, rfl⟩, ⟨⟨.refl rfl, rfl⟩, trivial⟩⟩⟩⟩ trivial trivial))⟩
        | refine ⟨(k + 1, some ⟨g1, 0, none⟩, cap1, l' ++ [min (y * 10 + (s.data.toList[k].toNat : Int) - 48) 1073741824], true), ⟨⟨by (try dsimp only); omega, ?_⟩, by (try dsimp only); omega⟩, WeakJ.cast (by dsimp only [JRi]; rw [List.length_append, List.length_append]; rfl) (Weak.toJ (Weak.mk' rfl ⟨⟨.refl rfl, rfl⟩, ⟨⟨.refl (by (try dsimp only); first | rfl | (rw [List.length_append]; rfl) | (rw [List.length_append, List.length_append]; rfl)), rfl⟩, ⟨⟨.refl rfl, rfl⟩, ⟨⟨.refl rfl, rfl⟩, trivial⟩⟩⟩⟩ trivial trivial))⟩
        rw [nums_take hlt, ← hl]
        first
        | exact (nstep_no (st := (l, fl)) hdg).symm
        | (unfold nstep; rw [if_pos hdg]; first | (rw [if_pos rfl, lastUp_snoc]; done) | (rw [if_neg (fun h => Bool.noConfusion h), lastUp_snoc]; done))
      · skip
        have hdg : isDg s.data.toList[k] = true := isDg_yes hq16 (of_decide_eq_false h15)
        refine AWPJ.skip ?_
        refine AWPJ.seq ?_
        refine AWPJ.seq ?_
        refine AWPJ.lift (fun u N => ?_)
        refine AWP.region ?_
        refine AOps.call (o_move _ rfl rfl) ?_
        refine AOps.call (o_un _ rfl (fun _ => rfl) rfl) ?_
        refine AOps.nil ?_
        refine AWPJ.cond _ rfl (fun h18 => ?_) (fun h18 => ?_)
        · skip
          skip
          · skip
            have hfl : fl = false := by simpa using h18
            subst hfl
            refine AWPJ.seq ?_
            refine AWPJ.region ?_
            refine AOpsJ.call (fun u N => o_move _ rfl rfl) ?_
            refine AOpsJ.call (fun u N => o_lit Tryz.underlying25 Tryz.sizeOf3 Tryz.zeroValue3 rfl rfl rfl rfl rfl rfl rfl) ?_
            refine AOpsJ.op (OpJ.frame Jrow_ok J0_ok (fun E u N => o_appendRow (n := l.length) (cs := l.map I) (ns := [[I 0]]) _ _ Tryz.underlying25 info3 rfl rfl rfl rfl rfl rfl rfl (fun c hc => by simp at hc; subst hc; rfl) (by unfold Tryz.t3; simp only [List.length_cons, List.length_nil]; omega) rfl (by simp) (.inl fun c hc => by simp [I] at hc; subst hc; exact ⟨_, rfl⟩) rfl)) ?_
            rintro _ _ ⟨_, ⟨_, ⟨a2, cap2, rfl, rfl⟩, rfl⟩, rfl⟩
            refine AOpsJ.pure (φ := ∃ g, a2 = ⟨g, 0, none⟩) (fun T F w M h => by obtain ⟨_, _, h2⟩ := Sec.sep_l h; obtain ⟨g, hg⟩ := Jrow_shape1 (by simp) h2; exact ⟨g, Option.some.inj hg⟩) (fun hsh2 => ?_)
            obtain ⟨g2, rfl⟩ := hsh2
            rw [show l.length + ([[I 0]] : List (List AV)).length = l.length + 1 from rfl]
            refine AOpsJ.call (fun u N => o_assign _ rfl rfl) ?_
            refine AOpsJ.nil ?_
            refine AWPJ.lift (fun u N => ?_)
            refine AWP.region ?_
            refine AOps.call (o_assign _ rfl rfl) ?_
            refine AOps.nil ?_
            refine AWPJ.drawnK 19 mixed (by kernel_rfl) ?_
            refine AHeadK.call (fun u N => o_move _ rfl rfl) rfl ?_
            refine AHeadK.call (fun u N => o_move _ rfl rfl) rfl ?_
            refine AHeadK.call (fun u N => o_lenX _ Tryz.underlying25 rfl rfl) rfl ?_
            refine AHeadK.call (fun u N => o_sub _ _ rfl rfl ⟨by (try dsimp only); omega, by (try dsimp only); omega⟩ rfl) rfl ?_
            refine AHeadK.call (fun u N => o_move _ rfl rfl) rfl ?_
            refine AHeadK.call (fun u N => o_move _ rfl rfl) rfl ?_
            refine AHeadK.call (fun u N => o_lenX _ Tryz.underlying25 rfl rfl) rfl ?_
            refine AHeadK.call (fun u N => o_sub _ _ rfl rfl ⟨by (try dsimp only); omega, by (try dsimp only); omega⟩ rfl) rfl ?_
            refine AHeadK.call (fun u N => o_indexX (o := l.length) _ _ Tryz.underlying25 Tryz.sizeOf3 rfl rfl (by omega) (by omega) (by omega) rfl) rfl ?_
            refine AHeadK.look (o_look (cs := (l.map I ++ ([[I 0]] : List (List AV)).flatten).drop (l.length)) (r := I 0) _ rfl Tryz.sizeOf3 Tryz.isAgg3 (fun T F w M h => by obtain ⟨_, _, h2⟩ := Sec.sep_l h; exact Jrow_cells h2 (l.length)) (look_new l) rfl) rfl ?_
            refine AHeadK.call (fun u N => o_mul _ _ rfl rfl ⟨by (try dsimp only); omega, by (try dsimp only); omega⟩ rfl) rfl ?_
            refine AHeadK.call (fun u N => o_move _ rfl rfl) rfl ?_
            refine AHeadK.call (fun u N => o_move _ rfl rfl) rfl ?_
            refine AHeadK.call (fun u N => ok_index _ _ rfl rfl (str_index Tryz.underlying9 hlt) (okD rfl)) rfl ?_
            refine AHeadK.call (fun u N => ok_conv _ rfl (conv_u8 s.data.toList[k]) (okD rfl)) rfl ?_
            refine AHeadK.call (fun u N => o_add _ _ rfl rfl ⟨by (try dsimp only); omega, by (try dsimp only); omega⟩ rfl) rfl ?_
            refine AHeadK.call (fun u N => o_sub _ _ rfl rfl ⟨by (try dsimp only); omega, by (try dsimp only); omega⟩ rfl) rfl ?_
            refine AHeadK.call (fun u N => o_minZ _ _ rfl rfl rfl) rfl ?_
            refine AHeadK.call (fun u N => o_indexX (o := l.length) _ _ Tryz.underlying25 Tryz.sizeOf3 rfl rfl (by omega) (by omega) (by omega) rfl) rfl ?_
            refine AHeadK.nil ?_
            refine AOpsJ.op (OpJ.frame Jrow_ok J0_ok (fun E u N => o_storeRow (cs := (l.map I ++ ([[I 0]] : List (List AV)).flatten)) (o := l.length) _ _ rfl rfl Tryz.sizeOf3 rfl (by simp) (set_new l _) rfl)) ?_
            rintro _ _ ⟨_, ⟨rfl, rfl⟩, rfl⟩
            refine AOpsJ.nil ?_
            refine AWPJ.lift (fun u N => ?_)
            refine AWP.region ?_
            refine AOps.call (o_move _ rfl rfl) ?_
            refine AOps.call (o_add _ _ rfl rfl ⟨by (try dsimp only); omega, by (try dsimp only); omega⟩ rfl) ?_
            refine AOps.call (o_assign _ rfl rfl) ?_
            refine AOps.nil ?_
            first
            | refine ⟨(k + 1, a1, cap1, l, false), ⟨⟨by (try dsimp only); omega, ?_⟩, by (try dsimp only); omega⟩, Weak.toJ (Weak.mk' rfl ⟨⟨.refl rfl, rfl⟩, ⟨⟨.refl (by (try dsimp only); first | rfl | (rw [List.length_append]; rfl) | (rw [List.length_append, List.length_append]; rfl)), rfl⟩, ⟨⟨.refl rfl, rfl⟩, ⟨⟨.refl rfl, rfl⟩, trivial⟩⟩⟩⟩ trivial trivial)⟩
            | refine ⟨(k + 1, some ⟨g2, 0, none⟩, cap2, l ++ [min (0 * 10 + (s.data.toList[k].toNat : Int) - 48) 1073741824], true), ⟨⟨by (try dsimp only); omega, ?_⟩, by (try dsimp only); omega⟩, WeakJ.cast (by dsimp only [JRi]; rw [List.length_append]; rfl) (Weak.toJ (Weak.mk' rfl ⟨⟨.refl rfl, rfl⟩, ⟨⟨.refl (by (try dsimp only); first | rfl | (rw [List.length_append]; rfl) | (rw [List.length_append, List.length_append]; rfl)), rfl⟩, ⟨⟨.refl rfl, rfl⟩, ⟨⟨.refl rfl, rfl⟩, trivial⟩⟩⟩⟩ trivial trivial))⟩
            | refine ⟨(k + 1, some ⟨g1, 0, none⟩, cap1, l' ++ [min (y * 10 + (s.data.toList[k].toNat : Int) - 48) 1073741824], true), ⟨⟨by (try dsimp only); omega, ?_⟩, by (try dsimp only); omega⟩, WeakJ.cast (by dsimp only [JRi]; rw [List.length_append, List.length_append]; rfl) (Weak.toJ (Weak.mk' rfl ⟨⟨.refl rfl, rfl⟩, ⟨⟨.refl (by (try dsimp only); first | rfl | (rw [List.length_append]; rfl) | (rw [List.length_append, List.length_append]; rfl)), rfl⟩, ⟨⟨.refl rfl, rfl⟩, ⟨⟨.refl rfl, rfl⟩, trivial⟩⟩⟩⟩ trivial trivial))⟩
            rw [nums_take hlt, ← hl]
            first
            | exact (nstep_no (st := (l, fl)) hdg).symm
            | (unfold nstep; rw [if_pos hdg]; first | (rw [if_pos rfl, lastUp_snoc]; done) | (rw [if_neg (fun h => Bool.noConfusion h), lastUp_snoc]; done))
        · skip
          skip
          · skip
            have hfl : fl = true := by simpa using h18
            subst hfl
            obtain ⟨l', y, rfl⟩ : ∃ l' y, l = l' ++ [y] := ⟨l.dropLast, l.getLast (hbd.2 rfl), (List.dropLast_concat_getLast (hbd.2 rfl)).symm⟩
            have hy := hbd.1 y (by simp)
            have hl2 : (l' ++ [y]).length = l'.length + 1 := by simp
            refine AWPJ.pure (φ := ∃ g, a1 = some ⟨g, 0, none⟩) (fun T F w M h => by obtain ⟨_, _, h2⟩ := Sec.sep_l h; exact Jrow_shape1 (by simp) h2) (fun hsh1 => ?_)
            obtain ⟨g1, rfl⟩ := hsh1
            refine AWPJ.skip ?_
            refine AWPJ.drawnK 19 mixed (by kernel_rfl) ?_
            refine AHeadK.call (fun u N => o_move _ rfl rfl) rfl ?_
            refine AHeadK.call (fun u N => o_move _ rfl rfl) rfl ?_
            refine AHeadK.call (fun u N => o_lenX _ Tryz.underlying25 rfl rfl) rfl ?_
            refine AHeadK.call (fun u N => o_sub _ _ rfl rfl ⟨by (try dsimp only); omega, by (try dsimp only); omega⟩ rfl) rfl ?_
            refine AHeadK.call (fun u N => o_move _ rfl rfl) rfl ?_
            refine AHeadK.call (fun u N => o_move _ rfl rfl) rfl ?_
            refine AHeadK.call (fun u N => o_lenX _ Tryz.underlying25 rfl rfl) rfl ?_
            refine AHeadK.call (fun u N => o_sub _ _ rfl rfl ⟨by (try dsimp only); omega, by (try dsimp only); omega⟩ rfl) rfl ?_
            refine AHeadK.call (fun u N => o_indexX (o := l'.length) _ _ Tryz.underlying25 Tryz.sizeOf3 rfl rfl (by omega) (by omega) (by omega) rfl) rfl ?_
            refine AHeadK.look (o_look (cs := ((l' ++ [y]).map I).drop (l'.length)) (r := I y) _ rfl Tryz.sizeOf3 Tryz.isAgg3 (fun T F w M h => by obtain ⟨_, _, h2⟩ := Sec.sep_l h; exact Jrow_cells h2 (l'.length)) (look_last l' y) rfl) rfl ?_
            refine AHeadK.call (fun u N => o_mul _ _ rfl rfl ⟨by (try dsimp only); omega, by (try dsimp only); omega⟩ rfl) rfl ?_
            refine AHeadK.call (fun u N => o_move _ rfl rfl) rfl ?_
            refine AHeadK.call (fun u N => o_move _ rfl rfl) rfl ?_
            refine AHeadK.call (fun u N => ok_index _ _ rfl rfl (str_index Tryz.underlying9 hlt) (okD rfl)) rfl ?_
            refine AHeadK.call (fun u N => ok_conv _ rfl (conv_u8 s.data.toList[k]) (okD rfl)) rfl ?_
            refine AHeadK.call (fun u N => o_add _ _ rfl rfl ⟨by (try dsimp only); omega, by (try dsimp only); omega⟩ rfl) rfl ?_
            refine AHeadK.call (fun u N => o_sub _ _ rfl rfl ⟨by (try dsimp only); omega, by (try dsimp only); omega⟩ rfl) rfl ?_
            refine AHeadK.call (fun u N => o_minZ _ _ rfl rfl rfl) rfl ?_
            refine AHeadK.call (fun u N => o_indexX (o := l'.length) _ _ Tryz.underlying25 Tryz.sizeOf3 rfl rfl (by omega) (by omega) (by omega) rfl) rfl ?_
            refine AHeadK.nil ?_
            refine AOpsJ.op (OpJ.frame Jrow_ok J0_ok (fun E u N => o_storeRow (cs := ((l' ++ [y]).map I)) (o := l'.length) _ _ rfl rfl Tryz.sizeOf3 rfl (by simp) (set_last l' y _) rfl)) ?_
            rintro _ _ ⟨_, ⟨rfl, rfl⟩, rfl⟩
            refine AOpsJ.nil ?_
            refine AWPJ.lift (fun u N => ?_)
            refine AWP.region ?_
            refine AOps.call (o_move _ rfl rfl) ?_
            refine AOps.call (o_add _ _ rfl rfl ⟨by (try dsimp only); omega, by (try dsimp only); omega⟩ rfl) ?_
            refine AOps.call (o_assign _ rfl rfl) ?_
            refine AOps.nil ?_
            first
            | refine ⟨(k + 1, a1, cap1, l, false), ⟨⟨by (try dsimp only); omega, ?_⟩, by (try dsimp only); omega⟩, Weak.toJ (Weak.mk' rfl ⟨⟨.refl rfl, rfl⟩, ⟨⟨.refl (by (try dsimp only); first | rfl | (rw [List.length_append]; rfl) | (rw [List.length_append, List.length_append]; rfl)), rfl⟩, ⟨⟨.refl rfl, rfl⟩, ⟨⟨.refl rfl, rfl⟩, trivial⟩⟩⟩⟩ trivial trivial)⟩
            | refine ⟨(k + 1, some ⟨g2, 0, none⟩, cap2, l ++ [min (0 * 10 + (s.data.toList[k].toNat : Int) - 48) 1073741824], true), ⟨⟨by (try dsimp only); omega, ?_⟩, by (try dsimp only); omega⟩, WeakJ.cast (by dsimp only [JRi]; rw [List.length_append]; rfl) (Weak.toJ (Weak.mk' rfl ⟨⟨.refl rfl, rfl⟩, ⟨⟨.refl (by (try dsimp only); first | rfl | (rw [List.length_append]; rfl) | (rw [List.length_append, List.length_append]; rfl)), rfl⟩, ⟨⟨.refl rfl, rfl⟩, ⟨⟨.refl rfl, rfl⟩, trivial⟩⟩⟩⟩ trivial trivial))⟩
            | refine ⟨(k + 1, some ⟨g1, 0, none⟩, cap1, l' ++ [min (y * 10 + (s.data.toList[k].toNat : Int) - 48) 1073741824], true), ⟨⟨by (try dsimp only); omega, ?_⟩, by (try dsimp only); omega⟩, WeakJ.cast (by dsimp only [JRi]; rw [List.length_append, List.length_append]; rfl) (Weak.toJ (Weak.mk' rfl ⟨⟨.refl rfl, rfl⟩, ⟨⟨.refl (by (try dsimp only); first | rfl | (rw [List.length_append]; rfl) | (rw [List.length_append, List.length_append]; rfl)), rfl⟩, ⟨⟨.refl rfl, rfl⟩, ⟨⟨.refl rfl, rfl⟩, trivial⟩⟩⟩⟩ trivial trivial))⟩
            rw [nums_take hlt, ← hl]
            first
            | exact (nstep_no (st := (l, fl)) hdg).symm
            | (unfold nstep; rw [if_pos hdg]; first | (rw [if_pos rfl, lastUp_snoc]; done) | (rw [if_neg (fun h => Bool.noConfusion h), lastUp_snoc]; done))
    · skip
      have hq16 := of_decide_eq_true h11
      refine AOps.pass rfl rfl rfl h11 rfl ?_
      refine AOps.pass rfl rfl rfl h11 rfl ?_
      refine AOps.pass rfl rfl rfl h11 rfl ?_
      refine AOps.pass rfl rfl rfl h11 rfl ?_
      refine AOps.call (o_pickT _ _ _ rfl h11 rfl rfl) ?_
      refine AOps.nil ?_
      refine AWPJ.condT rfl ?_
      have hdg : isDg s.data.toList[k] = false := isDg_no (.inl hq16)
      refine AWPJ.seq ?_
      refine AWPJ.lift (fun u N => ?_)
      refine AWP.region ?_
      refine AOps.call (o_assign _ rfl rfl) ?_
      refine AOps.nil ?_
      refine AWPJ.exit ?_
      refine AWPJ.lift (fun u N => ?_)
      refine AWP.region ?_
      refine AOps.call (o_move _ rfl rfl) ?_
      refine AOps.call (o_add _ _ rfl rfl ⟨by (try dsimp only); omega, by (try dsimp only); omega⟩ rfl) ?_
      refine AOps.call (o_assign _ rfl rfl) ?_
      refine AOps.nil ?_
      first
      | refine ⟨(k + 1, a1, cap1, l, false), ⟨⟨by (try dsimp only); omega, ?_⟩, by (try dsimp only); omega⟩, Weak.toJ (Weak.mk' rfl ⟨⟨.refl rfl, rfl⟩, ⟨⟨.refl (by (try dsimp only); first | rfl | (rw [List.length_append]; rfl) | (rw [List.length_append, List.length_append]; rfl)), rfl⟩, ⟨⟨.refl rfl, rfl⟩, ⟨⟨.refl rfl, rfl⟩, trivial⟩⟩⟩⟩ trivial trivial)⟩
      | refine ⟨(k + 1, some ⟨g2, 0, none⟩, cap2, l ++ [min (0 * 10 + (s.data.toList[k].toNat : Int) - 48) 1073741824], true), ⟨⟨by (try dsimp only); omega, ?_⟩, by (try dsimp only); omega⟩, WeakJ.cast (by dsimp only [JRi]; rw [List.length_append]; rfl) (Weak.toJ (Weak.mk' rfl ⟨⟨.refl rfl, rfl⟩, ⟨⟨.refl (by (try dsimp only); first | rfl | (rw [List.length_append]; rfl) | (rw [List.length_append, List.length_append]; rfl)), rfl⟩, ⟨⟨.refl rfl, rfl⟩, ⟨⟨.refl rfl, rfl⟩, trivial⟩⟩⟩⟩ trivial trivial))⟩
      | refine ⟨(k + 1, some ⟨g1, 0, none⟩, cap1, l' ++ [min (y * 10 + (s.data.toList[k].toNat : Int) - 48) 1073741824], true), ⟨⟨by (try dsimp only); omega, ?_⟩, by (try dsimp only); omega⟩, WeakJ.cast (by dsimp only [JRi]; rw [List.length_append, List.length_append]; rfl) (Weak.toJ (Weak.mk' rfl ⟨⟨.refl rfl, rfl⟩, ⟨⟨.refl (by (try dsimp only); first | rfl | (rw [List.length_append]; rfl) | (rw [List.length_append, List.length_append]; rfl)), rfl⟩, ⟨⟨.refl rfl, rfl⟩, ⟨⟨.refl rfl, rfl⟩, trivial⟩⟩⟩⟩ trivial trivial))⟩
      rw [nums_take hlt, ← hl]
      first
      | exact (nstep_no (st := (l, fl)) hdg).symm
      | (unfold nstep; rw [if_pos hdg]; first | (rw [if_pos rfl, lastUp_snoc]; done) | (rw [if_neg (fun h => Bool.noConfusion h), lastUp_snoc]; done))
  · skip
    have hkl : k = s.data.toList.length := by have := of_decide_eq_false h7; omega
    have hres : l = (numsM s.data.toList).1 := by rw [hkl, List.take_length] at hl; exact congrArg Prod.fst hl
    refine AWPJ.weak (WeakJ.freeze (es := ints l) 3 rfl (ints_flat l) ints_z (ints_len _) J0_ok) ?_
    refine AWPJ.exit ?_
    refine AWPJ.seq ?_
    refine AWPJ.lift (fun u N => ?_)
    refine AWP.region ?_
    refine AOps.call (o_move _ rfl rfl) ?_
    refine AOps.call (o_assign _ rfl rfl) ?_
    refine AOps.nil ?_
    refine AWPJ.ret ?_
    try dsimp only [seqQJ, blockQJ, roundQJ]
    try rw [show Nat.beq 0 0 = true from rfl, cond_true]
    refine postQJ.ret1 Tryz.results86 rfl rfl ?_
    first | (rw [hres]; rfl) | (rw [hres])
end Go.Proofs.YtelenedgaoglaaaGreatDoor
set_option linter.unusedSimpArgs false
set_option linter.unusedVariables false
namespace Go.Proofs.YtelenedgaoglaaaGreatDoor
open Go.Ab
open Go.Pil Go.RowKit
theorem ba_inj {a b : ByteArray} (h : a.toList = b.toList) : a = b := by
  rw [ByteArray.toList_eq, ByteArray.toList_eq] at h
  exact ByteArray.ext (Array.toList_inj.1 h)
theorem pairUp_len : ∀ (n : Nat) (l : List Int), l.length ≤ n → (pairUp l).length = l.length / 2 := by
  intro n
  induction n with
  | zero => intro l h; have : l = [] := List.eq_nil_of_length_eq_zero (by omega); subst this; rfl
  | succ n ih =>
    intro l h
    match l, h with
    | [], _ => rfl
    | [a], _ => simp [pairUp]
    | a :: b :: r, h =>
      show (⟨a, b⟩ :: pairUp r : List Shw).length = _
      simp only [List.length_cons] at h ⊢
      rw [ih r (by omega)]; omega
theorem pairUp_get : ∀ (n : Nat) (l : List Int) (j : Nat), l.length ≤ n → (h : j < (pairUp l).length) → (pairUp l)[j] = ⟨l.getD (2 * j) 0, l.getD (2 * j + 1) 0⟩ := by
  intro n
  induction n with
  | zero => intro l j h hj; have : l = [] := List.eq_nil_of_length_eq_zero (by omega); subst this; exact absurd hj (Nat.not_lt_zero _)
  | succ n ih =>
    intro l j h hj
    match l, h, hj with
    | [], _, hj => exact absurd hj (Nat.not_lt_zero _)
    | [a], _, hj => exact absurd hj (Nat.not_lt_zero _)
    | a :: b :: r, h, hj =>
      cases j with
      | zero => rfl
      | succ j =>
        simp only [List.length_cons] at h
        have := ih r j (by omega) (Nat.lt_of_succ_lt_succ hj)
        show (pairUp r)[j]'(Nat.lt_of_succ_lt_succ hj) = _
        rw [this, show 2 * (j + 1) = 2 * j + 2 by omega, show 2 * j + 2 + 1 = 2 * j + 1 + 2 by omega]
        rfl
theorem getD_drop (l : List Int) (a b : Nat) : (l.drop a).getD b 0 = l.getD (a + b) 0 := by
  simp [List.getD_eq_getElem?_getD, List.getElem?_drop]
def lgM (l : List Int) : List Shw := pairUp (l.drop 6)
theorem lgM_len (l : List Int) : (lgM l).length = (l.length - 6) / 2 := by unfold lgM; rw [pairUp_len _ _ (Nat.le_refl _), List.length_drop]
theorem lgM_get {l : List Int} {j : Nat} (h : j < (lgM l).length) : (lgM l)[j] = ⟨l.getD (6 + 2 * j) 0, l.getD (6 + 2 * j + 1) 0⟩ := by
  have := pairUp_get _ (l.drop 6) j (Nat.le_refl _) h
  rw [getD_drop, getD_drop, show 6 + (2 * j + 1) = 6 + 2 * j + 1 by omega] at this
  exact this
theorem lgM_snoc {l : List Int} {j : Nat} (h : j < (lgM l).length) : shws ((lgM l).take j) ++ [[I (l.getD (6 + 2 * j) 0), I (l.getD (6 + 2 * j + 1) 0)]] = shws ((lgM l).take (j + 1)) := by
  rw [List.take_succ_eq_append_getElem h, lgM_get h]
  unfold shws; rw [List.map_append]; rfl
theorem par_key {p : Plw} {s : ByteArray} (h : okP p = true) (h2 : prnS p = s) : mkP (numsM s.data.toList).1 = p := by
  rw [← h2, nums_text (okP_iff.1 h)]; exact mkP_text p
theorem par_len {p : Plw} {s : ByteArray} (h : okP p = true) (h2 : prnS p = s) : 6 ≤ ((numsM s.data.toList).1).length := by
  rw [← h2, nums_text (okP_iff.1 h), List.length_append]
  have := six_len p
  omega
theorem dig_le : ∀ (k u : Nat), u < 10 ^ (k + 1) → (Lib.decDigits u).length ≤ k + 1 := by
  intro k
  induction k with
  | zero => intro u h; rw [Lib.decDigits, dif_pos (by simpa using h)]; exact Nat.le_refl _
  | succ k ih =>
    intro u h
    rw [Lib.decDigits]
    split
    · simp
    · rw [List.length_append]
      have := ih (u / 10) (by rw [Nat.pow_succ] at h; omega)
      simp only [List.length_cons, List.length_nil]; omega
theorem itoa_seven {n : Int} (h0 : 0 ≤ n) (h1 : n ≤ 1048576) : (itoaS n).size ≤ 7 := by
  have e : (itoaS n).size = (Lib.itoa n).length := rfl
  rw [e]; unfold Lib.itoa
  rw [if_neg (by omega)]
  exact dig_le 6 _ (by show n.toNat < 10000000; omega)
theorem text_size {p : Plw} (h : okP p = true) : (prnS p).size ≤ 1000 := by
  have hp := okP_iff.1 h
  have h32 := hp.len
  have h1 := join_len (m := 15) (sep := SP.data.toList) ((wordsW p p.log.length).map (·.data.toList)) (by
    intro x hx
    obtain ⟨y, hy, rfl⟩ := List.mem_map.1 hx
    have e : y.data.toList.length = y.size := Array.length_toList
    rw [e]
    unfold wordsW headW at hy
    rcases List.mem_append.1 hy with hy | hy
    · rcases List.mem_cons.1 hy with rfl | hy
      · exact (by decide : PIL.size ≤ 15)
      · obtain ⟨n, hn, rfl⟩ := List.mem_map.1 hy
        have hx : 0 ≤ n ∧ n ≤ 1048576 := by
          obtain ⟨k, hk, rfl⟩ := List.getElem_of_mem (List.mem_of_mem_take hn)
          have h6 := six_len p
          have := six_nn hp (k := k) (by omega)
          rw [List.getD_eq_getElem?_getD, List.getElem?_eq_getElem hk] at this
          exact this
        have := itoa_seven hx.1 hx.2
        omega
    · obtain ⟨t, ht, rfl⟩ := List.mem_map.1 hy
      have hb := log_bd hp t (List.mem_of_mem_take ht)
      have z1 := itoa_seven (n := t.day) (by omega) (by omega)
      have z2 := itoa_seven (n := t.weight) (by omega) (by omega)
      have z3 : EQ.size = 1 := rfl
      have : (logS t).size = (itoaS t.day).size + EQ.size + (itoaS t.weight).size := by unfold logS; rw [cat_size, cat_size]
      omega)
  have h2 : SP.data.toList.length = 1 := rfl
  rw [List.length_map, wordsW_len, List.take_length, h2] at h1
  have e : (prnS p).size = (Lib.join ((wordsW p p.log.length).map (·.data.toList)) SP.data.toList).length := rfl
  rw [e]; omega
theorem parM_ok2 {s : ByteArray} (h : okP (mkP (numsM s.data.toList).1) = true) (h2 : prnS (mkP (numsM s.data.toList).1) = s) : parM s = (mkP (numsM s.data.toList).1, 0) := parM_text h h2
noncomputable def parA (s : ByteArray) : List AV := if (parM s).2 = 0 then eP (parM s).1 else zP
theorem parA_no {s : ByteArray} (h : ∀ p, okP p = true → prnS p ≠ s) : parA s = zP ∧ (parM s).2 = 3 := by
  have e := parM_no h
  exact ⟨if_neg (by rw [e]; decide), by rw [e]⟩
theorem parA_ok {s : ByteArray} (h : okP (mkP (numsM s.data.toList).1) = true) (h2 : prnS (mkP (numsM s.data.toList).1) = s) : parA s = eP (mkP (numsM s.data.toList).1) ∧ (parM s).2 = 0 := by
  have e := parM_ok2 h h2
  refine ⟨?_, by rw [e]⟩
  unfold parA
  rw [e]; rfl
theorem par_conv {f : FuncId} {args : List AV} {s : ByteArray} {y : AV} (h : FSpec Tryz.prog f args (.tup [.agg (parA s), y]) none) : FSpec Tryz.prog f args (.tup [.agg (eP (parM s).1), y]) none := by
  rcases parM_cases s with ⟨p, h1, h2, e⟩ | ⟨h1, e⟩
  · have e2 : parA s = eP (parM s).1 := by unfold parA; rw [e]; rfl
    rw [← e2]; exact h
  · have e2 := (parA_no h1).1
    rw [e2] at h
    rw [e]
    intro w M vals ex hl ha hM
    refine (h w M vals ex hl ha hM).mono fun e w' ⟨v, h1, h2, h3⟩ => ⟨v, h1, h2, ?_⟩
    cases h3 with
    | tup _ vs hl hh =>
      refine .tup _ vs hl fun i c u hc hu => ?_
      rcases i with _ | i
      · have := hh 0 _ u rfl hu
        have e := (Option.some.inj hc).symm
        subst e
        exact zP_c this
      · exact hh (i + 1) c u hc hu
set_option maxHeartbeats 4000000 in
set_option maxRecDepth 20000 in
theorem ParseR0_s (s : ByteArray) : FSpec Tryz.prog 53 [.sc (.string s)] (.tup [.agg (parA s), I (parM s).2]) (none) := by
  refine FSpec.of_body Tryz.func53 rfl (leB rfl) fun w0 M0 => ?_
  have hil := ints_len (numsM s.data.toList).1
  have hlg := lgM_len (numsM s.data.toList).1
  refine AWP.seq ?_
  refine AWP.region ?_
  refine AOps.call (o_alloc ze24 rfl rfl) ?_
  refine AOps.call (o_assign _ rfl rfl) ?_
  refine AOps.nil ?_
  refine AWP.seq ?_
  refine AWP.seq ?_
  refine AWP.region ?_
  refine AOps.call (o_move _ rfl rfl) ?_
  refine AOps.call (ok_lenX (cv := .int .i64 s.size) _ rfl (fun w => by simp [Builtin.len_, run_underlying' Tryz.underlying9, Result.andThen, goInt]) (okD rfl)) ?_
  refine AOps.call (o_bin _ _ rfl rfl (fun _ => rfl) rfl) ?_
  refine AOps.nil ?_
  refine AWP.cond _ rfl (fun h6 => ?_) (fun h6 => ?_)
  · skip
    have hsz : 1000 < s.size := by have := of_decide_eq_true h6; omega
    have hE := parA_no (s := s) fun p h1 h2 => by have := text_size h1; rw [h2] at this; omega
    refine AWP.seq ?_
    refine AWP.region ?_
    refine AOps.call (o_build bu24 rfl rfl rfl) ?_
    refine AOps.cons (o_store _ _ rfl rfl Tryz.sizeOf24 rfl rfl rfl rfl rfl) ?_
    refine AOps.call (o_assign _ rfl rfl) ?_
    refine AOps.nil ?_
    refine AWP.ret ?_
    refine postQ.retC1 Tryz.results53 rfl rfl Tryz.sizeOf24 Tryz.isAgg24 rfl rfl ?_
    rw [hE.1, hE.2]
    rfl
  · skip
    have hsz : s.size ≤ 1000 := by have := of_decide_eq_false h6; omega
    have hnl := numsM_len s.data.toList
    have hbl : s.data.toList.length = s.size := Array.length_toList
    refine AWP.skip ?_
    refine AWP.seq ?_
    refine AWP.region ?_
    refine AOps.call (o_move _ rfl rfl) ?_
    refine AOps.call (o_call (numerals_s s hsz) Tryz.call86 rfl rfl) ?_
    refine AOps.call (o_assign _ rfl rfl) ?_
    refine AOps.nil ?_
    refine AWP.seq ?_
    refine AWP.seq ?_
    refine AWP.region ?_
    refine AOps.call (o_move _ rfl rfl) ?_
    refine AOps.call (o_len _ Tryz.underlying25 rfl rfl) ?_
    refine AOps.call (o_bin _ _ rfl rfl (fun _ => rfl) rfl) ?_
    refine AOps.nil ?_
    refine AWP.cond _ rfl (fun h13 => ?_) (fun h13 => ?_)
    · skip
      have h6 : ((numsM s.data.toList).1).length < 6 := by have := of_decide_eq_true h13; omega
      have hE := parA_no (s := s) fun p h1 h2 => by have := par_len h1 h2; omega
      refine AWP.seq ?_
      refine AWP.region ?_
      refine AOps.call (o_build bu24 rfl rfl rfl) ?_
      refine AOps.cons (o_store _ _ rfl rfl Tryz.sizeOf24 rfl rfl rfl rfl rfl) ?_
      refine AOps.call (o_assign _ rfl rfl) ?_
      refine AOps.nil ?_
      refine AWP.ret ?_
      refine postQ.retC1 Tryz.results53 rfl rfl Tryz.sizeOf24 Tryz.isAgg24 rfl rfl ?_
      rw [hE.1, hE.2]
      rfl
    · skip
      have h6 : 6 ≤ ((numsM s.data.toList).1).length := by have := of_decide_eq_false h13; omega
      refine AWP.skip ?_
      refine AWP.seq ?_
      refine AWP.drawn 20 mixed (by kernel_rfl) ?_
      refine AHead.call (o_move _ rfl rfl) rfl ?_
      refine AHead.call (o_index _ _ Tryz.underlying25 Tryz.sizeOf3 rfl rfl (by decide) (ints_get0 (l := (numsM s.data.toList).1) (k := 0) (j := 0) rfl (by omega)) rfl rfl) rfl ?_
      refine AHead.call (o_loadRd _ rfl Tryz.sizeOf3 Tryz.isAgg3 rfl rfl rfl) rfl ?_
      refine AHead.call (o_move _ rfl rfl) rfl ?_
      refine AHead.call (o_index _ _ Tryz.underlying25 Tryz.sizeOf3 rfl rfl (by decide) (ints_get0 (l := (numsM s.data.toList).1) (k := 1) (j := 1) rfl (by omega)) rfl rfl) rfl ?_
      refine AHead.call (o_loadRd _ rfl Tryz.sizeOf3 Tryz.isAgg3 rfl rfl rfl) rfl ?_
      refine AHead.call (o_move _ rfl rfl) rfl ?_
      refine AHead.call (o_index _ _ Tryz.underlying25 Tryz.sizeOf3 rfl rfl (by decide) (ints_get0 (l := (numsM s.data.toList).1) (k := 2) (j := 2) rfl (by omega)) rfl rfl) rfl ?_
      refine AHead.call (o_loadRd _ rfl Tryz.sizeOf3 Tryz.isAgg3 rfl rfl rfl) rfl ?_
      refine AHead.call (o_move _ rfl rfl) rfl ?_
      refine AHead.call (o_index _ _ Tryz.underlying25 Tryz.sizeOf3 rfl rfl (by decide) (ints_get0 (l := (numsM s.data.toList).1) (k := 3) (j := 3) rfl (by omega)) rfl rfl) rfl ?_
      refine AHead.call (o_loadRd _ rfl Tryz.sizeOf3 Tryz.isAgg3 rfl rfl rfl) rfl ?_
      refine AHead.call (o_move _ rfl rfl) rfl ?_
      refine AHead.call (o_index _ _ Tryz.underlying25 Tryz.sizeOf3 rfl rfl (by decide) (ints_get0 (l := (numsM s.data.toList).1) (k := 4) (j := 4) rfl (by omega)) rfl rfl) rfl ?_
      refine AHead.call (o_loadRd _ rfl Tryz.sizeOf3 Tryz.isAgg3 rfl rfl rfl) rfl ?_
      refine AHead.call (o_move _ rfl rfl) rfl ?_
      refine AHead.call (o_index _ _ Tryz.underlying25 Tryz.sizeOf3 rfl rfl (by decide) (ints_get0 (l := (numsM s.data.toList).1) (k := 5) (j := 5) rfl (by omega)) rfl rfl) rfl ?_
      refine AHead.call (o_loadRd _ rfl Tryz.sizeOf3 Tryz.isAgg3 rfl rfl rfl) rfl ?_
      refine AHead.call (o_build bu24 rfl rfl rfl) rfl ?_
      refine AHead.call (o_alloc ze24 rfl rfl) rfl ?_
      refine AHead.nil ?_
      refine AOps.cons (o_store _ _ rfl rfl Tryz.sizeOf24 rfl rfl rfl rfl rfl) ?_
      refine AOps.nil ?_
      refine AWP.seq ?_
      refine AWP.seq ?_
      refine AWP.region ?_
      refine AOps.call (o_assign _ rfl rfl) ?_
      refine AOps.nil ?_
      refine AWP.block ?_
      refine AWP.weak (Weak.ownIn (id := (5, 0)) (58, 0) 6 2 27 rfl rfl rfl rfl) ?_
      refine AWP.loop (ι := Nat) (fun i => AS.mk' 74 [(0, .sc (.string s)), (2, .ref (2, 0) 0), (4, .sl (ints (numsM s.data.toList).1)), (5, .ref (5, 0) 0), (6, I ((6 + 2 * i : Nat) : Int))] [((2, 0), zP), ((5, 0), [I (((numsM s.data.toList).1).getD 0 0), I (((numsM s.data.toList).1).getD 1 0), I (((numsM s.data.toList).1).getD 2 0), I (((numsM s.data.toList).1).getD 3 0), I (((numsM s.data.toList).1).getD 4 0), I (((numsM s.data.toList).1).getD 5 0), .own (58, 0) (shws ((lgM (numsM s.data.toList).1).take i))])] [((58, 0), ((shws ((lgM (numsM s.data.toList).1).take i)).length, 2, 27))] [(2, 1), (5, 1), (58, 1)]) (fun i => i ≤ (lgM (numsM s.data.toList).1).length) (fun i => (lgM (numsM s.data.toList).1).length - i) (0) (Weak.mk' rfl ⟨⟨.refl rfl, rfl⟩, ⟨⟨.refl rfl, rfl⟩, ⟨⟨.refl rfl, rfl⟩, ⟨⟨.refl rfl, rfl⟩, ⟨⟨.refl rfl, rfl⟩, trivial⟩⟩⟩⟩⟩ ⟨⟨rfl, rfl, rfl⟩, ⟨⟨rfl, rfl, rfl⟩, trivial⟩⟩ ⟨⟨rfl, rfl⟩, trivial⟩) (Nat.zero_le _) ?_
      rintro k hk
      try dsimp only at *
      refine AWP.seq ?_
      refine AWP.seq ?_
      refine AWP.region ?_
      refine AOps.call (o_move _ rfl rfl) ?_
      refine AOps.call (o_add _ _ rfl rfl ⟨by (try dsimp only); omega, by (try dsimp only); omega⟩ rfl) ?_
      refine AOps.call (o_move _ rfl rfl) ?_
      refine AOps.call (o_len _ Tryz.underlying25 rfl rfl) ?_
      refine AOps.call (o_bin _ _ rfl rfl (fun _ => rfl) rfl) ?_
      refine AOps.nil ?_
      refine AWP.cond _ rfl (fun h34 => ?_) (fun h34 => ?_)
      · skip
        have hlt : k < (lgM (numsM s.data.toList).1).length := by have := of_decide_eq_true h34; omega
        refine AWP.skip ?_
        refine AWP.seq ?_
        refine AWP.block ?_
        refine AWP.drawn 13 mixed (by kernel_rfl) ?_
        refine AHead.call (o_fieldRef _ rfl fa24_6 rfl rfl) rfl ?_
        refine AHead.call (o_loadRef _ rfl rfl Tryz.sizeOf22 Tryz.isAgg22 rfl rfl rfl) rfl ?_
        refine AHead.call (o_move _ rfl rfl) rfl ?_
        refine AHead.call (o_move _ rfl rfl) rfl ?_
        refine AHead.call (o_index _ _ Tryz.underlying25 Tryz.sizeOf3 rfl rfl (by omega) (ints_get0 (l := (numsM s.data.toList).1) (j := 6 + 2 * k) (by omega) (by omega)) rfl rfl) rfl ?_
        refine AHead.call (o_loadRd _ rfl Tryz.sizeOf3 Tryz.isAgg3 rfl rfl rfl) rfl ?_
        refine AHead.call (o_move _ rfl rfl) rfl ?_
        refine AHead.call (o_move _ rfl rfl) rfl ?_
        refine AHead.call (o_add _ _ rfl rfl ⟨by (try dsimp only); omega, by (try dsimp only); omega⟩ rfl) rfl ?_
        refine AHead.call (o_index _ _ Tryz.underlying25 Tryz.sizeOf3 rfl rfl (by omega) (ints_get0 (l := (numsM s.data.toList).1) (j := 6 + 2 * k + 1) (by omega) (by omega)) rfl rfl) rfl ?_
        refine AHead.call (o_loadRd _ rfl Tryz.sizeOf3 Tryz.isAgg3 rfl rfl rfl) rfl ?_
        refine AHead.call (o_build bu27 rfl rfl rfl) rfl ?_
        refine AHead.call (o_lit Tryz.underlying22 Tryz.sizeOf27 Tryz.zeroValue27 rfl rfl rfl rfl rfl rfl rfl) rfl ?_
        refine AHead.nil ?_
        refine AOps.cons (o_append (rs := shws ((lgM (numsM s.data.toList).1).take (k + 1))) _ _ Tryz.underlying22 info27 rfl rfl rfl rfl rfl rfl rfl rfl (fun c hc => by simp at hc; subst hc; rfl) shws_z (by rw [shws_len, List.length_take]; unfold Tryz.t27; simp only [List.length_cons, List.length_nil]; omega) rfl (lgM_snoc hlt) rfl) ?_
        refine AOps.call (o_fieldRef _ rfl fa24_6 rfl rfl) ?_
        refine AOps.cons (o_store _ _ rfl rfl Tryz.sizeOf22 rfl rfl rfl rfl rfl) ?_
        refine AOps.nil ?_
        refine AWP.region ?_
        refine AOps.call (o_move _ rfl rfl) ?_
        refine AOps.call (o_add _ _ rfl rfl ⟨by (try dsimp only); omega, by (try dsimp only); omega⟩ rfl) ?_
        refine AOps.call (o_assign _ rfl rfl) ?_
        refine AOps.nil ?_
        refine ⟨k + 1, ?_, (Weak.mk' rfl ⟨⟨.refl rfl, rfl⟩, ⟨⟨.refl rfl, rfl⟩, ⟨⟨.refl rfl, rfl⟩, ⟨⟨.refl rfl, rfl⟩, ⟨⟨.refl (congrArg I (by (try dsimp only); omega)), rfl⟩, trivial⟩⟩⟩⟩⟩ ⟨⟨rfl, rfl, rfl⟩, ⟨⟨rfl, rfl, rfl⟩, trivial⟩⟩ ⟨⟨rfl, rfl⟩, trivial⟩)⟩
        exact ⟨by omega, by omega⟩
      · skip
        have hkl : k = (lgM (numsM s.data.toList).1).length := by have := of_decide_eq_false h34; omega
        subst hkl
        have hPr := PrintR_s (mkP (numsM s.data.toList).1)
        have hq1 : ∀ p, okP p = true → prnS p = s → mkP (numsM s.data.toList).1 = p := fun p h1 h2 => par_key h1 h2
        rw [List.take_length]
        refine AWP.exit ?_
        refine AWP.seq ?_
        refine AWP.region ?_
        refine AOps.call (o_loadRef _ rfl rfl Tryz.sizeOf24 Tryz.isAgg24 rfl rfl rfl) ?_
        refine AOps.call (o_call hPr Tryz.call51 rfl rfl) ?_
        refine AOps.call (o_move _ rfl rfl) ?_
        refine AOps.call (o_extract _ rfl rfl rfl rfl) ?_
        refine AOps.call (o_extract _ rfl rfl rfl rfl) ?_
        refine AOps.call (o_assign _ rfl rfl) ?_
        refine AOps.call (o_assign _ rfl rfl) ?_
        refine AOps.nil ?_
        refine AWP.seq ?_
        refine AWP.seq ?_
        refine AWP.region ?_
        refine AOps.call (o_move _ rfl rfl) ?_
        refine AOps.call (o_bin _ _ rfl rfl (fun _ => rfl) rfl) ?_
        refine AOps.call (o_move _ rfl rfl) ?_
        refine AOps.split rfl rfl rfl (fun h52 => ?_) (fun h52 => ?_)
        · skip
          have hg66 := h52
          refine AOps.go rfl rfl rfl h52 (o_move _ rfl rfl) ?_
          refine AOps.go rfl rfl rfl h52 (o_move _ rfl rfl) ?_
          refine AOps.go rfl rfl rfl h52 (o_bin _ _ rfl rfl (fun _ => rfl) rfl) ?_
          refine AOps.call (o_pickF _ _ _ rfl h52 rfl rfl) ?_
          refine AOps.nil ?_
          refine AWP.cond _ rfl (fun h55 => ?_) (fun h55 => ?_)
          · skip
            have hE := parA_no (s := s) fun p h1 h2 => by
              have e := hq1 p h1 h2
              have e1 : prnM (mkP (numsM s.data.toList).1) = (prnS p, 0) := by rw [e]; exact if_pos h1
              have hq := h55
              rw [e1, h2] at hq
              simp at hq
            refine AWP.seq ?_
            refine AWP.region ?_
            refine AOps.call (o_build bu24 rfl rfl rfl) ?_
            refine AOps.cons (o_store _ _ rfl rfl Tryz.sizeOf24 rfl rfl rfl rfl rfl) ?_
            refine AOps.call (o_assign _ rfl rfl) ?_
            refine AOps.nil ?_
            refine AWP.ret ?_
            refine postQ.retC1 Tryz.results53 rfl rfl Tryz.sizeOf24 Tryz.isAgg24 rfl rfl ?_
            rw [hE.1, hE.2]
            rfl
          · skip
            have hE : parA s = eP (mkP (numsM s.data.toList).1) ∧ (parM s).2 = 0 := by
              have hok : okP (mkP (numsM s.data.toList).1) = true := by
                by_cases h : okP (mkP (numsM s.data.toList).1) = true
                · exact h
                · exfalso
                  have e1 : prnM (mkP (numsM s.data.toList).1) = (⟨#[]⟩, 30) := if_neg h
                  rw [e1] at hg66
                  exact absurd hg66 (by decide)
              have e1 : prnM (mkP (numsM s.data.toList).1) = (prnS (mkP (numsM s.data.toList).1), 0) := if_pos hok
              have hq := h55
              rw [e1] at hq
              exact parA_ok hok (ba_inj (by simpa using hq))
            refine AWP.skip ?_
            refine AWP.seq ?_
            refine AWP.region ?_
            refine AOps.call (o_loadRef _ rfl rfl Tryz.sizeOf24 Tryz.isAgg24 rfl rfl rfl) ?_
            refine AOps.cons (o_store _ _ rfl rfl Tryz.sizeOf24 rfl rfl rfl rfl rfl) ?_
            refine AOps.call (o_assign _ rfl rfl) ?_
            refine AOps.nil ?_
            refine AWP.ret ?_
            refine postQ.retC1 Tryz.results53 rfl rfl Tryz.sizeOf24 Tryz.isAgg24 rfl rfl ?_
            rw [hE.1, hE.2]
            rfl
        · skip
          have hg66 := h52
          refine AOps.pass rfl rfl rfl h52 rfl ?_
          refine AOps.pass rfl rfl rfl h52 rfl ?_
          refine AOps.pass rfl rfl rfl h52 rfl ?_
          refine AOps.call (o_pickT _ _ _ rfl h52 rfl rfl) ?_
          refine AOps.nil ?_
          refine AWP.condT rfl ?_
          have hE := parA_no (s := s) fun p h1 h2 => by
            have e := hq1 p h1 h2
            have e1 : prnM (mkP (numsM s.data.toList).1) = (prnS p, 0) := by rw [e]; exact if_pos h1
            rw [e1] at hg66
            simp at hg66
          refine AWP.seq ?_
          refine AWP.region ?_
          refine AOps.call (o_build bu24 rfl rfl rfl) ?_
          refine AOps.cons (o_store _ _ rfl rfl Tryz.sizeOf24 rfl rfl rfl rfl rfl) ?_
          refine AOps.call (o_assign _ rfl rfl) ?_
          refine AOps.nil ?_
          refine AWP.ret ?_
          refine postQ.retC1 Tryz.results53 rfl rfl Tryz.sizeOf24 Tryz.isAgg24 rfl rfl ?_
          rw [hE.1, hE.2]
          rfl
theorem ParseR_s (s : ByteArray) : FSpec Tryz.prog 53 [.sc (.string s)] (.tup [.agg (eP (parM s).1), I (parM s).2]) none := par_conv (ParseR0_s s)
end Go.Proofs.YtelenedgaoglaaaGreatDoor
set_option linter.unusedSimpArgs false
set_option linter.unusedVariables false
namespace Go.Proofs.YtelenedgaoglaaaGreatDoor
open Go.Ab Go.Pil
theorem idx_cons (b c : UInt8) (l : List UInt8) : Lib.index (b :: l) [c] = if c = b then 0 else if Lib.index l [c] = -1 then -1 else Lib.index l [c] + 1 := by
  conv => lhs; unfold Lib.index
  simp [List.isPrefixOf]
theorem idx_word {c : UInt8} : ∀ (w r : List UInt8), c ∉ w → Lib.index (w ++ c :: r) [c] = w.length := by
  intro w r
  induction w with
  | nil => intro _; rw [List.nil_append, idx_cons, if_pos rfl]; rfl
  | cons b w ih =>
    intro h
    have h1 : ¬ c = b := fun e => h (by rw [e]; exact List.mem_cons_self)
    have h2 := ih fun hm => h (List.mem_cons_of_mem _ hm)
    rw [List.cons_append, idx_cons, if_neg h1, h2, if_neg (by omega), List.length_cons]; omega
theorem idx_none {c : UInt8} : ∀ (w : List UInt8), c ∉ w → Lib.index w [c] = -1 := by
  intro w
  induction w with
  | nil => intro _; rfl
  | cons b w ih =>
    intro h
    have h1 : ¬ c = b := fun e => h (by rw [e]; exact List.mem_cons_self)
    rw [idx_cons, if_neg h1, ih fun hm => h (List.mem_cons_of_mem _ hm), if_pos rfl]
theorem split_none {c : UInt8} {w : List UInt8} (h : c ∉ w) (k : Nat) : Lib.splitK [c] 0 k w = [w] := by
  cases k with
  | zero => rfl
  | succ k => unfold Lib.splitK; rw [idx_none w h]; rfl
theorem split_hit {c : UInt8} {w r : List UInt8} (h : c ∉ w) (k : Nat) : Lib.splitK [c] 0 (k + 1) (w ++ c :: r) = w :: Lib.splitK [c] 0 k r := by
  have h1 := idx_word w r h
  rw [Lib.splitK, h1]
  have h2 : ¬ (((w.length : Nat) : Int) == -1) = true := by simp
  rw [if_neg h2]
  have h3 : (((w.length : Nat) : Int)).toNat = w.length := by omega
  rw [h3, Nat.add_zero]
  have h4 : (w ++ c :: r).take w.length = w := by simp
  have h5 : (w ++ c :: r).drop (w.length + [c].length) = r := by
    rw [show w ++ c :: r = (w ++ [c]) ++ r by simp, show w.length + [c].length = (w ++ [c]).length by simp, List.drop_left]
  rw [h4, h5]
theorem split_join {c : UInt8} : ∀ (r : List (List UInt8)) (x : List UInt8) (k : Nat), c ∉ x → (∀ y ∈ r, c ∉ y) → r.length ≤ k → Lib.splitK [c] 0 k (Lib.join (x :: r) [c]) = x :: r := by
  intro r
  induction r with
  | nil =>
    intro x k hx _ _
    rw [Lib.join_cons]
    have e : x ++ Lib.joinTail [c] [] = x := by simp [Lib.joinTail]
    rw [e]; exact split_none hx k
  | cons y r ih =>
    intro x k hx hr hk
    obtain ⟨k, rfl⟩ : ∃ k', k = k' + 1 := ⟨k - 1, by simp only [List.length_cons] at hk; omega⟩
    have e : Lib.join (x :: y :: r) [c] = x ++ c :: Lib.join (y :: r) [c] := by
      rw [Lib.join_cons, Lib.join_cons]
      simp [Lib.joinTail]
    rw [e, split_hit hx, ih y k (hr y List.mem_cons_self) (fun z hz => hr z (List.mem_cons_of_mem _ hz)) (by simp only [List.length_cons] at hk; omega)]
theorem dig_byte {u : Nat} (h : u < 10) : (UInt8.ofNat (48 + u)).toNat = 48 + u := by simp; omega
theorem dec_digits : ∀ (u : Nat), ∀ b ∈ Lib.decDigits u, 48 ≤ b.toNat ∧ b.toNat ≤ 57 := by
  intro u
  induction u using Nat.strongRecOn with
  | _ u ih =>
    intro b hb
    rw [Lib.decDigits] at hb
    split at hb
    · rw [List.mem_singleton] at hb
      subst hb
      rw [dig_byte (by assumption)]; omega
    · rcases List.mem_append.1 hb with h | h
      · exact ih (u / 10) (by omega) b h
      · rw [List.mem_singleton] at h
        subst h
        rw [dig_byte (by omega)]; omega
theorem itoa_digits {n : Int} (h0 : 0 ≤ n) : ∀ b ∈ (itoaS n).data.toList, 48 ≤ b.toNat ∧ b.toNat ≤ 57 := by
  have e : (itoaS n).data.toList = Lib.decDigits n.toNat := by unfold itoaS Lib.itoa; rw [if_neg (by omega)]
  rw [e]; exact dec_digits _
theorem not_mem_of_digits {l : List UInt8} {c : UInt8} (h : ∀ b ∈ l, 48 ≤ b.toNat ∧ b.toNat ≤ 57) (hc : c.toNat < 48 ∨ 57 < c.toNat) : c ∉ l := fun hm => by have := h c hm; omega
theorem parse_dec : ∀ (u : Nat), u ≤ 1073741824 → ∀ r : List UInt8, Lib.parseUint10 0 (Lib.decDigits u ++ r) = Lib.parseUint10 u r := by
  intro u
  induction u using Nat.strongRecOn with
  | _ u ih =>
    intro hu r
    rw [Lib.decDigits]
    by_cases h : u < 10
    · rw [dif_pos h, List.cons_append, List.nil_append, Lib.parseUint10, dig_byte h, if_pos (by omega), if_neg (by omega), if_neg (by omega)]
      rw [show 0 * 10 + (48 + u - 48) = u by omega]
    · rw [dif_neg h, List.append_assoc, ih (u / 10) (by omega) (by omega), List.cons_append, List.nil_append, Lib.parseUint10, dig_byte (by omega), if_pos (by omega), if_neg (by omega), if_neg (by omega)]
      rw [show u / 10 * 10 + (48 + u % 10 - 48) = u by omega]
theorem atoi_itoa {n : Int} (h0 : 0 ≤ n) (h1 : n ≤ 1073741824) : Lib.atoiAll (itoaS n).data.toList = .ok n := by
  have e : (itoaS n).data.toList = Lib.decDigits n.toNat := by unfold itoaS Lib.itoa; rw [if_neg (by omega)]
  have hd := itoa_digits h0
  have hp := parse_dec n.toNat (by omega) []
  rw [List.append_nil] at hp
  rw [e] at hd ⊢
  cases hl : Lib.decDigits n.toNat with
  | nil =>
    have := Lib.decDigits_length n.toNat
    have h2 := Lib.nDigits_pos n.toNat
    rw [hl] at this
    simp at this; omega
  | cons c r =>
    rw [hl] at hd hp
    have hc := hd c List.mem_cons_self
    rw [Lib.atoiAll_plain c r (by omega) (by omega)]
    unfold Lib.parseMag
    rw [if_neg (by simp), hp]
    show Lib.signless (.ok n.toNat) = _
    show (if 9223372036854775808 ≤ n.toNat then Lib.NumEnd.range else Lib.NumEnd.ok ((n.toNat : Nat) : Int)) = _
    rw [if_neg (by omega), show ((n.toNat : Nat) : Int) = n by omega]
theorem pil_sp : (32 : UInt8) ∉ PIL.data.toList := by decide
theorem log_bytes (t : Shw) : (logS t).data.toList = (itoaS t.day).data.toList ++ 61 :: (itoaS t.weight).data.toList := by
  unfold logS
  rw [ByteArray.data_append, ByteArray.data_append, Array.toList_append, Array.toList_append, List.append_assoc]
  rfl
theorem split_log {t : Shw} (h0 : 0 ≤ t.day) (h1 : 0 ≤ t.weight) (k : Nat) : Lib.splitK [61] 0 (k + 1) (logS t).data.toList = [(itoaS t.day).data.toList, (itoaS t.weight).data.toList] := by
  rw [log_bytes, split_hit (not_mem_of_digits (itoa_digits h0) (.inr (by decide))), split_none (not_mem_of_digits (itoa_digits h1) (.inr (by decide)))]
theorem word_nosp {p : Plw} (hp : OkP p) {y : ByteArray} (hy : y ∈ wordsW p p.log.length) : (32 : UInt8) ∉ y.data.toList := by
  unfold wordsW headW at hy
  rcases List.mem_append.1 hy with hy | hy
  · rcases List.mem_cons.1 hy with rfl | hy
    · exact pil_sp
    · obtain ⟨n, hn, rfl⟩ := List.mem_map.1 hy
      have hx : 0 ≤ n := by
        obtain ⟨k, hk, rfl⟩ := List.getElem_of_mem (List.mem_of_mem_take hn)
        have h6 := six_len p
        have := six_nn hp (k := k) (by omega)
        rw [List.getD_eq_getElem?_getD, List.getElem?_eq_getElem hk] at this
        exact this.1
      exact not_mem_of_digits (itoa_digits hx) (.inl (by decide))
  · obtain ⟨t, ht, rfl⟩ := List.mem_map.1 hy
    have hb := log_bd hp t (List.mem_of_mem_take ht)
    rw [log_bytes]
    intro hm
    rcases List.mem_append.1 hm with hm | hm
    · exact not_mem_of_digits (itoa_digits hb.1) (.inl (by decide)) hm
    · rcases List.mem_cons.1 hm with hm | hm
      · exact absurd hm (by decide)
      · exact not_mem_of_digits (itoa_digits hb.2.2.1) (.inl (by decide)) hm
end Go.Proofs.YtelenedgaoglaaaGreatDoor
set_option linter.unusedSimpArgs false
set_option linter.unusedVariables false
namespace Go.Proofs.YtelenedgaoglaaaGreatDoor
open Go.Ab
open Go.Pil Go.RowKit
theorem run_ifcNe {P : Program} {ms : Array (String × TypeId)} {t : TypeId} (hu : P.underlying t = some (.interface ms)) (tt : TypeId) (x y : Operand) (u : Value) (w : World) : (do eqGuard .neq t x y (.iface tt u) .nilIface; binOp .neq t (.iface tt u) .nilIface : Sem Value).run P w = .ok (.bool true) w := by
  obtain ⟨n, hn⟩ : ∃ n, Op.maxDepth = n + 1 := ⟨_, rfl⟩
  simp [eqGuard, binOp]
  rw [Op.equal, hn, Op.equalIn]
  simp [run_underlying' hu, Result.andThen]
theorem o_ifcNe {P : Program} {w0 : World} {M0 : MT} {σ : AS} {ty : TypeId} {pos : String} {after : Array Edge} {guard : Option (Nat × Bool)} {d : Option Tmp} {ms : Array (String × TypeId)} {t yt tt : TypeId} {v : AV} (x : Operand) (hu : P.underlying t = some (.interface ms)) (hx : σ.ev x = .ifc tt v) (hd : okDB σ d = true) :
    OpAny P w0 M0 σ ⟨d, .binOp .neq t x (.const .nilIface) yt, ty, pos, after, guard⟩ (.val (.sc (.bool true))) :=
  opAny_val (okD hd) fun σ' a w X hag hr => by
    have h1 := hr.ev x
    rw [hag.ev x (by simp [Op.operands]), hx] at h1
    generalize hcv : a.eval x = cv at h1
    cases h1 with
    | ifc _ _ u hvu =>
      refine ⟨.bool true, ?_, .sc _⟩
      simp only [execOp, hcv]
      exact run_value (run_ifcNe hu tt _ _ u w)
def atoV (s : ByteArray) : Option Int := match Lib.atoiAll s.data.toList with | .ok v => some v | _ => none
theorem atoV_yes {s : ByteArray} {v : Int} (h : atoV s = some v) : Lib.atoiAll s.data.toList = .ok v := by
  unfold atoV at h; split at h
  · cases h; assumption
  · cases h
theorem atoV_no {s : ByteArray} (h : atoV s = none) : ∀ v, Lib.atoiAll s.data.toList ≠ .ok v := by
  intro v hv; unfold atoV at h; rw [hv] at h; cases h
def numB (ws : List ByteArray) : Bool := ws.all fun s => (atoV s).isSome
def numV (ws : List ByteArray) : List Int := ws.map fun s => (atoV s).getD 0
def numF (ws : List ByteArray) (i : Nat) : List Int := (List.range ws.length).map fun k => if k < i then (numV ws).getD k 0 else 0
theorem numF_len (ws i) : (numF ws i).length = ws.length := by simp [numF]
theorem ints_flen1 (l : List Int) : (ints l).flatten.length = l.length * 1 := by rw [flat_len _ ints_z, ints_len]
theorem ints_set1 {L : List Int} {k : Nat} {s : Int} (h : k < L.length) : splice (ints L).flatten [I s] (k * 1) = (ints (L.set k s)).flatten := by
  have e : L = L.take k ++ L[k] :: L.drop (k + 1) := by rw [← List.drop_eq_getElem_cons h, List.take_append_drop]
  have e2 : L.set k s = L.take k ++ s :: L.drop (k + 1) := List.set_eq_take_append_cons_drop.trans (if_pos h)
  rw [e2]
  conv => lhs; rw [e]
  exact flat_set (e := fun x => [I x]) (z := 1) (fun _ => rfl) (by rw [List.length_take]; omega)
theorem numF_zero (ws : List ByteArray) : (List.replicate ws.length ([Value.int .i64 0].map AV.sc)).flatten = (ints (numF ws 0)).flatten := by
  congr 1
  unfold numF ints
  apply List.ext_getElem
  · simp
  · intro k h1 h2
    simp [I]
theorem numF_step {ws : List ByteArray} {i : Nat} {v : Int} (h : i < ws.length) (hv : atoV ws[i] = some v) : (numF ws i).set i v = numF ws (i + 1) := by
  have e0 : (numV ws).getD i 0 = v := by
    rw [List.getD_eq_getElem?_getD]
    unfold numV
    rw [List.getElem?_map, List.getElem?_eq_getElem h]
    show ((atoV ws[i]).getD 0) = v
    rw [hv]; rfl
  apply List.ext_getElem
  · simp [numF]
  · intro k h1 h2
    simp only [numF, List.getElem_set, List.getElem_map, List.getElem_range]
    by_cases e : i = k
    · subst e; rw [if_pos rfl, if_pos (by omega), e0]
    · rw [if_neg e]
      by_cases h3 : k < i
      · rw [if_pos h3, if_pos (by omega)]
      · rw [if_neg h3, if_neg (by omega)]
theorem numF_all {ws : List ByteArray} {m : Nat} (h : ws.length ≤ m) : numF ws m = numV ws := by
  apply List.ext_getElem
  · simp [numF, numV]
  · intro k h1 h2
    have hk : k < ws.length := by rw [numF_len] at h1; exact h1
    simp only [numF, List.getElem_map, List.getElem_range]
    rw [if_pos (by omega), List.getD_eq_getElem?_getD, List.getElem?_eq_getElem h2]; rfl
theorem ints_scs2 (l : List Int) : ∀ x ∈ (ints l).flatten, ∃ v, x = .sc v := by
  intro x hx
  obtain ⟨e, he, hxe⟩ := List.mem_flatten.1 hx
  obtain ⟨s, _, rfl⟩ := List.mem_map.1 he
  simp [I] at hxe
  subst hxe; exact ⟨_, rfl⟩
theorem strs_at {l : List ByteArray} {k : Nat} (h : k < l.length) : (strs l)[((k : Nat) : Int).toNat]? = some [.sc (.string l[k])] := by simp [strs, h]
set_option maxHeartbeats 4000000 in
set_option maxRecDepth 20000 in
theorem numbers_s (ws : List ByteArray) (hw : ws.length ≤ 1000) (hs : ∀ s ∈ ws, s.size ≤ 140737488355328) : FSpecG Tryz.prog TAB2 85 [.sl (strs ws)] (.tup [.sl (ints (if numB ws = true then numV ws else [])), B (numB ws)]) (none) := by
  refine FSpecG.of_body tab2_stable Tryz.func85 rfl (leB rfl) fun w0 M0 hG => ?_
  have hil := strs_len ws
  refine AWP.seq ?_
  refine AWP.region ?_
  refine AOps.call (o_nil (z := 1) (e := 3) rfl) ?_
  refine AOps.call (o_assign _ rfl rfl) ?_
  refine AOps.nil ?_
  refine AWP.seq ?_
  refine AWP.region ?_
  refine AOps.call (o_move _ rfl rfl) ?_
  refine AOps.call (o_len _ Tryz.underlying116 rfl rfl) ?_
  refine AOps.mkarr (n := ws.length) (zs := [.int .i64 0]) (cs := (ints (numF ws 0)).flatten) _ _ Tryz.underlying25 info3 rfl rfl rfl rfl rfl rfl rfl rfl rfl (by rw [hil]) (by omega) rfl rfl (numF_zero ws) ?_
  refine AOps.call (o_assign _ rfl rfl) ?_
  refine AOps.nil ?_
  refine AWP.seq ?_
  refine AWP.seq ?_
  refine AWP.region ?_
  refine AOps.call (o_move _ rfl rfl) ?_
  refine AOps.call (o_len _ Tryz.underlying116 rfl rfl) ?_
  refine AOps.call (o_move _ rfl rfl) ?_
  refine AOps.nil ?_
  refine AWP.block ?_
  refine AWP.loop (ι := Nat) (fun i => AS.mk' 32 [(4, .arr (11, 0) 0 ws.length ws.length), (12, .sl (strs ws)), (13, I (strs ws).length), (14, I i)] [((11, 0), (ints (numF ws i)).flatten)] [] [(11, 1)]) (fun i => i ≤ ws.length ∧ ∀ k, (h : k < ws.length) → k < i → (atoV ws[k]).isSome = true) (fun i => ws.length - i) (0) (Weak.mk' rfl ⟨⟨.refl rfl, rfl⟩, ⟨⟨.refl rfl, rfl⟩, ⟨⟨.refl rfl, rfl⟩, ⟨⟨.refl rfl, rfl⟩, trivial⟩⟩⟩⟩ ⟨⟨rfl, lowL_sc _ _ (ints_scs2 _), rfl⟩, trivial⟩ trivial) (⟨Nat.zero_le _, fun k h hk => absurd hk (Nat.not_lt_zero _)⟩) ?_
  rintro k ⟨hk, hall⟩
  try dsimp only at *
  refine AWP.seq ?_
  refine AWP.region ?_
  refine AOps.call (o_bin _ _ rfl rfl (fun _ => rfl) rfl) ?_
  refine AOps.nil ?_
  refine AWP.seq ?_
  refine AWP.cond _ rfl (fun h9 => ?_) (fun h9 => ?_)
  · skip
    have hlt : k < ws.length := by have := of_decide_eq_true h9; omega
    have hel := strs_at hlt
    have hsz := hs _ (List.getElem_mem hlt)
    rcases hv : atoV ws[k] with _ | v
    · skip
      obtain ⟨xx, hNo⟩ := Atoi_no ws[k] hsz (atoV_no hv)
      have hnb : ¬ numB ws = true := fun h => by have := List.all_eq_true.1 h _ (List.getElem_mem hlt); rw [hv] at this; exact absurd this (by decide)
      refine AWP.skip ?_
      refine AWP.seq ?_
      refine AWP.block ?_
      refine AWP.seq ?_
      refine AWP.region ?_
      refine AOps.call (o_move _ rfl rfl) ?_
      refine AOps.call (o_index _ _ Tryz.underlying116 Tryz.sizeOf9 rfl rfl (by omega) hel rfl rfl) ?_
      refine AOps.call (o_loadRd _ rfl Tryz.sizeOf9 Tryz.isAgg9 rfl rfl rfl) ?_
      refine AOps.call (o_assign _ rfl rfl) ?_
      refine AOps.call (o_assign _ rfl rfl) ?_
      refine AOps.nil ?_
      refine AWP.seq ?_
      refine AWP.region ?_
      refine AOps.call (o_move _ rfl rfl) ?_
      refine AOps.call (o_callG hNo hG Tryz.call114 rfl rfl) ?_
      refine AOps.call (o_move _ rfl rfl) ?_
      refine AOps.call (o_extract _ rfl rfl rfl rfl) ?_
      refine AOps.call (o_extract _ rfl rfl rfl rfl) ?_
      refine AOps.call (o_assign _ rfl rfl) ?_
      refine AOps.call (o_assign _ rfl rfl) ?_
      refine AOps.nil ?_
      refine AWP.seq ?_
      refine AWP.seq ?_
      refine AWP.region ?_
      refine AOps.call (o_move _ rfl rfl) ?_
      refine AOps.call (o_ifcNe _ Tryz.underlying149 rfl rfl) ?_
      refine AOps.nil ?_
      refine AWP.cond _ rfl (fun h16 => ?_) (fun h16 => ?_)
      · skip
        refine AWP.seq ?_
        refine AWP.region ?_
        refine AOps.call (o_nil (z := 1) (e := 3) rfl) ?_
        refine AOps.call (o_assign _ rfl rfl) ?_
        refine AOps.nil ?_
        refine AWP.ret ?_
        refine postQ.ret2 Tryz.results85 rfl rfl ?_
        first
        | (rw [if_pos hnb, hnb]; rfl)
        | (rw [if_neg hnb, Bool.not_eq_true _ ▸ hnb]; rfl)
        | (rw [if_neg hnb, show numB ws = false by simpa using hnb]; rfl)
      · skip
        exfalso
        exact absurd h16 (by decide)
    · skip
      have hYes := Atoi_yes ws[k] hsz v (atoV_yes hv)
      have hst : splice (ints (numF ws k)).flatten [I v] (k * 1) = (ints (numF ws (k + 1))).flatten := by rw [ints_set1 (by rw [numF_len]; exact hlt), numF_step hlt hv]
      refine AWP.skip ?_
      refine AWP.seq ?_
      refine AWP.block ?_
      refine AWP.seq ?_
      refine AWP.region ?_
      refine AOps.call (o_move _ rfl rfl) ?_
      refine AOps.call (o_index _ _ Tryz.underlying116 Tryz.sizeOf9 rfl rfl (by omega) hel rfl rfl) ?_
      refine AOps.call (o_loadRd _ rfl Tryz.sizeOf9 Tryz.isAgg9 rfl rfl rfl) ?_
      refine AOps.call (o_assign _ rfl rfl) ?_
      refine AOps.call (o_assign _ rfl rfl) ?_
      refine AOps.nil ?_
      refine AWP.seq ?_
      refine AWP.region ?_
      refine AOps.call (o_move _ rfl rfl) ?_
      refine AOps.call (o_callG hYes hG Tryz.call114 rfl rfl) ?_
      refine AOps.call (o_move _ rfl rfl) ?_
      refine AOps.call (o_extract _ rfl rfl rfl rfl) ?_
      refine AOps.call (o_extract _ rfl rfl rfl rfl) ?_
      refine AOps.call (o_assign _ rfl rfl) ?_
      refine AOps.call (o_assign _ rfl rfl) ?_
      refine AOps.nil ?_
      refine AWP.seq ?_
      refine AWP.seq ?_
      refine AWP.region ?_
      refine AOps.call (o_move _ rfl rfl) ?_
      refine AOps.call (o_bin _ _ rfl rfl (fun _ => rfl) rfl) ?_
      refine AOps.nil ?_
      refine AWP.cond _ rfl (fun h24 => ?_) (fun h24 => ?_)
      · skip
        exfalso
        exact absurd h24 (by decide)
      · skip
        refine AWP.skip ?_
        refine AWP.region ?_
        refine AOps.call (o_move _ rfl rfl) ?_
        refine AOps.call (o_move _ rfl rfl) ?_
        refine AOps.call (o_move _ rfl rfl) ?_
        refine AOps.call (o_indexArr (o := k * 1) _ _ Tryz.underlying25 Tryz.sizeOf3 rfl rfl (by omega) (by omega) (by omega) rfl) ?_
        refine AOps.cons (o_storeE _ _ rfl rfl Tryz.sizeOf3 rfl rfl (by rw [ints_flen1, numF_len]; omega) hst rfl) ?_
        refine AOps.nil ?_
        refine AWP.region ?_
        refine AOps.call (o_add _ _ rfl rfl ⟨by (try dsimp only); omega, by (try dsimp only); omega⟩ rfl) ?_
        refine AOps.call (o_move _ rfl rfl) ?_
        refine AOps.nil ?_
        refine ⟨k + 1, ?_, (Weak.mk' rfl ⟨⟨.refl rfl, rfl⟩, ⟨⟨.refl rfl, rfl⟩, ⟨⟨.refl rfl, rfl⟩, ⟨⟨.refl rfl, rfl⟩, trivial⟩⟩⟩⟩ ⟨⟨rfl, lowL_sc _ _ (ints_scs2 _), rfl⟩, trivial⟩ trivial)⟩
        refine ⟨⟨by omega, fun j hj hjk => ?_⟩, by omega⟩
        by_cases e : j = k
        · subst e; rw [hv]; rfl
        · exact hall j hj (by omega)
  · skip
    have hkl : k = ws.length := by have := of_decide_eq_false h9; omega
    subst hkl
    have hnb : numB ws = true := List.all_eq_true.2 fun s hs2 => by
      obtain ⟨j, hj, rfl⟩ := List.getElem_of_mem hs2
      exact hall j hj hj
    refine AWP.weak (Weak.frz (id := (11, 0)) (t := 4) (z := 1) (es := ints (numV ws)) (cs' := (ints (numV ws)).flatten) rfl rfl (by rw [numF_all (Nat.le_refl _)]; exact closeL_self _ (sc_self (ints_scs2 _))) rfl ints_z (by rw [ints_len]; simp [numV])) ?_
    refine AWP.exit ?_
    refine AWP.seq ?_
    refine AWP.region ?_
    refine AOps.call (o_move _ rfl rfl) ?_
    refine AOps.call (o_assign _ rfl rfl) ?_
    refine AOps.call (o_assign _ rfl rfl) ?_
    refine AOps.nil ?_
    refine AWP.ret ?_
    refine postQ.ret2 Tryz.results85 rfl rfl ?_
    first
    | (rw [if_pos hnb, hnb]; rfl)
    | (rw [if_neg hnb, Bool.not_eq_true _ ▸ hnb]; rfl)
    | (rw [if_neg hnb, show numB ws = false by simpa using hnb]; rfl)
end Go.Proofs.YtelenedgaoglaaaGreatDoor
set_option linter.unusedSimpArgs false
set_option linter.unusedVariables false
namespace Go.Proofs.YtelenedgaoglaaaGreatDoor
open Go.Ab Go.Pil
theorem joinTail_ge (sep : List UInt8) (h : 1 ≤ sep.length) : ∀ r : List (List UInt8), r.length ≤ (Lib.joinTail sep r).length := by
  intro r
  induction r with
  | nil => exact Nat.zero_le _
  | cons y r ih =>
    have : Lib.joinTail sep (y :: r) = sep ++ y ++ Lib.joinTail sep r := by simp [Lib.joinTail]
    rw [this]; simp only [List.length_append, List.length_cons]; omega
theorem split_text2 {p : Plw} (hp : OkP p) {k : Nat} (hk : 6 + p.log.length ≤ k) : Lib.splitK [32] 0 k (prnS p).data.toList = (wordsW p p.log.length).map (·.data.toList) := by
  have hl := wordsW_len p p.log.length
  rw [List.take_length] at hl
  have e : (prnS p).data.toList = Lib.join ((wordsW p p.log.length).map (·.data.toList)) [32] := rfl
  rw [e]
  cases hw : wordsW p p.log.length with
  | nil => exact absurd hw (wordsW_ne p _)
  | cons x r =>
    rw [hw] at hl
    simp only [List.length_cons] at hl
    rw [List.map_cons]
    refine split_join _ _ k (word_nosp hp (by rw [hw]; exact List.mem_cons_self)) (fun y hy => ?_) (by rw [List.length_map]; omega)
    obtain ⟨z, hz, rfl⟩ := List.mem_map.1 hy
    exact word_nosp hp (by rw [hw]; exact List.mem_cons_of_mem _ hz)
theorem text_ge (p : Plw) : 6 + p.log.length ≤ (prnS p).size := by
  have hl := wordsW_len p p.log.length
  rw [List.take_length] at hl
  have e : (prnS p).size = (Lib.join ((wordsW p p.log.length).map (·.data.toList)) [32]).length := rfl
  rw [e]
  cases hw : wordsW p p.log.length with
  | nil => exact absurd hw (wordsW_ne p _)
  | cons x r =>
    rw [hw] at hl
    simp only [List.length_cons] at hl
    rw [List.map_cons, Lib.join_cons, List.length_append]
    have := joinTail_ge [32] (Nat.le_refl 1) (r.map (·.data.toList))
    rw [List.length_map] at this
    omega
theorem map_inj : ∀ {a b : List ByteArray}, a.map (·.data.toList) = b.map (·.data.toList) → a = b
  | [], [], _ => rfl
  | [], y :: b, h => by cases h
  | x :: a, [], h => by cases h
  | x :: a, y :: b, h => by
    rw [List.map_cons, List.map_cons] at h
    injection h with h1 h2
    rw [ByteArray.ext (Array.toList_inj.1 h1), map_inj h2]
theorem splitK_len (c : UInt8) : ∀ (k : Nat) (s : List UInt8), ∀ y ∈ Lib.splitK [c] 0 k s, y.length ≤ s.length := by
  intro k
  induction k with
  | zero => intro s y hy; rw [show Lib.splitK [c] 0 0 s = [s] from rfl, List.mem_singleton] at hy; subst hy; exact Nat.le_refl _
  | succ k ih =>
    intro s y hy
    unfold Lib.splitK at hy
    split at hy
    · rw [List.mem_singleton] at hy; subst hy; exact Nat.le_refl _
    · rcases List.mem_cons.1 hy with rfl | hy
      · rw [List.length_take]; omega
      · have := ih _ y hy
        rw [List.length_drop] at this; omega
theorem splitB_sizes {c : UInt8} {k : Nat} {s : ByteArray} : ∀ y ∈ Lib.splitB ⟨#[c]⟩ 0 k s, y.size ≤ s.size := by
  intro y hy
  have h := Lib.splitB_data ⟨#[c]⟩ 0 k s
  have h2 : y.data.toList ∈ (Lib.splitB ⟨#[c]⟩ 0 k s).map (·.data.toList) := List.mem_map.2 ⟨y, hy, rfl⟩
  rw [h] at h2
  have h3 := splitK_len c k s.data.toList _ h2
  rw [Array.length_toList, Array.length_toList] at h3
  exact h3
def wdW (s : ByteArray) : List ByteArray := Lib.splitB SP 0 (min 40 (s.size + 1) - 1) s
def w2 (w : ByteArray) : List ByteArray := Lib.splitB EQ 0 (min 3 (w.size + 1) - 1) w
def wShw (w : ByteArray) : Shw := ⟨(numV (w2 w)).getD 0 0, (numV (w2 w)).getD 1 0⟩
def okW2 (w : ByteArray) : Bool := numB (w2 w) && decide ((w2 w).length = 2)
def mkW (W : List ByteArray) : Plw := ⟨(numV ((W.drop 1).take 6)).getD 0 0, (numV ((W.drop 1).take 6)).getD 1 0, (numV ((W.drop 1).take 6)).getD 2 0, (numV ((W.drop 1).take 6)).getD 3 0, (numV ((W.drop 1).take 6)).getD 4 0, (numV ((W.drop 1).take 6)).getD 5 0, (W.drop 7).map wShw⟩
theorem wdW_len (s) : (wdW s).length ≤ 40 := by
  have := Lib.splitB_length_le SP 0 (min 40 (s.size + 1) - 1) s
  unfold wdW; omega
theorem w2_len (w) : (w2 w).length ≤ 3 := by
  have := Lib.splitB_length_le EQ 0 (min 3 (w.size + 1) - 1) w
  unfold w2; omega
theorem wdW_size (s : ByteArray) : ∀ y ∈ wdW s, y.size ≤ s.size := splitB_sizes
theorem w2_size (w : ByteArray) : ∀ y ∈ w2 w, y.size ≤ w.size := splitB_sizes
theorem wdW_text {p : Plw} (h : okP p = true) : wdW (prnS p) = wordsW p p.log.length := by
  have hp := okP_iff.1 h
  have h32 := hp.len
  have hg := text_ge p
  refine map_inj ?_
  unfold wdW
  rw [Lib.splitB_data]
  exact split_text2 hp (by omega)
theorem itoa_pos {n : Int} (h : 0 ≤ n) : 1 ≤ (itoaS n).size := by
  have e : (itoaS n).size = (Lib.itoa n).length := rfl
  rw [e]; unfold Lib.itoa
  rw [if_neg (by omega), Lib.decDigits_length]
  exact Lib.nDigits_pos _
theorem w2_log {t : Shw} (h0 : 0 ≤ t.day) (h1 : 0 ≤ t.weight) : w2 (logS t) = [itoaS t.day, itoaS t.weight] := by
  refine map_inj ?_
  unfold w2
  rw [Lib.splitB_data]
  have hs : (logS t).size = (itoaS t.day).size + EQ.size + (itoaS t.weight).size := by unfold logS; rw [cat_size, cat_size]
  have z3 : EQ.size = 1 := rfl
  have h2 := itoa_pos h0
  have h3 := itoa_pos h1
  rw [show min 3 ((logS t).size + 1) - 1 = 1 + 1 by omega]
  exact split_log h0 h1 1
theorem atoV_itoa {n : Int} (h0 : 0 ≤ n) (h1 : n ≤ 1073741824) : atoV (itoaS n) = some n := by
  unfold atoV; rw [atoi_itoa h0 h1]
theorem nums_map : ∀ (l : List Int), (∀ x ∈ l, 0 ≤ x ∧ x ≤ 1073741824) → numB (l.map itoaS) = true ∧ numV (l.map itoaS) = l := by
  intro l
  induction l with
  | nil => intro _; exact ⟨rfl, rfl⟩
  | cons a l ih =>
    intro h
    have h1 := h a List.mem_cons_self
    obtain ⟨h2, h3⟩ := ih fun x hx => h x (List.mem_cons_of_mem _ hx)
    have e := atoV_itoa h1.1 h1.2
    refine ⟨?_, ?_⟩
    · show ((atoV (itoaS a)).isSome && numB (l.map itoaS)) = true
      rw [e, h2]; rfl
    · show (atoV (itoaS a)).getD 0 :: numV (l.map itoaS) = _
      rw [e, h3]; rfl
theorem six_all {p : Plw} (hp : OkP p) : ∀ x ∈ sixL p, 0 ≤ x ∧ x ≤ 1073741824 := by
  intro x hx
  obtain ⟨k, hk, rfl⟩ := List.getElem_of_mem hx
  have h6 := six_len p
  have := six_nn hp (k := k) (by omega)
  rw [List.getD_eq_getElem?_getD, List.getElem?_eq_getElem hk] at this
  have h : 0 ≤ (sixL p)[k] ∧ (sixL p)[k] ≤ 1048576 := this
  omega
theorem words_parts (p : Plw) : ((wordsW p p.log.length).drop 1).take 6 = (sixL p).map itoaS ∧ (wordsW p p.log.length).drop 7 = p.log.map logS := by
  have e : wordsW p p.log.length = PIL :: ((sixL p).map itoaS ++ p.log.map logS) := by
    unfold wordsW headW
    rw [List.take_length]; rfl
  have hl : ((sixL p).map itoaS).length = 6 := by rw [List.length_map]; exact six_len p
  rw [e]
  refine ⟨?_, ?_⟩
  · rw [List.drop_succ_cons, List.drop_zero, List.take_left' hl]
  · rw [List.drop_succ_cons, List.drop_left' hl]
theorem log_read {p : Plw} (hp : OkP p) {t : Shw} (ht : t ∈ p.log) : okW2 (logS t) = true ∧ wShw (logS t) = t := by
  have hb := log_bd hp t ht
  have e := w2_log hb.1 hb.2.2.1
  have h := nums_map [t.day, t.weight] (fun x hx => by
    rcases List.mem_cons.1 hx with rfl | hx
    · omega
    · rw [List.mem_singleton] at hx; subst hx; omega)
  have e2 : w2 (logS t) = [t.day, t.weight].map itoaS := e
  refine ⟨?_, ?_⟩
  · unfold okW2; rw [e2, h.1]; rfl
  · unfold wShw; rw [e2, h.2]; rfl
theorem text_read {p : Plw} {s : ByteArray} (h : okP p = true) (hs : prnS p = s) :
    7 ≤ (wdW s).length ∧ numB (((wdW s).drop 1).take 6) = true ∧ (∀ w ∈ (wdW s).drop 7, okW2 w = true) ∧ mkW (wdW s) = p := by
  subst hs
  have hp := okP_iff.1 h
  obtain ⟨e1, e2⟩ := words_parts p
  have hn := nums_map (sixL p) (six_all hp)
  rw [wdW_text h]
  refine ⟨?_, ?_, ?_, ?_⟩
  · rw [wordsW_len]; omega
  · rw [e1]; exact hn.1
  · rw [e2]
    intro w hw
    obtain ⟨t, ht, rfl⟩ := List.mem_map.1 hw
    exact (log_read hp ht).1
  · unfold mkW
    rw [e1, e2, hn.2, List.map_map]
    have e3 : p.log.map (wShw ∘ logS) = p.log := by
      conv => rhs; rw [← List.map_id p.log]
      exact List.map_congr_left fun t ht => (log_read hp ht).2
    rw [e3]; rfl
end Go.Proofs.YtelenedgaoglaaaGreatDoor
set_option linter.unusedSimpArgs false
set_option linter.unusedVariables false
namespace Go.Proofs.YtelenedgaoglaaaGreatDoor
open Go.Ab
open Go.Pil Go.RowKit
theorem o_sliceStrHi {P : Program} {w0 : World} {M0 : MT} {σ : AS} {ty : TypeId} {pos : String} {after : Array Edge} {guard : Option (Nat × Bool)} {d : Option Tmp} {t h : Nat} {s r : ByteArray} (x hi : Operand) (hu : P.underlying t = some .string) (hx : exact (σ.ev x) = some (.string s))
    (hhi : boundA σ 0 (some hi) = some h) (hle : h ≤ s.size) (he : s.extract 0 h = r) (hd : okDB σ d = true) :
    OpAny P w0 M0 σ ⟨d, .slice t x none (some hi) none, ty, pos, after, guard⟩ (.val (.sc (.string r))) :=
  opAny_val (okD hd) fun σ' a w X hag hr => by
    have h1 := hr.ev x
    rw [hag.ev x (by simp [Op.operands])] at h1
    have h1 := h1.exact _ hx
    have hH := run_bound (P := P) hr (hag.ev hi (by simp [Op.operands])) hhi hle .sliceAlen
    subst he
    refine ⟨.string (s.extract 0 h), ?_, .sc _⟩
    simp only [execOp, h1]
    refine run_value ?_
    simp [Instr.sliceAt, Instr.slice, Instr.sliceBounds, run_underlying' hu, Result.andThen, hH]
theorem o_sliceStrLo {P : Program} {w0 : World} {M0 : MT} {σ : AS} {ty : TypeId} {pos : String} {after : Array Edge} {guard : Option (Nat × Bool)} {d : Option Tmp} {t l : Nat} {s r : ByteArray} (x lo : Operand) (hu : P.underlying t = some .string) (hx : exact (σ.ev x) = some (.string s))
    (hlo : boundA σ 0 (some lo) = some l) (hle : l ≤ s.size) (he : s.extract l s.size = r) (hd : okDB σ d = true) :
    OpAny P w0 M0 σ ⟨d, .slice t x (some lo) none none, ty, pos, after, guard⟩ (.val (.sc (.string r))) :=
  opAny_val (okD hd) fun σ' a w X hag hr => by
    have h1 := hr.ev x
    rw [hag.ev x (by simp [Op.operands])] at h1
    have h1 := h1.exact _ hx
    have hL := run_bound (P := P) hr (hag.ev lo (by simp [Op.operands])) hlo hle .sliceB
    subst he
    refine ⟨.string (s.extract l s.size), ?_, .sc _⟩
    simp only [execOp, h1]
    refine run_value ?_
    simp [Instr.sliceAt, Instr.slice, Instr.sliceBounds, run_underlying' hu, Result.andThen, hL]
theorem Index_s (s : ByteArray) (c : UInt8) : FSpec Tryz.prog 130 [.sc (.string s), .sc (.string (⟨#[c]⟩ : ByteArray))] (I (Lib.indexB s (⟨#[c]⟩ : ByteArray))) none := by
  intro w M vals _ hl hv hM
  obtain ⟨v, u, rfl⟩ : ∃ v u, vals = [v, u] := by
    match vals, hl with
    | [v, u], _ => exact ⟨v, u, rfl⟩
  have e1 := hv 0 _ _ rfl rfl
  have e2 := hv 1 _ _ rfl rfl
  cases e1; cases e2
  refine (Tryz.strings_Index_one s c w).mono ?_
  rintro e w' ⟨rfl, rfl⟩
  refine ⟨_, rfl, Below.refl _ _, ?_⟩
  have e : Lib.indexB s (⟨#[c]⟩ : ByteArray) = Lib.indexByte s.data.toList c := Lib.index_one _ _
  rw [e]
  exact .sc _
def pad (l : List ByteArray) (N : Nat) : List ByteArray := l ++ List.replicate (N - l.length) ByteArray.empty
theorem pad_len {l : List ByteArray} {N : Nat} (h : l.length ≤ N) : (pad l N).length = N := by unfold pad; rw [List.length_append, List.length_replicate]; omega
theorem pad_zero (N : Nat) : (List.replicate N ([Value.string ByteArray.empty].map AV.sc)).flatten = (strs (pad [] N)).flatten := by
  unfold pad strs; simp
theorem strs_flen (l : List ByteArray) : (strs l).flatten.length = l.length * 1 := by rw [flat_len _ strs_z, strs_len]
theorem pad_set {l : List ByteArray} {N : Nat} (h : l.length < N) (x : ByteArray) : splice (strs (pad l N)).flatten [.sc (.string x)] (l.length * 1) = (strs (pad (l ++ [x]) N)).flatten := by
  obtain ⟨k, hk⟩ : ∃ k, N - l.length = k + 1 := ⟨N - l.length - 1, by omega⟩
  have e1 : pad l N = l ++ ByteArray.empty :: List.replicate k ByteArray.empty := by unfold pad; rw [hk]; rfl
  have e2 : pad (l ++ [x]) N = l ++ x :: List.replicate k ByteArray.empty := by
    unfold pad
    rw [show N - (l ++ [x]).length = k by rw [List.length_append]; simp only [List.length_cons, List.length_nil]; omega]
    simp
  rw [e1, e2]
  exact flat_set (e := fun x => [.sc (.string x)]) (z := 1) (fun _ => rfl) rfl
theorem strs_scs (l : List ByteArray) : ∀ x ∈ (strs l).flatten, ∃ v, x = .sc v := by
  intro x hx
  obtain ⟨e, he, hxe⟩ := List.mem_flatten.1 hx
  obtain ⟨s, _, rfl⟩ := List.mem_map.1 he
  simp at hxe
  subst hxe; exact ⟨_, rfl⟩
theorem pad_take {l : List ByteArray} {N : Nat} : ∀ (j : Nat) c, (strs l).flatten[j]? = some c → (strs (pad l N)).flatten[j]? = some c := by
  intro j c h
  have e : (strs (pad l N)).flatten = (strs l).flatten ++ (strs (List.replicate (N - l.length) ByteArray.empty)).flatten := by unfold pad strs; simp
  rw [e, List.getElem?_append_left (List.getElem?_eq_some_iff.1 h).1]; exact h
set_option maxHeartbeats 4000000 in
set_option maxRecDepth 20000 in
theorem genSplit_s (s : ByteArray) (c : UInt8) (n : Nat) (hn : 1 ≤ n) (hn2 : n ≤ 1000) (hs : s.size ≤ 140737488355328) : FSpec Tryz.prog 113 [.sc (.string s), .sc (.string (⟨#[c]⟩ : ByteArray)), I 0, I n] (.sl (strs (Lib.splitB (⟨#[c]⟩ : ByteArray) 0 ((min n (s.size + 1)) - 1) s))) (none) := by
  refine FSpec.of_body Tryz.func113 rfl (leB rfl) fun w0 M0 => ?_
  refine AWP.seq ?_
  refine AWP.region ?_
  refine AOps.call (o_nil (z := 1) (e := 9) rfl) ?_
  refine AOps.nil ?_
  refine AWP.seq ?_
  refine AWP.seq ?_
  refine AWP.region ?_
  refine AOps.call (o_move _ rfl rfl) ?_
  refine AOps.call (o_bin _ _ rfl rfl (fun _ => rfl) rfl) ?_
  refine AOps.nil ?_
  refine AWP.cond _ rfl (fun h4 => ?_) (fun h4 => ?_)
  · skip
    exfalso
    simp at h4
    try omega
  · skip
    refine AWP.skip ?_
    refine AWP.seq ?_
    refine AWP.seq ?_
    refine AWP.region ?_
    refine AOps.call (o_move _ rfl rfl) ?_
    refine AOps.call (o_bin _ _ rfl rfl (fun _ => rfl) rfl) ?_
    refine AOps.nil ?_
    refine AWP.cond _ rfl (fun h7 => ?_) (fun h7 => ?_)
    · skip
      exfalso
      simp at h7
      try omega
    · skip
      refine AWP.skip ?_
      refine AWP.seq ?_
      refine AWP.seq ?_
      refine AWP.region ?_
      refine AOps.call (o_move _ rfl rfl) ?_
      refine AOps.call (o_bin _ _ rfl rfl (fun _ => rfl) rfl) ?_
      refine AOps.nil ?_
      refine AWP.cond _ rfl (fun h10 => ?_) (fun h10 => ?_)
      · skip
        exfalso
        simp at h10
        try omega
      · skip
        refine AWP.skip ?_
        refine AWP.seq ?_
        refine AWP.region ?_
        refine AOps.call (o_move _ rfl rfl) ?_
        refine AOps.call (o_move _ rfl rfl) ?_
        refine AOps.call (ok_lenX (cv := .int .i64 s.size) _ rfl (fun w => by simp [Builtin.len_, run_underlying' Tryz.underlying9, Result.andThen, goInt]) (okD rfl)) ?_
        refine AOps.call (o_add _ _ rfl rfl ⟨by (try dsimp only); omega, by (try dsimp only); omega⟩ rfl) ?_
        refine AOps.call (o_minZ _ _ rfl rfl rfl) ?_
        refine AOps.call (o_assign _ rfl rfl) ?_
        refine AOps.nil ?_
        refine AWP.seq ?_
        refine AWP.region ?_
        refine AOps.call (o_move _ rfl rfl) ?_
        refine AOps.mkarr (n := (min n (s.size + 1))) (zs := [.string ByteArray.empty]) (cs := (strs (pad [] (min n (s.size + 1)))).flatten) _ _ Tryz.underlying116 info9 rfl rfl rfl rfl rfl rfl rfl rfl rfl (by omega) (by omega) rfl rfl (pad_zero _) ?_
        refine AOps.call (o_assign _ rfl rfl) ?_
        refine AOps.nil ?_
        refine AWP.seq ?_
        refine AWP.region ?_
        refine AOps.call (o_move _ rfl rfl) ?_
        refine AOps.call (o_sub _ _ rfl rfl ⟨by (try dsimp only); omega, by (try dsimp only); omega⟩ rfl) ?_
        refine AOps.call (o_assign _ rfl rfl) ?_
        refine AOps.nil ?_
        refine AWP.seq ?_
        refine AWP.region ?_
        refine AOps.call (o_assign _ rfl rfl) ?_
        refine AOps.nil ?_
        refine AWP.seq ?_
        refine AWP.block ?_
        refine AWP.loop (ι := List ByteArray × ByteArray × Nat) (fun i => AS.mk' 66 [(0, .sc (.string i.2.1)), (1, .sc (.string (⟨#[c]⟩ : ByteArray))), (2, I 0), (3, I (((min n (s.size + 1)) : Nat) - 1 : Int)), (9, .arr (31, 0) 0 (min n (s.size + 1)) (min n (s.size + 1))), (10, I i.1.length)] [((31, 0), (strs (pad i.1 (min n (s.size + 1)))).flatten)] [] [(31, 1)]) (fun i => i.1.length + i.2.2 + 1 = (min n (s.size + 1)) ∧ Lib.splitB (⟨#[c]⟩ : ByteArray) 0 ((min n (s.size + 1)) - 1) s = i.1 ++ Lib.splitB (⟨#[c]⟩ : ByteArray) 0 i.2.2 i.2.1 ∧ i.2.1.size ≤ s.size) (fun i => i.2.2) ([], s, (min n (s.size + 1)) - 1) (Weak.mk' rfl ⟨⟨.refl rfl, rfl⟩, ⟨⟨.refl rfl, rfl⟩, ⟨⟨.refl rfl, rfl⟩, ⟨⟨.refl (congrArg I (by (try dsimp only); omega)), rfl⟩, ⟨⟨.refl rfl, rfl⟩, ⟨⟨.refl rfl, rfl⟩, trivial⟩⟩⟩⟩⟩⟩ ⟨⟨rfl, lowL_sc _ _ (strs_scs _), rfl⟩, trivial⟩ trivial) (⟨by (try dsimp only); simp only [List.length_nil]; omega, rfl, Nat.le_refl _⟩) ?_
        rintro ⟨dn, rest, k⟩ ⟨hk, hsp, hrs⟩
        try dsimp only at *
        refine AWP.seq ?_
        refine AWP.seq ?_
        refine AWP.region ?_
        refine AOps.call (o_move _ rfl rfl) ?_
        refine AOps.call (o_move _ rfl rfl) ?_
        refine AOps.call (o_bin _ _ rfl rfl (fun _ => rfl) rfl) ?_
        refine AOps.nil ?_
        refine AWP.cond _ rfl (fun h20 => ?_) (fun h20 => ?_)
        · skip
          have hlt : dn.length < (min n (s.size + 1)) - 1 := by have := of_decide_eq_true h20; omega
          obtain ⟨kk, rfl⟩ : ∃ kk, k = kk + 1 := ⟨k - 1, by omega⟩
          have hge := Lib.index_ge rest.data.toList (⟨#[c]⟩ : ByteArray).data.toList
          have hroom := Lib.index_room rest.data.toList (⟨#[c]⟩ : ByteArray).data.toList
          change -1 ≤ Lib.indexB rest (⟨#[c]⟩ : ByteArray) at hge
          change 0 ≤ Lib.indexB rest (⟨#[c]⟩ : ByteArray) → Lib.indexB rest (⟨#[c]⟩ : ByteArray) + 1 ≤ (rest.data.toList.length : Int) at hroom
          have hrl : rest.data.toList.length = rest.size := Array.length_toList
          refine AWP.skip ?_
          refine AWP.block ?_
          refine AWP.seq ?_
          refine AWP.region ?_
          refine AOps.call (o_move _ rfl rfl) ?_
          refine AOps.call (o_move _ rfl rfl) ?_
          refine AOps.call (o_call (Index_s rest c) Tryz.call130 rfl rfl) ?_
          refine AOps.call (o_assign _ rfl rfl) ?_
          refine AOps.nil ?_
          refine AWP.seq ?_
          refine AWP.seq ?_
          refine AWP.region ?_
          refine AOps.call (o_move _ rfl rfl) ?_
          refine AOps.call (o_bin _ _ rfl rfl (fun _ => rfl) rfl) ?_
          refine AOps.nil ?_
          refine AWP.cond _ rfl (fun h25 => ?_) (fun h25 => ?_)
          · skip
            have hm1 : Lib.indexB rest (⟨#[c]⟩ : ByteArray) = -1 := by have := of_decide_eq_true h25; omega
            have hone : dn ++ [rest] = dn ++ Lib.splitB (⟨#[c]⟩ : ByteArray) 0 (kk + 1) rest := by rw [Lib.splitB_miss _ _ _ _ hm1]
            have hres : dn ++ [rest] = Lib.splitB (⟨#[c]⟩ : ByteArray) 0 ((min n (s.size + 1)) - 1) s := by rw [hsp, hone]
            have hset := pad_set (l := dn) (N := (min n (s.size + 1))) (by omega)
            have hpl := pad_len (l := dn) (N := (min n (s.size + 1))) (by omega)
            refine AWP.exit ?_
            refine AWP.seq ?_
            refine AWP.region ?_
            refine AOps.call (o_move _ rfl rfl) ?_
            refine AOps.call (o_move _ rfl rfl) ?_
            refine AOps.call (o_move _ rfl rfl) ?_
            refine AOps.call (o_indexArr (o := dn.length * 1) _ _ Tryz.underlying116 Tryz.sizeOf9 rfl rfl (by omega) (by omega) (by omega) rfl) ?_
            refine AOps.cons (o_storeE _ _ rfl rfl Tryz.sizeOf9 rfl rfl (by rw [strs_flen, hpl]; omega) (hset _) rfl) ?_
            refine AOps.nil ?_
            refine AWP.seq ?_
            refine AWP.region ?_
            refine AOps.call (o_move _ rfl rfl) ?_
            refine AOps.call (o_move _ rfl rfl) ?_
            refine AOps.call (o_add _ _ rfl rfl ⟨by (try dsimp only); omega, by (try dsimp only); omega⟩ rfl) ?_
            refine AOps.call (o_sliceHi (h := dn.length + 1) _ _ Tryz.underlying116 Tryz.sizeOf9 rfl (boundA_some rfl (by omega) (by omega)) (by omega) rfl) ?_
            refine AOps.weak (Weak.frzP (id := (31, 0)) (t := 65) (z := 1) (es := strs (dn ++ [rest])) (cs' := (strs (pad (dn ++ [rest]) (min n (s.size + 1)))).flatten) rfl rfl (closeL_self _ (sc_self (strs_scs _))) pad_take strs_z (by rw [strs_len, List.length_append]; rfl)) ?_
            refine AOps.call (o_assign _ rfl rfl) ?_
            refine AOps.nil ?_
            refine AWP.ret ?_
            refine postQ.ret1 Tryz.results113 rfl ?_
            rw [← hres]; rfl
          · skip
            have hm0 : 0 ≤ Lib.indexB rest (⟨#[c]⟩ : ByteArray) := by have := of_decide_eq_false h25; omega
            have hr2 := hroom hm0
            obtain ⟨m, hm⟩ : ∃ m : Nat, Lib.indexB rest (⟨#[c]⟩ : ByteArray) = m := ⟨(Lib.indexB rest (⟨#[c]⟩ : ByteArray)).toNat, by omega⟩
            have hhit := Lib.splitB_hit (⟨#[c]⟩ : ByteArray) 0 kk rest m hm
            have hset := pad_set (l := dn) (N := (min n (s.size + 1))) (by omega)
            have hpl := pad_len (l := dn) (N := (min n (s.size + 1))) (by omega)
            refine AWP.skip ?_
            refine AWP.seq ?_
            refine AWP.region ?_
            refine AOps.call (o_move _ rfl rfl) ?_
            refine AOps.call (o_move _ rfl rfl) ?_
            refine AOps.call (o_move _ rfl rfl) ?_
            refine AOps.call (o_move _ rfl rfl) ?_
            refine AOps.call (o_move _ rfl rfl) ?_
            refine AOps.call (o_add _ _ rfl rfl ⟨by (try dsimp only); omega, by (try dsimp only); omega⟩ rfl) ?_
            refine AOps.call (o_sliceStrHi (r := rest.extract 0 m) _ _ Tryz.underlying9 rfl (boundA_some rfl (by omega) (show (Lib.indexB rest ⟨#[c]⟩ + 0).toNat = m by omega)) (by omega) rfl rfl) ?_
            refine AOps.call (o_indexArr (o := dn.length * 1) _ _ Tryz.underlying116 Tryz.sizeOf9 rfl rfl (by omega) (by omega) (by omega) rfl) ?_
            refine AOps.cons (o_storeE _ _ rfl rfl Tryz.sizeOf9 rfl rfl (by rw [strs_flen, hpl]; omega) (hset _) rfl) ?_
            refine AOps.nil ?_
            refine AWP.seq ?_
            refine AWP.region ?_
            refine AOps.call (o_move _ rfl rfl) ?_
            refine AOps.call (o_move _ rfl rfl) ?_
            refine AOps.call (o_move _ rfl rfl) ?_
            refine AOps.call (ok_lenX (cv := .int .i64 1) _ rfl (fun w => by simp [Builtin.len_, run_underlying' Tryz.underlying9, Result.andThen, goInt]; rfl) (okD rfl)) ?_
            refine AOps.call (o_add _ _ rfl rfl ⟨by (try dsimp only); omega, by (try dsimp only); omega⟩ rfl) ?_
            refine AOps.call (o_sliceStrLo (r := rest.extract (m + 1) rest.size) _ _ Tryz.underlying9 rfl (boundA_some rfl (by omega) (show (Lib.indexB rest ⟨#[c]⟩ + 1).toNat = m + 1 by omega)) (by omega) rfl rfl) ?_
            refine AOps.call (o_assign _ rfl rfl) ?_
            refine AOps.nil ?_
            refine AWP.region ?_
            refine AOps.call (o_move _ rfl rfl) ?_
            refine AOps.call (o_add _ _ rfl rfl ⟨by (try dsimp only); omega, by (try dsimp only); omega⟩ rfl) ?_
            refine AOps.call (o_assign _ rfl rfl) ?_
            refine AOps.nil ?_
            refine ⟨(dn ++ [rest.extract 0 m], rest.extract (m + 1) rest.size, kk), ?_, (Weak.mk' rfl ⟨⟨.refl rfl, rfl⟩, ⟨⟨.refl rfl, rfl⟩, ⟨⟨.refl rfl, rfl⟩, ⟨⟨.refl rfl, rfl⟩, ⟨⟨.refl rfl, rfl⟩, ⟨⟨.refl (congrArg I (by (try dsimp only); rw [List.length_append]; simp only [List.length_cons, List.length_nil]; omega)), rfl⟩, trivial⟩⟩⟩⟩⟩⟩ ⟨⟨rfl, lowL_sc _ _ (strs_scs _), rfl⟩, trivial⟩ trivial)⟩
            refine ⟨⟨by (try dsimp only); rw [List.length_append]; simp only [List.length_cons, List.length_nil]; omega, ?_, ?_⟩, by (try dsimp only); omega⟩
            · show _ = dn ++ [rest.extract 0 m] ++ Lib.splitB _ 0 kk (rest.extract (m + 1) rest.size)
              rw [hsp, hhit, List.append_assoc]; rfl
            · show (rest.extract (m + 1) rest.size).size ≤ s.size
              rw [ByteArray.size_extract]; omega
        · skip
          have hk0 : k = 0 := by have := of_decide_eq_false h20; omega
          subst hk0
          have hone : dn ++ [rest] = dn ++ Lib.splitB (⟨#[c]⟩ : ByteArray) 0 0 rest := rfl
          have hres : dn ++ [rest] = Lib.splitB (⟨#[c]⟩ : ByteArray) 0 ((min n (s.size + 1)) - 1) s := by rw [hsp, hone]
          have hset := pad_set (l := dn) (N := (min n (s.size + 1))) (by omega)
          have hpl := pad_len (l := dn) (N := (min n (s.size + 1))) (by omega)
          refine AWP.exit ?_
          refine AWP.seq ?_
          refine AWP.region ?_
          refine AOps.call (o_move _ rfl rfl) ?_
          refine AOps.call (o_move _ rfl rfl) ?_
          refine AOps.call (o_move _ rfl rfl) ?_
          refine AOps.call (o_indexArr (o := dn.length * 1) _ _ Tryz.underlying116 Tryz.sizeOf9 rfl rfl (by omega) (by omega) (by omega) rfl) ?_
          refine AOps.cons (o_storeE _ _ rfl rfl Tryz.sizeOf9 rfl rfl (by rw [strs_flen, hpl]; omega) (hset _) rfl) ?_
          refine AOps.nil ?_
          refine AWP.seq ?_
          refine AWP.region ?_
          refine AOps.call (o_move _ rfl rfl) ?_
          refine AOps.call (o_move _ rfl rfl) ?_
          refine AOps.call (o_add _ _ rfl rfl ⟨by (try dsimp only); omega, by (try dsimp only); omega⟩ rfl) ?_
          refine AOps.call (o_sliceHi (h := dn.length + 1) _ _ Tryz.underlying116 Tryz.sizeOf9 rfl (boundA_some rfl (by omega) (by omega)) (by omega) rfl) ?_
          refine AOps.weak (Weak.frzP (id := (31, 0)) (t := 65) (z := 1) (es := strs (dn ++ [rest])) (cs' := (strs (pad (dn ++ [rest]) (min n (s.size + 1)))).flatten) rfl rfl (closeL_self _ (sc_self (strs_scs _))) pad_take strs_z (by rw [strs_len, List.length_append]; rfl)) ?_
          refine AOps.call (o_assign _ rfl rfl) ?_
          refine AOps.nil ?_
          refine AWP.ret ?_
          refine postQ.ret1 Tryz.results113 rfl ?_
          rw [← hres]; rfl
set_option maxHeartbeats 4000000 in
set_option maxRecDepth 20000 in
theorem SplitN2_s (s : ByteArray) (c : UInt8) (n : Nat) (hn : 1 ≤ n) (hn2 : n ≤ 1000) (hs : s.size ≤ 140737488355328) : FSpec Tryz.prog 84 [.sc (.string s), .sc (.string (⟨#[c]⟩ : ByteArray)), I n] (.sl (strs (Lib.splitB (⟨#[c]⟩ : ByteArray) 0 ((min n (s.size + 1)) - 1) s))) (none) := by
  refine FSpec.of_body Tryz.func84 rfl (leB rfl) fun w0 M0 => ?_
  refine AWP.seq ?_
  refine AWP.region ?_
  refine AOps.call (o_nil (z := 1) (e := 9) rfl) ?_
  refine AOps.nil ?_
  refine AWP.seq ?_
  refine AWP.region ?_
  refine AOps.call (o_move _ rfl rfl) ?_
  refine AOps.call (o_move _ rfl rfl) ?_
  refine AOps.call (o_move _ rfl rfl) ?_
  refine AOps.call (o_call (genSplit_s s c n hn hn2 hs) Tryz.call113 rfl rfl) ?_
  refine AOps.call (o_assign _ rfl rfl) ?_
  refine AOps.nil ?_
  refine AWP.ret ?_
  exact postQ.ret1 Tryz.results84 rfl rfl
end Go.Proofs.YtelenedgaoglaaaGreatDoor
set_option linter.unusedSimpArgs false
set_option linter.unusedVariables false
namespace Go.Proofs.YtelenedgaoglaaaGreatDoor
open Go.Ab
open Go.Pil Go.RowKit
theorem parG_conv {f : FuncId} {args : List AV} {s : ByteArray} {y : AV} (h : FSpecG Tryz.prog TAB2 f args (.tup [.agg (parA s), y]) none) : FSpecG Tryz.prog TAB2 f args (.tup [.agg (eP (parM s).1), y]) none := by
  rcases parM_cases s with ⟨p, h1, h2, e⟩ | ⟨h1, e⟩
  · have e2 : parA s = eP (parM s).1 := by unfold parA; rw [e]; rfl
    rw [← e2]; exact h
  · have e2 := (parA_no h1).1
    rw [e2] at h
    rw [e]
    intro w M vals ex hl ha hM
    refine (h w M vals ex hl ha hM).mono fun e w' ⟨v, h1, h2, h3⟩ => ⟨v, h1, h2, ?_⟩
    cases h3 with
    | tup _ vs hl hh =>
      refine .tup _ vs hl fun i c u hc hu => ?_
      rcases i with _ | i
      · have := hh 0 _ u rfl hu
        have e := (Option.some.inj hc).symm
        subst e
        exact zP_c this
      · exact hh (i + 1) c u hc hu
theorem parA_ok2 {s : ByteArray} {q : Plw} (h : okP q = true) (h2 : prnS q = s) : parA s = eP q ∧ (parM s).2 = 0 := by
  have e := parM_text h h2
  refine ⟨?_, by rw [e]⟩
  unfold parA
  rw [e]; rfl
theorem wShw_snoc {l : List ByteArray} {k : Nat} (h : k < l.length) : shws ((l.take k).map wShw) ++ [[I ((numV (w2 l[k])).getD 0 0), I ((numV (w2 l[k])).getD 1 0)]] = shws ((l.take (k + 1)).map wShw) := by
  rw [List.take_succ_eq_append_getElem h, List.map_append]
  unfold shws; rw [List.map_append]; rfl
set_option maxHeartbeats 4000000 in
set_option maxRecDepth 20000 in
theorem ParseP0_s (s : ByteArray) (hsz : s.size ≤ 140737488355328) : FSpecG Tryz.prog TAB2 52 [.sc (.string s)] (.tup [.agg (parA s), I (parM s).2]) (none) := by
  refine FSpecG.of_body tab2_stable Tryz.func52 rfl (leB rfl) fun w0 M0 hG => ?_
  have hWl := wdW_len s
  have hWz := wdW_size s
  have hS0 : FSpec Tryz.prog 84 [.sc (.string s), .sc (.string SP), .sc (.int .i64 (40 : Nat))] (.sl (strs (wdW s))) none := SplitN2_s s 32 40 (by decide) (by decide) hsz
  have hil := strs_len (wdW s)
  have hdl := strs_len ((wdW s).drop 7)
  have hnl1 : (numV (((wdW s).drop 1).take 6)).length = (((wdW s).drop 1).take 6).length := by simp [numV]
  have hnA := numbers_s (((wdW s).drop 1).take 6) (by rw [List.length_take, List.length_drop]; omega) (fun y hy => Nat.le_trans (hWz y (List.mem_of_mem_drop (List.mem_of_mem_take hy))) hsz)
  have hts : ((strs (wdW s)).drop 1).take (7 - 1) = strs (((wdW s).drop 1).take 6) := by simp [strs, List.map_take, List.map_drop]
  have htd : ((strs (wdW s)).drop 7).take ((strs (wdW s)).length - 7) = strs ((wdW s).drop 7) := by rw [List.take_of_length_le (by rw [List.length_drop]; omega)]; simp [strs, List.map_drop]
  refine AWP.seq ?_
  refine AWP.region ?_
  refine AOps.call (o_alloc ze24 rfl rfl) ?_
  refine AOps.call (o_assign _ rfl rfl) ?_
  refine AOps.nil ?_
  refine AWP.seq ?_
  refine AWP.region ?_
  refine AOps.call (o_move _ rfl rfl) ?_
  refine AOps.call (o_call hS0 Tryz.call84 rfl rfl) ?_
  refine AOps.call (o_assign _ rfl rfl) ?_
  refine AOps.nil ?_
  refine AWP.seq ?_
  refine AWP.seq ?_
  refine AWP.region ?_
  refine AOps.call (o_move _ rfl rfl) ?_
  refine AOps.call (o_len _ Tryz.underlying116 rfl rfl) ?_
  refine AOps.call (o_bin _ _ rfl rfl (fun _ => rfl) rfl) ?_
  refine AOps.nil ?_
  refine AWP.cond _ rfl (fun h7 => ?_) (fun h7 => ?_)
  · skip
    have h7 : (wdW s).length < 7 := by have := of_decide_eq_true h7; omega
    have hE := parA_no (s := s) fun p h1 h2 => by
      have ht := text_read h1 h2
      omega
    refine AWP.seq ?_
    refine AWP.region ?_
    refine AOps.call (o_build bu24 rfl rfl rfl) ?_
    refine AOps.cons (o_store _ _ rfl rfl Tryz.sizeOf24 rfl rfl rfl rfl rfl) ?_
    refine AOps.call (o_assign _ rfl rfl) ?_
    refine AOps.nil ?_
    refine AWP.ret ?_
    refine postQ.retC1 Tryz.results52 rfl rfl Tryz.sizeOf24 Tryz.isAgg24 rfl rfl ?_
    rw [hE.1, hE.2]
    rfl
  · skip
    have h7 : 7 ≤ (wdW s).length := by have := of_decide_eq_false h7; omega
    have hAl : (((wdW s).drop 1).take 6).length = 6 := by rw [List.length_take, List.length_drop]; omega
    have hDl : ((wdW s).drop 7).length = (wdW s).length - 7 := List.length_drop
    refine AWP.skip ?_
    refine AWP.seq ?_
    refine AWP.region ?_
    refine AOps.call (o_move _ rfl rfl) ?_
    refine AOps.call (o_sliceE (rs := strs (((wdW s).drop 1).take 6)) _ _ _ Tryz.underlying116 Tryz.sizeOf9 rfl rfl rfl (by decide) (by omega) strs_z hts rfl) ?_
    refine AOps.call (o_callG hnA hG Tryz.call85 rfl rfl) ?_
    refine AOps.call (o_move _ rfl rfl) ?_
    refine AOps.call (o_extract _ rfl rfl rfl rfl) ?_
    refine AOps.call (o_extract _ rfl rfl rfl rfl) ?_
    refine AOps.call (o_assign _ rfl rfl) ?_
    refine AOps.call (o_assign _ rfl rfl) ?_
    refine AOps.nil ?_
    refine AWP.seq ?_
    refine AWP.seq ?_
    refine AWP.region ?_
    refine AOps.call (o_move _ rfl rfl) ?_
    refine AOps.call (o_un _ rfl (fun _ => rfl) rfl) ?_
    refine AOps.nil ?_
    refine AWP.cond _ rfl (fun h15 => ?_) (fun h15 => ?_)
    · skip
      have hnb : numB (((wdW s).drop 1).take 6) = false := by simpa using h15
      have hE := parA_no (s := s) fun p h1 h2 => by
        have ht := text_read h1 h2
        rw [hnb] at ht; exact absurd ht.2.1 (by decide)
      refine AWP.seq ?_
      refine AWP.region ?_
      refine AOps.call (o_build bu24 rfl rfl rfl) ?_
      refine AOps.cons (o_store _ _ rfl rfl Tryz.sizeOf24 rfl rfl rfl rfl rfl) ?_
      refine AOps.call (o_assign _ rfl rfl) ?_
      refine AOps.nil ?_
      refine AWP.ret ?_
      refine postQ.retC1 Tryz.results52 rfl rfl Tryz.sizeOf24 Tryz.isAgg24 rfl rfl ?_
      rw [hE.1, hE.2]
      rfl
    · skip
      have hnb : numB (((wdW s).drop 1).take 6) = true := by simpa using h15
      rw [if_pos hnb]
      refine AWP.skip ?_
      refine AWP.seq ?_
      refine AWP.drawn 20 mixed (by kernel_rfl) ?_
      refine AHead.call (o_move _ rfl rfl) rfl ?_
      refine AHead.call (o_index _ _ Tryz.underlying25 Tryz.sizeOf3 rfl rfl (by decide) (ints_get0 (l := numV (((wdW s).drop 1).take 6)) (k := 0) (j := 0) rfl (by omega)) rfl rfl) rfl ?_
      refine AHead.call (o_loadRd _ rfl Tryz.sizeOf3 Tryz.isAgg3 rfl rfl rfl) rfl ?_
      refine AHead.call (o_move _ rfl rfl) rfl ?_
      refine AHead.call (o_index _ _ Tryz.underlying25 Tryz.sizeOf3 rfl rfl (by decide) (ints_get0 (l := numV (((wdW s).drop 1).take 6)) (k := 1) (j := 1) rfl (by omega)) rfl rfl) rfl ?_
      refine AHead.call (o_loadRd _ rfl Tryz.sizeOf3 Tryz.isAgg3 rfl rfl rfl) rfl ?_
      refine AHead.call (o_move _ rfl rfl) rfl ?_
      refine AHead.call (o_index _ _ Tryz.underlying25 Tryz.sizeOf3 rfl rfl (by decide) (ints_get0 (l := numV (((wdW s).drop 1).take 6)) (k := 2) (j := 2) rfl (by omega)) rfl rfl) rfl ?_
      refine AHead.call (o_loadRd _ rfl Tryz.sizeOf3 Tryz.isAgg3 rfl rfl rfl) rfl ?_
      refine AHead.call (o_move _ rfl rfl) rfl ?_
      refine AHead.call (o_index _ _ Tryz.underlying25 Tryz.sizeOf3 rfl rfl (by decide) (ints_get0 (l := numV (((wdW s).drop 1).take 6)) (k := 3) (j := 3) rfl (by omega)) rfl rfl) rfl ?_
      refine AHead.call (o_loadRd _ rfl Tryz.sizeOf3 Tryz.isAgg3 rfl rfl rfl) rfl ?_
      refine AHead.call (o_move _ rfl rfl) rfl ?_
      refine AHead.call (o_index _ _ Tryz.underlying25 Tryz.sizeOf3 rfl rfl (by decide) (ints_get0 (l := numV (((wdW s).drop 1).take 6)) (k := 4) (j := 4) rfl (by omega)) rfl rfl) rfl ?_
      refine AHead.call (o_loadRd _ rfl Tryz.sizeOf3 Tryz.isAgg3 rfl rfl rfl) rfl ?_
      refine AHead.call (o_move _ rfl rfl) rfl ?_
      refine AHead.call (o_index _ _ Tryz.underlying25 Tryz.sizeOf3 rfl rfl (by decide) (ints_get0 (l := numV (((wdW s).drop 1).take 6)) (k := 5) (j := 5) rfl (by omega)) rfl rfl) rfl ?_
      refine AHead.call (o_loadRd _ rfl Tryz.sizeOf3 Tryz.isAgg3 rfl rfl rfl) rfl ?_
      refine AHead.call (o_build bu24 rfl rfl rfl) rfl ?_
      refine AHead.call (o_alloc ze24 rfl rfl) rfl ?_
      refine AHead.nil ?_
      refine AOps.cons (o_store _ _ rfl rfl Tryz.sizeOf24 rfl rfl rfl rfl rfl) ?_
      refine AOps.nil ?_
      refine AWP.seq ?_
      refine AWP.seq ?_
      refine AWP.region ?_
      refine AOps.call (o_move _ rfl rfl) ?_
      refine AOps.call (o_sliceE (rs := strs ((wdW s).drop 7)) _ _ _ Tryz.underlying116 Tryz.sizeOf9 rfl rfl rfl (by omega) (by omega) strs_z htd rfl) ?_
      refine AOps.call (o_len _ Tryz.underlying116 rfl rfl) ?_
      refine AOps.call (o_move _ rfl rfl) ?_
      refine AOps.nil ?_
      refine AWP.block ?_
      refine AWP.weak (Weak.ownIn (id := (7, 0)) (79, 0) 6 2 27 rfl rfl rfl rfl) ?_
      refine AWP.loop (ι := Nat) (fun i => AS.mk' 96 [(0, .sc (.string s)), (2, .ref (2, 0) 0), (7, .ref (7, 0) 0), (49, .sl (strs ((wdW s).drop 7))), (50, I (strs ((wdW s).drop 7)).length), (51, I i)] [((2, 0), zP), ((7, 0), [I ((numV (((wdW s).drop 1).take 6)).getD 0 0), I ((numV (((wdW s).drop 1).take 6)).getD 1 0), I ((numV (((wdW s).drop 1).take 6)).getD 2 0), I ((numV (((wdW s).drop 1).take 6)).getD 3 0), I ((numV (((wdW s).drop 1).take 6)).getD 4 0), I ((numV (((wdW s).drop 1).take 6)).getD 5 0), .own (79, 0) (shws ((((wdW s).drop 7).take i).map wShw))])] [((79, 0), ((shws ((((wdW s).drop 7).take i).map wShw)).length, 2, 27))] [(2, 1), (7, 1), (79, 1)]) (fun i => i ≤ ((wdW s).drop 7).length) (fun i => ((wdW s).drop 7).length - i) (0) (Weak.mk' rfl ⟨⟨.refl rfl, rfl⟩, ⟨⟨.refl rfl, rfl⟩, ⟨⟨.refl rfl, rfl⟩, ⟨⟨.refl rfl, rfl⟩, ⟨⟨.refl rfl, rfl⟩, ⟨⟨.refl rfl, rfl⟩, trivial⟩⟩⟩⟩⟩⟩ ⟨⟨rfl, rfl, rfl⟩, ⟨⟨rfl, rfl, rfl⟩, trivial⟩⟩ ⟨⟨rfl, rfl⟩, trivial⟩) (Nat.zero_le _) ?_
      rintro k hk
      try dsimp only at *
      refine AWP.seq ?_
      refine AWP.region ?_
      refine AOps.call (o_bin _ _ rfl rfl (fun _ => rfl) rfl) ?_
      refine AOps.nil ?_
      refine AWP.seq ?_
      refine AWP.cond _ rfl (fun h36 => ?_) (fun h36 => ?_)
      · skip
        have hlt : k < ((wdW s).drop 7).length := by have := of_decide_eq_true h36; omega
        have hel := strs_at hlt
        have hmem := List.getElem_mem hlt
        have hz1 := Nat.le_trans (hWz _ (List.mem_of_mem_drop hmem)) hsz
        have hS1 : FSpec Tryz.prog 84 [.sc (.string ((wdW s).drop 7)[k]), .sc (.string EQ), .sc (.int .i64 (3 : Nat))] (.sl (strs (w2 ((wdW s).drop 7)[k]))) none := SplitN2_s ((wdW s).drop 7)[k] 61 3 (by decide) (by decide) hz1
        have h2l := w2_len ((wdW s).drop 7)[k]
        have hnl2 : (numV (w2 ((wdW s).drop 7)[k])).length = (w2 ((wdW s).drop 7)[k]).length := by simp [numV]
        have hnB := numbers_s (w2 ((wdW s).drop 7)[k]) (by omega) (fun y hy => Nat.le_trans (w2_size _ y hy) hz1)
        refine AWP.skip ?_
        refine AWP.seq ?_
        refine AWP.block ?_
        refine AWP.seq ?_
        refine AWP.region ?_
        refine AOps.call (o_index _ _ Tryz.underlying116 Tryz.sizeOf9 rfl rfl (by omega) hel rfl rfl) ?_
        refine AOps.call (o_loadRd _ rfl Tryz.sizeOf9 Tryz.isAgg9 rfl rfl rfl) ?_
        refine AOps.call (o_assign _ rfl rfl) ?_
        refine AOps.nil ?_
        refine AWP.seq ?_
        refine AWP.region ?_
        refine AOps.call (o_move _ rfl rfl) ?_
        refine AOps.call (o_call hS1 Tryz.call84 rfl rfl) ?_
        refine AOps.call (o_callG hnB hG Tryz.call85 rfl rfl) ?_
        refine AOps.call (o_move _ rfl rfl) ?_
        refine AOps.call (o_extract _ rfl rfl rfl rfl) ?_
        refine AOps.call (o_extract _ rfl rfl rfl rfl) ?_
        refine AOps.call (o_assign _ rfl rfl) ?_
        refine AOps.call (o_assign _ rfl rfl) ?_
        refine AOps.nil ?_
        refine AWP.seq ?_
        refine AWP.seq ?_
        refine AWP.region ?_
        refine AOps.call (o_move _ rfl rfl) ?_
        refine AOps.call (o_un _ rfl (fun _ => rfl) rfl) ?_
        refine AOps.call (o_move _ rfl rfl) ?_
        refine AOps.split rfl rfl rfl (fun h44 => ?_) (fun h44 => ?_)
        · skip
          have hg62 : numB (w2 ((wdW s).drop 7)[k]) = true := by simpa using h44
          refine AOps.go rfl rfl rfl h44 (o_move _ rfl rfl) ?_
          refine AOps.go rfl rfl rfl h44 (o_len _ Tryz.underlying25 rfl rfl) ?_
          refine AOps.go rfl rfl rfl h44 (o_bin _ _ rfl rfl (fun _ => rfl) rfl) ?_
          refine AOps.call (o_pickF _ _ _ rfl h44 rfl rfl) ?_
          refine AOps.nil ?_
          refine AWP.cond _ rfl (fun h47 => ?_) (fun h47 => ?_)
          · skip
            have hE := parA_no (s := s) fun p h1 h2 => by
              have ht := text_read h1 h2
              have hq := ht.2.2.1 _ hmem
              unfold okW2 at hq
              rw [hg62] at hq
              have hq2 := h47
              simp only [Bool.true_and, decide_eq_true_eq] at hq
              rw [if_pos hg62, ints_len, hnl2] at hq2
              simp only [bne_iff_ne, ne_eq] at hq2
              omega
            refine AWP.seq ?_
            refine AWP.region ?_
            refine AOps.call (o_build bu24 rfl rfl rfl) ?_
            refine AOps.cons (o_store _ _ rfl rfl Tryz.sizeOf24 rfl rfl rfl rfl rfl) ?_
            refine AOps.call (o_assign _ rfl rfl) ?_
            refine AOps.nil ?_
            refine AWP.ret ?_
            refine postQ.retC1 Tryz.results52 rfl rfl Tryz.sizeOf24 Tryz.isAgg24 rfl rfl ?_
            rw [hE.1, hE.2]
            rfl
          · skip
            have h22 : (w2 ((wdW s).drop 7)[k]).length = 2 := by
              have hq2 := h47
              rw [if_pos hg62, ints_len, hnl2] at hq2
              simp only [bne_eq_false_iff_eq] at hq2
              omega
            rw [if_pos hg62]
            refine AWP.skip ?_
            refine AWP.drawn 10 mixed (by kernel_rfl) ?_
            refine AHead.call (o_fieldRef _ rfl fa24_6 rfl rfl) rfl ?_
            refine AHead.call (o_loadRef _ rfl rfl Tryz.sizeOf22 Tryz.isAgg22 rfl rfl rfl) rfl ?_
            refine AHead.call (o_move _ rfl rfl) rfl ?_
            refine AHead.call (o_index _ _ Tryz.underlying25 Tryz.sizeOf3 rfl rfl (by decide) (ints_get0 (l := numV (w2 ((wdW s).drop 7)[k])) (k := 0) (j := 0) rfl (by omega)) rfl rfl) rfl ?_
            refine AHead.call (o_loadRd _ rfl Tryz.sizeOf3 Tryz.isAgg3 rfl rfl rfl) rfl ?_
            refine AHead.call (o_move _ rfl rfl) rfl ?_
            refine AHead.call (o_index _ _ Tryz.underlying25 Tryz.sizeOf3 rfl rfl (by decide) (ints_get0 (l := numV (w2 ((wdW s).drop 7)[k])) (k := 1) (j := 1) rfl (by omega)) rfl rfl) rfl ?_
            refine AHead.call (o_loadRd _ rfl Tryz.sizeOf3 Tryz.isAgg3 rfl rfl rfl) rfl ?_
            refine AHead.call (o_build bu27 rfl rfl rfl) rfl ?_
            refine AHead.call (o_lit Tryz.underlying22 Tryz.sizeOf27 Tryz.zeroValue27 rfl rfl rfl rfl rfl rfl rfl) rfl ?_
            refine AHead.nil ?_
            refine AOps.cons (o_append (rs := shws ((((wdW s).drop 7).take (k + 1)).map wShw)) _ _ Tryz.underlying22 info27 rfl rfl rfl rfl rfl rfl rfl rfl (fun c hc => by simp at hc; subst hc; rfl) shws_z (by rw [shws_len, List.length_map, List.length_take]; unfold Tryz.t27; simp only [List.length_cons, List.length_nil]; omega) rfl (wShw_snoc hlt) rfl) ?_
            refine AOps.call (o_fieldRef _ rfl fa24_6 rfl rfl) ?_
            refine AOps.cons (o_store _ _ rfl rfl Tryz.sizeOf22 rfl rfl rfl rfl rfl) ?_
            refine AOps.nil ?_
            refine AWP.region ?_
            refine AOps.call (o_add _ _ rfl rfl ⟨by (try dsimp only); omega, by (try dsimp only); omega⟩ rfl) ?_
            refine AOps.call (o_move _ rfl rfl) ?_
            refine AOps.nil ?_
            refine ⟨k + 1, ?_, (Weak.mk' rfl ⟨⟨.refl rfl, rfl⟩, ⟨⟨.refl rfl, rfl⟩, ⟨⟨.refl rfl, rfl⟩, ⟨⟨.refl rfl, rfl⟩, ⟨⟨.refl rfl, rfl⟩, ⟨⟨.refl rfl, rfl⟩, trivial⟩⟩⟩⟩⟩⟩ ⟨⟨rfl, rfl, rfl⟩, ⟨⟨rfl, rfl, rfl⟩, trivial⟩⟩ ⟨⟨rfl, rfl⟩, trivial⟩)⟩
            exact ⟨by omega, by omega⟩
        · skip
          have hg62 : numB (w2 ((wdW s).drop 7)[k]) = false := by simpa using h44
          refine AOps.pass rfl rfl rfl h44 rfl ?_
          refine AOps.pass rfl rfl rfl h44 rfl ?_
          refine AOps.pass rfl rfl rfl h44 rfl ?_
          refine AOps.call (o_pickT _ _ _ rfl h44 rfl rfl) ?_
          refine AOps.nil ?_
          refine AWP.condT rfl ?_
          have hE := parA_no (s := s) fun p h1 h2 => by
            have ht := text_read h1 h2
            have hq := ht.2.2.1 _ hmem
            unfold okW2 at hq
            rw [hg62] at hq
            simp at hq
          refine AWP.seq ?_
          refine AWP.region ?_
          refine AOps.call (o_build bu24 rfl rfl rfl) ?_
          refine AOps.cons (o_store _ _ rfl rfl Tryz.sizeOf24 rfl rfl rfl rfl rfl) ?_
          refine AOps.call (o_assign _ rfl rfl) ?_
          refine AOps.nil ?_
          refine AWP.ret ?_
          refine postQ.retC1 Tryz.results52 rfl rfl Tryz.sizeOf24 Tryz.isAgg24 rfl rfl ?_
          rw [hE.1, hE.2]
          rfl
      · skip
        have hkl : k = ((wdW s).drop 7).length := by have := of_decide_eq_false h36; omega
        subst hkl
        have hPr := Print_s (mkW (wdW s))
        have hq1 : ∀ p, okP p = true → prnS p = s → mkW (wdW s) = p := fun p h1 h2 => (text_read h1 h2).2.2.2
        rw [List.take_length]
        refine AWP.exit ?_
        refine AWP.seq ?_
        refine AWP.seq ?_
        refine AWP.region ?_
        refine AOps.call (o_loadRef _ rfl rfl Tryz.sizeOf24 Tryz.isAgg24 rfl rfl rfl) ?_
        refine AOps.call (o_callG (FSpecG.up hPr) hG Tryz.call50 rfl rfl) ?_
        refine AOps.call (o_move _ rfl rfl) ?_
        refine AOps.call (o_extract _ rfl rfl rfl rfl) ?_
        refine AOps.call (o_extract _ rfl rfl rfl rfl) ?_
        refine AOps.call (o_assign _ rfl rfl) ?_
        refine AOps.call (o_assign _ rfl rfl) ?_
        refine AOps.nil ?_
        refine AWP.seq ?_
        refine AWP.region ?_
        refine AOps.call (o_move _ rfl rfl) ?_
        refine AOps.call (o_bin _ _ rfl rfl (fun _ => rfl) rfl) ?_
        refine AOps.call (o_move _ rfl rfl) ?_
        refine AOps.split rfl rfl rfl (fun h68 => ?_) (fun h68 => ?_)
        · skip
          have hg88 := h68
          refine AOps.go rfl rfl rfl h68 (o_move _ rfl rfl) ?_
          refine AOps.go rfl rfl rfl h68 (o_move _ rfl rfl) ?_
          refine AOps.go rfl rfl rfl h68 (o_bin _ _ rfl rfl (fun _ => rfl) rfl) ?_
          refine AOps.call (o_pickF _ _ _ rfl h68 rfl rfl) ?_
          refine AOps.nil ?_
          refine AWP.cond _ rfl (fun h71 => ?_) (fun h71 => ?_)
          · skip
            have hE := parA_no (s := s) fun p h1 h2 => by
              have e := hq1 p h1 h2
              have e1 : prnM (mkW (wdW s)) = (prnS p, 0) := by rw [e]; exact if_pos h1
              have hq := h71
              rw [e1, h2] at hq
              simp at hq
            refine AWP.seq ?_
            refine AWP.region ?_
            refine AOps.call (o_build bu24 rfl rfl rfl) ?_
            refine AOps.cons (o_store _ _ rfl rfl Tryz.sizeOf24 rfl rfl rfl rfl rfl) ?_
            refine AOps.call (o_assign _ rfl rfl) ?_
            refine AOps.nil ?_
            refine AWP.ret ?_
            refine postQ.retC1 Tryz.results52 rfl rfl Tryz.sizeOf24 Tryz.isAgg24 rfl rfl ?_
            rw [hE.1, hE.2]
            rfl
          · skip
            have hE : parA s = eP (mkW (wdW s)) ∧ (parM s).2 = 0 := by
              have hok : okP (mkW (wdW s)) = true := by
                by_cases h : okP (mkW (wdW s)) = true
                · exact h
                · exfalso
                  have e1 : prnM (mkW (wdW s)) = (⟨#[]⟩, 30) := if_neg h
                  rw [e1] at hg88
                  exact absurd hg88 (by decide)
              have e1 : prnM (mkW (wdW s)) = (prnS (mkW (wdW s)), 0) := if_pos hok
              have hq := h71
              rw [e1] at hq
              exact parA_ok2 hok (ba_inj (by simpa using hq))
            refine AWP.skip ?_
            refine AWP.seq ?_
            refine AWP.region ?_
            refine AOps.call (o_loadRef _ rfl rfl Tryz.sizeOf24 Tryz.isAgg24 rfl rfl rfl) ?_
            refine AOps.cons (o_store _ _ rfl rfl Tryz.sizeOf24 rfl rfl rfl rfl rfl) ?_
            refine AOps.call (o_assign _ rfl rfl) ?_
            refine AOps.nil ?_
            refine AWP.ret ?_
            refine postQ.retC1 Tryz.results52 rfl rfl Tryz.sizeOf24 Tryz.isAgg24 rfl rfl ?_
            rw [hE.1, hE.2]
            rfl
        · skip
          have hg88 := h68
          refine AOps.pass rfl rfl rfl h68 rfl ?_
          refine AOps.pass rfl rfl rfl h68 rfl ?_
          refine AOps.pass rfl rfl rfl h68 rfl ?_
          refine AOps.call (o_pickT _ _ _ rfl h68 rfl rfl) ?_
          refine AOps.nil ?_
          refine AWP.condT rfl ?_
          have hE := parA_no (s := s) fun p h1 h2 => by
            have e := hq1 p h1 h2
            have e1 : prnM (mkW (wdW s)) = (prnS p, 0) := by rw [e]; exact if_pos h1
            rw [e1] at hg88
            simp at hg88
          refine AWP.seq ?_
          refine AWP.region ?_
          refine AOps.call (o_build bu24 rfl rfl rfl) ?_
          refine AOps.cons (o_store _ _ rfl rfl Tryz.sizeOf24 rfl rfl rfl rfl rfl) ?_
          refine AOps.call (o_assign _ rfl rfl) ?_
          refine AOps.nil ?_
          refine AWP.ret ?_
          refine postQ.retC1 Tryz.results52 rfl rfl Tryz.sizeOf24 Tryz.isAgg24 rfl rfl ?_
          rw [hE.1, hE.2]
          rfl
theorem ParseP_s (s : ByteArray) (hsz : s.size ≤ 140737488355328) : FSpecG Tryz.prog TAB2 52 [.sc (.string s)] (.tup [.agg (eP (parM s).1), I (parM s).2]) none := parG_conv (ParseP0_s s hsz)
end Go.Proofs.YtelenedgaoglaaaGreatDoor
set_option linter.unusedSimpArgs false
set_option linter.unusedVariables false
namespace Go.Proofs.YtelenedgaoglaaaGreatDoor
open Go.Ab
open Go.Pil Go.RowKit
theorem parM_len (s : ByteArray) : (parM s).1.log.length ≤ 1000000 := by
  rcases parM_cases s with ⟨p, h1, h2, e⟩ | ⟨h1, e⟩
  · rw [e]; have := (okP_iff.1 h1).len
    show p.log.length ≤ 1000000
    omega
  · rw [e]; decide
theorem prn_back {p : Plw} (h : (prnM p).2 = 0) : (prnM p).1.size ≤ 140737488355328 ∧ parM (prnM p).1 = (p, 0) ∧ p.log.length ≤ 1000000 := by
  by_cases hp : okP p = true
  · have e : prnM p = (prnS p, 0) := if_pos hp
    rw [e]
    have := text_size hp
    have h32 := (okP_iff.1 hp).len
    exact ⟨by show (prnS p).size ≤ 140737488355328; omega, parM_text hp rfl, by omega⟩
  · have e : prnM p = (⟨#[]⟩, 30) := if_neg hp
    rw [e] at h; exact absurd h (by decide)
theorem par_two (s : ByteArray) : ((parM s).2 = 0 ∧ prnM (parM s).1 = (s, 0)) ∨ (parM s).2 = 3 := by
  rcases parM_cases s with ⟨p, h1, h2, e⟩ | ⟨h1, e⟩
  · refine .inl ?_
    rw [e]
    have e2 : prnM p = (prnS p, 0) := if_pos h1
    exact ⟨rfl, by show prnM p = (s, 0); rw [e2, h2]⟩
  · exact .inr (by rw [e])
set_option maxHeartbeats 4000000 in
set_option maxRecDepth 20000 in
theorem PillowTexts_s (p : Plw) (s : ByteArray) (hsz : s.size ≤ 140737488355328) : FSpecG Tryz.prog TAB2 9 [.agg (eP p), .sc (.string s)] (B true) (none) := by
  refine FSpecG.of_body tab2_stable Tryz.func9 rfl (leB rfl) fun w0 M0 hG => ?_
  have hP1 := FSpecG.up (Print_s p)
  have hP2 := PrintR_s p
  have hQ1 := ParseP_s s hsz
  have hQ2 := ParseR_s s
  have hSm := Same_s (parM s).1 (parM_len s)
  have hT := par_two s
  have hPM := FSpecG.up (Print_s (parM s).1)
  have hBk := @prn_back p
  generalize hr : prnM p = r at hP1 hP2 hBk
  generalize hm : parM s = m at hQ1 hQ2 hSm hT hPM
  obtain ⟨rs, re⟩ := r
  obtain ⟨mq, me⟩ := m
  dsimp only at hP1 hP2 hQ1 hQ2 hSm hT hPM hBk
  refine AWP.seq ?_
  refine AWP.region ?_
  refine AOps.call (o_box _ rfl rfl rfl) ?_
  refine AOps.call (o_assign _ rfl rfl) ?_
  refine AOps.nil ?_
  refine AWP.seq ?_
  refine AWP.seq ?_
  refine AWP.region ?_
  refine AOps.call (o_callG (FSpecG.up sane_s) hG Tryz.call12 rfl rfl) ?_
  refine AOps.call (o_un _ rfl (fun _ => rfl) rfl) ?_
  refine AOps.nil ?_
  refine AWP.cond _ rfl (fun h4 => ?_) (fun h4 => ?_)
  · skip
    exfalso
    simp at h4
  · skip
    refine AWP.skip ?_
    refine AWP.seq ?_
    refine AWP.region ?_
    refine AOps.call (o_loadRef _ rfl rfl Tryz.sizeOf24 Tryz.isAgg24 rfl rfl rfl) ?_
    refine AOps.call (o_callG (hP1) hG Tryz.call50 rfl rfl) ?_
    refine AOps.call (o_move _ rfl rfl) ?_
    refine AOps.call (o_extract _ rfl rfl rfl rfl) ?_
    refine AOps.call (o_extract _ rfl rfl rfl rfl) ?_
    refine AOps.call (o_assign _ rfl rfl) ?_
    refine AOps.call (o_assign _ rfl rfl) ?_
    refine AOps.nil ?_
    refine AWP.seq ?_
    refine AWP.region ?_
    refine AOps.call (o_loadRef _ rfl rfl Tryz.sizeOf24 Tryz.isAgg24 rfl rfl rfl) ?_
    refine AOps.call (o_call (hP2) Tryz.call51 rfl rfl) ?_
    refine AOps.call (o_move _ rfl rfl) ?_
    refine AOps.call (o_extract _ rfl rfl rfl rfl) ?_
    refine AOps.call (o_extract _ rfl rfl rfl rfl) ?_
    refine AOps.call (o_assign _ rfl rfl) ?_
    refine AOps.call (o_assign _ rfl rfl) ?_
    refine AOps.nil ?_
    refine AWP.seq ?_
    refine AWP.region ?_
    refine AOps.call (o_move _ rfl rfl) ?_
    refine AOps.call (o_callG (hQ1) hG Tryz.call52 rfl rfl) ?_
    refine AOps.call (o_move _ rfl rfl) ?_
    refine AOps.call (o_extract _ rfl rfl rfl rfl) ?_
    refine AOps.call (o_extract _ rfl rfl rfl rfl) ?_
    refine AOps.call (o_alloc ze24 rfl rfl) ?_
    refine AOps.cons (o_store _ _ rfl rfl Tryz.sizeOf24 rfl rfl rfl rfl rfl) ?_
    refine AOps.call (o_assign _ rfl rfl) ?_
    refine AOps.nil ?_
    refine AWP.seq ?_
    refine AWP.region ?_
    refine AOps.call (o_move _ rfl rfl) ?_
    refine AOps.call (o_call (hQ2) Tryz.call53 rfl rfl) ?_
    refine AOps.call (o_move _ rfl rfl) ?_
    refine AOps.call (o_extract _ rfl rfl rfl rfl) ?_
    refine AOps.call (o_extract _ rfl rfl rfl rfl) ?_
    refine AOps.call (o_alloc ze24 rfl rfl) ?_
    refine AOps.cons (o_store _ _ rfl rfl Tryz.sizeOf24 rfl rfl rfl rfl rfl) ?_
    refine AOps.call (o_assign _ rfl rfl) ?_
    refine AOps.nil ?_
    refine AWP.seq ?_
    refine AWP.seq ?_
    refine AWP.region ?_
    refine AOps.call (o_move _ rfl rfl) ?_
    refine AOps.call (o_move _ rfl rfl) ?_
    refine AOps.call (o_bin _ _ rfl rfl (fun _ => rfl) rfl) ?_
    refine AOps.call (o_move _ rfl rfl) ?_
    refine AOps.split rfl rfl rfl (fun h24 => ?_) (fun h24 => ?_)
    · skip
      refine AOps.go rfl rfl rfl h24 (o_move _ rfl rfl) ?_
      refine AOps.go rfl rfl rfl h24 (o_move _ rfl rfl) ?_
      refine AOps.go rfl rfl rfl h24 (o_bin _ _ rfl rfl (fun _ => rfl) rfl) ?_
      refine AOps.call (o_pickF _ _ _ rfl h24 rfl rfl) ?_
      refine AOps.call (o_move _ rfl rfl) ?_
      refine AOps.split rfl rfl rfl (fun h26 => ?_) (fun h26 => ?_)
      · skip
        refine AOps.go rfl rfl rfl h26 (o_loadRef _ rfl rfl Tryz.sizeOf24 Tryz.isAgg24 rfl rfl rfl) ?_
        refine AOps.go rfl rfl rfl h26 (o_loadRef _ rfl rfl Tryz.sizeOf24 Tryz.isAgg24 rfl rfl rfl) ?_
        refine AOps.go rfl rfl rfl h26 (o_call (hSm) Tryz.call21 rfl rfl) ?_
        refine AOps.go rfl rfl rfl h26 (o_un _ rfl (fun _ => rfl) rfl) ?_
        refine AOps.call (o_pickF _ _ _ rfl h26 rfl rfl) ?_
        refine AOps.call (o_move _ rfl rfl) ?_
        refine AOps.split rfl rfl rfl (fun h31 => ?_) (fun h31 => ?_)
        · skip
          refine AOps.go rfl rfl rfl h31 (o_move _ rfl rfl) ?_
          refine AOps.go rfl rfl rfl h31 (o_move _ rfl rfl) ?_
          refine AOps.go rfl rfl rfl h31 (o_bin _ _ rfl rfl (fun _ => rfl) rfl) ?_
          refine AOps.call (o_pickF _ _ _ rfl h31 rfl rfl) ?_
          refine AOps.nil ?_
          refine AWP.cond _ rfl (fun h33 => ?_) (fun h33 => ?_)
          · skip
            exfalso
            simp at h33
          · skip
            refine AWP.skip ?_
            refine AWP.seq ?_
            refine AWP.seq ?_
            refine AWP.region ?_
            refine AOps.call (o_move _ rfl rfl) ?_
            refine AOps.call (o_bin _ _ rfl rfl (fun _ => rfl) rfl) ?_
            refine AOps.nil ?_
            refine AWP.cond _ rfl (fun h35 => ?_) (fun h35 => ?_)
            · skip
              have hre : re = 0 := by simpa using h35
              subst hre
              obtain ⟨hb1, hb2, hb3⟩ := hBk rfl
              have hB2 := ParseP_s rs hb1
              rw [hb2] at hB2
              dsimp only at hB2
              have hB3 := Same_s p hb3
              refine AWP.seq ?_
              refine AWP.region ?_
              refine AOps.call (o_move _ rfl rfl) ?_
              refine AOps.call (o_callG (hB2) hG Tryz.call52 rfl rfl) ?_
              refine AOps.call (o_move _ rfl rfl) ?_
              refine AOps.call (o_extract _ rfl rfl rfl rfl) ?_
              refine AOps.call (o_extract _ rfl rfl rfl rfl) ?_
              refine AOps.call (o_alloc ze24 rfl rfl) ?_
              refine AOps.cons (o_store _ _ rfl rfl Tryz.sizeOf24 rfl rfl rfl rfl rfl) ?_
              refine AOps.call (o_assign _ rfl rfl) ?_
              refine AOps.nil ?_
              refine AWP.seq ?_
              refine AWP.region ?_
              refine AOps.call (o_move _ rfl rfl) ?_
              refine AOps.call (o_bin _ _ rfl rfl (fun _ => rfl) rfl) ?_
              refine AOps.call (o_move _ rfl rfl) ?_
              refine AOps.split rfl rfl rfl (fun h41 => ?_) (fun h41 => ?_)
              · skip
                refine AOps.go rfl rfl rfl h41 (o_loadRef _ rfl rfl Tryz.sizeOf24 Tryz.isAgg24 rfl rfl rfl) ?_
                refine AOps.go rfl rfl rfl h41 (o_loadRef _ rfl rfl Tryz.sizeOf24 Tryz.isAgg24 rfl rfl rfl) ?_
                refine AOps.go rfl rfl rfl h41 (o_call (hB3) Tryz.call21 rfl rfl) ?_
                refine AOps.go rfl rfl rfl h41 (o_un _ rfl (fun _ => rfl) rfl) ?_
                refine AOps.call (o_pickF _ _ _ rfl h41 rfl rfl) ?_
                refine AOps.nil ?_
                refine AWP.cond _ rfl (fun h46 => ?_) (fun h46 => ?_)
                · skip
                  exfalso
                  simp at h46
                · skip
                  refine AWP.skip ?_
                  refine AWP.seq ?_
                  refine AWP.seq ?_
                  refine AWP.region ?_
                  refine AOps.call (o_move _ rfl rfl) ?_
                  refine AOps.call (o_bin _ _ rfl rfl (fun _ => rfl) rfl) ?_
                  refine AOps.nil ?_
                  refine AWP.cond _ rfl (fun h48 => ?_) (fun h48 => ?_)
                  · skip
                    have hme : me = 3 := by
                      rcases hT with h | h
                      · exfalso
                        have hq := h48
                        rw [h.1] at hq
                        exact absurd hq (by decide)
                      · exact h
                    subst hme
                    refine AWP.seq ?_
                    refine AWP.region ?_
                    refine AOps.call (o_move _ rfl rfl) ?_
                    refine AOps.call (o_bin _ _ rfl rfl (fun _ => rfl) rfl) ?_
                    refine AOps.call (o_assign _ rfl rfl) ?_
                    refine AOps.nil ?_
                    refine AWP.ret ?_
                    first
                    | exact postQ.ret1 Tryz.results9 rfl rfl
                    | (refine postQ.ret1 Tryz.results9 rfl ?_; simp [AV.close, AV.close.closeL, B, I]; done)
                    | (refine postQ.ret1 Tryz.results9 rfl ?_; simp [AV.close, AV.close.closeL, B, I]; omega)
                    | (refine postQ.ret1 Tryz.results9 rfl ?_; simp_all [AV.close, AV.close.closeL, B, I]; done)
                    | (refine postQ.ret1 Tryz.results9 rfl ?_; simp_all [AV.close, AV.close.closeL, B, I]; omega)
                  · skip
                    have hme : me = 0 := by simpa using h48
                    subst hme
                    have hT2 : prnM mq = (s, 0) := by
                      rcases hT with h | h
                      · exact h.2
                      · exact absurd h (by decide)
                    rw [hT2] at hPM
                    dsimp only at hPM
                    refine AWP.skip ?_
                    refine AWP.seq ?_
                    refine AWP.region ?_
                    refine AOps.call (o_loadRef _ rfl rfl Tryz.sizeOf24 Tryz.isAgg24 rfl rfl rfl) ?_
                    refine AOps.call (o_callG (hPM) hG Tryz.call50 rfl rfl) ?_
                    refine AOps.call (o_move _ rfl rfl) ?_
                    refine AOps.call (o_extract _ rfl rfl rfl rfl) ?_
                    refine AOps.call (o_extract _ rfl rfl rfl rfl) ?_
                    refine AOps.call (o_assign _ rfl rfl) ?_
                    refine AOps.call (o_assign _ rfl rfl) ?_
                    refine AOps.nil ?_
                    refine AWP.seq ?_
                    refine AWP.region ?_
                    refine AOps.call (o_move _ rfl rfl) ?_
                    refine AOps.call (o_bin _ _ rfl rfl (fun _ => rfl) rfl) ?_
                    refine AOps.call (o_move _ rfl rfl) ?_
                    refine AOps.split rfl rfl rfl (fun h55 => ?_) (fun h55 => ?_)
                    · skip
                      refine AOps.go rfl rfl rfl h55 (o_move _ rfl rfl) ?_
                      refine AOps.go rfl rfl rfl h55 (o_move _ rfl rfl) ?_
                      refine AOps.go rfl rfl rfl h55 (o_bin _ _ rfl rfl (fun _ => rfl) rfl) ?_
                      refine AOps.call (o_pickT _ _ _ rfl h55 rfl rfl) ?_
                      refine AOps.call (o_assign _ rfl rfl) ?_
                      refine AOps.nil ?_
                      refine AWP.ret ?_
                      first
                      | exact postQ.ret1 Tryz.results9 rfl rfl
                      | (refine postQ.ret1 Tryz.results9 rfl ?_; simp [AV.close, AV.close.closeL, B, I]; done)
                      | (refine postQ.ret1 Tryz.results9 rfl ?_; simp [AV.close, AV.close.closeL, B, I]; omega)
                      | (refine postQ.ret1 Tryz.results9 rfl ?_; simp_all [AV.close, AV.close.closeL, B, I]; done)
                      | (refine postQ.ret1 Tryz.results9 rfl ?_; simp_all [AV.close, AV.close.closeL, B, I]; omega)
                    · skip
                      exfalso
                      simp at h55
              · skip
                exfalso
                simp at h41
            · skip
              skip
              refine AWP.skip ?_
              refine AWP.seq ?_
              refine AWP.seq ?_
              refine AWP.region ?_
              refine AOps.call (o_move _ rfl rfl) ?_
              refine AOps.call (o_bin _ _ rfl rfl (fun _ => rfl) rfl) ?_
              refine AOps.nil ?_
              refine AWP.cond _ rfl (fun h59 => ?_) (fun h59 => ?_)
              · skip
                have hme : me = 3 := by
                  rcases hT with h | h
                  · exfalso
                    have hq := h59
                    rw [h.1] at hq
                    exact absurd hq (by decide)
                  · exact h
                subst hme
                refine AWP.seq ?_
                refine AWP.region ?_
                refine AOps.call (o_move _ rfl rfl) ?_
                refine AOps.call (o_bin _ _ rfl rfl (fun _ => rfl) rfl) ?_
                refine AOps.call (o_assign _ rfl rfl) ?_
                refine AOps.nil ?_
                refine AWP.ret ?_
                first
                | exact postQ.ret1 Tryz.results9 rfl rfl
                | (refine postQ.ret1 Tryz.results9 rfl ?_; simp [AV.close, AV.close.closeL, B, I]; done)
                | (refine postQ.ret1 Tryz.results9 rfl ?_; simp [AV.close, AV.close.closeL, B, I]; omega)
                | (refine postQ.ret1 Tryz.results9 rfl ?_; simp_all [AV.close, AV.close.closeL, B, I]; done)
                | (refine postQ.ret1 Tryz.results9 rfl ?_; simp_all [AV.close, AV.close.closeL, B, I]; omega)
              · skip
                have hme : me = 0 := by simpa using h59
                subst hme
                have hT2 : prnM mq = (s, 0) := by
                  rcases hT with h | h
                  · exact h.2
                  · exact absurd h (by decide)
                rw [hT2] at hPM
                dsimp only at hPM
                refine AWP.skip ?_
                refine AWP.seq ?_
                refine AWP.region ?_
                refine AOps.call (o_loadRef _ rfl rfl Tryz.sizeOf24 Tryz.isAgg24 rfl rfl rfl) ?_
                refine AOps.call (o_callG (hPM) hG Tryz.call50 rfl rfl) ?_
                refine AOps.call (o_move _ rfl rfl) ?_
                refine AOps.call (o_extract _ rfl rfl rfl rfl) ?_
                refine AOps.call (o_extract _ rfl rfl rfl rfl) ?_
                refine AOps.call (o_assign _ rfl rfl) ?_
                refine AOps.call (o_assign _ rfl rfl) ?_
                refine AOps.nil ?_
                refine AWP.seq ?_
                refine AWP.region ?_
                refine AOps.call (o_move _ rfl rfl) ?_
                refine AOps.call (o_bin _ _ rfl rfl (fun _ => rfl) rfl) ?_
                refine AOps.call (o_move _ rfl rfl) ?_
                refine AOps.split rfl rfl rfl (fun h66 => ?_) (fun h66 => ?_)
                · skip
                  refine AOps.go rfl rfl rfl h66 (o_move _ rfl rfl) ?_
                  refine AOps.go rfl rfl rfl h66 (o_move _ rfl rfl) ?_
                  refine AOps.go rfl rfl rfl h66 (o_bin _ _ rfl rfl (fun _ => rfl) rfl) ?_
                  refine AOps.call (o_pickT _ _ _ rfl h66 rfl rfl) ?_
                  refine AOps.call (o_assign _ rfl rfl) ?_
                  refine AOps.nil ?_
                  refine AWP.ret ?_
                  first
                  | exact postQ.ret1 Tryz.results9 rfl rfl
                  | (refine postQ.ret1 Tryz.results9 rfl ?_; simp [AV.close, AV.close.closeL, B, I]; done)
                  | (refine postQ.ret1 Tryz.results9 rfl ?_; simp [AV.close, AV.close.closeL, B, I]; omega)
                  | (refine postQ.ret1 Tryz.results9 rfl ?_; simp_all [AV.close, AV.close.closeL, B, I]; done)
                  | (refine postQ.ret1 Tryz.results9 rfl ?_; simp_all [AV.close, AV.close.closeL, B, I]; omega)
                · skip
                  exfalso
                  simp at h66
        · skip
          exfalso
          simp at h31
      · skip
        exfalso
        simp at h26
    · skip
      exfalso
      simp at h24
end Go.Proofs.YtelenedgaoglaaaGreatDoor
