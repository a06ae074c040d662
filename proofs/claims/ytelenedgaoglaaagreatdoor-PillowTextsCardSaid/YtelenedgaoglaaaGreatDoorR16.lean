/- R16. -/
import Derived.Test.YtelenedgaoglaaaGreatDoorS1
import Derived.Test.YtelenedgaoglaaaGreatDoorU1
import Derived.Test.YtelenedgaoglaaaGreatDoorRB
import Derived.Test.YtelenedgaoglaaaGreatDoorAdB
set_option linter.unusedSimpArgs false
set_option linter.unusedVariables false
namespace Go.Proofs.YtelenedgaoglaaaGreatDoor
open Go.Ab
open Go.Pil
abbrev JR (a : Option Addr) (cap : Nat) (l : List Sp) : Sec := Jrow 54 2 (.slice a l.length cap) l.length (sps l).flatten
theorem srt_bd {l : List Sp} (h : ∀ s ∈ l, BdS s) : ∀ s ∈ srt l, BdS s := fun s hs => h s ((srt_spec l).2.2.1.mem_iff.2 hs)
def pfx (l : List Sp) (i : Nat) : List Sp := ((srt l).take i).foldl stp []
theorem pfx_succ {l : List Sp} {i : Nat} (h : i < (srt l).length) : pfx l (i + 1) = stp (pfx l i) (srt l)[i] := by
  unfold pfx; rw [List.take_succ_eq_append_getElem h, List.foldl_append]; rfl
theorem pfx_bd {l : List Sp} (h : ∀ s ∈ l, BdS s) (i : Nat) : ∀ s ∈ pfx l i, BdS s := fold_bd _ _ (fun s hs => srt_bd h s (List.mem_of_mem_take hs)) (fun t ht => by cases ht)
theorem pfx_len (l : List Sp) (i : Nat) : (pfx l i).length ≤ i := by
  have := fold_len ((srt l).take i) []
  unfold pfx
  simp only [List.length_nil, List.length_take] at this
  omega
theorem pfx_all {l : List Sp} (hne : ∀ s ∈ l, s.Ne) : pfx l (srt l).length = uni l := by
  unfold pfx; rw [List.take_length, fold_joined]; exact uni_eq hne (srt_spec l).2.2.1 (srt_spec l).2.2.2
abbrev JU (l : List Sp) (a : Option Addr) (cap : Nat) (a1 : Option Addr) (cap1 : Nat) (acc : List Sp) : Sec := (JR a1 cap1 acc).sep (Jrow 54 2 (.slice a l.length cap) l.length (sps (srt l)).flatten)
theorem JU_ok {l a cap a1 cap1 acc} : SecOk (JU l a cap a1 cap1 acc) := Sec.sep_ok Jrow_ok Jrow_ok
theorem sps_app1 (acc : List Sp) (s : Sp) : (sps acc).flatten ++ ([[I s.lo, I s.hi]] : List (List AV)).flatten = (sps (acc ++ [s])).flatten := by simp [sps, eN]
theorem sps_setHi {acc : List Sp} {k : Nat} (h : k < acc.length) (x : Int) : (sps acc).flatten.set (k * 2 + 1) (I x) = (sps (acc.set k ⟨acc[k].lo, x⟩)).flatten := by
  have e : acc = acc.take k ++ acc[k] :: acc.drop (k + 1) := by rw [← List.drop_eq_getElem_cons h, List.take_append_drop]
  have e2 : acc.set k ⟨acc[k].lo, x⟩ = acc.take k ++ ⟨acc[k].lo, x⟩ :: acc.drop (k + 1) := List.set_eq_take_append_cons_drop.trans (if_pos h)
  have hf : ∀ (y : Sp), (sps (acc.take k ++ y :: acc.drop (k + 1))).flatten = (sps (acc.take k)).flatten ++ (I y.lo :: I y.hi :: (sps (acc.drop (k + 1))).flatten) := by intro y; simp [sps, eN]
  have hA : (sps (acc.take k)).flatten.length = k * 2 := by rw [flat_len _ sps_z, sps_len, List.length_take]; omega
  rw [e2, hf]
  have h3 : (sps acc).flatten = (sps (acc.take k)).flatten ++ (I acc[k].lo :: I acc[k].hi :: (sps (acc.drop (k + 1))).flatten) := (congrArg (fun z => (sps z).flatten) e).trans (hf _)
  rw [h3, List.set_append_right _ _ (by omega), hA, show k * 2 + 1 - k * 2 = 1 by omega]
  rfl
theorem getD_at {acc : List Sp} {k : Nat} (h : k < acc.length) : acc.getD k ⟨0, 0⟩ = acc[k] := by rw [List.getD_eq_getElem?_getD, List.getElem?_eq_getElem h]; rfl
theorem part_hi {acc : List Sp} {k : Nat} (h : k < acc.length) : partA false 1 ((sps acc).flatten.drop (k * 2 + 1)) = some (I acc[k].hi) := by
  have h1 := flat_get (sps acc) sps_z k 1 (eN acc[k]) (I acc[k].hi) (by simp [sps, h]) rfl
  have hl : k * 2 + 1 < (sps acc).flatten.length := (List.getElem?_eq_some_iff.1 h1).1
  rw [List.drop_eq_getElem_cons hl]
  rw [List.getElem?_eq_getElem hl] at h1
  show some _ = _
  rw [Option.some.inj h1]
set_option maxRecDepth 20000 in
theorem union_s (l : List Sp) (a : Option Addr) (cap : Nat) (hl : l.length ≤ 1000000) (hb : ∀ s ∈ l, BdS s) (hne : ∀ s ∈ l, s.Ne) : FSpecJ Tryz.prog (JR a cap l) 77 [.sc (.slice a l.length cap)] (fun r J' => r = .sl (sps (uni l)) ∧ J' = Jrow 54 2 (.slice a l.length cap) l.length (sps (srt l)).flatten) := by
  refine FSpecJ.of_body Tryz.func77 rfl (leB rfl) fun F0 w0 M0 => ?_
  have hsp := srt_spec l
  refine AWPJ.seq ?_
  refine AWPJ.lift (fun u N => ?_)
  refine AWP.region ?_
  refine AOps.call (o_nil (z := 2) (e := 54) rfl) ?_
  refine AOps.nil ?_
  refine AWPJ.seq ?_
  refine AWPJ.region ?_
  refine AOpsJ.call (fun u N => o_move _ rfl rfl) ?_
  refine AOpsJ.op (o_callJ (sort_s l a cap hl) Tryz.call105 rfl (.inl rfl) rfl) ?_
  rintro _ _ ⟨_, ⟨rfl, rfl⟩, rfl⟩
  refine AOpsJ.nil ?_
  refine AWPJ.seq ?_
  refine AWPJ.lift (fun u N => ?_)
  refine AWP.region ?_
  refine AOps.call (o_assignK rfl) ?_
  refine AOps.nil ?_
  refine AWPJ.seq ?_
  refine AWPJ.seq ?_
  refine AWPJ.lift (fun u N => ?_)
  refine AWP.region ?_
  refine AOps.call (o_move _ rfl rfl) ?_
  refine AOps.call (o_lenX _ Tryz.underlying38 rfl rfl) ?_
  refine AOps.call (o_move _ rfl rfl) ?_
  refine AOps.nil ?_
  refine AWPJ.block ?_
  refine AWPJ.loop (ι := Nat × Option Addr × Nat × List Sp) (fun i => JU l a cap i.2.1 i.2.2.1 i.2.2.2) (fun i => AS.mk' 49 [(3, .sc (.slice i.2.1 i.2.2.2.length i.2.2.1)), (9, .sc (.slice a l.length cap)), (10, I l.length), (11, I i.1)] [] [] []) (fun i => i.1 ≤ l.length ∧ i.2.2.2 = pfx l i.1) (fun i => l.length - i.1) (0, none, 0, []) (WeakJ.trans WeakJ.nilRow (WeakJ.trans (WeakJ.same JU_ok fun T F w M h => Sec.sep_comm h) (Weak.toJ (Weak.mk' rfl ⟨⟨.refl rfl, rfl⟩, ⟨⟨.refl rfl, rfl⟩, ⟨⟨.refl rfl, rfl⟩, ⟨⟨.refl rfl, rfl⟩, trivial⟩⟩⟩⟩ trivial trivial)))) (⟨Nat.zero_le _, rfl⟩) ?_
  rintro ⟨k, a1, cap1, acc⟩ ⟨hk, hacc⟩
  try dsimp only at *
  refine AWPJ.seq ?_
  refine AWPJ.lift (fun u N => ?_)
  refine AWP.region ?_
  refine AOps.call (o_bin _ _ rfl rfl (fun _ => rfl) rfl) ?_
  refine AOps.nil ?_
  refine AWPJ.seq ?_
  refine AWPJ.cond _ rfl (fun h9 => ?_) (fun h9 => ?_)
  · skip
    have hlt : k < (srt l).length := by have := of_decide_eq_true h9; omega
    refine AWPJ.pure (φ := ∃ g, a = some ⟨g, 0, none⟩) (fun T F w M h => by obtain ⟨_, _, h2⟩ := Sec.sep_r h; exact Jrow_shape1 (by omega) h2) (fun hsh => ?_)
    obtain ⟨g, rfl⟩ := hsh
    refine AWPJ.pure (φ := 0 < acc.length → ∃ g, a1 = some ⟨g, 0, none⟩) (fun T F w M h hp => by obtain ⟨_, _, h2⟩ := Sec.sep_l h; exact Jrow_shape1 hp h2) (fun hsh1 => ?_)
    have hal : acc.length ≤ k := by rw [hacc]; exact pfx_len l k
    have hbd : ∀ s ∈ acc, BdS s := by rw [hacc]; exact pfx_bd hb k
    refine AWPJ.skip ?_
    refine AWPJ.seq ?_
    refine AWPJ.block ?_
    refine AWPJ.seq ?_
    refine AWPJ.region ?_
    refine AOpsJ.call (fun u N => o_indexX (o := k * 2) _ _ Tryz.underlying38 Tryz.sizeOf54 rfl rfl (by omega) (by omega) (by omega) rfl) ?_
    refine AOpsJ.op (OpAnyJ.op (o_look (cs := (sps (srt l)).flatten.drop (k * 2)) (r := .agg (eN (srt l)[k])) _ rfl Tryz.sizeOf54 Tryz.isAgg54 (fun T F w M h => by obtain ⟨_, _, h2⟩ := Sec.sep_r h; exact Jrow_cells h2 (k * 2)) (sps_part hlt) rfl)) ?_
    rintro _ _ ⟨rfl, rfl⟩
    refine AOpsJ.call (fun u N => o_alloc ze54 rfl rfl) ?_
    refine AOpsJ.cons (fun u N => o_store _ _ rfl rfl Tryz.sizeOf54 rfl rfl rfl rfl rfl) ?_
    refine AOpsJ.nil ?_
    refine AWPJ.seq ?_
    refine AWPJ.lift (fun u N => ?_)
    refine AWP.region ?_
    refine AOps.call (o_move _ rfl rfl) ?_
    refine AOps.call (o_lenX _ Tryz.underlying38 rfl rfl) ?_
    refine AOps.call (o_sub _ _ rfl rfl ⟨by (try dsimp only); omega, by (try dsimp only); omega⟩ rfl) ?_
    refine AOps.call (o_assign _ rfl rfl) ?_
    refine AOps.nil ?_
    refine AWPJ.seq ?_
    refine AWPJ.seq ?_
    refine AWPJ.drawnK 13 mixed (by kernel_rfl) ?_
    refine AHeadK.call (fun u N => o_move _ rfl rfl) rfl ?_
    refine AHeadK.call (fun u N => o_bin _ _ rfl rfl (fun _ => rfl) rfl) rfl ?_
    refine AHeadK.call (fun u N => o_move _ rfl rfl) rfl ?_
    refine AHeadK.split rfl rfl rfl (fun h16 => ?_) (fun h16 => ?_)
    · skip
      have hpos : 0 < acc.length := by have := of_decide_eq_false h16; omega
      obtain ⟨g1, rfl⟩ := hsh1 hpos
      have hbl := hbd _ (List.getElem_mem (show acc.length - 1 < acc.length by omega))
      unfold BdS at hbl
      refine AHeadK.go rfl rfl rfl h16 (fun u N => o_fieldRef _ rfl fa54_0 rfl rfl) rfl ?_
      refine AHeadK.go rfl rfl rfl h16 (fun u N => o_loadRef _ rfl rfl Tryz.sizeOf3 Tryz.isAgg3 rfl rfl rfl) rfl ?_
      refine AHeadK.go rfl rfl rfl h16 (fun u N => o_move _ rfl rfl) rfl ?_
      refine AHeadK.go rfl rfl rfl h16 (fun u N => o_move _ rfl rfl) rfl ?_
      refine AHeadK.go rfl rfl rfl h16 (fun u N => o_indexX (o := (acc.length - 1) * 2) _ _ Tryz.underlying38 Tryz.sizeOf54 rfl rfl (by omega) (by omega) (by omega) rfl) rfl ?_
      refine AHeadK.go rfl rfl rfl h16 (fun u N => o_fieldX (o' := (acc.length - 1) * 2 + 1) _ rfl fa54_1 rfl rfl) rfl ?_
      refine AHeadK.goLook rfl rfl rfl h16 (o_look (cs := (sps acc).flatten.drop ((acc.length - 1) * 2 + 1)) (r := I acc[acc.length - 1].hi) _ rfl Tryz.sizeOf3 Tryz.isAgg3 (fun T F w M h => by obtain ⟨_, _, h2⟩ := Sec.sep_l h; exact Jrow_cells h2 ((acc.length - 1) * 2 + 1)) (part_hi (by omega)) rfl) rfl ?_
      refine AHeadK.go rfl rfl rfl h16 (fun u N => o_add _ _ rfl rfl ⟨by (try dsimp only); omega, by (try dsimp only); omega⟩ rfl) rfl ?_
      refine AHeadK.go rfl rfl rfl h16 (fun u N => o_bin _ _ rfl rfl (fun _ => rfl) rfl) rfl ?_
      refine AHeadK.call (fun u N => o_pickF _ _ _ rfl h16 rfl rfl) rfl ?_
      refine AHeadK.nil ?_
      refine AOpsJ.nil ?_
      refine AWPJ.cond _ rfl (fun h24 => ?_) (fun h24 => ?_)
      · skip
        have hap : acc.length = 0 ∨ (acc.getD (acc.length - 1) ⟨0, 0⟩).hi + 1 < (srt l)[k].lo := .inr (by have := of_decide_eq_true h24; rw [getD_at (by omega)]; omega)
        refine AWPJ.seq ?_
        refine AWPJ.region ?_
        refine AOpsJ.call (fun u N => o_move _ rfl rfl) ?_
        refine AOpsJ.call (fun u N => o_loadRef _ rfl rfl Tryz.sizeOf54 Tryz.isAgg54 rfl rfl rfl) ?_
        refine AOpsJ.call (fun u N => o_lit Tryz.underlying38 Tryz.sizeOf54 Tryz.zeroValue54 rfl rfl rfl rfl rfl rfl rfl) ?_
        refine AOpsJ.op (OpJ.frame Jrow_ok Jrow_ok (fun E u N => o_appendRow (n := acc.length) (cs := (sps acc).flatten) (ns := [[I (srt l)[k].lo, I (srt l)[k].hi]]) _ _ Tryz.underlying38 info54 rfl rfl rfl rfl rfl rfl rfl (fun c hc => by simp at hc; subst hc; rfl) (by unfold Tryz.t54; simp only [List.length_cons, List.length_nil]; omega) rfl (by simp) (.inl fun c hc => by simp [I] at hc; rcases hc with rfl | rfl <;> exact ⟨_, rfl⟩) rfl)) ?_
        rintro _ _ ⟨_, ⟨_, ⟨a2, cap2, rfl, rfl⟩, rfl⟩, rfl⟩
        refine AOpsJ.call (fun u N => o_assign _ rfl rfl) ?_
        refine AOpsJ.nil ?_
        refine AWPJ.exit ?_
        refine AWPJ.lift (fun u N => ?_)
        refine AWP.region ?_
        refine AOps.call (o_add _ _ rfl rfl ⟨by (try dsimp only); omega, by (try dsimp only); omega⟩ rfl) ?_
        refine AOps.call (o_move _ rfl rfl) ?_
        refine AOps.nil ?_
        first
        | refine ⟨(k + 1, some a2, cap2, acc ++ [(srt l)[k]]), ⟨⟨by (try dsimp only); omega, ?_⟩, by (try dsimp only); omega⟩, WeakJ.cast (by rw [sps_app1, show acc.length + [[I (srt l)[k].lo, I (srt l)[k].hi]].length = (acc ++ [(srt l)[k]]).length by simp]; rfl) (Weak.toJ (Weak.mk' rfl ⟨⟨.refl (by simp; rfl), rfl⟩, ⟨⟨.refl rfl, rfl⟩, ⟨⟨.refl rfl, rfl⟩, ⟨⟨.refl rfl, rfl⟩, trivial⟩⟩⟩⟩ trivial trivial))⟩
        | refine ⟨(k + 1, some ⟨g1, 0, none⟩, cap1, acc.set (acc.length - 1) ⟨acc[acc.length - 1].lo, max acc[acc.length - 1].hi (srt l)[k].hi⟩), ⟨⟨by (try dsimp only); omega, ?_⟩, by (try dsimp only); omega⟩, WeakJ.cast (by dsimp only [JU, JR]; rw [List.length_set]) (Weak.toJ (Weak.mk' rfl ⟨⟨.refl (by simp; rfl), rfl⟩, ⟨⟨.refl rfl, rfl⟩, ⟨⟨.refl rfl, rfl⟩, ⟨⟨.refl rfl, rfl⟩, trivial⟩⟩⟩⟩ trivial trivial))⟩
        rw [pfx_succ (by omega), ← hacc]
        unfold stp
        first
        | (rw [if_pos hap]; done)
        | (rw [if_neg hap, getD_at (by omega)]; done)
      · skip
        have hap : ¬ (acc.length = 0 ∨ (acc.getD (acc.length - 1) ⟨0, 0⟩).hi + 1 < (srt l)[k].lo) := by
          rintro (h | h)
          · omega
          · have := of_decide_eq_false h24
            rw [getD_at (by omega)] at h
            omega
        have hset := sps_setHi (acc := acc) (k := acc.length - 1) (by omega) (max acc[acc.length - 1].hi (srt l)[k].hi)
        refine AWPJ.skip ?_
        refine AWPJ.drawnK 12 mixed (by kernel_rfl) ?_
        refine AHeadK.call (fun u N => o_move _ rfl rfl) rfl ?_
        refine AHeadK.call (fun u N => o_move _ rfl rfl) rfl ?_
        refine AHeadK.call (fun u N => o_move _ rfl rfl) rfl ?_
        refine AHeadK.call (fun u N => o_move _ rfl rfl) rfl ?_
        refine AHeadK.call (fun u N => o_indexX (o := (acc.length - 1) * 2) _ _ Tryz.underlying38 Tryz.sizeOf54 rfl rfl (by omega) (by omega) (by omega) rfl) rfl ?_
        refine AHeadK.call (fun u N => o_fieldX (o' := (acc.length - 1) * 2 + 1) _ rfl fa54_1 rfl rfl) rfl ?_
        refine AHeadK.look (o_look (cs := (sps acc).flatten.drop ((acc.length - 1) * 2 + 1)) (r := I acc[acc.length - 1].hi) _ rfl Tryz.sizeOf3 Tryz.isAgg3 (fun T F w M h => by obtain ⟨_, _, h2⟩ := Sec.sep_l h; exact Jrow_cells h2 ((acc.length - 1) * 2 + 1)) (part_hi (by omega)) rfl) rfl ?_
        refine AHeadK.call (fun u N => o_fieldRef _ rfl fa54_1 rfl rfl) rfl ?_
        refine AHeadK.call (fun u N => o_loadRef _ rfl rfl Tryz.sizeOf3 Tryz.isAgg3 rfl rfl rfl) rfl ?_
        refine AHeadK.call (fun u N => o_maxZ _ _ rfl rfl rfl) rfl ?_
        refine AHeadK.call (fun u N => o_indexX (o := (acc.length - 1) * 2) _ _ Tryz.underlying38 Tryz.sizeOf54 rfl rfl (by omega) (by omega) (by omega) rfl) rfl ?_
        refine AHeadK.call (fun u N => o_fieldX (o' := (acc.length - 1) * 2 + 1) _ rfl fa54_1 rfl rfl) rfl ?_
        refine AHeadK.nil ?_
        refine AOpsJ.op (OpJ.frame Jrow_ok Jrow_ok (fun E u N => o_storeRow (cs := (sps acc).flatten) (o := (acc.length - 1) * 2 + 1) _ _ rfl rfl Tryz.sizeOf3 rfl (by rw [sps_flen]; omega) hset rfl)) ?_
        rintro _ _ ⟨_, ⟨rfl, rfl⟩, rfl⟩
        refine AOpsJ.nil ?_
        refine AWPJ.lift (fun u N => ?_)
        refine AWP.region ?_
        refine AOps.call (o_add _ _ rfl rfl ⟨by (try dsimp only); omega, by (try dsimp only); omega⟩ rfl) ?_
        refine AOps.call (o_move _ rfl rfl) ?_
        refine AOps.nil ?_
        first
        | refine ⟨(k + 1, some a2, cap2, acc ++ [(srt l)[k]]), ⟨⟨by (try dsimp only); omega, ?_⟩, by (try dsimp only); omega⟩, WeakJ.cast (by rw [sps_app1, show acc.length + [[I (srt l)[k].lo, I (srt l)[k].hi]].length = (acc ++ [(srt l)[k]]).length by simp]; rfl) (Weak.toJ (Weak.mk' rfl ⟨⟨.refl (by simp; rfl), rfl⟩, ⟨⟨.refl rfl, rfl⟩, ⟨⟨.refl rfl, rfl⟩, ⟨⟨.refl rfl, rfl⟩, trivial⟩⟩⟩⟩ trivial trivial))⟩
        | refine ⟨(k + 1, some ⟨g1, 0, none⟩, cap1, acc.set (acc.length - 1) ⟨acc[acc.length - 1].lo, max acc[acc.length - 1].hi (srt l)[k].hi⟩), ⟨⟨by (try dsimp only); omega, ?_⟩, by (try dsimp only); omega⟩, WeakJ.cast (by dsimp only [JU, JR]; rw [List.length_set]) (Weak.toJ (Weak.mk' rfl ⟨⟨.refl (by simp; rfl), rfl⟩, ⟨⟨.refl rfl, rfl⟩, ⟨⟨.refl rfl, rfl⟩, ⟨⟨.refl rfl, rfl⟩, trivial⟩⟩⟩⟩ trivial trivial))⟩
        rw [pfx_succ (by omega), ← hacc]
        unfold stp
        first
        | (rw [if_pos hap]; done)
        | (rw [if_neg hap, getD_at (by omega)]; done)
    · skip
      have hz : acc.length = 0 := by have := of_decide_eq_true h16; omega
      refine AHeadK.pass rfl rfl rfl h16 rfl ?_
      refine AHeadK.pass rfl rfl rfl h16 rfl ?_
      refine AHeadK.pass rfl rfl rfl h16 rfl ?_
      refine AHeadK.pass rfl rfl rfl h16 rfl ?_
      refine AHeadK.pass rfl rfl rfl h16 rfl ?_
      refine AHeadK.pass rfl rfl rfl h16 rfl ?_
      refine AHeadK.pass rfl rfl rfl h16 rfl ?_
      refine AHeadK.pass rfl rfl rfl h16 rfl ?_
      refine AHeadK.pass rfl rfl rfl h16 rfl ?_
      refine AHeadK.call (fun u N => o_pickT _ _ _ rfl h16 rfl rfl) rfl ?_
      refine AHeadK.nil ?_
      refine AOpsJ.nil ?_
      refine AWPJ.condT rfl ?_
      have hap : acc.length = 0 ∨ (acc.getD (acc.length - 1) ⟨0, 0⟩).hi + 1 < (srt l)[k].lo := .inl hz
      refine AWPJ.seq ?_
      refine AWPJ.region ?_
      refine AOpsJ.call (fun u N => o_move _ rfl rfl) ?_
      refine AOpsJ.call (fun u N => o_loadRef _ rfl rfl Tryz.sizeOf54 Tryz.isAgg54 rfl rfl rfl) ?_
      refine AOpsJ.call (fun u N => o_lit Tryz.underlying38 Tryz.sizeOf54 Tryz.zeroValue54 rfl rfl rfl rfl rfl rfl rfl) ?_
      refine AOpsJ.op (OpJ.frame Jrow_ok Jrow_ok (fun E u N => o_appendRow (n := acc.length) (cs := (sps acc).flatten) (ns := [[I (srt l)[k].lo, I (srt l)[k].hi]]) _ _ Tryz.underlying38 info54 rfl rfl rfl rfl rfl rfl rfl (fun c hc => by simp at hc; subst hc; rfl) (by unfold Tryz.t54; simp only [List.length_cons, List.length_nil]; omega) rfl (by simp) (.inl fun c hc => by simp [I] at hc; rcases hc with rfl | rfl <;> exact ⟨_, rfl⟩) rfl)) ?_
      rintro _ _ ⟨_, ⟨_, ⟨a2, cap2, rfl, rfl⟩, rfl⟩, rfl⟩
      refine AOpsJ.call (fun u N => o_assign _ rfl rfl) ?_
      refine AOpsJ.nil ?_
      refine AWPJ.exit ?_
      refine AWPJ.lift (fun u N => ?_)
      refine AWP.region ?_
      refine AOps.call (o_add _ _ rfl rfl ⟨by (try dsimp only); omega, by (try dsimp only); omega⟩ rfl) ?_
      refine AOps.call (o_move _ rfl rfl) ?_
      refine AOps.nil ?_
      first
      | refine ⟨(k + 1, some a2, cap2, acc ++ [(srt l)[k]]), ⟨⟨by (try dsimp only); omega, ?_⟩, by (try dsimp only); omega⟩, WeakJ.cast (by rw [sps_app1, show acc.length + [[I (srt l)[k].lo, I (srt l)[k].hi]].length = (acc ++ [(srt l)[k]]).length by simp]; rfl) (Weak.toJ (Weak.mk' rfl ⟨⟨.refl (by simp; rfl), rfl⟩, ⟨⟨.refl rfl, rfl⟩, ⟨⟨.refl rfl, rfl⟩, ⟨⟨.refl rfl, rfl⟩, trivial⟩⟩⟩⟩ trivial trivial))⟩
      | refine ⟨(k + 1, some ⟨g1, 0, none⟩, cap1, acc.set (acc.length - 1) ⟨acc[acc.length - 1].lo, max acc[acc.length - 1].hi (srt l)[k].hi⟩), ⟨⟨by (try dsimp only); omega, ?_⟩, by (try dsimp only); omega⟩, WeakJ.cast (by dsimp only [JU, JR]; rw [List.length_set]) (Weak.toJ (Weak.mk' rfl ⟨⟨.refl (by simp; rfl), rfl⟩, ⟨⟨.refl rfl, rfl⟩, ⟨⟨.refl rfl, rfl⟩, ⟨⟨.refl rfl, rfl⟩, trivial⟩⟩⟩⟩ trivial trivial))⟩
      rw [pfx_succ (by omega), ← hacc]
      unfold stp
      first
      | (rw [if_pos hap]; done)
      | (rw [if_neg hap, getD_at (by omega)]; done)
  · skip
    have hkl : k = (srt l).length := by have := of_decide_eq_false h9; omega
    have hfin : acc = uni l := by rw [hacc, hkl]; exact pfx_all hne
    refine AWPJ.weak (WeakJ.freeze (es := sps acc) 3 rfl rfl sps_z (sps_len _) Jrow_ok) ?_
    refine AWPJ.exit ?_
    refine AWPJ.seq ?_
    refine AWPJ.lift (fun u N => ?_)
    refine AWP.region ?_
    refine AOps.call (o_move _ rfl rfl) ?_
    refine AOps.call (o_assign _ rfl rfl) ?_
    refine AOps.nil ?_
    refine AWPJ.ret ?_
    try dsimp only [seqQJ, blockQJ, roundQJ]
    try rw [show Nat.beq 0 0 = true from rfl, cond_true]
    refine postQJ.ret1 Tryz.results77 rfl rfl ?_
    exact ⟨by rw [hfin], rfl⟩
end Go.Proofs.YtelenedgaoglaaaGreatDoor
