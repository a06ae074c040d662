/- An array that is only read: its elements, and its tail as a slice. Nothing here speaks of one program. -/
import Derived.Test.YtphoomnonenalaaDoorAb17
namespace Go.Ab
open Go.RowKit
section
variable {P : Program} {w0 : World} {M0 : MT} {σ : AS} {ty : TypeId} {pos : String} {after : Array Edge} {guard : Option (Nat × Bool)}
theorem o_indexArrRd {d : Option Tmp} {t e z m : Nat} {cs el : List AV} {k : IntKind} {n : Int} (x i : Operand) (hu : P.underlying t = some (.array m e)) (hs : ∀ w, (sizeOf e).run P w = .ok z w)
    (hx : nf (σ.ev x) = some (.rd cs)) (hi : exact (σ.ev i) = some (.int k n)) (h0 : 0 ≤ n) (hm : n < m) (hel : (cs.drop (n.toNat * z)).take z = el) (hd : okDB σ d = true) :
    OpAny P w0 M0 σ ⟨d, .indexAddr t x i, ty, pos, after, guard⟩ (.val (.rd el)) :=
  opAny_val (okD hd) fun σ' a w X hag hr => by
    subst hel
    have h1 := hr.ev x
    rw [hag.ev x (by simp [Op.operands]), nf_eq hx] at h1
    have h2 := hr.ev i
    rw [hag.ev i (by simp [Op.operands])] at h2
    have h2 := h2.exact _ hi
    generalize hcv : a.eval x = cv at h1
    cases h1 with
    | rd _ b off Xf hc hv =>
      have hg : ∀ (j : Nat) c, ((cs.drop (n.toNat * z)).take z)[j]? = some c → cs[n.toNat * z + j]? = some c := fun j c hj => by
        rw [List.getElem?_take] at hj
        split at hj
        · rwa [List.getElem?_drop] at hj
        · cases hj
      refine ⟨.pointer (some ⟨b, off + n.toNat * z, none⟩), ?_, .rd _ b _ (fun j => Xf (n.toNat * z + j)) (fun j c hj => ?_) (fun j c hj => hv _ _ (hg j c hj))⟩
      · simp only [execOp, hcv, h2]
        refine run_value ?_
        simp [Instr.indexAt, asIntOf, run_underlying' hu, hs, h0, hm, Result.andThen, addr_add, Instr.sureAddr]
      · rw [Nat.add_assoc]; exact hc _ _ (hg j c hj)
theorem o_sliceRd {d : Option Tmp} {t e m l : Nat} {cs : List AV} {rs : List (List AV)} (x lo : Operand) (hu : P.underlying t = some (.array m e)) (hs : ∀ w, (sizeOf e).run P w = .ok 1 w)
    (hx : nf (σ.ev x) = some (.rd cs)) (hm : cs.length = m) (hlo : boundA σ 0 (some lo) = some l) (hl : l < m) (hr : (cs.drop l).map (fun c => [c]) = rs) (hd : okDB σ d = true) :
    OpAny P w0 M0 σ ⟨d, .slice t x (some lo) none none, ty, pos, after, guard⟩ (.val (.sl rs)) :=
  opAny_val (okD hd) fun σ' a w X hag hr' => by
    subst hr
    have h1 := hr'.ev x
    rw [hag.ev x (by simp [Op.operands]), nf_eq hx] at h1
    have hL := run_bound (P := P) hr' (hag.ev lo (by simp [Op.operands])) hlo (Nat.le_of_lt hl) .sliceB
    generalize hcv : a.eval x = cv at h1
    cases h1 with
    | rd _ b off Xf hc hv =>
      have hlen : ((cs.drop l).map (fun c => [c])).length = m - l := by simp [hm]
      have hg : ∀ (i : Nat) e (j : Nat) c, ((cs.drop l).map (fun c => [c]))[i]? = some e → e[j]? = some c → j = 0 ∧ cs[l + i]? = some c := fun i e j c h1 h2 => by
        rw [List.getElem?_map, List.getElem?_drop] at h1
        cases h3 : cs[l + i]? with
        | none => rw [h3] at h1; cases h1
        | some c' =>
          rw [h3] at h1; cases h1
          cases j with
          | zero => exact ⟨rfl, by simpa using h2⟩
          | succ j => simp at h2
      refine ⟨.slice (some ⟨b, off + l, none⟩) (m - l) (m - l), ?_, ?_⟩
      · simp only [execOp, hcv]
        refine run_value ?_
        have hne : m - l ≠ 0 := by omega
        simp [Instr.sliceAt, run_underlying' hu, hs, Result.andThen, Instr.sureAddr, Instr.sliceBounds, addr_add, hL]
        intro h; omega
      · rw [← hlen]
        refine .sl _ 1 b (off + l) _ (fun i _ => Xf (l + i)) (fun e he => ?_) (Nat.le_refl _) (fun i e j c h1 h2 => ?_) (fun i e j c h1 h2 => ?_)
        · obtain ⟨_, _, rfl⟩ := List.mem_map.1 he; rfl
        · obtain ⟨rfl, h3⟩ := hg i e j c h1 h2
          have := hc _ _ h3
          rw [show off + l + (i * 1 + 0) = off + (l + i) by omega]
          exact this
        · exact hv _ _ (hg i e j c h1 h2).2
end
end Go.Ab
