/- The cells of a column. -/
import Derived.Test.YtgagfmjpmdgfdaaDoorP2
import Derived.Test.YtgagfmjpmdgfdaaDoorAbC
namespace Go.Proofs.YtgagfmjpmdgfdaaDoor
open Go.Ab
theorem sc_self {l : List AV} (h : ∀ x ∈ l, ∃ v, x = .sc v) : ∀ x ∈ l, x.close = some x := by
  intro x hx; obtain ⟨v, rfl⟩ := h x hx; rfl
def colC (A : List Lay) (t : Int) : List AV := (lays A).flatten ++ [I t]
theorem lays_scs (l : List Lay) : ∀ x ∈ (lays l).flatten, ∃ v, x = .sc v := by
  intro x hx
  obtain ⟨c, hc, hx⟩ := List.mem_flatten.1 hx
  obtain ⟨k, _, rfl⟩ := List.mem_map.1 hc
  simp only [eL, I, List.mem_cons, List.not_mem_nil, or_false] at hx
  rcases hx with h | h | h <;> exact ⟨_, h⟩
theorem col_scs (A : List Lay) (t : Int) : ∀ x ∈ colC A t, ∃ v, x = .sc v := by
  intro x hx
  rcases List.mem_append.1 hx with h | h
  · exact lays_scs A x h
  · simp only [List.mem_singleton] at h; exact ⟨_, h⟩
theorem col_close (A : List Lay) (t : Int) : AV.close.closeL (colC A t) = some (colC A t) := closeL_self _ (sc_self (col_scs A t))
theorem lays_flen (A : List Lay) : (lays A).flatten.length = A.length * 3 := by
  induction A with
  | nil => rfl
  | cons a A ih => show (eL a ++ (lays A).flatten).length = _; rw [List.length_append, ih]; simp [eL]; omega
theorem col_len (A : List Lay) (t : Int) : (colC A t).length = A.length * 3 + 1 := by simp only [colC, List.length_append, lays_flen]; rfl
theorem lays_fget {A : List Lay} {i k : Nat} (h : i < A.length) (hk : k < 3) : (lays A).flatten[i * 3 + k]? = (eL A[i])[k]? := by
  induction A generalizing i with
  | nil => simp at h
  | cons a A ih =>
    show (eL a ++ (lays A).flatten)[i * 3 + k]? = _
    cases i with
    | zero => rw [List.getElem?_append_left (by simp [eL]; omega)]; simp
    | succ i =>
      rw [List.getElem?_append_right (by simp [eL]; omega)]
      have : (i + 1) * 3 + k - (eL a).length = i * 3 + k := by simp [eL]; omega
      rw [this, ih (by simpa using h)]; simp
theorem col_get {A : List Lay} {t : Int} {i k : Nat} (h : i < A.length) (hk : k < 3) : (colC A t)[i * 3 + k]? = (eL A[i])[k]? := by
  unfold colC
  rw [List.getElem?_append_left (by rw [lays_flen]; omega), lays_fget h hk]
theorem part1 {cs : List AV} {o : Nat} {v : AV} (h : cs[o]? = some v) : partA false 1 (cs.drop o) = some v := by
  have : (cs.drop o)[0]? = some v := by rw [List.getElem?_drop]; exact h
  cases hd : cs.drop o with
  | nil => rw [hd] at this; cases this
  | cons a l => rw [hd] at this; simp at this; subst this; rfl
theorem col_top {A : List Lay} {t : Int} (h : A.length = 64) : partA false 1 ((colC A t).drop 192) = some (I t) := by
  refine part1 ?_
  unfold colC
  rw [List.getElem?_append_right (by rw [lays_flen]; omega), lays_flen, h]; rfl
theorem col_setTop {A : List Lay} {t t' : Int} (h : A.length = 64) : splice (colC A t) [I t'] 192 = colC A t' := by
  have hl := lays_flen A
  unfold splice colC
  rw [List.take_append_of_le_length (by omega), List.take_of_length_le (by omega), List.drop_of_length_le (by rw [List.length_append, hl, h]; exact Nat.le_refl 193), List.append_nil]
theorem col_set {A : List Lay} {t : Int} {i k : Nat} {l : Lay} {x : Int} (h : i < A.length) (hk : k < 3) (hl : (eL A[i]).set k (I x) = eL l) : splice (colC A t) [I x] (i * 3 + k) = colC (A.set i l) t := by
  have hL := col_len A t
  have e : splice (colC A t) [I x] (i * 3 + k) = (colC A t).set (i * 3 + k) (I x) := by
    unfold splice
    rw [List.set_eq_take_append_cons_drop, if_pos (by omega)]
    simp
  rw [e]
  refine List.ext_getElem? fun j => ?_
  by_cases hj : j < A.length * 3
  · have hj3 : j = j / 3 * 3 + j % 3 := by omega
    have hd : j / 3 < A.length := by omega
    have hm : j % 3 < 3 := by omega
    rw [List.getElem?_set]
    conv => rhs; rw [hj3]
    rw [col_get (by simpa using hd) hm]
    by_cases hi : i * 3 + k = j
    · have hi1 : j / 3 = i := by omega
      have hi2 : j % 3 = k := by omega
      rw [if_pos hi, if_pos (by omega), hi2]
      have h2 : (A.set i l)[j / 3]'(by simpa using hd) = l := by simp [hi1]
      rw [h2, ← hl]
      simp [eL, hk]
    · rw [if_neg hi]
      conv => lhs; rw [hj3]
      rw [col_get hd hm]
      by_cases hi1 : i = j / 3
      · have h2 : (A.set i l)[j / 3]'(by simpa using hd) = l := by simp [hi1]
        rw [h2, ← hl, List.getElem?_set, if_neg (by omega)]
        simp [hi1]
      · have h2 : (A.set i l)[j / 3]'(by simpa using hd) = A[j / 3] := by rw [List.getElem_set]; simp [hi1]
        rw [h2]
  · rw [List.getElem?_set, if_neg (by omega)]
    unfold colC
    rw [List.getElem?_append_right (by rw [lays_flen]; omega), List.getElem?_append_right (by rw [lays_flen]; simp; omega), lays_flen, lays_flen]
    simp
section
variable {P R : List Lay} {l : Lay} {t : Int} {k : Nat} (hk : P.length = k)
include hk
theorem c_get {j : Nat} (hj : j < 3) : (colC (P ++ l :: R) t)[k * 3 + j]? = (eL l)[j]? := by
  rw [col_get (by simp; omega) hj]
  subst hk; simp
theorem c_ice : partA false 1 ((colC (P ++ l :: R) t).drop (k * 3 + 0)) = some (I l.ice) := part1 (by rw [c_get hk (by omega)]; rfl)
theorem c_wet : partA false 1 ((colC (P ++ l :: R) t).drop (k * 3 + 1)) = some (I l.wet) := part1 (by rw [c_get hk (by omega)]; rfl)
theorem c_cold : partA false 1 ((colC (P ++ l :: R) t).drop (k * 3 + 2)) = some (I l.cold) := part1 (by rw [c_get hk (by omega)]; rfl)
theorem c_set {j : Nat} {m : Lay} {x : Int} (hj : j < 3) (hl : (eL l).set j (I x) = eL m) : splice (colC (P ++ l :: R) t) [I x] (k * 3 + j) = colC (P ++ m :: R) t := by
  rw [col_set (l := m) (by simp; omega) hj (by subst hk; simpa using hl)]
  subst hk; simp
theorem c_sice {x : Int} : splice (colC (P ++ l :: R) t) [I x] (k * 3 + 0) = colC (P ++ ⟨x, l.wet, l.cold⟩ :: R) t := c_set hk (by omega) (by simp [eL])
theorem c_swet {x : Int} : splice (colC (P ++ l :: R) t) [I x] (k * 3 + 1) = colC (P ++ ⟨l.ice, x, l.cold⟩ :: R) t := c_set hk (by omega) (by simp [eL])
theorem c_scold {x : Int} : splice (colC (P ++ l :: R) t) [I x] (k * 3 + 2) = colC (P ++ ⟨l.ice, l.wet, x⟩ :: R) t := c_set hk (by omega) (by simp [eL])
end
theorem c_len {P R : List Lay} {l : Lay} {t : Int} : (colC (P ++ l :: R) t).length = (P.length + (R.length + 1)) * 3 + 1 := by rw [col_len]; simp
section
variable {P : Program} {w0 : World} {M0 : MT} {σ : AS} {ty : TypeId} {pos : String} {after : Array Edge} {guard : Option (Nat × Bool)} {d : Option Tmp}
theorem o_indexRef {t e z m off o' : Nat} {id : OId} {k : IntKind} {n : Int} (x i : Operand) (hu : P.underlying t = some (.array m e)) (hs : ∀ w, (sizeOf e).run P w = .ok z w)
    (hx : nf (σ.ev x) = some (.ref id off)) (hi : exact (σ.ev i) = some (.int k n)) (h0 : 0 ≤ n) (hm : n < m) (ho : off + n.toNat * z = o') (hd : okDB σ d = true) :
    OpAny P w0 M0 σ ⟨d, .indexAddr t x i, ty, pos, after, guard⟩ (.val (.ref id o')) := by subst ho; exact ok_indexAddr_arr x i hu hs (nf_eq hx) hi h0 hm (okD hd)
theorem o_minZ {t u : Nat} {a b : Int} (x y : Operand) (hx : exact (σ.ev x) = some (.int .i64 a)) (hy : exact (σ.ev y) = some (.int .i64 b)) (hd : okDB σ d = true) :
    OpAny P w0 M0 σ ⟨d, .call ⟨.builtin .min, #[x, y], #[t, u]⟩, ty, pos, after, guard⟩ (.val (I (min a b))) := by
  have h : (if b < a then b else a) = min a b := by omega
  have := o_minI (P := P) (w0 := w0) (M0 := M0) (ty := ty) (pos := pos) (after := after) (guard := guard) (t := t) (u := u) x y hx hy hd
  rw [h] at this; exact this
theorem o_maxZ {t u : Nat} {a b : Int} (x y : Operand) (hx : exact (σ.ev x) = some (.int .i64 a)) (hy : exact (σ.ev y) = some (.int .i64 b)) (hd : okDB σ d = true) :
    OpAny P w0 M0 σ ⟨d, .call ⟨.builtin .max, #[x, y], #[t, u]⟩, ty, pos, after, guard⟩ (.val (I (max a b))) := by
  have h : (if b > a then b else a) = max a b := by omega
  have := o_maxI (P := P) (w0 := w0) (M0 := M0) (ty := ty) (pos := pos) (after := after) (guard := guard) (t := t) (u := u) x y hx hy hd
  rw [h] at this; exact this
end
/-- What variables hold that are lent. -/
theorem lentOf1 {σ : AS} {id : OId} {cs : List AV} (h : (σ.va id).bind AV.close.closeL = some cs) : lentOf σ [id] = some [cs] := by
  simp [lentOf, h]
theorem lentOf2 {σ : AS} {id id2 : OId} {cs cs2 : List AV} (h : (σ.va id).bind AV.close.closeL = some cs) (h2 : (σ.va id2).bind AV.close.closeL = some cs2) : lentOf σ [id, id2] = some [cs, cs2] := by
  simp [lentOf, h, h2]
end Go.Proofs.YtgagfmjpmdgfdaaDoor
