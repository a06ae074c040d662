/- Layers joined, plain; rows of layers that can be written. -/
import Derived.Test.YtgagfmjpmdgfdaaDoorP6
set_option linter.unusedVariables false
set_option linter.unusedSimpArgs false
namespace Go.Ab
open Go.RowKit
section
variable {P : Program} {w0 : World} {M0 : MT} {σ : AS} {ty : TypeId} {pos : String} {after : Array Edge} {guard : Option (Nat × Bool)}
/-- A slice of its own of what another holds: it can be written. -/
theorem o_appNilSl {d : Tmp} {t e z bytes : Nat} {i : TypeInfo} {zv : Value} {es : List (List AV)} (y : Operand) (hu : P.underlying t = some (.slice e)) (hi : P.info? e = some i) (hzv : i.zero = some zv)
    (hsz : i.size = z) (hby : i.bytes = bytes) (hzc : zv.cells.size = z) (hzp : Nat.blt 0 z = true) (hy : slEs (σ.ev y) = some es)
    (hez : ∀ e ∈ es, e.length = z) (hsc : ∀ x ∈ es.flatten, ∃ v, x = .sc v) (hpos : 0 < es.length) (hbound : es.length * bytes ≤ 140737488355328) (hbp : Nat.blt 0 bytes = true) (hd : okDB σ (some d) = true) :
    OpSeq P w0 M0 σ ⟨some d, .call ⟨.builtin .append, #[.const (.slice none 0 0), y], #[t, t]⟩, ty, pos, after, guard⟩ (.allocA es.flatten es.length) := by
  intro a w ⟨X, hr⟩ K Q hK
  subst hsz hby
  have hzp := ltB hzp
  have hbp := ltB hbp
  have hd : d < σ.n := okD hd
  have h2 := slEs_spec (hr.ev y) hy
  have hmb := Nat.le_mul_of_pos_right es.length hbp
  have hml : es.length ≤ maxLen := by unfold maxLen; omega
  obtain ⟨yb, yoff, yc, hyv, Xn, hX⟩ : ∃ yb yoff yc, a.eval y = .slice (some ⟨yb, yoff, none⟩) es.length yc ∧ ∃ Xn : Nat → Nat → Value, ∀ (j1 : Nat) c j u, es[j1]? = some c → c[j]? = some u → Imm w X.M yb (yoff + (j1 * i.size + j)) (Xn j1 j) ∧ VR w X.M noV noG u (Xn j1 j) := by
    generalize a.eval y = v at h2
    cases h2 with
    | sl0 a c => simp at hpos
    | sl _ z' b off cap Xn hz' hcap hc hv =>
      refine ⟨b, off, cap, rfl, Xn, fun i1 c j u hc' hu' => ⟨?_, hv i1 c j u hc' hu'⟩⟩
      have : i.size = z' := by rw [← hez c (List.mem_of_getElem? hc'), hz' c (List.mem_of_getElem? hc')]
      rw [this]
      exact hc i1 c j u hc' hu'
  have hfl : es.flatten.length = es.length * i.size := by
    have : ∀ (l : List (List AV)), (∀ e ∈ l, e.length = i.size) → l.flatten.length = l.length * i.size := by
      intro l
      induction l with
      | nil => intro _; simp
      | cons a l ih => intro h; rw [List.flatten_cons, List.length_append, h a List.mem_cons_self, ih fun e he => h e (List.mem_cons_of_mem _ he), List.length_cons, Nat.add_mul]; omega
    exact this es hez
  have hfg : ∀ (l : List (List AV)), (∀ e ∈ l, e.length = i.size) → ∀ j u, l.flatten[j]? = some u → ∃ c, l[j / i.size]? = some c ∧ c[j % i.size]? = some u := by
    intro l
    induction l with
    | nil => intro _ j u h; simp at h
    | cons a l ih =>
      intro h j u hj
      rw [List.flatten_cons] at hj
      have ha := h a List.mem_cons_self
      by_cases hlt : j < i.size
      · rw [List.getElem?_append_left (by omega)] at hj
        exact ⟨a, by simp [Nat.div_eq_of_lt hlt], by rw [Nat.mod_eq_of_lt hlt]; exact hj⟩
      · rw [List.getElem?_append_right (by omega), ha] at hj
        obtain ⟨c, h3, h4⟩ := ih (fun e he => h e (List.mem_cons_of_mem _ he)) _ _ hj
        have e1 : j / i.size = (j - i.size) / i.size + 1 := by rw [Nat.div_eq_sub_div hzp (by omega)]
        have e2 : j % i.size = (j - i.size) % i.size := by rw [Nat.mod_eq_sub_mod (by omega)]
        exact ⟨c, by rw [e1, List.getElem?_cons_succ]; exact h3, by rw [e2]; exact h4⟩
  let news : List Value := (List.range (es.length * i.size)).map fun j => Xn (j / i.size) (j % i.size)
  have hnl : news.length = es.length * i.size := by simp [news]
  have hat : ∀ j u, news[j]? = some u → ∃ v, es.flatten[j]? = some v ∧ Imm w X.M yb (yoff + j) u ∧ VR w X.M noV noG v u := fun j u hj => by
    have hjl : j < es.length * i.size := by rw [← hnl]; exact (List.getElem?_eq_some_iff.1 hj).1
    have hu : u = Xn (j / i.size) (j % i.size) := by simp [news, hjl] at hj; exact hj.symm
    subst hu
    obtain ⟨c, g1, g2⟩ := hfg es hez j _ (List.getElem?_eq_getElem (by omega : j < es.flatten.length))
    obtain ⟨q1, q2⟩ := hX _ _ _ _ g1 g2
    refine ⟨_, List.getElem?_eq_getElem (by omega), ?_, q2⟩
    rw [show j / i.size * i.size + j % i.size = j by rw [Nat.mul_comm, Nat.div_add_mod]] at q1
    exact q1
  have hnews1 : ∀ j u, news[j]? = some u → w.cell? ((⟨yb, yoff, none⟩ : Addr).add j) = some u := fun j u hj => by
    rw [addr_add]
    obtain ⟨_, _, q, _⟩ := hat j u hj
    exact q.1
  have hrun := run_append_nil (P := P) w t ty e i zv hu hi hzv ⟨yb, yoff, none⟩ es.length yc news hnl hnews1 hpos (by unfold maxLen at hml; omega) (by omega)
  have hx0 : a.eval (.const (.slice none 0 0)) = .slice none 0 0 := rfl
  have hrun2 : (execOp a.eval ⟨some d, .call ⟨.builtin .append, #[.const (.slice none 0 0), y], #[t, t]⟩, ty, pos, after, guard⟩).run P w = .ok (.value (.slice (some ⟨w.heap.size, 0, none⟩) es.length (grownCap w es.length 0 e))) (w.drew.alloc (.cells (news.toArray ++ Builtin.zeroCells zv.cells (grownCap w es.length 0 e - es.length)) e)) := by
    simp [execOp, resolve, invoke, builtin, hyv, hx0, hrun]
  have c1 := grownCap_ge w es.length 0 e
  have c2 := grownCap_le_maxLen w es.length 0 e hml
  have hvs : (news.toArray ++ Builtin.zeroCells zv.cells (grownCap w es.length 0 e - es.length)).size = grownCap w es.length 0 e * i.size := by
    simp only [Array.size_append, List.size_toArray, size_zeroCells, hzc, hnl, ← Nat.add_mul]
    congr 1; omega
  unfold Oper.wp
  rw [hrun2, Oper.upon_value]
  refine hK _ _ (hr.gotVar (b := w.heap.size) hd (((Below.refl _ w).drew).alloc (Nat.le_refl _) _) (Nat.le_refl _) (heap_new w.drew _) ?_ ⟨c1, ?_, c2⟩ fun j c hj => ?_)
  · rw [hvs, hfl]; exact Nat.mul_le_mul_right _ c1
  · rw [hvs]; exact Nat.le_mul_of_pos_right _ hzp
  · have hjl : j < news.length := by rw [hnl, ← hfl]; exact (List.getElem?_eq_some_iff.1 hj).1
    obtain ⟨v, q1, q2, q3⟩ := hat j _ (List.getElem?_eq_getElem hjl)
    have hvc : v = c := Option.some.inj (q1.symm.trans hj)
    subst hvc
    obtain ⟨k, rfl⟩ := hsc v (List.mem_of_getElem? q1)
    refine ⟨news[j], ?_, q2.2.1, ?_⟩
    · rw [Array.getElem?_append_left (by simpa using hjl)]; simp
    · cases q3; exact .sc _
theorem o_appNilE {t e z : Nat} {d : Tmp} (y : Operand) (hu : P.underlying t = some (.slice e)) (hs : ∀ w, (sizeOf e).run P w = .ok z w)
    (hy : slEs (σ.ev y) = some []) (hd : okDB σ (some d) = true) :
    OpSeq P w0 M0 σ ⟨some d, .call ⟨.builtin .append, #[.const (.slice none 0 0), y], #[t, t]⟩, ty, pos, after, guard⟩ (.val (.sl [])) := by
  intro a w ⟨X, hr⟩ K Q hK
  have h2 := slEs_spec (hr.ev y) hy
  have hd : d < σ.n := okD hd
  obtain ⟨ya, yc, hya⟩ : ∃ ya yc, a.eval y = .slice ya 0 yc := by
    generalize a.eval y = v at h2
    cases h2 with
    | sl0 xa c => exact ⟨xa, c, rfl⟩
    | sl _ z' b off cap Xn hz' hcap hc hv => exact ⟨_, _, rfl⟩
  have hrun := run_append_zero (P := P) (ty := ty) hu hs w none ya 0 0 yc (Nat.le_refl _)
  have hx0 : a.eval (.const (.slice none 0 0)) = .slice none 0 0 := rfl
  have hrun2 : (execOp a.eval ⟨some d, .call ⟨.builtin .append, #[.const (.slice none 0 0), y], #[t, t]⟩, ty, pos, after, guard⟩).run P w = .ok (.value (.slice none 0 0)) w := by
    simp [execOp, resolve, invoke, builtin, hx0, hya, hrun]
  unfold Oper.wp
  rw [hrun2, Oper.upon_value]
  exact hK _ _ ⟨X, hr.put (d := some d) hd (.sl0 _ _)⟩
end
end Go.Ab
namespace Go.Proofs.YtgagfmjpmdgfdaaDoor
open Go.Ab
def sumI (L : List Lay) (i : Nat) : Int := (L.getD i zLay).ice + (L.getD (i + 1) zLay).ice
def thA (L : List Lay) : Nat → Nat
  | 0 => 0
  | n + 1 => if sumI L n < sumI L (thA L n) then n else thA L n
theorem thA_lt (L : List Lay) : ∀ n, 0 < n → thA L n < n := by
  intro n
  induction n with
  | zero => intro h; omega
  | succ n ih =>
    intro _
    simp only [thA]
    split
    · omega
    · cases n with
      | zero => simp [thA]
      | succ n => have := ih (by omega); omega
theorem thA_le (L : List Lay) (n : Nat) : thA L n ≤ n - 1 := by
  rcases Nat.eq_zero_or_pos n with h | h
  · subst h; simp [thA]
  · have := thA_lt L n h; omega
def joinF (a b : Lay) : Lay := ⟨a.ice + b.ice + min (a.wet + b.wet) (a.cold + b.cold), a.wet + b.wet - min (a.wet + b.wet) (a.cold + b.cold), a.cold + b.cold - min (a.wet + b.wet) (a.cold + b.cold)⟩
def thin (L : List Lay) : Nat := thA L (L.length - 1)
def join1 (L : List Lay) : List Lay := L.take (thin L) ++ joinF (L.getD (thin L) zLay) (L.getD (thin L + 1) zLay) :: L.drop (thin L + 2)
def joinN : Nat → List Lay → Nat → List Lay
  | 0, L, _ => L
  | f + 1, L, n => if n < L.length then joinN f (join1 L) n else L
def joiM (p : List Lay) (n : Int) : List Lay × Int := if packE p = 0 then if 1 ≤ n ∧ n ≤ 64 then (joinN p.length p n.toNat, 0) else ([], 1) else ([], 20)
/-- The upper one of the layers that are joined, and the lower one. -/
theorem thin_split {L : List Lay} (h : 2 ≤ L.length) : ∃ P a b R, L = P ++ a :: b :: R ∧ P.length = thin L ∧ join1 L = P ++ joinF a b :: R := by
  have h1 : thin L ≤ L.length - 1 - 1 := thA_le _ _
  have e0 : thin L < L.length := by omega
  have e1 : thin L + 1 < L.length := by omega
  refine ⟨L.take (thin L), L[thin L], L[thin L + 1], L.drop (thin L + 2), ?_, by rw [List.length_take]; omega, ?_⟩
  · rw [← List.drop_eq_getElem_cons e1, ← List.drop_eq_getElem_cons e0, List.take_append_drop]
  · unfold join1; simp [e0, e1]
/-- Bounds that joining keeps. -/
def joinOk (L : List Lay) : Prop := (∀ l ∈ L, 0 ≤ l.ice ∧ 0 ≤ l.wet ∧ 0 ≤ l.cold) ∧ watL L ≤ 65536 ∧ coldL L ≤ 65536
theorem joinOk_sum {L : List Lay} (h : ∀ l ∈ L, 0 ≤ l.ice ∧ 0 ≤ l.wet ∧ 0 ≤ l.cold) : 0 ≤ watL L ∧ 0 ≤ coldL L ∧ ∀ l ∈ L, l.ice + l.wet ≤ watL L ∧ l.cold ≤ coldL L := by
  induction L with
  | nil => simp [watL, coldL]
  | cons a L ih =>
    have h1 := h a (by simp)
    have h2 := ih fun l hl => h l (by simp [hl])
    simp only [watL, coldL, List.mem_cons, forall_eq_or_imp]
    refine ⟨by omega, by omega, ⟨by omega, by omega⟩, fun l hl => ?_⟩
    have := h2.2.2 l hl; omega
theorem joinOk_bd {L : List Lay} (h : joinOk L) : ∀ l ∈ L, (0 ≤ l.ice ∧ l.ice ≤ 65536) ∧ (0 ≤ l.wet ∧ l.wet ≤ 65536) ∧ (0 ≤ l.cold ∧ l.cold ≤ 65536) := fun l hl => by
  have h1 := h.1 l hl
  have h2 := (joinOk_sum h.1).2.2 l hl
  have h3 := h.2
  omega
theorem join1_ok {L : List Lay} (h : joinOk L) (hL : 2 ≤ L.length) : joinOk (join1 L) ∧ (join1 L).length = L.length - 1 ∧ watL (join1 L) = watL L := by
  obtain ⟨P, a, b, R, e1, e2, e3⟩ := thin_split hL
  rw [e3]
  rw [e1] at h ⊢
  obtain ⟨h1, h2, h3⟩ := h
  have ha := h1 a (by simp)
  have hb := h1 b (by simp)
  have hw : watL (P ++ joinF a b :: R) = watL (P ++ a :: b :: R) := by simp [watL_append, watL, joinF]; omega
  have hc : coldL (P ++ joinF a b :: R) ≤ coldL (P ++ a :: b :: R) := by simp [coldL_append, coldL, joinF]; omega
  refine ⟨⟨fun l hl => ?_, by omega, by omega⟩, by simp, hw⟩
  simp only [List.mem_append, List.mem_cons] at hl
  rcases hl with hl | rfl | hl
  · exact h1 l (by simp [hl])
  · unfold joinF; simp only []; omega
  · exact h1 l (by simp [hl])
/-- Rows of layers. -/
def rowC (A : List Lay) : List AV := (lays A).flatten
theorem row_close (A : List Lay) : AV.close.closeL (rowC A) = some (rowC A) := closeL_self _ (sc_self (lays_scs A))
theorem row_len (A : List Lay) : (rowC A).length = A.length * 3 := lays_flen A
section
variable {A : List Lay} {i : Nat}
theorem row_ice {o : Nat} (h : i < A.length) (ho : o = i * 3 + 0) : partA false 1 ((rowC A).drop o) = some (I A[i].ice) := by subst ho; exact part1 (by unfold rowC; rw [lays_fget h (by omega)]; rfl)
theorem row_lay {o : Nat} (h : i < A.length) (ho : o = i * 3) : partA true 3 ((rowC A).drop o) = some (.agg (eL A[i])) := by
  subst ho
  have h1 : (rowC A).drop (i * 3) = (lays (A.drop i)).flatten := by
    unfold rowC
    have e : A = A.take i ++ A.drop i := (List.take_append_drop i A).symm
    conv => lhs; rw [e, lays_app]
    rw [List.drop_left' (by rw [lays_flen, List.length_take]; omega)]
  rw [h1, List.drop_eq_getElem_cons h]
  show partA true 3 (eL A[i] ++ _) = _
  rfl
theorem row_set {P R : List Lay} {l m : Lay} {o : Nat} (ho : P.length * 3 = o) : splice (rowC (P ++ l :: R)) (eL m) o = rowC (P ++ m :: R) := flat_set (e := eL) (fun _ => rfl) ho
end
end Go.Proofs.YtgagfmjpmdgfdaaDoor
