/- From what the row reads to what the walks speak of. -/
import Derived.Test.YtieoiapebkhmlaaDoorL1
import Derived.Test.YtieoiapebkhmlaaDoorRows
import Derived.Deep.DeepHandedRow
import Derived.ProofKit
import Derived.Lib.LaidTab
set_option linter.unusedSimpArgs false
set_option linter.unusedVariables false
namespace Go.Proofs.YtieoiapebkhmlaaDoor
open Go.Ab Go.RowKit
theorem cells3 : Tryd.prog.cellsOf 3 = 1 := by kernel_rfl
theorem cells26 : Tryd.prog.cellsOf 26 = 4 := by kernel_rfl
theorem cells24 : Tryd.prog.cellsOf 24 = 3 := by kernel_rfl
theorem cells22 : Tryd.prog.cellsOf 22 = 1 := by kernel_rfl
section
variable {H : Type} {enc : TypeId × Value → H} {W : World}
theorem open_i {fuel : Nat} {cs : List Value} {x : DataW H × List MemPlace} (h : DataW.trod enc Tryd.prog W 0 (fun _ => true) true fuel 3 cs = some x) : ∃ n : Int, cs = [.int .i64 n] := by
  obtain ⟨n, h1, _⟩ := DataW.trod_int Tryd.underlying3 h
  exact ⟨n, h1⟩
set_option maxRecDepth 20000 in
theorem open_tst {fuel : Nat} {cs : List Value} {x : DataW H × List MemPlace} (h : DataW.trod enc Tryd.prog W 0 (fun _ => true) true fuel 26 cs = some x) :
    ∃ t : Tst, cs = [.int .i64 t.day, .int .i64 t.known, .int .i64 t.lo, .int .i64 t.hi] := by
  obtain ⟨xs, n, _, _, hl, hx, hf⟩ := DataW.trod_struct Tryd.underlying26 h
  rw [cells26] at hl
  have hx4 : xs.length = 4 := hx
  match cs, hl with
  | [c0, c1, c2, c3], _ =>
    obtain ⟨n0, e0⟩ := open_i ((hf 0 _ rfl).trans (List.getElem?_eq_getElem (by omega : 0 < xs.length)))
    obtain ⟨n1, e1⟩ := open_i ((hf 1 _ rfl).trans (List.getElem?_eq_getElem (by omega : 1 < xs.length)))
    obtain ⟨n2, e2⟩ := open_i ((hf 2 _ rfl).trans (List.getElem?_eq_getElem (by omega : 2 < xs.length)))
    obtain ⟨n3, e3⟩ := open_i ((hf 3 _ rfl).trans (List.getElem?_eq_getElem (by omega : 3 < xs.length)))
    change List.take (Tryd.prog.cellsOf 3) (List.drop 0 _) = _ at e0
    change List.take (Tryd.prog.cellsOf 3) (List.drop 1 _) = _ at e1
    change List.take (Tryd.prog.cellsOf 3) (List.drop 2 _) = _ at e2
    change List.take (Tryd.prog.cellsOf 3) (List.drop 3 _) = _ at e3
    rw [cells3] at e0 e1 e2 e3
    simp at e0 e1 e2 e3
    exact ⟨⟨n0, n1, n2, n3⟩, by simp [e0, e1, e2, e3]⟩
theorem cells_at {a : Addr} {n : Nat} {cs : List Value} (h : W.cells? 0 a n = some cs) : cs.length = n ∧ ∀ (j : Nat) v, cs[j]? = some v → W.cell? (a.add j) = some v := by
  unfold World.cells? at h
  rw [if_pos (Nat.zero_le _)] at h
  have hl := mapM_some_length h
  rw [List.length_range] at hl
  refine ⟨hl, fun j v hj => ?_⟩
  have hlt : j < cs.length := (List.getElem?_eq_some_iff.1 hj).1
  have := mapM_some_get h j j (by rw [List.getElem?_range (by omega)])
  rw [hj] at this
  exact this
theorem open_tests {fuel : Nat} {cs : List Value} {x : DataW H × List MemPlace} (h : DataW.trod enc Tryd.prog W 0 (fun _ => true) true fuel 22 cs = some x) :
    ∃ (l : List Tst) (v : Value), cs = [v] ∧ VR W (fun _ => none) noV noG (.sl (tests l)) v := by
  rcases DataW.trod_slice Tryd.underlying22 h with ⟨rfl, _⟩ | ⟨a, len, cap, elems, rest, n, _, rfl, _, _, hlc, _, hel, hget, _, _⟩
  · exact ⟨[], _, rfl, .sl0 _ _⟩
  · rw [cells26] at hget
    obtain ⟨b, off, sp⟩ := a
    have key : ∀ i, i < len → ∃ t : Tst, W.cells? 0 (Addr.add ⟨b, off, sp⟩ (i * 4)) 4 = some [.int .i64 t.day, .int .i64 t.known, .int .i64 t.lo, .int .i64 t.hi] := fun i hi => by
      have h1 := (hget i hi).trans (List.getElem?_eq_getElem (by omega : i < elems.length))
      obtain ⟨cs, hc, ht⟩ := Option.bind_eq_some_iff.1 h1
      obtain ⟨t, rfl⟩ := open_tst ht
      exact ⟨t, hc⟩
    let f : Nat → Tst := fun i => if hi : i < len then Classical.choose (key i hi) else ⟨0, 0, 0, 0⟩
    have hf : ∀ i, i < len → W.cells? 0 (Addr.add ⟨b, off, sp⟩ (i * 4)) 4 = some [.int .i64 (f i).day, .int .i64 (f i).known, .int .i64 (f i).lo, .int .i64 (f i).hi] := fun i hi => by
      simp only [f, dif_pos hi]; exact Classical.choose_spec (key i hi)
    have cellv : ∀ (i : Nat) e (j : Nat) c, (tests ((List.range len).map f))[i]? = some e → e[j]? = some c → ∃ n : Int, c = .sc (.int .i64 n) ∧ W.cell? (Addr.add (Addr.add ⟨b, off, sp⟩ (i * 4)) j) = some (.int .i64 n) := fun i e j c he hc => by
      have hi : i < len := by have := (List.getElem?_eq_some_iff.1 he).1; simpa [tests_len] using this
      have he' : e = eT (f i) := by simpa [tests, hi] using he.symm
      subst he'
      obtain ⟨_, h2⟩ := cells_at (hf i hi)
      match j, hc with
      | 0, hc => simp [eT] at hc; subst hc; exact ⟨_, rfl, h2 0 _ rfl⟩
      | 1, hc => simp [eT] at hc; subst hc; exact ⟨_, rfl, h2 1 _ rfl⟩
      | 2, hc => simp [eT] at hc; subst hc; exact ⟨_, rfl, h2 2 _ rfl⟩
      | 3, hc => simp [eT] at hc; subst hc; exact ⟨_, rfl, h2 3 _ rfl⟩
      | j + 4, hc => simp [eT] at hc
    refine ⟨(List.range len).map f, _, rfl, ?_⟩
    have hlen : (tests ((List.range len).map f)).length = len := by simp [tests_len]
    rcases Nat.eq_zero_or_pos len with h0 | hp
    · subst h0
      exact .sl0 _ _
    · have hsp : sp = none := by
        obtain ⟨n, _, h2⟩ := cellv 0 (eT (f 0)) 0 _ (by simp [tests, hp]) rfl
        simpa [Addr.add] using World.cell?_spot h2
      subst hsp
      have := VR.sl (w := W) (M := fun _ => none) (V := noV) (G := noG) (tests ((List.range len).map f)) 4 b off cap (fun i j => (W.cell? ⟨b, off + (i * 4 + j), none⟩).getD undef) tests_z (by omega) (fun i e j c he hc => by
        obtain ⟨n, rfl, h2⟩ := cellv i e j c he hc
        rw [WideShapes.add_plain, WideShapes.add_plain, Nat.add_assoc] at h2
        exact ⟨by rw [h2]; rfl, by rw [h2]; rfl, fun m hm => by cases hm⟩) (fun i e j c he hc => by
        obtain ⟨n, rfl, h2⟩ := cellv i e j c he hc
        rw [WideShapes.add_plain, WideShapes.add_plain, Nat.add_assoc] at h2
        rw [h2]; exact .sc _)
      rw [hlen] at this
      exact this
set_option maxRecDepth 20000 in
theorem open_scl {fuel : Nat} {cs : List Value} {x : DataW H × List MemPlace} (h : DataW.trod enc Tryd.prog W 0 (fun _ => true) true fuel 24 cs = some x) :
    ∃ (s : Scl) (v : Value), cs = [.int .i64 s.no, .int .i64 s.rate, v] ∧ VR W (fun _ => none) noV noG (.sl (tests s.tests)) v := by
  obtain ⟨xs, n, _, _, hl, hx, hf⟩ := DataW.trod_struct Tryd.underlying24 h
  rw [cells24] at hl
  have hx4 : xs.length = 3 := hx
  match cs, hl with
  | [c0, c1, c2], _ =>
    obtain ⟨n0, e0⟩ := open_i ((hf 0 _ rfl).trans (List.getElem?_eq_getElem (by omega : 0 < xs.length)))
    obtain ⟨n1, e1⟩ := open_i ((hf 1 _ rfl).trans (List.getElem?_eq_getElem (by omega : 1 < xs.length)))
    obtain ⟨l, v, e2, hv⟩ := open_tests ((hf 2 _ rfl).trans (List.getElem?_eq_getElem (by omega : 2 < xs.length)))
    change List.take (Tryd.prog.cellsOf 3) (List.drop 0 _) = _ at e0
    change List.take (Tryd.prog.cellsOf 3) (List.drop 1 _) = _ at e1
    change List.take (Tryd.prog.cellsOf 22) (List.drop 2 _) = _ at e2
    rw [cells3] at e0 e1
    rw [cells22] at e2
    simp at e0 e1 e2
    exact ⟨⟨n0, n1, l⟩, v, by simp [e0, e1, e2], hv⟩
theorem vr_scl {s : Scl} {v : Value} (hv : VR W (fun _ => none) noV noG (.sl (tests s.tests)) v) : VR W (fun _ => none) noV noG (.agg (eS s)) (.agg #[.int .i64 s.no, .int .i64 s.rate, v]) := by
  have h1 : v.oneCell' = true := hv.cell1 trivial
  refine VR.agg (eS s) [.int .i64 s.no, .int .i64 s.rate, v] rfl (by show (true && (true && (v.oneCell' && true))) = true; rw [h1]; rfl) fun i c u hc hu => ?_
  match i, hc, hu with
  | 0, hc, hu => simp [eS, I] at hc hu; subst hc; subst hu; exact .sc _
  | 1, hc, hu => simp [eS, I] at hc hu; subst hc; subst hu; exact .sc _
  | 2, hc, hu => simp [eS, I] at hc hu; subst hc; subst hu; exact hv
theorem vr_tst {t : Tst} : VR W (fun _ => none) noV noG (.agg (eT t)) (.agg #[.int .i64 t.day, .int .i64 t.known, .int .i64 t.lo, .int .i64 t.hi]) := by
  refine VR.agg (eT t) [.int .i64 t.day, .int .i64 t.known, .int .i64 t.lo, .int .i64 t.hi] rfl (by simp [Value.oneCell']) fun i c u hc hu => ?_
  match i, hc, hu with
  | 0, hc, hu => simp [eT, I] at hc hu; subst hc; subst hu; exact .sc _
  | 1, hc, hu => simp [eT, I] at hc hu; subst hc; subst hu; exact .sc _
  | 2, hc, hu => simp [eT, I] at hc hu; subst hc; subst hu; exact .sc _
  | 3, hc, hu => simp [eT, I] at hc hu; subst hc; subst hu; exact .sc _
end
theorem CourseScales_s (s : Scl) (t : Tst) : FSpecG Tryd.prog TAB 3 [.agg (eS s), .agg (eT t)] (B true) none := by
  by_cases hz : addE s t = 0
  · exact CourseScales_a s t hz
  · exact CourseScales_b s t hz
/-- What the law does, in whatever memory. -/
theorem law_calls (s : Scl) (t : Tst) {W : World} {a0 a1 : Value} (hT : TAB W) (h0 : VR W (fun _ => none) noV noG (.agg (eS s)) a0) (h1 : VR W (fun _ => none) noV noG (.agg (eT t)) a1) :
    Calls Tryd.prog 3 #[a0, a1] W fun e W' => e = .returned (.bool true) ∧ Below W.heap.size W W' := by
  have := CourseScales_s s t W (fun _ => none) [a0, a1] hT rfl (fun i y v hy hv => by
    match i, hy, hv with
    | 0, hy, hv => simp at hy hv; subst hy; subst hv; exact h0
    | 1, hy, hv => simp at hy hv; subst hy; subst hv; exact h1) (fun _ _ => rfl)
  refine this.mono fun e W' ⟨v, he, hb, hr⟩ => ?_
  subst he
  cases hr
  exact ⟨rfl, hb⟩
end Go.Proofs.YtieoiapebkhmlaaDoor
