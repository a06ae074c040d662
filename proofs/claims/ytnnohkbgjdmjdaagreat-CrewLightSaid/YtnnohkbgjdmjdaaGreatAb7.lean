/- Literals of structs, arrays and slices; append. Nothing here speaks of one program. -/
import Derived.Test.YtnnohkbgjdmjdaaGreatAb6
namespace Go.Ab
open Go.RowKit

theorem foldl_set (off : Nat) : ∀ (l : List Value) (s : Nat) (cells : Array Value),
    ((l.zipIdx s).foldl (fun cs (c : Value × Nat) => cs.setIfInBounds (off + c.2) c.1) cells).size = cells.size ∧
    ∀ k, ((l.zipIdx s).foldl (fun cs (c : Value × Nat) => cs.setIfInBounds (off + c.2) c.1) cells)[k]? =
      if off + s ≤ k ∧ k < off + s + l.length ∧ k < cells.size then l[k - off - s]? else cells[k]? := by
  intro l
  induction l with
  | nil => intro s cells; refine ⟨rfl, fun k => ?_⟩; rw [if_neg (by simp; omega)]; rfl
  | cons v l ih =>
    intro s cells
    simp only [List.zipIdx_cons, List.foldl_cons]
    obtain ⟨h1, h2⟩ := ih (s + 1) (cells.setIfInBounds (off + s) v)
    refine ⟨by rw [h1]; simp, fun k => ?_⟩
    rw [h2]
    simp only [Array.size_setIfInBounds, List.length_cons, Array.getElem?_setIfInBounds]
    by_cases c1 : k = off + s
    · subst c1
      rw [if_neg (by omega), if_pos rfl]
      by_cases c2 : off + s < cells.size
      · rw [if_pos c2, if_pos (by omega)]
        have : off + s - off - s = 0 := by omega
        rw [this]; rfl
      · rw [if_neg c2, if_neg (by omega)]
        rw [Array.getElem?_eq_none (by omega)]
    · rw [if_neg (fun h : off + s = k => c1 h.symm)]
      by_cases c3 : off + (s + 1) ≤ k ∧ k < off + (s + 1) + l.length ∧ k < cells.size
      · rw [if_pos c3, if_pos (by omega)]
        obtain ⟨q, hq⟩ : ∃ q, k - off - s = q + 1 := ⟨k - off - s - 1, by omega⟩
        rw [hq, List.getElem?_cons_succ]
        congr 1
        omega
      · rw [if_neg c3, if_neg (by omega)]

theorem foldl_cells (off : Nat) (vs : Array Value) (cells : Array Value) :
    (vs.zipIdx.foldl (fun cs (c : Value × Nat) => cs.setIfInBounds (off + c.2) c.1) cells).size = cells.size ∧
    ∀ k, (vs.zipIdx.foldl (fun cs (c : Value × Nat) => cs.setIfInBounds (off + c.2) c.1) cells)[k]? =
      if off ≤ k ∧ k < off + vs.size ∧ k < cells.size then vs[k - off]? else cells[k]? := by
  have h := foldl_set off vs.toList 0 cells
  rw [← Array.foldl_toList]
  have hz : vs.zipIdx.toList = vs.toList.zipIdx 0 := by simp
  rw [hz]
  refine ⟨h.1, fun k => ?_⟩
  rw [h.2 k]
  simp

def CellsR (w : World) (M : Nat → Option Nat) (V : OId → Option Nat) (G : OId → Option GL) (cs : List AV) (vs : Array Value) : Prop :=
  vs.size = cs.length ∧ ∀ (j : Nat) c, cs[j]? = some c → ∃ v, vs[j]? = some v ∧ v.oneCell' = true ∧ VR w M V G c v

def fillA (place : Nat → Option (Nat × Nat)) : List AV → List (Nat × AV) → Option (List AV)
  | cells, [] => some cells
  | cells, (i, v) :: rest =>
    match place i, cellsA v with
    | some (off, size), some vc =>
      match Nat.beq vc.length size && Nat.ble (off + size) cells.length with
      | true => fillA place (splice cells vc off) rest
      | false => none
    | _, _ => none

theorem fill_spec {w M V G} (place : Nat → Option (Nat × Nat)) : ∀ (pa : List (Nat × AV)) (ps : List (Nat × Value)) (cs cs' : List AV) (vs : Array Value),
    pa.length = ps.length → (∀ (i : Nat) p q, pa[i]? = some p → ps[i]? = some q → p.1 = q.1 ∧ VR w M V G p.2 q.2) →
    CellsR w M V G cs vs → fillA place cs pa = some cs' → ∃ vs', Instr.fill place vs ps = some vs' ∧ CellsR w M V G cs' vs' := by
  intro pa
  induction pa with
  | nil =>
    intro ps cs cs' vs hl _ hc hf
    have : ps = [] := List.eq_nil_of_length_eq_zero hl.symm
    subst this
    simp [fillA] at hf; subst hf
    exact ⟨vs, rfl, hc⟩
  | cons p pa ih =>
    intro ps cs cs' vs hl hp hc hf
    obtain ⟨i, av⟩ := p
    cases ps with
    | nil => simp at hl
    | cons q ps =>
      obtain ⟨i', v⟩ := q
      obtain ⟨h1, h2⟩ := hp 0 _ _ rfl rfl
      simp only at h1 h2
      subst h1
      simp only [fillA] at hf
      split at hf
      · rename_i off size vc hpl hcl
        split at hf
        · rename_i hb
          simp only [Bool.and_eq_true] at hb
          have hb1 := Nat.eq_of_beq_eq_true hb.1
          have hb2 := Nat.le_of_ble_eq_true hb.2
          obtain ⟨k1, k2⟩ := cellsA_spec h2 hcl
          obtain ⟨c1, c2⟩ := hc
          obtain ⟨f1, f2⟩ := foldl_cells off v.cells vs
          have hres : CellsR w M V G (splice cs vc off) (v.cells.zipIdx.foldl (fun cs (c : Value × Nat) => cs.setIfInBounds (off + c.2) c.1) vs) := by
            refine ⟨by rw [f1, c1]; simp [splice]; omega, fun j c hj => ?_⟩
            rw [f2]
            simp only [splice, List.getElem?_append, List.length_append, List.length_take] at hj
            have hm : min off cs.length = off := by omega
            rw [hm] at hj
            by_cases d1 : j < off + vc.length
            · rw [if_pos d1] at hj
              by_cases d2 : j < off
              · rw [if_pos d2, List.getElem?_take, if_pos d2] at hj
                rw [if_neg (by omega)]
                exact c2 j c hj
              · rw [if_neg d2] at hj
                rw [if_pos (by omega)]
                exact k2 _ c hj
            · rw [if_neg d1, List.getElem?_drop] at hj
              rw [if_neg (by omega)]
              have : off + vc.length + (j - (off + vc.length)) = j := by omega
              rw [this] at hj
              exact c2 j c hj
          obtain ⟨vs', g1, g2⟩ := ih ps _ cs' _ (by simpa using hl) (fun i p q hp' hq' => hp (i + 1) p q hp' hq') hres hf
          refine ⟨vs', ?_, g2⟩
          simp only [Instr.fill, hpl]
          rw [if_neg (by simp; omega)]
          exact g1
        · cases hf
      · cases hf

theorem mem_parts {ps : Array (Nat × Operand)} {i : Nat} {p : Nat × Operand} (h : ps.toList[i]? = some p) : p.2 ∈ (ps.toList.map (·.2)).toArray := by
  rw [← Array.mem_toList_iff]
  exact List.mem_map.2 ⟨p, List.mem_of_getElem? h, rfl⟩

/-- How a struct or an array of type t is built. -/
def BuildAt (P : Program) (t : Nat) (place : Nat → Option (Nat × Nat)) (zs : List Value) : Prop :=
  zs.all (·.oneCell') = true ∧ ∀ (parts : Array (Nat × Value)) cells, Instr.fill place zs.toArray parts.toList = some cells → ∀ w, (Instr.build t parts).run P w = .ok (.agg cells) w

section
variable {P : Program} {w0 : World} {M0 : MT} {σ : AS} {d : Option Tmp} {ty : TypeId} {pos : String} {after : Array Edge} {guard : Option (Nat × Bool)}

theorem ok_build {t : Nat} {place : Nat → Option (Nat × Nat)} {zs : List Value} {parts : Array (Nat × Operand)} {pa : List (Nat × AV)} {cs : List AV} (hb : BuildAt P t place zs)
    (hpa : pa = parts.toList.map fun p => (p.1, σ.ev p.2)) (hf : fillA place (zs.map .sc) pa = some cs) (hd : okDst σ d) :
    OpAny P w0 M0 σ ⟨d, .build t parts, ty, pos, after, guard⟩ (.val (.agg cs)) :=
  opAny_val hd fun σ' a w X hag hr => by
    subst hpa
    obtain ⟨hz, hrun⟩ := hb
    have hpart : ∀ (i : Nat) p q, (parts.toList.map fun p => (p.1, σ.ev p.2))[i]? = some p → (parts.map fun (i, x) => (i, a.eval x)).toList[i]? = some q → p.1 = q.1 ∧ VR w X.M X.V X.G p.2 q.2 := fun i p q hp hq => by
      simp only [Array.toList_map, List.getElem?_map, Option.map_eq_some_iff] at hp hq
      obtain ⟨r, hr1, rfl⟩ := hp
      obtain ⟨r', hr2, rfl⟩ := hq
      have : r = r' := Option.some.inj (hr1.symm.trans hr2)
      subst this
      refine ⟨rfl, ?_⟩
      have : σ'.ev r.2 = σ.ev r.2 := hag.ev r.2 (mem_parts hr1)
      show VR w X.M X.V X.G (σ.ev r.2) _
      rw [← this]
      exact hr.ev r.2
    obtain ⟨vs', g1, g2, g3⟩ := fill_spec place _ _ _ _ zs.toArray (by simp) hpart ⟨by simp, fun j c hj => by
      simp only [List.getElem?_map, Option.map_eq_some_iff] at hj
      obtain ⟨u, hu, rfl⟩ := hj
      exact ⟨u, by simpa using hu, List.all_eq_true.1 hz u (List.mem_of_getElem? hu), .sc u⟩⟩ hf
    refine ⟨.agg vs', by simp only [execOp]; exact run_value (hrun _ _ g1 w), ?_⟩
    have : vs' = vs'.toList.toArray := by simp
    rw [this]
    have hall : ∀ (i : Nat) c v, cs[i]? = some c → vs'.toList[i]? = some v → v.oneCell' = true ∧ VR w X.M X.V X.G c v := fun i c v hc hv => by
      obtain ⟨u, k1, k2, k3⟩ := g3 i c hc
      have : u = v := by
        rw [Array.getElem?_toList] at hv
        exact Option.some.inj (k1.symm.trans hv)
      subst this
      exact ⟨k2, k3⟩
    refine .agg cs _ (by simp [g2]) (List.all_eq_true.2 fun u hu => ?_) fun i c v hc hv => (hall i c v hc hv).2
    obtain ⟨i, hi⟩ := List.getElem?_of_mem hu
    have hlt : i < cs.length := by have := (List.getElem?_eq_some_iff.1 hi).1; simp [g2] at this; exact this
    exact (hall i cs[i] u (List.getElem?_eq_getElem hlt) hi).1

theorem fill_seq (z : Nat) : ∀ (vs : List Value) (k : Nat) (cells : Array Value), (∀ v ∈ vs, v.cells.size = z) → (k + vs.length) * z ≤ cells.size →
    ∃ cells', Instr.fill (fun i => some (i * z, z)) cells ((vs.zipIdx k).map fun p => (p.2, p.1)) = some cells' ∧ cells'.size = cells.size ∧ (∀ j, j < k * z → cells'[j]? = cells[j]?) ∧
      ∀ (i : Nat) v j, vs[i]? = some v → j < z → cells'[(k + i) * z + j]? = v.cells[j]? := by
  intro vs
  induction vs with
  | nil => intro k cells _ _; exact ⟨cells, rfl, rfl, fun _ _ => rfl, fun i v j h => by simp at h⟩
  | cons v vs ih =>
    intro k cells hz hl
    obtain ⟨f1, f2⟩ := foldl_cells (k * z) v.cells cells
    have hvz := hz v (by simp)
    have hk : (k + 1) * z ≤ cells.size := Nat.le_trans (Nat.mul_le_mul_right z (by simp only [List.length_cons]; omega)) hl
    rw [Nat.add_mul, Nat.one_mul] at hk
    obtain ⟨c', g1, g2, g3, g4⟩ := ih (k + 1) (v.cells.zipIdx.foldl (fun cs (c : Value × Nat) => cs.setIfInBounds (k * z + c.2) c.1) cells) (fun u hu => hz u (by simp [hu])) (by rw [f1]; simp only [List.length_cons] at hl; rwa [show k + 1 + vs.length = k + (vs.length + 1) by omega])
    refine ⟨c', ?_, by rw [g2, f1], fun j hj => ?_, fun i u j hu hj => ?_⟩
    · simp only [List.zipIdx_cons, List.map_cons, Instr.fill]
      rw [if_neg (by simp; omega)]
      exact g1
    · rw [g3 j (by rw [Nat.add_mul]; omega), f2, if_neg (by omega)]
    · cases i with
      | zero =>
        simp at hu; subst hu
        rw [Nat.add_zero, g3 _ (by rw [Nat.add_mul]; omega), f2, if_pos (by omega)]
        congr 1
        omega
      | succ i =>
        simp at hu
        have := g4 i u j hu hj
        rwa [show k + 1 + i = k + (i + 1) by omega] at this

theorem run_buildSlice {t e z len : Nat} {zv : Value} (hu : P.underlying t = some (.slice e)) (hs : ∀ w, (sizeOf e).run P w = .ok z w)
    (hzv : ∀ w, (zeroValue e).run P w = .ok zv w) (hsmall : len * z ≤ 1000000) (ps : Array (Nat × Value)) (w : World) (C : Array Value → Prop)
    (hf : ∀ init : Array Value, init.size = len * z → ∃ cells, Instr.fill (fun i => some (i * z, z)) init ps.toList = some cells ∧ C cells) :
    ∃ cells, C cells ∧ (Instr.buildSlice t len ps).run P w = .ok (.slice (some ⟨w.heap.size, 0, none⟩) len len) (w.alloc (.cells cells e)) := by
  have hbig : ¬ len * z > 2 ^ 24 := by omega
  by_cases h0 : len * z = 0
  · obtain ⟨cells, h1, h2⟩ := hf ((Array.range (len * z)).map fun i => (#[] : Array Value)[i % (#[] : Array Value).size]!) (by simp)
    refine ⟨cells, h2, ?_⟩
    simp only [Instr.buildSlice, Sem.run_bind, run_underlying' hu, hs, Result.andThen_ok]
    rw [if_neg hbig, if_pos h0]
    simp only [Sem.run_bind, Sem.run_pure, Result.andThen_ok]
    rw [h1]
    simp only [newRow, Sem.run_bind, run_newObj, Sem.run_pure, Result.andThen_ok]
    rfl
  · obtain ⟨cells, h1, h2⟩ := hf ((Array.range (len * z)).map fun i => zv.cells[i % zv.cells.size]!) (by simp)
    refine ⟨cells, h2, ?_⟩
    simp only [Instr.buildSlice, Sem.run_bind, run_underlying' hu, hs, Result.andThen_ok]
    rw [if_neg hbig, if_neg h0]
    simp only [Sem.run_bind, Sem.run_pure, Result.andThen_ok, hzv]
    rw [h1]
    simp only [newRow, Sem.run_bind, run_newObj, Sem.run_pure, Result.andThen_ok]
    rfl

/-- A slice literal that names all its elements in order. -/
theorem ok_buildSlice {t e z len : Nat} {parts : Array (Nat × Operand)} {es : List (List AV)} {zv : Value} {d : Tmp} (hu : P.underlying t = some (.slice e)) (hs : ∀ w, (sizeOf e).run P w = .ok z w)
    (hzv : ∀ w, (zeroValue e).run P w = .ok zv w) (hlen : parts.toList.length = len) (hidx : parts.toList.map (·.1) = List.range len)
    (hes : (parts.toList.map fun p => (cellsA (σ.ev p.2)).bind AV.close.closeL) = es.map some) (hz : ∀ c ∈ es, c.length = z) (hzp : 0 < z) (hsmall : len * z ≤ 1000000) (hd : d < σ.n) :
    OpAny P w0 M0 σ ⟨some d, .buildSlice t len parts, ty, pos, after, guard⟩ (.fresh (.own (0, 0) es) len z e) := by
  intro σ' hag a w ⟨X, hr⟩ K Q hK
  have hl2 : es.length = len := by have := congrArg List.length hes; simpa [hlen] using this.symm
  let vals : List Value := parts.toList.map fun p => a.eval p.2
  have hparts : (parts.map fun (i, x) => (i, a.eval x)).toList = (vals.zipIdx 0).map fun p => (p.2, p.1) := by
    apply List.ext_getElem?
    intro i
    simp only [Array.toList_map, List.getElem?_map, vals, List.getElem?_zipIdx]
    cases hp : parts.toList[i]? with
    | none => simp
    | some p =>
      have h1 : (parts.toList.map (·.1))[i]? = some p.1 := by simp [hp]
      rw [hidx] at h1
      have hi : i < len := by rw [← hlen]; exact (List.getElem?_eq_some_iff.1 hp).1
      rw [List.getElem?_range hi] at h1
      simp at h1
      simp [← h1]
  have hval : ∀ (i : Nat) v, vals[i]? = some v → ∃ c, es[i]? = some c ∧ v.cells.size = c.length ∧ ∀ (j : Nat) x, c[j]? = some x → ∃ u, v.cells[j]? = some u ∧ u.oneCell' = true ∧ VR w X.M noV noG x u := fun i v hv => by
    simp only [vals, List.getElem?_map, Option.map_eq_some_iff] at hv
    obtain ⟨p, hp, rfl⟩ := hv
    have h1 : (parts.toList.map fun p => (cellsA (σ.ev p.2)).bind AV.close.closeL)[i]? = some ((cellsA (σ.ev p.2)).bind AV.close.closeL) := by rw [List.getElem?_map, hp]; rfl
    rw [hes, List.getElem?_map, Option.map_eq_some_iff] at h1
    obtain ⟨c, hc, hcc⟩ := h1
    have h2 := hr.ev p.2
    rw [hag.ev p.2 (mem_parts hp)] at h2
    obtain ⟨c0, hc0, hcl⟩ := Option.bind_eq_some_iff.1 hcc.symm
    obtain ⟨n1, n2⟩ := cellsA_spec h2 hc0
    obtain ⟨n3, n4⟩ := closeL_get c0 c hcl
    refine ⟨c, hc, by rw [n1, n3], fun j y hy => ?_⟩
    have hj : j < c0.length := by rw [n3]; exact (List.getElem?_eq_some_iff.1 hy).1
    obtain ⟨u, m1, m2, m3⟩ := n2 j c0[j] (List.getElem?_eq_getElem hj)
    exact ⟨u, m1, m2, m3.closed y (n4 j c0[j] y (List.getElem?_eq_getElem hj) hy) _ _⟩
  have hvz : ∀ v ∈ vals, v.cells.size = z := fun v hv => by
    obtain ⟨i, hi⟩ := List.getElem?_of_mem hv
    obtain ⟨c, h1, h2, _⟩ := hval i v hi
    rw [h2]; exact hz c (List.mem_of_getElem? h1)
  have hvl : vals.length = len := by simp only [vals, List.length_map]; exact hlen
  obtain ⟨cells, ⟨hsz, g4⟩, hrun⟩ := run_buildSlice (P := P) hu hs hzv hsmall (parts.map fun (i, x) => (i, a.eval x)) w
    (fun cells => cells.size = len * z ∧ ∀ (i : Nat) v j, vals[i]? = some v → j < z → cells[i * z + j]? = v.cells[j]?) fun init hi => by
      obtain ⟨cells, g1, g2, _, g4⟩ := fill_seq z vals 0 init hvz (by rw [hi, hvl]; simp)
      rw [← hparts] at g1
      simp only [Nat.zero_add] at g4
      exact ⟨cells, g1, by rw [g2, hi], g4⟩
  have hrun : (execOp a.eval ⟨some d, .buildSlice t len parts, ty, pos, after, guard⟩).run P w = .ok (.value (.slice (some ⟨w.heap.size, 0, none⟩) len len)) (w.alloc (.cells cells e)) := by
    simp only [execOp]
    exact run_value hrun
  unfold Oper.wp
  rw [hrun, Oper.upon_value]
  have hbs := hr.below.size
  have hM : ∀ m, upd X.M w.heap.size (some (len * z)) w.heap.size = some m → m = len * z := fun m hm => by rw [upd_same] at hm; cases hm; rfl
  have hcell : ∀ (i : Nat) c (j : Nat) x, es[i]? = some c → c[j]? = some x → ∃ u, cells[i * z + j]? = some u ∧ u.oneCell' = true ∧ VR w X.M noV noG x u := fun i c j x hc hx => by
    have hi : i < vals.length := by rw [hvl, ← hl2]; exact (List.getElem?_eq_some_iff.1 hc).1
    obtain ⟨c', k1, k2, k3⟩ := hval i vals[i] (List.getElem?_eq_getElem hi)
    have : c' = c := Option.some.inj (k1.symm.trans hc)
    subst this
    have hjz : j < z := by rw [← hz c' (List.mem_of_getElem? hc)]; exact (List.getElem?_eq_some_iff.1 hx).1
    obtain ⟨u, m1, m2, m3⟩ := k3 j x hx
    exact ⟨u, by rw [g4 i vals[i] j (List.getElem?_eq_getElem hi) hjz]; exact m1, m2, m3⟩
  have hpos : ∀ (i : Nat) c (j : Nat) y, es[i]? = some c → c[j]? = some y → i * z + j < len * z := fun i c j y hc hx => by
    have hjz : j < z := by rw [← hz c (List.mem_of_getElem? hc)]; exact (List.getElem?_eq_some_iff.1 hx).1
    have hi : i < len := by rw [← hl2]; exact (List.getElem?_eq_some_iff.1 hc).1
    have : (i + 1) * z ≤ len * z := Nat.mul_le_mul_right z hi
    rw [Nat.add_mul] at this
    omega
  · refine hK _ _ (hr.newGrow (by rw [hag.n]; exact hd) (Nat.le_refl _) ?_ hsz (.own _ es _ ?_ _ (updO_same _ _ _) (by rw [hl2]; exact Nat.le_refl _) fun _ => rfl))
    · have := Nat.le_mul_of_pos_right len hzp
      unfold maxLen; omega
    · have := VR.sl (w := w.alloc (.cells cells e)) (M := upd X.M w.heap.size (some (len * z))) (V := noV) (G := noG) es z w.heap.size 0 len
        (fun i j => (cells[i * z + j]?).getD undef) hz (by rw [hl2]; exact Nat.le_refl _) (fun i c j y hc hy => ?_) (fun i c j y hc hy => ?_)
      · rw [hl2] at this; exact this
      · obtain ⟨u, m1, m2, m3⟩ := hcell i c j y hc hy
        refine ⟨by simp only [World.cell?, heap_new, Nat.zero_add, m1]; rfl, by simp only [m1]; exact m2, fun m hm => ?_⟩
        rw [hM m hm, Nat.zero_add]; exact hpos i c j y hc hy
      · obtain ⟨u, m1, m2, m3⟩ := hcell i c j y hc hy
        simp only [m1, Option.getD_some]
        exact m3.mono (fun _ _ _ hi => imm_alloc hi) fun _ _ hh => hh.alloc

/-- Nothing is appended. -/
theorem run_append_zero {t ty e z : Nat} (hu : P.underlying t = some (.slice e)) (hs : ∀ w, (sizeOf e).run P w = .ok z w) (w : World) (b yb : Option Addr) (n cap yc : Nat) (hn : n ≤ cap) :
    (Builtin.append_ #[t, t] ty #[.slice b n cap, .slice yb 0 yc]).run P w = .ok (.slice b n cap) w := by
  cases b <;> cases yb <;> simp [Builtin.append_, run_underlying' hu, hs, Builtin.lenOf, Builtin.firstCells, loadCells, loadCellsFrom, hn, storeCells]

theorem ok_append {t e z bytes : Nat} {i : TypeInfo} {zv : Value} {id : OId} {es ns : List (List AV)} (x y : Operand) (hu : P.underlying t = some (.slice e)) (hi : P.info? e = some i) (hzv : i.zero = some zv)
    (hsz : i.size = z) (hby : i.bytes = bytes) (hzc : zv.cells.size = z) (hzp : 0 < z) (hx : σ.ev x = .own id es) (hgr : σ.gr id = some (es.length, z, e)) (hy : slEs (σ.ev y) = some ns)
    (hnz : ∀ c ∈ ns, c.length = z) (hez : ∀ c ∈ es, c.length = z) (hbound : (es.length + ns.length) * bytes ≤ 140737488355328) (hbp : 0 < bytes) (hd : okDst σ d) :
    OpSeq P w0 M0 σ ⟨d, .call ⟨.builtin .append, #[x, y], #[t, t]⟩, ty, pos, after, guard⟩ (.grow id (es ++ ns) z e) := by
  intro a w ⟨X, hr⟩ K Q hK
  have h1 := hr.ev x
  rw [hx] at h1
  have h2 := slEs_spec (hr.ev y) hy
  obtain ⟨l, k1, k2, k3, k3', k4, k5⟩ := hr.gr id _ _ _ hgr
  have hs : ∀ w, (sizeOf e).run P w = .ok z w := fun w => by simp [sizeOf, typeInfo, hi, hsz]
  have hmb := Nat.le_mul_of_pos_right (es.length + ns.length) hbp
  have hml : es.length + ns.length ≤ maxLen := by unfold maxLen; omega
  have hbs := hr.below.size
  obtain ⟨hv0, hv⟩ : VR w X.M noV noG (.sl es) (a.eval x) ∧ a.eval x = l.val := by
    generalize a.eval x = v at h1
    cases h1 with
    | own _ _ _ h g hg hle heq =>
      have : g = l := Option.some.inj (hg.symm.trans k1)
      subst this
      exact ⟨h, heq k2.symm⟩
  -- what is appended
  obtain ⟨yb, yc, hyv, hnews⟩ : ∃ yb yc, a.eval y = .slice yb ns.length yc ∧ (0 < ns.length → ∃ b off, yb = some ⟨b, off, none⟩ ∧ ∃ Xn : Nat → Nat → Value,
      ∀ (i : Nat) c j u, ns[i]? = some c → c[j]? = some u → Imm w X.M b (off + (i * z + j)) (Xn i j) ∧ VR w X.M noV noG u (Xn i j)) := by
    generalize a.eval y = v at h2
    cases h2 with
    | sl0 a c => exact ⟨a, c, rfl, fun h => by simp at h⟩
    | sl _ z' b off cap Xn hz' hcap hc hv =>
      refine ⟨some ⟨b, off, none⟩, cap, rfl, fun hpos => ⟨b, off, rfl, Xn, fun i c j u hc' hu' => ⟨?_, hv i c j u hc' hu'⟩⟩⟩
      have : z = z' := by rw [← hnz c (List.mem_of_getElem? hc'), hz' c (List.mem_of_getElem? hc')]
      rw [this]
      exact hc i c j u hc' hu'
  have hstep : ∀ cv w', (Builtin.append_ #[t, t] ty #[a.eval x, a.eval y]).run P w = .ok cv w' → (execOp a.eval ⟨d, .call ⟨.builtin .append, #[x, y], #[t, t]⟩, ty, pos, after, guard⟩).run P w = .ok (.value cv) w' := fun cv w' h => by
    simp [execOp, resolve, invoke, builtin, h]
  by_cases h0 : ns.length = 0
  · -- nothing
    have hns : ns = [] := List.eq_nil_of_length_eq_zero h0
    subst hns
    have hrun := run_append_zero (P := P) (ty := ty) hu hs w (l.blk.map fun b => ⟨b, 0, none⟩) yb l.cnt l.cap yc (by rw [k2]; exact k3)
    have hrun2 := hstep _ w (by rw [hyv, hv]; exact hrun)
    unfold Oper.wp
    rw [hrun2, Oper.upon_value]
    refine hK _ _ ⟨X, ?_⟩
    have hgr' : updO σ.gr id (some ((es ++ ([] : List (List AV))).length, z, e)) = σ.gr := by
      funext id'
      by_cases hid : id' = id
      · subst hid; rw [updO_same, List.append_nil, hgr]
      · rw [updO_ne _ _ hid]
    show RelW w0 M0 (AS.put { σ with gr := updO σ.gr id (some ((es ++ ([] : List (List AV))).length, z, e)) } d (.own id (es ++ []))) _ _ _
    rw [hgr', List.append_nil]
    exact hr.put hd (.own id es _ (by have := hv0; rw [hv] at this; exact this) l k1 (by rw [k2]; exact Nat.le_refl _) fun _ => rfl)
  · have hpos : 0 < ns.length := Nat.pos_of_ne_zero h0
    obtain ⟨yblk, yoff, hyb, Xn, hXn⟩ := hnews hpos
    subst hyb
    let news : List Value := (List.range (ns.length * z)).map fun j => Xn (j / z) (j % z)
    have hnl : news.length = ns.length * z := by simp [news]
    have hat : ∀ j, j < ns.length * z → ∃ c u, ns[j / z]? = some c ∧ c[j % z]? = some u ∧ news[j]? = some (Xn (j / z) (j % z)) := fun j hj => by
      have hq : j / z < ns.length := Nat.div_lt_of_lt_mul (by rw [Nat.mul_comm]; exact hj)
      have hc := List.getElem?_eq_getElem hq
      have hmod : j % z < (ns[j / z]).length := by rw [hnz _ (List.getElem_mem hq)]; exact Nat.mod_lt _ hzp
      exact ⟨_, _, hc, List.getElem?_eq_getElem hmod, by simp [news, hj]⟩
    have hnews1 : ∀ (j : Nat) u, news[j]? = some u → w.cell? ((⟨yblk, yoff, none⟩ : Addr).add j) = some u := fun j u hju => by
      have hj : j < ns.length * z := by rw [← hnl]; exact (List.getElem?_eq_some_iff.1 hju).1
      obtain ⟨c, u', g1, g2, g3⟩ := hat j hj
      rw [g3] at hju; cases hju
      obtain ⟨⟨m1, _⟩, _⟩ := hXn _ _ _ _ g1 g2
      rw [addr_add]
      rw [show yoff + j = yoff + (j / z * z + j % z) by rw [Nat.mul_comm, Nat.div_add_mod]]
      exact m1
    have hnews2 : ∀ u ∈ news, u.oneCell' = true := fun u hu' => by
      obtain ⟨j, hj⟩ := List.getElem?_of_mem hu'
      have hjl : j < ns.length * z := by rw [← hnl]; exact (List.getElem?_eq_some_iff.1 hj).1
      obtain ⟨c, u', g1, g2, g3⟩ := hat j hjl
      rw [g3] at hj; cases hj
      exact (hXn _ _ _ _ g1 g2).1.2.1
    have hnews3 : ∀ (i : Nat) c j u, ns[i]? = some c → c[j]? = some u → ∃ v, news[i * z + j]? = some v ∧ v.oneCell' = true ∧ VR w X.M noV noG u v := fun i c j u hc hu' => by
      have hjz : j < z := by rw [← hnz c (List.mem_of_getElem? hc)]; exact (List.getElem?_eq_some_iff.1 hu').1
      have hil : i < ns.length := (List.getElem?_eq_some_iff.1 hc).1
      have hlt : i * z + j < ns.length * z := by
        have : (i + 1) * z ≤ ns.length * z := Nat.mul_le_mul_right z hil
        rw [Nat.add_mul] at this; omega
      obtain ⟨m1, m2⟩ := hXn i c j u hc hu'
      refine ⟨Xn i j, ?_, m1.2.1, m2⟩
      have hd1 : (i * z + j) / z = i := by rw [Nat.mul_comm, Nat.mul_add_div hzp, Nat.div_eq_of_lt hjz, Nat.add_zero]
      have hd2 : (i * z + j) % z = j := by rw [Nat.mul_comm, Nat.mul_add_mod, Nat.mod_eq_of_lt hjz]
      simp [news, hlt, hd1, hd2]
    -- the elements in a block that begins with the old ones and the new ones
    have hfin : ∀ (w1 : World) (M1 : Nat → Option Nat) (tb : Nat) (vs1 : Array Value) (cap1 : Nat), (∀ b off y, Imm w X.M b off y → Imm w1 M1 b off y) → (∀ b n, Sz w b n → Sz w1 b n) →
        w1.heap[tb]? = some (.cells vs1 e (0, 0)) → M1 tb = some ((es.length + ns.length) * z) → es.length + ns.length ≤ cap1 →
        (∀ (i : Nat) c j u, es[i]? = some c → c[j]? = some u → ∃ v, vs1[i * z + j]? = some v ∧ v.oneCell' = true ∧ VR w X.M noV noG u v) →
        (∀ j, j < ns.length * z → vs1[es.length * z + j]? = news[j]?) →
        VR w1 M1 noV noG (.sl (es ++ ns)) (.slice (some ⟨tb, 0, none⟩) (es.length + ns.length) cap1) := fun w1 M1 tb vs1 cap1 himm hzz hcells hM1 hcap1 hold hnew => by
      have hall : ∀ (i : Nat) c j u, (es ++ ns)[i]? = some c → c[j]? = some u → (∃ v, vs1[i * z + j]? = some v ∧ v.oneCell' = true ∧ VR w X.M noV noG u v) ∧ i * z + j < (es.length + ns.length) * z := fun i c j u hc hu' => by
        have hcz : c.length = z := by
          rcases List.mem_append.1 (List.mem_of_getElem? hc) with h | h
          · exact hez c h
          · exact hnz c h
        have hjz : j < z := by rw [← hcz]; exact (List.getElem?_eq_some_iff.1 hu').1
        have hil : i < es.length + ns.length := by rw [← List.length_append]; exact (List.getElem?_eq_some_iff.1 hc).1
        have hlt : i * z + j < (es.length + ns.length) * z := by
          have : (i + 1) * z ≤ (es.length + ns.length) * z := Nat.mul_le_mul_right z hil
          rw [Nat.add_mul] at this; omega
        refine ⟨?_, hlt⟩
        by_cases hie : i < es.length
        · rw [List.getElem?_append_left hie] at hc
          exact hold i c j u hc hu'
        · rw [List.getElem?_append_right (by omega)] at hc
          obtain ⟨v, m1, m2, m3⟩ := hnews3 _ c j u hc hu'
          refine ⟨v, ?_, m2, m3⟩
          have hidx : i * z + j = es.length * z + ((i - es.length) * z + j) := by
            rw [← Nat.add_assoc, ← Nat.add_mul]; congr 2; omega
          rw [hidx, hnew _ (by rw [← hnl]; exact (List.getElem?_eq_some_iff.1 m1).1)]
          exact m1
      have := VR.sl (w := w1) (M := M1) (V := noV) (G := noG) (es ++ ns) z tb 0 cap1 (fun i j => (vs1[i * z + j]?).getD undef)
        (fun c hc => by rcases List.mem_append.1 hc with h | h; exact hez c h; exact hnz c h) (by rw [List.length_append]; exact hcap1)
        (fun i c j u hc hu' => by
          obtain ⟨⟨v, m1, m2, m3⟩, m4⟩ := hall i c j u hc hu'
          refine ⟨by simp only [World.cell?, hcells, Nat.zero_add, m1]; rfl, by simp only [m1]; exact m2, fun m hm => ?_⟩
          rw [hM1] at hm; cases hm
          rw [Nat.zero_add]; exact m4)
        (fun i c j u hc hu' => by
          obtain ⟨⟨v, m1, m2, m3⟩, m4⟩ := hall i c j u hc hu'
          simp only [m1, Option.getD_some]
          exact m3.mono himm hzz)
      rw [List.length_append] at this
      exact this
    have hnewcap : ∀ old, es.length + ns.length ≤ grownCap w (es.length + ns.length) old e ∧ grownCap w (es.length + ns.length) old e ≤ maxLen := fun old => ⟨grownCap_ge w _ old e, grownCap_le_maxLen w _ old e hml⟩
    cases hblk : l.blk with
    | none =>
      -- out of nil
      have hc0 := k4 hblk
      have he0 : es.length = 0 := by omega
      have hes : es = [] := List.eq_nil_of_length_eq_zero he0
      have hxv : a.eval x = .slice none 0 0 := by rw [hv]; simp [GL.val, hblk, k2, he0, hc0]
      have hrun := run_append_nil (P := P) w t ty e i zv hu hi hzv ⟨yblk, yoff, none⟩ ns.length yc news (by rw [hsz]; exact hnl) hnews1 hpos (by unfold maxLen at hml; omega) (by rw [hby]; have := hbound; rw [he0] at this; simp only [Nat.zero_add] at this; omega)
      have hrun2 := hstep _ _ (by rw [hyv, hxv]; exact hrun)
      rw [show Value.slice (some ⟨w.heap.size, 0, none⟩) ns.length (grownCap w ns.length 0 e) = .slice (some ⟨w.heap.size, 0, none⟩) (es.length + ns.length) (grownCap w ns.length 0 e) by rw [he0, Nat.zero_add]] at hrun2
      unfold Oper.wp
      rw [hrun2, Oper.upon_value]
      obtain ⟨c1, c2⟩ := hnewcap 0
      rw [he0, Nat.zero_add] at c1 c2
      have himm : ∀ b off y, Imm w X.M b off y → Imm (w.drew.alloc (.cells (news.toArray ++ Builtin.zeroCells zv.cells (grownCap w ns.length 0 e - ns.length)) e)) (upd X.M w.heap.size (some ((es.length + ns.length) * z))) b off y := fun b off y hh => imm_alloc (w := w.drew) hh
      refine hK _ _ (hr.regrow (m := ns.length) (cap := grownCap w ns.length 0 e) (tb := w.heap.size) hd hgr k1 k2 (by rw [List.length_append]) ((hr.below.drew).alloc hbs _) (.inl hbs) (by simp) (fun b hb _ => heap_old w.drew _ hb)
        (.inl ⟨(hr.mlt _ (Nat.le_refl _)).2, Nat.le_refl _⟩) himm (fun _ _ hh => Sz.alloc (w := w.drew) hh) (heap_new w.drew _) ?_ (by omega) c2 (fun h => by omega) (hfin _ _ w.heap.size _ (grownCap w ns.length 0 e) himm (fun _ _ hh => Sz.alloc (w := w.drew) hh) (heap_new w.drew _) (upd_same _ _ _) (by omega) ?_ ?_) ?_)
      · simp only [Array.size_append, List.size_toArray, size_zeroCells, hzc, hnl, ← Nat.add_mul]
        congr 1; omega
      · intro i c j u hc; rw [hes] at hc; simp at hc
      · intro j hj
        rw [he0, Nat.zero_mul, Nat.zero_add, Array.getElem?_append_left (by simp [hnl]; exact hj)]
        simp
      · simp [GL.val, he0]
    | some g =>
      obtain ⟨p1, p2, p3, vs, p4, p5⟩ := k5 g hblk
      have hxv : a.eval x = .slice (some ⟨g, 0, none⟩) es.length l.cap := by rw [hv]; simp [GL.val, hblk, k2]
      -- the old elements' cells
      have hold : ∀ (i : Nat) c j u, es[i]? = some c → c[j]? = some u → ∃ v, vs[i * z + j]? = some v ∧ v.oneCell' = true ∧ VR w X.M noV noG u v := fun i c j u hc hu' => by
        rw [hxv] at hv0
        cases hv0 with
        | sl0 _ _ => simp at hc
        | sl _ z' b off cap Xo hz' hcap hcc hvv =>
          have hzz : z = z' := by rw [← hez c (List.mem_of_getElem? hc), hz' c (List.mem_of_getElem? hc)]
          subst hzz
          have m1 := hcc i c j u hc hu'
          have m2 := m1.1
          simp only [World.cell?, p4, Nat.zero_add] at m2
          exact ⟨_, by simpa using m2, m1.2.1, hvv i c j u hc hu'⟩
      by_cases hroom : es.length + ns.length ≤ l.cap
      · have hfit : es.length * z + news.length ≤ vs.size := by rw [hnl, p5, ← Nat.add_mul]; exact Nat.mul_le_mul_right _ hroom
        have hrun := run_append_room (P := P) w t ty e i hu hi g es.length l.cap vs p4 ⟨yblk, yoff, none⟩ ns.length yc news (by rw [hsz]; exact hnl) hnews1 hnews2 hroom (by rw [hsz]; exact hfit)
        have hrun2 := hstep _ _ (by rw [hyv, hxv]; exact hrun)
        unfold Oper.wp
        rw [hrun2, Oper.upon_value]
        have hget : ∀ k, (vs.toList.take (es.length * z) ++ news ++ vs.toList.drop (es.length * z + news.length)).toArray[k]? = if k < es.length * z then vs[k]? else if k < es.length * z + news.length then news[k - es.length * z]? else vs[k]? := fun k => by
          have hm : min (es.length * z) vs.size = es.length * z := by omega
          simp only [List.getElem?_toArray, List.getElem?_append, List.length_append, List.length_take, Array.length_toList, hm, List.getElem?_take, List.getElem?_drop, Array.getElem?_toList]
          by_cases q1 : k < es.length * z
          · simp [q1, show k < es.length * z + news.length by omega]
          · by_cases q2 : k < es.length * z + news.length
            · simp [q1, q2]
            · simp only [q1, q2, if_false]
              congr 1; omega
        have himm : ∀ b off y, Imm w X.M b off y → Imm (w.setRow g (vs.toList.take (es.length * z) ++ news ++ vs.toList.drop (es.length * z + news.length)).toArray) (upd X.M g (some ((es.length + ns.length) * z))) b off y := fun b off y hh =>
          imm_setRow p4 p3 (fun j hj => by rw [hget, if_pos hj]) (fun k hk => by cases hk; exact Nat.mul_le_mul_right _ (Nat.le_add_right _ _)) hh
        have hrow : ∀ m, Sz w g m → m ≤ (vs.toList.take (es.length * z) ++ news ++ vs.toList.drop (es.length * z + news.length)).toArray.size := fun m hm => Nat.le_trans (hm.cells p4) (by simp; omega)
        subst hsz
        refine hK _ _ (hr.regrow (m := ns.length) (cap := l.cap) (tb := g) hd hgr k1 k2 (by rw [List.length_append]) (below_setRow hr.below p1 _ hrow) p1 (by rw [setRow_size]; exact Nat.le_refl _) (fun b _ hb => setRow_other w g b _ hb)
          (.inr p2) himm (fun _ _ hh => hh.row hrow) (setRow_heap w g vs _ e _ p4) ?_ hroom k3' (fun h => by omega) (hfin _ _ g _ l.cap himm (fun _ _ hh => hh.row hrow) (setRow_heap w g vs _ e _ p4) (upd_same _ _ _) hroom ?_ ?_) ?_)
        · simp only [List.size_toArray, List.length_append, List.length_take, List.length_drop, Array.length_toList]
          omega
        · intro i' c j u hc hu'
          obtain ⟨v, m1, m2⟩ := hold i' c j u hc hu'
          refine ⟨v, ?_, m2⟩
          have hjz : j < i.size := by rw [← hez c (List.mem_of_getElem? hc)]; exact (List.getElem?_eq_some_iff.1 hu').1
          have hil : i' < es.length := (List.getElem?_eq_some_iff.1 hc).1
          have hlt : i' * i.size + j < es.length * i.size := by
            have : (i' + 1) * i.size ≤ es.length * i.size := Nat.mul_le_mul_right _ hil
            rw [Nat.add_mul] at this; omega
          rw [hget, if_pos hlt]; exact m1
        · intro j hj
          rw [hget, if_neg (by omega), if_pos (by omega)]
          congr 1; omega
        · simp [GL.val]
      · -- it moves
        let olds : List Value := vs.toList.take (es.length * z)
        have hol : olds.length = es.length * z := by
          simp only [olds, List.length_take, Array.length_toList, p5]
          have := Nat.mul_le_mul_right z k3
          omega
        have hrun := run_append_grow (P := P) w t ty e i zv hu hi hzv ⟨g, 0, none⟩ es.length l.cap olds (by rw [hsz]; exact hol) (fun j v hj => by
            have hjl : j < es.length * z := by rw [← hol]; exact (List.getElem?_eq_some_iff.1 hj).1
            rw [addr_add, Nat.zero_add]
            simp only [olds, List.getElem?_take, if_pos hjl, Array.getElem?_toList] at hj
            simp [World.cell?, p4, hj])
          ⟨yblk, yoff, none⟩ ns.length yc news (by rw [hsz]; exact hnl) hnews1 (by omega) (by unfold maxLen at hml; omega) (growslice_fits (by omega) (by rw [hby]; exact hbound))
        have hrun2 := hstep _ _ (by rw [hyv, hxv]; exact hrun)
        unfold Oper.wp
        rw [hrun2, Oper.upon_value]
        obtain ⟨c1, c2⟩ := hnewcap l.cap
        have himm : ∀ b off y, Imm w X.M b off y → Imm (w.drew.alloc (.cells (olds.toArray ++ news.toArray ++ Builtin.zeroCells zv.cells (grownCap w (es.length + ns.length) l.cap e - (es.length + ns.length))) e)) (upd X.M w.heap.size (some ((es.length + ns.length) * z))) b off y := fun b off y hh => imm_alloc (w := w.drew) hh
        refine hK _ _ (hr.regrow (m := ns.length) (cap := grownCap w (es.length + ns.length) l.cap e) (tb := w.heap.size) hd hgr k1 k2 (by rw [List.length_append]) ((hr.below.drew).alloc hbs _) (.inl hbs) (by simp) (fun b hb _ => heap_old w.drew _ hb)
          (.inl ⟨(hr.mlt _ (Nat.le_refl _)).2, Nat.le_refl _⟩) himm (fun _ _ hh => Sz.alloc (w := w.drew) hh) (heap_new w.drew _) ?_ c1 c2 (fun h => by omega) (hfin _ _ w.heap.size _ _ himm (fun _ _ hh => Sz.alloc (w := w.drew) hh) (heap_new w.drew _) (upd_same _ _ _) c1 ?_ ?_) ?_)
        · simp only [Array.size_append, List.size_toArray, size_zeroCells, hzc, hnl, hol, ← Nat.add_mul]
          congr 1; omega
        · intro i' c j u hc hu'
          obtain ⟨v, m1, m2⟩ := hold i' c j u hc hu'
          refine ⟨v, ?_, m2⟩
          have hjz : j < z := by rw [← hez c (List.mem_of_getElem? hc)]; exact (List.getElem?_eq_some_iff.1 hu').1
          have hil : i' < es.length := (List.getElem?_eq_some_iff.1 hc).1
          have hlt : i' * z + j < es.length * z := by
            have : (i' + 1) * z ≤ es.length * z := Nat.mul_le_mul_right _ hil
            rw [Nat.add_mul] at this; omega
          rw [Array.append_assoc, Array.getElem?_append_left (by simp [hol]; exact hlt)]
          simp only [List.getElem?_toArray, olds, List.getElem?_take, if_pos hlt, Array.getElem?_toList]
          exact m1
        · intro j hj
          rw [Array.append_assoc, Array.getElem?_append_right (by simp [hol]), Array.getElem?_append_left (by simp [hol, hnl]; omega)]
          simp [hol]
        · simp [GL.val]

end
end Go.Ab
