/- Operations that make memory, or write what the frame itself made. Nothing here speaks of one program. -/
import Derived.Test.YtnnohkbgjdmjdaaGreatAb3
namespace Go.Ab
open Go.RowKit

theorem heap_new (w : World) (o : Obj) : (w.alloc o).heap[w.heap.size]? = some o := heap_alloc_new w o
theorem heap_old (w : World) (o : Obj) {b : Nat} (h : b < w.heap.size) : (w.alloc o).heap[b]? = w.heap[b]? := heap_alloc_old w o b h

theorem Sz.alloc {w : World} {o : Obj} {b n : Nat} (h : Sz w b n) : Sz (w.alloc o) b n := h.of_eq (heap_old w o h.lt)
theorem Sz.row {w : World} {g b n : Nat} {cs : Array Value} (h : Sz w b n) (hz : ∀ m, Sz w g m → m ≤ cs.size) : Sz (w.setRow g cs) b n := by
  by_cases hb : b = g
  · subst hb
    obtain ⟨vs, ty, fz, h1, h2⟩ := h
    exact ⟨cs, ty, fz, setRow_heap w b vs cs ty fz h1, hz n ⟨vs, ty, fz, h1, h2⟩, h2.2⟩
  · exact h.of_eq (setRow_other w g b cs hb)
theorem Sz.cells {w : World} {g m : Nat} {vs : Array Value} {ty : TypeId} {fz : Nat × Nat} (hh : w.heap[g]? = some (.cells vs ty fz)) (h : Sz w g m) : m ≤ vs.size := by
  obtain ⟨vs', ty', fz', h1, h2⟩ := h
  rw [hh] at h1; cases h1; exact h2.1
theorem cell?_same {w w' : World} {b off : Nat} (h : w'.heap[b]? = w.heap[b]?) : w'.cell? ⟨b, off, none⟩ = w.cell? ⟨b, off, none⟩ := by simp [World.cell?, h]

section
variable {w0 : World} {M0 : MT} {σ : AS} {a : Act} {w : World} {x : Wit}

theorem RelW.drew (h : RelW w0 M0 σ a w x) : RelW w0 M0 σ a w.drew x where
  below := h.below.drew
  defers := h.defers
  size := h.size
  tm := fun i => (h.tm i).mono (fun _ _ _ hi => hi) (fun _ _ hh => hh)
  m0 := h.m0
  mlt := h.mlt
  fresh := h.fresh
  lent := h.lent
  va := fun id cs hv => by
    obtain ⟨b, vs, ty, h1, h2, h3, h4, h5, h6, h7⟩ := h.va id cs hv
    exact ⟨b, vs, ty, h1, h2, h3, h4, h5, h6, fun j c hj => by
      obtain ⟨v, g1, g2, g3⟩ := h7 j c hj
      exact ⟨v, g1, g2, g3.mono (fun _ _ _ hi => hi) (fun _ _ hh => hh)⟩⟩
  vgen := h.vgen
  gr := h.gr
  ggen := h.ggen

/-- New objects have new names: the places of the elder ones stand. -/
theorem locsV {w M V G v cv} {id : OId} {b : Nat} (hn : V id = none) (h : VR w M V G v cv) : VR w M (updO V id (some b)) G v cv :=
  h.locs (fun id' b' hb => by
    rw [updO_ne _ _ (fun e => by rw [e, hn] at hb; cases hb)]; exact hb) (fun id g hg => ⟨g, hg, Nat.le_refl _, fun _ => rfl⟩)

theorem locsG {w M V G v cv} {id : OId} {g : GL} (hn : G id = none) (h : VR w M V G v cv) : VR w M V (updO G id (some g)) v cv :=
  h.locs (fun id' b' hb => hb) (fun id' g' hg => ⟨g', by
    rw [updO_ne _ _ (fun e => by rw [e, hn] at hg; cases hg)]; exact hg, Nat.le_refl _, fun _ => rfl⟩)

/-- A new block lies behind all others: what could not be written stays so. -/
theorem imm_alloc {M : Nat → Option Nat} {o : Obj} {m : Option Nat} {b off : Nat} {y : Value} (h : Imm w M b off y) :
    Imm (w.alloc o) (upd M w.heap.size m) b off y := by
  have hb : b < w.heap.size := by
    rcases Nat.lt_or_ge b w.heap.size with h' | h'
    · exact h'
    · have := h.1; simp [World.cell?, Array.getElem?_eq_none h'] at this
  refine ⟨by rw [cell?_same (heap_old w o hb)]; exact h.1, h.2.1, ?_⟩
  rw [upd_ne _ _ (Nat.ne_of_lt hb)]
  exact h.2.2

theorem okDst_lt {d : Tmp} (h : okDst σ (some d)) : d < σ.n := h

theorem RelW.newVar (h : RelW w0 M0 σ a w x) {d : Tmp} (hd : d < σ.n) {cs : List AV} {vs : Array Value} {ty : TypeId} (hl : cs.length ≤ vs.size)
    (hc : ∀ (j : Nat) c, cs[j]? = some c → ∃ v, vs[j]? = some v ∧ v.oneCell' = true ∧ VR w x.M x.V x.G c v) :
    Rel w0 M0 (σ.app (some d) (.alloc cs)) (a.put (some d) (.pointer (some ⟨w.heap.size, 0, none⟩))) (w.alloc (.cells vs ty)) := by
  have hbs := h.below.size
  have hn := (h.fresh d (σ.gen d) (Nat.le_refl _)).1
  have lift : ∀ {c v}, VR w x.M x.V x.G c v → VR (w.alloc (.cells vs ty)) (upd x.M w.heap.size (some 0)) (updO x.V (d, σ.gen d) (some w.heap.size)) x.G c v :=
    fun hv => locsV hn (hv.mono (fun _ _ _ hi => imm_alloc hi) (fun _ _ hh => hh.alloc))
  refine ⟨⟨upd x.M w.heap.size (some 0), updO x.V (d, σ.gen d) (some w.heap.size), x.G, upd x.ow w.heap.size (some (true, (d, σ.gen d)))⟩, ?_⟩
  have hs : d < a.tmps.size := by rw [h.size]; exact hd
  constructor
  · exact h.below.alloc hbs _
  · exact h.defers
  · show (a.tmps.setIfInBounds d _).size = σ.n
    rw [Array.size_setIfInBounds]; exact h.size
  · intro i
    rw [getD_put a d i _ hs]
    show VR _ _ _ _ (upd σ.tm d _ i) _
    by_cases hi : i = d
    · subst hi
      rw [upd_same, if_pos rfl]
      exact .ref _ _ _ (updO_same _ _ _)
    · rw [upd_ne _ _ hi, if_neg hi]
      exact lift (h.tm i)
  · intro b hb ht
    show upd x.M w.heap.size (some 0) b = M0.m b
    rw [upd_ne _ _ (by omega)]; exact h.m0 b hb ht
  · intro b hb
    rw [World.size_alloc] at hb
    show upd x.M w.heap.size (some 0) b = none ∧ upd x.ow w.heap.size _ b = none
    rw [upd_ne _ _ (by omega), upd_ne _ _ (by omega)]
    exact h.mlt b (by omega)
  · intro d' g hg
    show updO x.V (d, σ.gen d) _ (d', g) = none ∧ x.G (d', g) = none
    have hg' : σ.gen d' ≤ g ∧ (d', g) ≠ (d, σ.gen d) := by
      change upd σ.gen d (σ.gen d + 1) d' ≤ g at hg
      by_cases hdd : d' = d
      · subst hdd; rw [upd_same] at hg
        exact ⟨by omega, fun e => by have := (Prod.mk.inj e).2; omega⟩
      · rw [upd_ne _ _ hdd] at hg
        exact ⟨hg, fun e => hdd (Prod.mk.inj e).1⟩
    rw [updO_ne _ _ hg'.2]
    exact h.fresh d' g hg'.1
  · intro id b hid
    obtain ⟨h1, h2, h3, h4⟩ := h.lent id b hid
    have hne : id.1 ≠ d := fun e => by subst e; exact absurd h1 (Nat.not_le_of_lt hd)
    refine ⟨h1, h2, ?_, ?_⟩
    · show 0 < upd σ.gen d _ id.1
      rw [upd_ne _ _ hne]; exact h3
    · show updO x.V (d, σ.gen d) _ id = some b
      rw [updO_ne _ _ (fun e => hne (by rw [e]))]; exact h4
  · intro id cs' hv
    change updO σ.va (d, σ.gen d) (some cs) id = some cs' at hv
    by_cases hid : id = (d, σ.gen d)
    · subst hid
      rw [updO_same] at hv
      cases hv
      refine ⟨w.heap.size, vs, ty, updO_same _ _ _, .inl hbs, upd_same _ _ _, upd_same _ _ _, heap_new _ _, hl, fun j c hj => ?_⟩
      obtain ⟨v, g1, g2, g3⟩ := hc j c hj
      exact ⟨v, g1, g2, lift g3⟩
    · rw [updO_ne _ _ hid] at hv
      obtain ⟨b, vs', ty', h1, h2, h3, h4, h5, h6, h7⟩ := h.va id cs' hv
      have hb : b < w.heap.size := by
        rcases Nat.lt_or_ge b w.heap.size with h' | h'
        · exact h'
        · rw [Array.getElem?_eq_none h'] at h5; cases h5
      refine ⟨b, vs', ty', by show updO x.V _ _ id = _; rw [updO_ne _ _ hid]; exact h1, h2, by show upd x.ow _ _ b = _; rw [upd_ne _ _ (Nat.ne_of_lt hb)]; exact h3,
        by show upd x.M _ _ b = _; rw [upd_ne _ _ (Nat.ne_of_lt hb)]; exact h4, by rw [heap_old _ _ hb]; exact h5, h6, fun j c hj => ?_⟩
      obtain ⟨v, g1, g2, g3⟩ := h7 j c hj
      exact ⟨v, g1, g2, lift g3⟩
  · intro d' g cs' hv
    change updO σ.va (d, σ.gen d) (some cs) (d', g) = some cs' at hv
    show g < upd σ.gen d (σ.gen d + 1) d'
    by_cases hid : (d', g) = (d, σ.gen d)
    · cases hid; rw [upd_same]; omega
    · rw [updO_ne _ _ hid] at hv
      have := h.vgen d' g cs' hv
      by_cases hdd : d' = d
      · subst hdd; rw [upd_same]; omega
      · rw [upd_ne _ _ hdd]; exact this
  · intro id n z e hg
    obtain ⟨l, h1, h2, h3, h3', h4, h5⟩ := h.gr id n z e hg
    refine ⟨l, h1, h2, h3, h3', h4, fun b hb => ?_⟩
    obtain ⟨g1, g2, g3, vs', g4, g5⟩ := h5 b hb
    have hb : b < w.heap.size := by
      rcases Nat.lt_or_ge b w.heap.size with h' | h'
      · exact h'
      · rw [Array.getElem?_eq_none h'] at g4; cases g4
    exact ⟨g1, by show upd x.ow _ _ b = _; rw [upd_ne _ _ (Nat.ne_of_lt hb)]; exact g2, by show upd x.M _ _ b = _; rw [upd_ne _ _ (Nat.ne_of_lt hb)]; exact g3, vs', by rw [heap_old _ _ hb]; exact g4, g5⟩
  · intro d' g nz hg
    have := h.ggen d' g nz hg
    show g < upd σ.gen d (σ.gen d + 1) d'
    by_cases hdd : d' = d
    · subst hdd; rw [upd_same]; omega
    · rw [upd_ne _ _ hdd]; exact this

theorem lt_of_cells {w : World} {b : Nat} {o : Obj} (h : w.heap[b]? = some o) : b < w.heap.size := (Array.getElem?_eq_some_iff.1 h).1

/-- A new growing slice: in a block that has just been made, or nil. -/
theorem RelW.newGrow (h : RelW w0 M0 σ a w x) {d : Tmp} (hd : d < σ.n) {v : AV} {n z cap : Nat} {vs : Array Value} {e : TypeId} {cv : Value}
    (hn : n ≤ cap) (hm : cap ≤ maxLen) (hs : vs.size = cap * z)
    (hv : VR (w.alloc (.cells vs e)) (upd x.M w.heap.size (some (n * z))) x.V (updO x.G (d, σ.gen d) (some ⟨some w.heap.size, n, cap⟩)) (v.ren (d, σ.gen d)) cv) :
    Rel w0 M0 (σ.app (some d) (.fresh v n z e)) (a.put (some d) cv) (w.alloc (.cells vs e)) := by
  have hbs := h.below.size
  have hnn := (h.fresh d (σ.gen d) (Nat.le_refl _)).2
  have lift : ∀ {c v}, VR w x.M x.V x.G c v → VR (w.alloc (.cells vs e)) (upd x.M w.heap.size (some (n * z))) x.V (updO x.G (d, σ.gen d) (some ⟨some w.heap.size, n, cap⟩)) c v :=
    fun hv => locsG hnn (hv.mono (fun _ _ _ hi => imm_alloc hi) (fun _ _ hh => hh.alloc))
  refine ⟨⟨upd x.M w.heap.size (some (n * z)), x.V, updO x.G (d, σ.gen d) (some ⟨some w.heap.size, n, cap⟩), upd x.ow w.heap.size (some (false, (d, σ.gen d)))⟩, ?_⟩
  have hs' : d < a.tmps.size := by rw [h.size]; exact hd
  constructor
  · exact h.below.alloc hbs _
  · exact h.defers
  · show (a.tmps.setIfInBounds d _).size = σ.n
    rw [Array.size_setIfInBounds]; exact h.size
  · intro i
    rw [getD_put a d i _ hs']
    show VR _ _ _ _ (upd σ.tm d _ i) _
    by_cases hi : i = d
    · subst hi
      rw [upd_same, if_pos rfl]
      exact hv
    · rw [upd_ne _ _ hi, if_neg hi]
      exact lift (h.tm i)
  · intro b hb ht
    show upd x.M w.heap.size _ b = M0.m b
    rw [upd_ne _ _ (by omega)]; exact h.m0 b hb ht
  · intro b hb
    rw [World.size_alloc] at hb
    show upd x.M w.heap.size _ b = none ∧ upd x.ow w.heap.size _ b = none
    rw [upd_ne _ _ (by omega), upd_ne _ _ (by omega)]
    exact h.mlt b (by omega)
  · intro d' g hg
    show x.V (d', g) = none ∧ updO x.G (d, σ.gen d) _ (d', g) = none
    have hg' : σ.gen d' ≤ g ∧ (d', g) ≠ (d, σ.gen d) := by
      change upd σ.gen d (σ.gen d + 1) d' ≤ g at hg
      by_cases hdd : d' = d
      · subst hdd; rw [upd_same] at hg
        exact ⟨by omega, fun e => by have := (Prod.mk.inj e).2; omega⟩
      · rw [upd_ne _ _ hdd] at hg
        exact ⟨hg, fun e => hdd (Prod.mk.inj e).1⟩
    rw [updO_ne _ _ hg'.2]
    exact h.fresh d' g hg'.1
  · intro id b hid
    obtain ⟨h1, h2, h3, h4⟩ := h.lent id b hid
    refine ⟨h1, h2, ?_, h4⟩
    show 0 < upd σ.gen d _ id.1
    rw [upd_ne _ _ (fun e => by subst e; exact absurd h1 (Nat.not_le_of_lt hd))]; exact h3
  · intro id cs' hv
    obtain ⟨b, vs', ty', h1, h2, h3, h4, h5, h6, h7⟩ := h.va id cs' hv
    have hb := lt_of_cells h5
    refine ⟨b, vs', ty', h1, h2, by show upd x.ow _ _ b = _; rw [upd_ne _ _ (Nat.ne_of_lt hb)]; exact h3,
      by show upd x.M _ _ b = _; rw [upd_ne _ _ (Nat.ne_of_lt hb)]; exact h4, by rw [heap_old _ _ hb]; exact h5, h6, fun j c hj => ?_⟩
    obtain ⟨v, g1, g2, g3⟩ := h7 j c hj
    exact ⟨v, g1, g2, lift g3⟩
  · intro d' g cs' hv
    have := h.vgen d' g cs' hv
    show g < upd σ.gen d (σ.gen d + 1) d'
    by_cases hdd : d' = d
    · subst hdd; rw [upd_same]; omega
    · rw [upd_ne _ _ hdd]; exact this
  · intro id n' z' e' hg
    change updO σ.gr (d, σ.gen d) (some (n, z, e)) id = some (n', z', e') at hg
    by_cases hid : id = (d, σ.gen d)
    · subst hid
      rw [updO_same] at hg
      cases hg
      refine ⟨⟨some w.heap.size, n, cap⟩, updO_same _ _ _, rfl, hn, hm, (fun h => by cases h), fun b hb => ?_⟩
      cases hb
      exact ⟨.inl hbs, upd_same _ _ _, upd_same _ _ _, vs, heap_new _ _, hs⟩
    · rw [updO_ne _ _ hid] at hg
      obtain ⟨l, h1, h2, h3, h3', h4, h5⟩ := h.gr id n' z' e' hg
      refine ⟨l, by show updO x.G _ _ id = _; rw [updO_ne _ _ hid]; exact h1, h2, h3, h3', h4, fun b hb => ?_⟩
      obtain ⟨g1, g2, g3, vs', g4, g5⟩ := h5 b hb
      have hb := lt_of_cells g4
      exact ⟨g1, by show upd x.ow _ _ b = _; rw [upd_ne _ _ (Nat.ne_of_lt hb)]; exact g2, by show upd x.M _ _ b = _; rw [upd_ne _ _ (Nat.ne_of_lt hb)]; exact g3, vs', by rw [heap_old _ _ hb]; exact g4, g5⟩
  · intro d' g nz hg
    change updO σ.gr (d, σ.gen d) (some (n, z, e)) (d', g) = some nz at hg
    show g < upd σ.gen d (σ.gen d + 1) d'
    by_cases hid : (d', g) = (d, σ.gen d)
    · cases hid; rw [upd_same]; omega
    · rw [updO_ne _ _ hid] at hg
      have := h.ggen d' g nz hg
      by_cases hdd : d' = d
      · subst hdd; rw [upd_same]; omega
      · rw [upd_ne _ _ hdd]; exact this

/-- A new growing slice that is nil. -/
theorem RelW.newNil (h : RelW w0 M0 σ a w x) {d : Tmp} (hd : d < σ.n) {z : Nat} {e : TypeId} :
    Rel w0 M0 (σ.app (some d) (.fresh (.own (0, 0) []) 0 z e)) (a.put (some d) (.slice none 0 0)) w := by
  have hnn := (h.fresh d (σ.gen d) (Nat.le_refl _)).2
  refine ⟨⟨x.M, x.V, updO x.G (d, σ.gen d) (some ⟨none, 0, 0⟩), x.ow⟩, ?_⟩
  have hs' : d < a.tmps.size := by rw [h.size]; exact hd
  constructor
  · exact h.below
  · exact h.defers
  · show (a.tmps.setIfInBounds d _).size = σ.n
    rw [Array.size_setIfInBounds]; exact h.size
  · intro i
    rw [getD_put a d i _ hs']
    show VR _ _ _ _ (upd σ.tm d _ i) _
    by_cases hi : i = d
    · subst hi
      rw [upd_same, if_pos rfl]
      exact .own _ [] _ (.sl0 _ _) ⟨none, 0, 0⟩ (updO_same _ _ _) (Nat.le_refl _) fun _ => rfl
    · rw [upd_ne _ _ hi, if_neg hi]
      exact locsG hnn (h.tm i)
  · exact h.m0
  · exact h.mlt
  · intro d' g hg
    show x.V (d', g) = none ∧ updO x.G (d, σ.gen d) _ (d', g) = none
    have hg' : σ.gen d' ≤ g ∧ (d', g) ≠ (d, σ.gen d) := by
      change upd σ.gen d (σ.gen d + 1) d' ≤ g at hg
      by_cases hdd : d' = d
      · subst hdd; rw [upd_same] at hg
        exact ⟨by omega, fun e => by have := (Prod.mk.inj e).2; omega⟩
      · rw [upd_ne _ _ hdd] at hg
        exact ⟨hg, fun e => hdd (Prod.mk.inj e).1⟩
    rw [updO_ne _ _ hg'.2]
    exact h.fresh d' g hg'.1
  · intro id b hid
    obtain ⟨h1, h2, h3, h4⟩ := h.lent id b hid
    refine ⟨h1, h2, ?_, h4⟩
    show 0 < upd σ.gen d _ id.1
    rw [upd_ne _ _ (fun e => by subst e; exact absurd h1 (Nat.not_le_of_lt hd))]; exact h3
  · intro id cs' hv
    obtain ⟨b, vs', ty', h1, h2, h3, h4, h5, h6, h7⟩ := h.va id cs' hv
    refine ⟨b, vs', ty', h1, h2, h3, h4, h5, h6, fun j c hj => ?_⟩
    obtain ⟨v, g1, g2, g3⟩ := h7 j c hj
    exact ⟨v, g1, g2, locsG hnn g3⟩
  · intro d' g cs' hv
    have := h.vgen d' g cs' hv
    show g < upd σ.gen d (σ.gen d + 1) d'
    by_cases hdd : d' = d
    · subst hdd; rw [upd_same]; omega
    · rw [upd_ne _ _ hdd]; exact this
  · intro id n' z' e' hg
    change updO σ.gr (d, σ.gen d) (some (0, z, e)) id = some (n', z', e') at hg
    by_cases hid : id = (d, σ.gen d)
    · subst hid
      rw [updO_same] at hg
      cases hg
      exact ⟨⟨none, 0, 0⟩, updO_same _ _ _, rfl, Nat.le_refl _, Nat.zero_le _, fun _ => rfl, fun b hb => by cases hb⟩
    · rw [updO_ne _ _ hid] at hg
      obtain ⟨l, h1, h2⟩ := h.gr id n' z' e' hg
      exact ⟨l, by show updO x.G _ _ id = _; rw [updO_ne _ _ hid]; exact h1, h2⟩
  · intro d' g nz hg
    change updO σ.gr (d, σ.gen d) (some (0, z, e)) (d', g) = some nz at hg
    show g < upd σ.gen d (σ.gen d + 1) d'
    by_cases hid : (d', g) = (d, σ.gen d)
    · cases hid; rw [upd_same]; omega
    · rw [updO_ne _ _ hid] at hg
      have := h.ggen d' g nz hg
      by_cases hdd : d' = d
      · subst hdd; rw [upd_same]; omega
      · rw [upd_ne _ _ hdd]; exact this

/-- The world's blocks are as they were but for block g, whose cells are now others. -/
theorem imm_setRow {M : Nat → Option Nat} {g m : Nat} {old : Array Value} {t : TypeId} {fr : Nat × Nat} {cs : Array Value} {m' : Option Nat} {b off : Nat} {y : Value}
    (hg : w.heap[g]? = some (.cells old t fr)) (hM : M g = some m) (hkeep : ∀ j, j < m → cs[j]? = old[j]?) (hm' : ∀ k, m' = some k → m ≤ k) (h : Imm w M b off y) :
    Imm (w.setRow g cs) (upd M g m') b off y := by
  by_cases hb : b = g
  · subst hb
    have hlt := h.2.2 m hM
    have h1 := h.1
    simp only [World.cell?, hg] at h1
    refine ⟨?_, h.2.1, fun k hk => ?_⟩
    · simp only [World.cell?, setRow_heap w b old cs t fr hg]
      simp only [Option.isSome_none, Bool.false_eq_true, if_false] at h1 ⊢
      rw [hkeep off hlt]; exact h1
    · rw [upd_same] at hk
      exact Nat.lt_of_lt_of_le hlt (hm' k hk)
  · refine ⟨by rw [cell?_same (setRow_other w g b cs hb)]; exact h.1, h.2.1, ?_⟩
    rw [upd_ne _ _ hb]; exact h.2.2

theorem below_setRow {w0 w : World} {M0 : MT} (h : Kept w0 M0 w) {g : Nat} (hg : Mine w0 M0 g) (cs : Array Value) (hz : ∀ m, Sz w g m → m ≤ cs.size) : Kept w0 M0 (w.setRow g cs) :=
  ⟨h.os, h.tape, h.output, by rw [setRow_size]; exact h.size, fun k hk ht => (setRow_other w g k cs (hg.ne hk ht)).trans (h.block k hk ht), fun k n hk => (h.sz k n hk).row hz⟩

end
end Go.Ab
