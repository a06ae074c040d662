/- How many spans there are, and where they lie. -/
import Derived.Test.YtelenedgaoglaaaGreatDoorU1
import Derived.Test.YtelenedgaoglaaaGreatDoorMA
namespace Go.Pil
def InB (s : Sp) : Prop := 0 ≤ s.lo ∧ s.hi ≤ 65536
theorem apart_len : ∀ (l : List Sp) (b : Int), Apart l → (∀ s ∈ l, b ≤ s.lo ∧ s.hi ≤ 65536) → (l.length : Int) ≤ max 0 (65537 - b) := by
  intro l
  induction l with
  | nil => intro b _ _; simp; omega
  | cons s l ih =>
    intro b ha hb
    obtain ⟨h1, h2⟩ := ha
    obtain ⟨h3, h4⟩ := List.pairwise_cons.1 h2
    have h5 := h1 s List.mem_cons_self
    have h6 := hb s List.mem_cons_self
    have h7 := ih (b + 1) ⟨fun t ht => h1 t (List.mem_cons_of_mem _ ht), h4⟩ fun t ht => by
      have h8 := h3 t ht
      have h9 := hb t (List.mem_cons_of_mem _ ht)
      simp only [Sp.Ne] at h5
      omega
    simp only [Sp.Ne] at h5
    simp only [List.length_cons]
    omega
theorem apart_len' {l : List Sp} (ha : Apart l) (hb : ∀ s ∈ l, InB s) : l.length ≤ 65537 := by
  have := apart_len l 0 ha fun s hs => hb s hs
  omega
theorem uni_in {l : List Sp} (hne : ∀ s ∈ l, s.Ne) (hb : ∀ s ∈ l, InB s) : ∀ s ∈ uni l, InB s := by
  intro s hs
  have h1 := (uni_apart hne).1 s hs
  simp only [Sp.Ne] at h1
  obtain ⟨t, ht, h2⟩ := (uni_has hne (x := s.lo)).1 ⟨s, hs, Int.le_refl _, h1⟩
  obtain ⟨t', ht', h3⟩ := (uni_has hne (x := s.hi)).1 ⟨s, hs, h1, Int.le_refl _⟩
  have h4 := hb t ht; have h5 := hb t' ht'
  simp only [Sp.Has, InB] at *
  omega
theorem lead1_in {here ch : Sp} {l : List Sp} (hh : InB here) : ∀ s ∈ lead1 here ch l, InB s := by
  intro s hs
  obtain ⟨h1, _⟩ := List.mem_filter.1 hs
  obtain ⟨t, _, rfl⟩ := List.mem_map.1 h1
  have := Sp.meet_in here (t.minus ch)
  simp only [InB, Sp.In] at *
  omega
theorem lead_in {here ch : Sp} {ps : List Pl} {op : Pl → List Sp} (hh : InB here) : ∀ s ∈ lead here ch ps op, InB s := by
  refine uni_in (fun s hs => ?_) (fun s hs => ?_)
  · obtain ⟨p, _, h⟩ := List.mem_flatMap.1 hs; exact lead1_ne s h
  · obtain ⟨p, _, h⟩ := List.mem_flatMap.1 hs; exact lead1_in hh s h
theorem opn_in {q : Pb} (hb : ∀ i s, InB (q.al i s)) (d : Nat) (p : Pl) : ∀ s ∈ opn q d p, InB s := by
  cases d with
  | zero => intro s hs; simp only [opn, List.mem_singleton] at hs; subst hs; exact hb _ _
  | succ d => exact lead_in (hb _ _)
theorem opn_apart {q : Pb} (hal : ∀ i s, (q.al i s).Ne) (d : Nat) (p : Pl) : Apart (opn q d p) := by
  cases d with
  | zero => exact ⟨fun s hs => by simp only [opn, List.mem_singleton] at hs; subst hs; exact hal _ _, by simp [opn]⟩
  | succ d => exact lead_ne
theorem opn_len {q : Pb} (hal : ∀ i s, (q.al i s).Ne) (hb : ∀ i s, InB (q.al i s)) (d : Nat) (p : Pl) : (opn q d p).length ≤ 65537 := apart_len' (opn_apart hal d p) (opn_in hb d p)
def ledO (here ch : Sp) (ps : List Pl) (op : Pl → List Sp) (i : Nat) : List Sp := (ps.take i).flatMap fun p => lead1 here ch (op p)
theorem ledO_succ {here ch : Sp} {ps : List Pl} {op : Pl → List Sp} {i : Nat} (h : i < ps.length) : ledO here ch ps op (i + 1) = ledO here ch ps op i ++ lead1 here ch (op ps[i]) := by
  unfold ledO; rw [List.take_succ_eq_append_getElem h, List.flatMap_append]; simp
theorem lead1_succ {here ch : Sp} {l : List Sp} {j : Nat} (h : j < l.length) : lead1 here ch (l.take (j + 1)) = lead1 here ch (l.take j) ++ (if (here.meet (l[j].minus ch)).Ne then [here.meet (l[j].minus ch)] else []) := by
  unfold lead1
  rw [List.take_succ_eq_append_getElem h, List.map_append, List.filter_append]
  congr 1
  simp only [List.map_cons, List.map_nil, List.filter_cons, List.filter_nil]
  by_cases hh : (here.meet (l[j].minus ch)).Ne
  · rw [if_pos (decide_eq_true hh), if_pos hh]
  · rw [if_neg (by simpa using hh), if_neg hh]
theorem lead1_len (here ch : Sp) (l : List Sp) : (lead1 here ch l).length ≤ l.length := by
  unfold lead1; refine Nat.le_trans (List.length_filter_le ..) ?_; rw [List.length_map]; exact Nat.le_refl _
theorem ledO_len {here ch : Sp} {ps : List Pl} {op : Pl → List Sp} (hop : ∀ p ∈ ps, (op p).length ≤ 65537) (i : Nat) : (ledO here ch ps op i).length ≤ 65537 * i := by
  induction i with
  | zero => simp [ledO]
  | succ i ih =>
    by_cases h : i < ps.length
    · rw [ledO_succ h, List.length_append]
      have h1 := lead1_len here ch (op ps[i])
      have h2 := hop _ (List.getElem_mem h)
      omega
    · unfold ledO at ih ⊢
      rw [List.take_of_length_le (by omega)] at ih ⊢
      omega
theorem ledO_all (here ch : Sp) (ps : List Pl) (op : Pl → List Sp) : uni (ledO here ch ps op ps.length) = lead here ch ps op := by
  unfold ledO lead; rw [List.take_length]
end Go.Pil
