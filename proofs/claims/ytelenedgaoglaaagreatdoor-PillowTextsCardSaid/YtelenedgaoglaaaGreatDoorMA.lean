/- Spans, plain: what loads are possible along entries, entry by entry, from both sides, and by pairs. Nothing here speaks of one program. -/
set_option linter.unusedVariables false
set_option linter.unusedSimpArgs false
namespace Go.Pil
structure Sp where
  lo : Int
  hi : Int
  deriving DecidableEq
namespace Sp
def meet (a b : Sp) : Sp := ⟨max a.lo b.lo, min a.hi b.hi⟩
def plus (a b : Sp) : Sp := ⟨a.lo + b.lo, a.hi + b.hi⟩
def minus (a b : Sp) : Sp := ⟨a.lo - b.hi, a.hi - b.lo⟩
def Ne (a : Sp) : Prop := a.lo ≤ a.hi
instance (a : Sp) : Decidable a.Ne := inferInstanceAs (Decidable (a.lo ≤ a.hi))
def Has (a : Sp) (x : Int) : Prop := a.lo ≤ x ∧ x ≤ a.hi
instance (a : Sp) (x : Int) : Decidable (a.Has x) := inferInstanceAs (Decidable (_ ∧ _))
def In (a b : Sp) : Prop := b.lo ≤ a.lo ∧ a.hi ≤ b.hi
theorem In.refl (a : Sp) : a.In a := ⟨Int.le_refl _, Int.le_refl _⟩
theorem In.trans {a b c : Sp} (h : a.In b) (k : b.In c) : a.In c := by simp only [In] at *; omega
theorem In.has {a b : Sp} {x : Int} (h : a.In b) (k : a.Has x) : b.Has x := by simp only [In, Has] at *; omega
theorem In.ne {a b : Sp} (h : a.In b) (k : a.Ne) : b.Ne := by simp only [In, Ne] at *; omega
theorem In.meet {a b c d : Sp} (h : a.In b) (k : c.In d) : (a.meet c).In (b.meet d) := by simp only [In, Sp.meet] at *; omega
theorem In.plus {a b c d : Sp} (h : a.In b) (k : c.In d) : (a.plus c).In (b.plus d) := by simp only [In, Sp.plus] at *; omega
theorem In.minus {a b c d : Sp} (h : a.In b) (k : c.In d) : (a.minus c).In (b.minus d) := by simp only [In, Sp.minus] at *; omega
theorem meet_in (a b : Sp) : (a.meet b).In a := by simp only [In, Sp.meet]; omega
theorem has_ne {a : Sp} {x : Int} (h : a.Has x) : a.Ne := by simp only [Has, Ne] at *; omega
theorem has_meet {a b : Sp} {x : Int} : (a.meet b).Has x ↔ a.Has x ∧ b.Has x := by simp only [Has, Sp.meet]; omega
end Sp
section
variable (a w : Nat → Sp)
def F : Nat → Sp
  | 0 => a 0
  | k + 1 => (a (k + 1)).meet ((F k).plus (w k))
def Bk : Nat → Nat → Sp
  | k, 0 => F a w k
  | k, d + 1 => (F a w k).meet ((Bk (k + 1) d).minus (w k))
def Sm : Nat → Nat → Sp
  | _, 0 => ⟨0, 0⟩
  | i, d + 1 => (Sm i d).plus (w (i + d))
def World (n : Nat) (x : Nat → Int) : Prop := (∀ k, k < n → (a k).Has (x k)) ∧ ∀ k, k + 1 < n → (w k).Has (x (k + 1) - x k)
def Al (n : Nat) : Prop := ∀ k, k < n → (F a w k).Ne
def Ag (i d : Nat) : Prop := ¬ (((a (i + d)).minus (a i)).meet (Sm w i d)).Ne
end
instance (a w : Nat → Sp) (n : Nat) : Decidable (Al a w n) := inferInstanceAs (Decidable (∀ k, k < n → (F a w k).Ne))
instance (a w : Nat → Sp) (i d : Nat) : Decidable (Ag a w i d) := inferInstanceAs (Decidable (¬ _))
variable {a w : Nat → Sp}
theorem F_in (k : Nat) : (F a w k).In (a k) := by cases k with | zero => exact Sp.In.refl _ | succ k => exact Sp.meet_in _ _
theorem Bk_in (k d : Nat) : (Bk a w k d).In (F a w k) := by cases d with | zero => exact Sp.In.refl _ | succ d => exact Sp.meet_in _ _
theorem F_has {n : Nat} {x : Nat → Int} (h : World a w n x) : ∀ {k}, k < n → (F a w k).Has (x k) := by
  intro k
  induction k with
  | zero => intro hk; exact h.1 0 hk
  | succ k ih =>
    intro hk
    have h1 := ih (by omega); have h2 := h.1 _ hk; have h3 := h.2 k hk
    refine Sp.has_meet.2 ⟨h2, ?_⟩
    simp only [Sp.Has, Sp.plus] at *; omega
theorem World.al {n : Nat} {x : Nat → Int} (h : World a w n x) : Al a w n := fun _ hk => Sp.has_ne (F_has h hk)
theorem Bk_step {k d : Nat} (hw : (w k).Ne) (hf : (F a w k).Ne) (hn : (Bk a w (k + 1) d).Ne) : (w k).Has ((Bk a w (k + 1) d).lo - (Bk a w k (d + 1)).lo) ∧ (w k).Has ((Bk a w (k + 1) d).hi - (Bk a w k (d + 1)).hi) ∧ (Bk a w k (d + 1)).Ne := by
  have h := Bk_in (a := a) (w := w) (k + 1) d
  simp only [Bk, F, Sp.In, Sp.meet, Sp.plus, Sp.minus, Sp.Has, Sp.Ne] at *
  omega
theorem Bk_ne {n : Nat} (hw : ∀ k, k + 1 < n → (w k).Ne) (h : Al a w n) : ∀ {d k}, k + d + 1 = n → (Bk a w k d).Ne := by
  intro d
  induction d with
  | zero => intro k hk; exact h k (by omega)
  | succ d ih => intro k hk; exact (Bk_step (hw k (by omega)) (h k (by omega)) (ih (by omega))).2.2
def En (a w : Nat → Sp) (n k : Nat) : Sp := Bk a w k (n - 1 - k)
theorem En_succ {n k : Nat} (h : k + 1 < n) : En a w n k = (F a w k).meet ((En a w n (k + 1)).minus (w k)) := by
  have : n - 1 - k = (n - 1 - (k + 1)) + 1 := by omega
  unfold En; rw [this]; rfl
theorem En_last {n k : Nat} (h : k + 1 = n) : En a w n k = F a w k := by
  have : n - 1 - k = 0 := by omega
  unfold En; rw [this]; rfl
theorem En_ne {n : Nat} (hw : ∀ k, k + 1 < n → (w k).Ne) (h : Al a w n) {k : Nat} (hk : k < n) : (En a w n k).Ne := Bk_ne hw h (by omega)
theorem En_in {n k : Nat} : (En a w n k).In (a k) := (Bk_in _ _).trans (F_in _)
theorem F_congr {a' w' : Nat → Sp} {k : Nat} (ha : ∀ i, i ≤ k → a i = a' i) (hw : ∀ i, i < k → w i = w' i) : F a w k = F a' w' k := by
  induction k with
  | zero => exact ha 0 (Nat.le_refl _)
  | succ k ih => simp only [F]; rw [ha _ (Nat.le_refl _), hw k (by omega), ih (fun i hi => ha i (by omega)) fun i hi => hw i (by omega)]
end Go.Pil
set_option linter.unusedVariables false
set_option linter.unusedSimpArgs false
namespace Go.Pil
def HasL (l : List Sp) (x : Int) : Prop := ∃ s ∈ l, s.Has x
theorem hasL_nil (x : Int) : ¬ HasL [] x := fun ⟨_, h, _⟩ => by cases h
theorem hasL_cons {s : Sp} {l : List Sp} {x : Int} : HasL (s :: l) x ↔ s.Has x ∨ HasL l x := by simp [HasL]
theorem hasL_perm {l m : List Sp} (h : l.Perm m) {x : Int} : HasL l x ↔ HasL m x := ⟨fun ⟨s, hs, k⟩ => ⟨s, h.mem_iff.1 hs, k⟩, fun ⟨s, hs, k⟩ => ⟨s, h.mem_iff.2 hs, k⟩⟩
def join1 : Sp → List Sp → List Sp
  | t, [] => [t]
  | t, s :: l => if s.lo > t.hi + 1 then t :: join1 s l else join1 ⟨t.lo, max t.hi s.hi⟩ l
def joined : List Sp → List Sp
  | [] => []
  | s :: l => join1 s l
def Apart (l : List Sp) : Prop := (∀ s ∈ l, s.Ne) ∧ l.Pairwise fun s t => s.hi + 1 < t.lo
theorem join1_has {t : Sp} {l : List Sp} (ht : t.Ne) (hl : ∀ s ∈ l, s.Ne) (hs : (t :: l).Pairwise fun a b => a.lo ≤ b.lo) {x : Int} : HasL (join1 t l) x ↔ t.Has x ∨ HasL l x := by
  induction l generalizing t with
  | nil => simp [join1, hasL_cons, hasL_nil]
  | cons s l ih =>
    have hs1 := List.pairwise_cons.1 hs
    have hsn := hl s (by simp)
    have hts := hs1.1 s (by simp)
    by_cases h : s.lo > t.hi + 1
    · simp only [join1, if_pos h, hasL_cons]
      rw [ih hsn (fun a ha => hl a (by simp [ha])) hs1.2]
    · simp only [join1, if_neg h, hasL_cons]
      have hp := List.pairwise_cons.1 hs1.2
      rw [ih (t := ⟨t.lo, max t.hi s.hi⟩) (by simp only [Sp.Ne] at *; omega) (fun a ha => hl a (by simp [ha])) (List.pairwise_cons.2 ⟨fun a ha => hs1.1 a (by simp [ha]), hp.2⟩)]
      have : Sp.Has ⟨t.lo, max t.hi s.hi⟩ x ↔ t.Has x ∨ s.Has x := by simp only [Sp.Has, Sp.Ne] at *; omega
      rw [this, or_assoc]
theorem joined_has {l : List Sp} (hl : ∀ s ∈ l, s.Ne) (hs : l.Pairwise fun a b => a.lo ≤ b.lo) {x : Int} : HasL (joined l) x ↔ HasL l x := by
  cases l with
  | nil => exact Iff.rfl
  | cons s l => rw [hasL_cons]; exact join1_has (hl s (by simp)) (fun a ha => hl a (by simp [ha])) hs
theorem join1_apart {t : Sp} {l : List Sp} (ht : t.Ne) (hl : ∀ s ∈ l, s.Ne) (hs : (t :: l).Pairwise fun a b => a.lo ≤ b.lo) : Apart (join1 t l) ∧ ∀ s ∈ join1 t l, t.lo ≤ s.lo := by
  induction l generalizing t with
  | nil => simp [join1, Apart, ht]
  | cons s l ih =>
    have hs1 := List.pairwise_cons.1 hs
    have hsn := hl s (by simp)
    have hts := hs1.1 s (by simp)
    by_cases h : s.lo > t.hi + 1
    · obtain ⟨⟨a1, a2⟩, a3⟩ := ih hsn (fun a ha => hl a (by simp [ha])) hs1.2
      simp only [join1, if_pos h]
      refine ⟨⟨fun x hx => ?_, List.pairwise_cons.2 ⟨fun x hx => ?_, a2⟩⟩, fun x hx => ?_⟩
      · rcases List.mem_cons.1 hx with rfl | hx
        · exact ht
        · exact a1 x hx
      · have := a3 x hx; omega
      · rcases List.mem_cons.1 hx with rfl | hx
        · exact Int.le_refl _
        · have := a3 x hx; omega
    · have hp := List.pairwise_cons.1 hs1.2
      simp only [join1, if_neg h]
      exact ih (t := ⟨t.lo, max t.hi s.hi⟩) (by simp only [Sp.Ne] at *; omega) (fun a ha => hl a (by simp [ha])) (List.pairwise_cons.2 ⟨fun a ha => hs1.1 a (by simp [ha]), hp.2⟩)
theorem joined_apart {l : List Sp} (hl : ∀ s ∈ l, s.Ne) (hs : l.Pairwise fun a b => a.lo ≤ b.lo) : Apart (joined l) := by
  cases l with
  | nil => exact ⟨by simp [joined], by simp [joined]⟩
  | cons s l => exact (join1_apart (hl s (by simp)) (fun a ha => hl a (by simp [ha])) hs).1
theorem apart_uniq {l m : List Sp} (hl : Apart l) (hm : Apart m) (h : ∀ x, HasL l x ↔ HasL m x) : l = m := by
  induction l generalizing m with
  | nil =>
    cases m with
    | nil => rfl
    | cons t m => exact absurd ((h t.lo).2 ⟨t, by simp, by have := hm.1 t (by simp); simp only [Sp.Has, Sp.Ne] at *; omega⟩) (hasL_nil _)
  | cons s l ih =>
    cases m with
    | nil => exact absurd ((h s.lo).1 ⟨s, by simp, by have := hl.1 s (by simp); simp only [Sp.Has, Sp.Ne] at *; omega⟩) (hasL_nil _)
    | cons t m =>
      have hl2 := List.pairwise_cons.1 hl.2
      have hm2 := List.pairwise_cons.1 hm.2
      have sn := hl.1 s (by simp); have tn := hm.1 t (by simp)
      have lowS : ∀ x, HasL l x → s.hi + 1 < x := fun x ⟨a, ha, hx⟩ => by have := hl2.1 a ha; simp only [Sp.Has] at hx; omega
      have lowT : ∀ x, HasL m x → t.hi + 1 < x := fun x ⟨a, ha, hx⟩ => by have := hm2.1 a ha; simp only [Sp.Has] at hx; omega
      have hh : ∀ x, (s.Has x ∨ HasL l x) ↔ (t.Has x ∨ HasL m x) := fun x => by rw [← hasL_cons, ← hasL_cons]; exact h x
      have g1 : ∀ x, s.Has x → t.Has x ∨ t.hi + 1 < x := fun x hx => ((hh x).1 (.inl hx)).imp id (lowT x)
      have g2 : ∀ x, t.Has x → s.Has x ∨ s.hi + 1 < x := fun x hx => ((hh x).2 (.inl hx)).imp id (lowS x)
      have n1 : ∀ x, x = s.hi + 1 → ¬ (s.Has x ∨ HasL l x) := fun x e => by
        rintro (k | k)
        · simp only [Sp.Has] at k; omega
        · have := lowS x k; omega
      have n2 : ∀ x, x = t.hi + 1 → ¬ (t.Has x ∨ HasL m x) := fun x e => by
        rintro (k | k)
        · simp only [Sp.Has] at k; omega
        · have := lowT x k; omega
      have elo : s.lo = t.lo := by
        have a1 := g1 s.lo (by simp only [Sp.Has, Sp.Ne] at *; omega)
        have a2 := g2 t.lo (by simp only [Sp.Has, Sp.Ne] at *; omega)
        simp only [Sp.Has, Sp.Ne] at *; omega
      have ehi : s.hi = t.hi := by
        rcases Int.lt_trichotomy s.hi t.hi with k | k | k
        · exact absurd ((hh (s.hi + 1)).2 (.inl (by simp only [Sp.Has, Sp.Ne] at *; omega))) (n1 _ rfl)
        · exact k
        · exact absurd ((hh (t.hi + 1)).1 (.inl (by simp only [Sp.Has, Sp.Ne] at *; omega))) (n2 _ rfl)
      have est : s = t := by cases s; cases t; simp only [Sp.mk.injEq]; exact ⟨elo, ehi⟩
      subst est
      refine congrArg (s :: ·) (ih ⟨fun a ha => hl.1 a (by simp [ha]), hl2.2⟩ ⟨fun a ha => hm.1 a (by simp [ha]), hm2.2⟩ fun x => ⟨fun hx => ?_, fun hx => ?_⟩)
      · rcases (hh x).1 (.inr hx) with k | k
        · have := lowS x hx; simp only [Sp.Has] at k; omega
        · exact k
      · rcases (hh x).2 (.inr hx) with k | k
        · have := lowT x hx; simp only [Sp.Has] at k; omega
        · exact k
theorem joined_perm {l m : List Sp} (hl : ∀ s ∈ l, s.Ne) (hs : l.Pairwise fun a b => a.lo ≤ b.lo) (ht : m.Pairwise fun a b => a.lo ≤ b.lo) (hp : l.Perm m) : joined l = joined m := by
  have hm : ∀ s ∈ m, s.Ne := fun s h => hl s (hp.mem_iff.2 h)
  exact apart_uniq (joined_apart hl hs) (joined_apart hm ht) fun x => by rw [joined_has hl hs, joined_has hm ht, hasL_perm hp]
end Go.Pil
set_option linter.unusedVariables false
set_option linter.unusedSimpArgs false
namespace Go.Pil
section
variable {β : Type} (nx : β → List β)
def lev : Nat → β → List β
  | 0, b => [b]
  | d + 1, b => (nx b).flatMap (lev d)
def fol (keep : β → Bool) (cap : Nat) : Nat → List β → β → List β
  | 0, acc, b => acc ++ [b]
  | d + 1, acc, b => (nx b).foldl (fun acc c => if acc.length ≤ cap ∧ keep c = true then fol keep cap d acc c else acc) acc
variable {nx}
theorem lev_add (d e : Nat) (b : β) : lev nx (d + e) b = (lev nx d b).flatMap (lev nx e) := by
  induction d generalizing b with
  | zero => simp [lev]
  | succ d ih =>
    have : d + 1 + e = (d + e) + 1 := by omega
    rw [this]
    simp only [lev, List.flatMap_assoc]
    exact congrArg (fun f => (nx b).flatMap f) (funext ih)
theorem lev_one (b : β) : lev nx 1 b = nx b := by simp [lev]
theorem lev_succ (d : Nat) (b : β) : lev nx (d + 1) b = (lev nx d b).flatMap nx := by
  rw [lev_add]; exact congrArg (fun f => (lev nx d b).flatMap f) (funext lev_one)
theorem fol_eq {keep : β → Bool} {cap : Nat} {P : Nat → β → Prop} (hP : ∀ d b, P (d + 1) b → ∀ c ∈ nx b, P d c) (hk : ∀ d b, P (d + 1) b → ∀ c ∈ nx b, (keep c = true ↔ lev nx d c ≠ [])) :
    ∀ {d : Nat} {acc : List β} {b : β}, P d b → acc.length ≤ cap → fol nx keep cap d acc b = acc ++ (lev nx d b).take (cap + 1 - acc.length) := by
  intro d
  induction d with
  | zero =>
    intro acc b _ hc
    have : cap + 1 - acc.length = (cap - acc.length) + 1 := by omega
    simp [fol, lev, this]
  | succ d ih =>
    intro acc b hb hc
    have key : ∀ (cs : List β) (acc : List β), (∀ c ∈ cs, P d c ∧ (keep c = true ↔ lev nx d c ≠ [])) → acc.length ≤ cap + 1 →
        cs.foldl (fun acc c => if acc.length ≤ cap ∧ keep c = true then fol nx keep cap d acc c else acc) acc = acc ++ (cs.flatMap (lev nx d)).take (cap + 1 - acc.length) := by
      intro cs
      induction cs with
      | nil => intro acc _ _; simp
      | cons c cs ihc =>
        intro acc hcs hacc
        have hc1 := hcs c (by simp)
        rw [List.foldl_cons, List.flatMap_cons, List.take_append]
        by_cases h1 : acc.length ≤ cap
        · by_cases h2 : keep c = true
          · rw [if_pos ⟨h1, h2⟩, ih hc1.1 h1, ihc _ (fun x hx => hcs x (by simp [hx])) (by simp; omega), List.append_assoc]
            congr 2
            simp only [List.length_append, List.length_take]
            congr 1
            omega
          · have h3 : lev nx d c = [] := Decidable.byContradiction fun h => h2 (hc1.2.2 h)
            rw [if_neg (fun h => h2 h.2), ihc _ (fun x hx => hcs x (by simp [hx])) hacc, h3]; simp
        · have h4 : cap + 1 - acc.length = 0 := by omega
          rw [if_neg (fun h => h1 h.1), ihc _ (fun x hx => hcs x (by simp [hx])) hacc, h4]; simp
    exact key (nx b) acc (fun c hc => ⟨hP d b hb c hc, hk d b hb c hc⟩) (by omega)
theorem fol_all {keep : β → Bool} {cap : Nat} {P : Nat → β → Prop} (hP : ∀ d b, P (d + 1) b → ∀ c ∈ nx b, P d c) (hk : ∀ d b, P (d + 1) b → ∀ c ∈ nx b, (keep c = true ↔ lev nx d c ≠ [])) {d : Nat} {b : β} (hb : P d b) :
    fol nx keep cap d [] b = (lev nx d b).take (cap + 1) := by
  rw [fol_eq hP hk hb (Nat.zero_le _)]; simp
end
end Go.Pil
set_option linter.unusedVariables false
set_option linter.unusedSimpArgs false
namespace Go.Pil
structure Pb where
  sh : Nat → Bool
  al : Nat → Int → Sp
  w : Nat → Sp
  fl : Int
def flt : List Int → Int
  | [] => 0
  | s :: l => (if s = 2 then 1 else 0) + flt l
theorem flt_append (l m : List Int) : flt (l ++ m) = flt l + flt m := by
  induction l with
  | nil => simp [flt]
  | cons s l ih => simp only [List.cons_append, flt, ih]; omega
theorem flt_nonneg (l : List Int) : 0 ≤ flt l := by
  induction l with
  | nil => simp [flt]
  | cons s l ih => simp only [flt]; split <;> omega
theorem flt_one (s : Int) : flt [s] = if s = 2 then 1 else 0 := by simp [flt]
variable (q : Pb)
def Pb.a (l : List Int) (i : Nat) : Sp := q.al i (l.getD i 0)
def Rt (l : List Int) : Prop :=
  (∀ i, i < l.length → 0 ≤ l.getD i 0 ∧ l.getD i 0 ≤ 2) ∧ (0 < l.length → l.getD 0 0 ≠ 2) ∧ (∀ i, i + 1 < l.length → l.getD (i + 1) 0 ≠ l.getD i 0 → q.sh i = true) ∧ flt l ≤ q.fl
instance (l : List Int) : Decidable (∀ i, i + 1 < l.length → l.getD (i + 1) 0 ≠ l.getD i 0 → q.sh i = true) :=
  decidable_of_iff (∀ i, i < l.length - 1 → l.getD (i + 1) 0 ≠ l.getD i 0 → q.sh i = true) ⟨fun h i hi => h i (by omega), fun h i hi => h i (by omega)⟩
instance (l : List Int) : Decidable (Rt q l) := by unfold Rt; infer_instance
def ways (l : List Int) : List Int := if l = [] then [0, 1] else if q.sh (l.length - 1) then [0, 1, 2] else [l.getD (l.length - 1) 0]
def okF (l : List Int) (s : Int) : Bool := decide (flt l + (if s = 2 then 1 else 0) ≤ q.fl)
theorem getD_snoc_lt {l : List Int} {s : Int} {i : Nat} (h : i < l.length) : (l ++ [s]).getD i 0 = l.getD i 0 := by
  simp only [List.getD_eq_getElem?_getD]; rw [List.getElem?_append_left h]
theorem getD_snoc {l : List Int} {s : Int} : (l ++ [s]).getD l.length 0 = s := by simp [List.getD_eq_getElem?_getD]
theorem ways_range {l : List Int} (h : Rt q l) {s : Int} (hs : s ∈ ways q l) : 0 ≤ s ∧ s ≤ 2 := by
  unfold ways at hs
  split at hs
  · simp only [List.mem_cons, List.not_mem_nil, or_false] at hs; omega
  · rename_i hne
    have hl : 0 < l.length := List.length_pos_iff.2 hne
    split at hs
    · simp only [List.mem_cons, List.not_mem_nil, or_false] at hs; omega
    · simp only [List.mem_singleton] at hs; subst hs; exact h.1 _ (by omega)
theorem rt_snoc {l : List Int} {s : Int} : Rt q (l ++ [s]) ↔ Rt q l ∧ s ∈ ways q l ∧ okF q l s = true := by
  have hlen : (l ++ [s]).length = l.length + 1 := by simp
  constructor
  · rintro ⟨h1, h2, h3, h4⟩
    rw [flt_append, flt_one] at h4
    have hs := h1 l.length (by omega)
    rw [getD_snoc] at hs
    have hf : flt l ≤ q.fl := by split at h4 <;> omega
    refine ⟨⟨fun i hi => ?_, fun hl => ?_, fun i hi hne => ?_, hf⟩, ?_, by simpa [okF] using h4⟩
    · have := h1 i (by omega); rwa [getD_snoc_lt hi] at this
    · have := h2 (by omega); rwa [getD_snoc_lt hl] at this
    · refine h3 i (by omega) ?_
      rw [getD_snoc_lt (by omega), getD_snoc_lt (by omega)]; exact hne
    · unfold ways
      by_cases hl : l = []
      · subst hl
        have := h2 (by simp)
        simp at this hs ⊢; omega
      · have hpos : 0 < l.length := List.length_pos_iff.2 hl
        rw [if_neg hl]
        by_cases hsh : q.sh (l.length - 1) = true
        · rw [if_pos hsh]; simp only [List.mem_cons, List.not_mem_nil, or_false]; omega
        · rw [if_neg hsh, List.mem_singleton]
          refine Decidable.byContradiction fun hne => hsh (h3 (l.length - 1) (by omega) ?_)
          have e : l.length - 1 + 1 = l.length := by omega
          rw [e, getD_snoc, getD_snoc_lt (by omega)]; exact hne
  · rintro ⟨hr, hs, hf⟩
    have hrange := ways_range q hr hs
    refine ⟨fun i hi => ?_, fun _ => ?_, fun i hi hne => ?_, ?_⟩
    · by_cases h : i < l.length
      · rw [getD_snoc_lt h]; exact hr.1 i h
      · have : i = l.length := by omega
        subst this; rw [getD_snoc]; exact hrange
    · by_cases hl : l = []
      · subst hl; simp [ways] at hs ⊢; omega
      · have hpos : 0 < l.length := List.length_pos_iff.2 hl
        rw [getD_snoc_lt hpos]; exact hr.2.1 hpos
    · by_cases h : i + 1 < l.length
      · rw [getD_snoc_lt h, getD_snoc_lt (by omega)] at hne; exact hr.2.2.1 i h hne
      · have e : i + 1 = l.length := by omega
        have hl : l ≠ [] := fun hl => by subst hl; simp at e
        rw [e, getD_snoc, getD_snoc_lt (by omega)] at hne
        unfold ways at hs
        have e2 : l.length - 1 = i := by omega
        rw [if_neg hl, e2] at hs
        by_cases hsh : q.sh i = true
        · exact hsh
        · rw [if_neg hsh, List.mem_singleton] at hs; exact absurd hs hne
    · rw [flt_append, flt_one]; simpa [okF] using hf
def nx (l : List Int) : List (List Int) := (((ways q l).filter fun s => okF q l s).map fun s => l ++ [s]).filter fun m => decide (F (q.a m) q.w l.length).Ne
theorem a_snoc {l : List Int} {s : Int} {i : Nat} (h : i < l.length) : q.a (l ++ [s]) i = q.a l i := by unfold Pb.a; rw [getD_snoc_lt h]
theorem al_snoc {l : List Int} {s : Int} : Al (q.a (l ++ [s])) q.w (l.length + 1) ↔ Al (q.a l) q.w l.length ∧ (F (q.a (l ++ [s])) q.w l.length).Ne := by
  have hc : ∀ k, k < l.length → F (q.a (l ++ [s])) q.w k = F (q.a l) q.w k := fun k hk => F_congr (fun i hi => a_snoc q (by omega)) fun _ _ => rfl
  constructor
  · intro h
    exact ⟨fun k hk => by rw [← hc k hk]; exact h k (by omega), h _ (by omega)⟩
  · rintro ⟨h, h2⟩ k hk
    by_cases hl : k < l.length
    · rw [hc k hl]; exact h k hl
    · have : k = l.length := by omega
      subst this; exact h2
theorem mem_nx {l m : List Int} : m ∈ nx q l ↔ ∃ s, m = l ++ [s] ∧ s ∈ ways q l ∧ okF q l s = true ∧ (F (q.a m) q.w l.length).Ne := by
  simp only [nx, List.mem_filter, List.mem_map, decide_eq_true_eq]
  constructor
  · rintro ⟨⟨s, ⟨h1, h2⟩, rfl⟩, h3⟩; exact ⟨s, rfl, h1, h2, h3⟩
  · rintro ⟨s, rfl, h1, h2, h3⟩; exact ⟨⟨s, ⟨h1, h2⟩, rfl⟩, h3⟩
def Rem (n : Nat) (l : List Int) : Prop := l.length = n ∧ Rt q l ∧ Al (q.a l) q.w n
theorem rem_nil (hf : 0 ≤ q.fl) : Rem q 0 [] := ⟨rfl, ⟨by simp, by simp, by simp, by simpa [flt] using hf⟩, fun _ h => by omega⟩
theorem rem_nx {n : Nat} {l m : List Int} (h : Rem q n l) : m ∈ nx q l ↔ Rem q (n + 1) m ∧ m.take n = l := by
  obtain ⟨rfl, h2, h3⟩ := h
  rw [mem_nx]
  constructor
  · rintro ⟨s, rfl, h4, h5, h6⟩
    exact ⟨⟨by simp, (rt_snoc q).2 ⟨h2, h4, h5⟩, (al_snoc q).2 ⟨h3, h6⟩⟩, by simp⟩
  · rintro ⟨⟨e, h4, h5⟩, h6⟩
    have hm : m = l ++ [m.getD l.length 0] := by
      conv => lhs; rw [← List.take_append_drop l.length m, h6]
      congr 1
      refine List.ext_getElem? fun i => ?_
      cases i with
      | zero => simp [List.getD_eq_getElem?_getD, e]
      | succ i => simp; omega
    refine ⟨m.getD l.length 0, hm, ?_⟩
    rw [hm] at h4 h5
    have hr := (rt_snoc q).1 h4
    exact ⟨hr.2.1, hr.2.2, by rw [hm]; exact ((al_snoc q).1 h5).2⟩
theorem mem_lev (hf : 0 ≤ q.fl) {n : Nat} {m : List Int} : m ∈ lev (nx q) n [] ↔ Rem q n m := by
  induction n generalizing m with
  | zero =>
    simp only [lev, List.mem_singleton]
    exact ⟨fun h => h ▸ rem_nil q hf, fun h => List.length_eq_zero_iff.1 h.1⟩
  | succ n ih =>
    rw [lev_succ, List.mem_flatMap]
    constructor
    · rintro ⟨l, hl, hm⟩; exact ((rem_nx q (ih.1 hl)).1 hm).1
    · intro h
      obtain ⟨e, h2, h3⟩ := h
      have hm : m = m.take n ++ [m.getD n 0] := by
        refine List.ext_getElem? fun i => ?_
        rcases Nat.lt_trichotomy i n with h | h | h
        · rw [List.getElem?_append_left (by simp; omega), List.getElem?_take, if_pos h]
        · subst h; rw [List.getElem?_append_right (by simp; omega)]; simp [List.getD_eq_getElem?_getD, e]
        · rw [List.getElem?_eq_none (by omega), List.getElem?_eq_none (by simp; omega)]
      have hl : (m.take n).length = n := by simp; omega
      have hrem : Rem q n (m.take n) := by
        rw [hm] at h2
        refine ⟨hl, ((rt_snoc q).1 h2).1, ?_⟩
        have := al_snoc q (l := m.take n) (s := m.getD n 0)
        rw [← hm, hl] at this
        exact (this.1 h3).1
      exact ⟨_, ih.2 hrem, (rem_nx q hrem).2 ⟨⟨e, h2, h3⟩, rfl⟩⟩
theorem nx_len (l : List Int) : (nx q l).length ≤ (ways q l).length := by
  unfold nx
  refine Nat.le_trans (List.length_filter_le ..) ?_
  rw [List.length_map]; exact List.length_filter_le ..
end Go.Pil
set_option linter.unusedVariables false
set_option linter.unusedSimpArgs false
namespace Go.Pil
structure Pl where
  entry : Int
  state : Int
  faults : Int
  deriving DecidableEq
variable (q : Pb)
def pl (l : List Int) : Pl := ⟨(l.length : Int) - 1, l.getD (l.length - 1) 0, q.fl - flt l⟩
def Pl.sts (p : Pl) : List Int := if p.entry < 0 then [0, 1] else if q.sh p.entry.toNat then [0, 1, 2] else [p.state]
def Pl.to (p : Pl) (s : Int) : Pl := ⟨p.entry + 1, s, if s = 2 then p.faults - 1 else p.faults⟩
def Pl.next (p : Pl) : List Pl := ((p.sts q).map p.to).filter fun r => decide (0 ≤ r.faults)
theorem pl_sts (l : List Int) : (pl q l).sts q = ways q l := by
  unfold Pl.sts ways pl
  by_cases h : l = []
  · subst h; simp
  · have hp : 0 < l.length := List.length_pos_iff.2 h
    have e : ((l.length : Int) - 1).toNat = l.length - 1 := by omega
    rw [if_neg h, if_neg (by simp only; omega)]
    simp only [e]
theorem pl_to (l : List Int) (s : Int) : (pl q l).to s = pl q (l ++ [s]) := by
  have e : (l ++ [s]).length - 1 = l.length := by simp
  unfold Pl.to pl
  rw [e, getD_snoc, flt_append, flt_one]
  simp only [Pl.mk.injEq, List.length_append, List.length_singleton, true_and]
  refine ⟨by omega, ?_⟩
  split <;> omega
theorem pl_next (l : List Int) : (pl q l).next q = ((ways q l).filter fun s => okF q l s).map fun s => pl q (l ++ [s]) := by
  unfold Pl.next
  rw [pl_sts, List.filter_map]
  congr 1
  · exact funext fun s => pl_to q l s
  · refine List.filter_congr fun s _ => ?_
    simp only [Function.comp, pl_to, okF, decide_eq_decide]
    simp only [pl, flt_append, flt_one]; omega
theorem next_mem {l : List Int} {s : Int} : (∃ r ∈ (pl q l).next q, r.state = s) ↔ s ∈ ways q l ∧ okF q l s = true := by
  rw [pl_next]
  have hs : ∀ t, (pl q (l ++ [t])).state = t := fun t => by
    have e : (l ++ [t]).length - 1 = l.length := by simp
    unfold pl; rw [e]; exact getD_snoc
  constructor
  · rintro ⟨r, hr, e⟩
    obtain ⟨t, ht, rfl⟩ := List.mem_map.1 hr
    rw [hs] at e; subst e
    simpa using ht
  · rintro ⟨h1, h2⟩; exact ⟨_, List.mem_map.2 ⟨s, by simp [h1, h2], rfl⟩, hs s⟩
theorem next_at {l : List Int} {r : Pl} (h : r ∈ (pl q l).next q) : r = pl q (l ++ [r.state]) := by
  rw [pl_next] at h
  obtain ⟨t, _, rfl⟩ := List.mem_map.1 h
  have e : (l ++ [t]).length - 1 = l.length := by simp
  have : (pl q (l ++ [t])).state = t := by unfold pl; rw [e]; exact getD_snoc
  rw [this]
theorem rt_take {l : List Int} (h : Rt q l) (k : Nat) : Rt q (l.take k) := by
  induction hn : l.length - k generalizing k with
  | zero => rw [List.take_of_length_le (by omega)]; exact h
  | succ n ih =>
    have hk : k < l.length := by omega
    have := ih (k + 1) (by omega)
    rw [List.take_succ_eq_append_getElem hk] at this
    exact ((rt_snoc q).1 this).1
def uni (l : List Sp) : List Sp := joined (l.mergeSort fun a b => decide (a.lo ≤ b.lo))
theorem uni_sorted (l : List Sp) : (l.mergeSort fun a b => decide (a.lo ≤ b.lo)).Pairwise fun a b => a.lo ≤ b.lo := by
  have := List.pairwise_mergeSort (le := fun a b : Sp => decide (a.lo ≤ b.lo)) (by intro a b c; simp only [decide_eq_true_eq]; omega) (by intro a b; simp only [Bool.or_eq_true, decide_eq_true_eq]; omega) l
  exact this.imp fun h => by simpa using h
theorem uni_has {l : List Sp} (hl : ∀ s ∈ l, s.Ne) {x : Int} : HasL (uni l) x ↔ HasL l x := by
  have hp := List.mergeSort_perm l fun a b => decide (a.lo ≤ b.lo)
  unfold uni
  rw [joined_has (fun s hs => hl s (hp.mem_iff.1 hs)) (uni_sorted l), hasL_perm hp]
theorem uni_apart {l : List Sp} (hl : ∀ s ∈ l, s.Ne) : Apart (uni l) := by
  have hp := List.mergeSort_perm l fun a b => decide (a.lo ≤ b.lo)
  exact joined_apart (fun s hs => hl s (hp.mem_iff.1 hs)) (uni_sorted l)
theorem uni_eq {l m : List Sp} (hl : ∀ s ∈ l, s.Ne) (hp : l.Perm m) (hs : m.Pairwise fun a b => a.lo ≤ b.lo) : joined m = uni l := by
  have h2 := List.mergeSort_perm l fun a b => decide (a.lo ≤ b.lo)
  refine (joined_perm (fun s h => hl s (h2.mem_iff.1 h)) (uni_sorted l) hs (h2.trans hp)).symm
def lead1 (here ch : Sp) (l : List Sp) : List Sp := (l.map fun s => here.meet (s.minus ch)).filter fun s => decide s.Ne
def lead (here ch : Sp) (ps : List Pl) (op : Pl → List Sp) : List Sp := uni (ps.flatMap fun p => lead1 here ch (op p))
def opn : Nat → Pl → List Sp
  | 0, p => [q.al p.entry.toNat p.state]
  | d + 1, p => lead (q.al p.entry.toNat p.state) (q.w p.entry.toNat) (p.next q) (opn d)
theorem lead1_ne {here ch : Sp} {l : List Sp} : ∀ s ∈ lead1 here ch l, s.Ne := fun s h => by simpa using (List.mem_filter.1 h).2
theorem lead1_has {here ch : Sp} {l : List Sp} (hc : ch.Ne) (hl : ∀ s ∈ l, s.Ne) {x : Int} : HasL (lead1 here ch l) x ↔ here.Has x ∧ ∃ y, HasL l y ∧ ch.Has (y - x) := by
  constructor
  · rintro ⟨s, hs, hx⟩
    obtain ⟨h1, _⟩ := List.mem_filter.1 hs
    obtain ⟨t, ht, rfl⟩ := List.mem_map.1 h1
    have hn := hl t ht
    refine ⟨(Sp.has_meet.1 hx).1, max t.lo (x + ch.lo), ⟨t, ht, ?_⟩, ?_⟩ <;>
    · simp only [Sp.Has, Sp.meet, Sp.minus, Sp.Ne] at *; omega
  · rintro ⟨h1, y, ⟨t, ht, hy⟩, h2⟩
    have hx : (here.meet (t.minus ch)).Has x := by simp only [Sp.Has, Sp.meet, Sp.minus, Sp.Ne] at *; omega
    exact ⟨_, List.mem_filter.2 ⟨List.mem_map.2 ⟨t, ht, rfl⟩, by simpa using Sp.has_ne hx⟩, hx⟩
theorem lead_ne {here ch : Sp} {ps : List Pl} {op : Pl → List Sp} : Apart (lead here ch ps op) := by
  refine uni_apart fun s hs => ?_
  obtain ⟨p, _, h⟩ := List.mem_flatMap.1 hs
  exact lead1_ne s h
theorem lead_has {here ch : Sp} {ps : List Pl} {op : Pl → List Sp} (hc : ch.Ne) (hl : ∀ p ∈ ps, ∀ s ∈ op p, s.Ne) {x : Int} : HasL (lead here ch ps op) x ↔ here.Has x ∧ ∃ p ∈ ps, ∃ y, HasL (op p) y ∧ ch.Has (y - x) := by
  unfold lead
  rw [uni_has fun s hs => by obtain ⟨p, _, h⟩ := List.mem_flatMap.1 hs; exact lead1_ne s h]
  constructor
  · rintro ⟨s, hs, hx⟩
    obtain ⟨p, hp, h⟩ := List.mem_flatMap.1 hs
    obtain ⟨h1, h2⟩ := (lead1_has hc (hl p hp)).1 ⟨s, h, hx⟩
    exact ⟨h1, p, hp, h2⟩
  · rintro ⟨h1, p, hp, h2⟩
    obtain ⟨s, hs, hx⟩ := (lead1_has hc (hl p hp)).2 ⟨h1, h2⟩
    exact ⟨s, List.mem_flatMap.2 ⟨p, hp, hs⟩, hx⟩
def Kt : Nat → List Int → Int → Prop
  | 0, l, x => (q.a l (l.length - 1)).Has x
  | d + 1, l, x => (q.a l (l.length - 1)).Has x ∧ ∃ s, (s ∈ ways q l ∧ okF q l s = true) ∧ ∃ y, Kt d (l ++ [s]) y ∧ (q.w (l.length - 1)).Has (y - x)
theorem opn_ne (hal : ∀ i s, (q.al i s).Ne) (d : Nat) (p : Pl) : ∀ s ∈ opn q d p, s.Ne := by
  cases d with
  | zero => intro s hs; simp only [opn, List.mem_singleton] at hs; subst hs; exact hal _ _
  | succ d => exact lead_ne.1
theorem pl_al {l : List Int} (h : l ≠ []) : q.al (pl q l).entry.toNat (pl q l).state = q.a l (l.length - 1) := by
  have hp : 0 < l.length := List.length_pos_iff.2 h
  have e : ((l.length : Int) - 1).toNat = l.length - 1 := by omega
  unfold pl Pb.a; simp only [e]
theorem opn_has (hal : ∀ i s, (q.al i s).Ne) (hw : ∀ i, (q.w i).Ne) {d : Nat} {l : List Int} (h : l ≠ []) {x : Int} : HasL (opn q d (pl q l)) x ↔ Kt q d l x := by
  induction d generalizing l x with
  | zero => simp only [opn, hasL_cons, Kt, pl_al q h, hasL_nil, or_false]
  | succ d ih =>
    have hp : 0 < l.length := List.length_pos_iff.2 h
    have e : (pl q l).entry.toNat = l.length - 1 := by show ((l.length : Int) - 1).toNat = _; omega
    simp only [opn, Kt]
    rw [lead_has (hw _) fun p _ => opn_ne q hal d p, pl_al q h, e]
    refine and_congr_right fun _ => ?_
    constructor
    · rintro ⟨p, hp, y, hy, hx⟩
      have hs := (next_mem q).1 ⟨p, hp, rfl⟩
      rw [next_at q hp] at hy
      exact ⟨p.state, hs, y, (ih (by simp)).1 hy, hx⟩
    · rintro ⟨s, hs, y, hy, hx⟩
      obtain ⟨r, hr, rfl⟩ := (next_mem q).2 hs
      refine ⟨r, hr, y, ?_, hx⟩
      rw [next_at q hr]; exact (ih (by simp)).2 hy
theorem kt_lev (hw : ∀ i, (q.w i).Ne) {d n : Nat} {l : List Int} (h : Rem q (n + 1) l) : (∃ x, (F (q.a l) q.w n).Has x ∧ Kt q d l x) ↔ lev (nx q) d l ≠ [] := by
  induction d generalizing n l with
  | zero =>
    obtain ⟨e, h2, h3⟩ := h
    have hn := h3 n (by omega)
    have h1 : l.length - 1 = n := by omega
    simp only [lev, Kt, h1]
    refine ⟨fun _ => by simp, fun _ => ⟨(F (q.a l) q.w n).lo, ?_, ?_⟩⟩
    · simp only [Sp.Has, Sp.Ne] at *; omega
    · exact (F_in (w := q.w) n).has (by simp only [Sp.Has, Sp.Ne] at *; omega)
  | succ d ih =>
    have h1 : l.length - 1 = n := by have := h.1; omega
    have hn : lev (nx q) (d + 1) l ≠ [] ↔ ∃ m ∈ nx q l, lev (nx q) d m ≠ [] := by
      show (nx q l).flatMap (lev (nx q) d) ≠ [] ↔ _
      simp [List.flatMap_eq_nil_iff]
    rw [hn]
    have hF : ∀ s, F (q.a (l ++ [s])) q.w (n + 1) = (q.a (l ++ [s]) (n + 1)).meet ((F (q.a l) q.w n).plus (q.w n)) := fun s => by
      simp only [F]; rw [F_congr (fun i hi => a_snoc q (by have := h.1; omega)) fun _ _ => rfl]
    simp only [Kt, h1]
    constructor
    · rintro ⟨x, hx, _, s, hs, y, hy, hc⟩
      have ha : (q.a (l ++ [s]) (n + 1)).Has y := by
        have e : (l ++ [s]).length - 1 = n + 1 := by have := h.1; simp; omega
        cases d with
        | zero => simpa only [Kt, e] using hy
        | succ d => simp only [Kt, e] at hy; exact hy.1
      have hf : (F (q.a (l ++ [s])) q.w (n + 1)).Has y := by
        rw [hF]; refine Sp.has_meet.2 ⟨ha, ?_⟩
        simp only [Sp.Has, Sp.plus] at *; omega
      have hm : l ++ [s] ∈ nx q l := (mem_nx q).2 ⟨s, rfl, hs.1, hs.2, by rw [h.1]; exact Sp.has_ne hf⟩
      exact ⟨_, hm, (ih ((rem_nx q h).1 hm).1).1 ⟨y, hf, hy⟩⟩
    · rintro ⟨m, hm, hl⟩
      obtain ⟨y, hy, hk⟩ := (ih ((rem_nx q h).1 hm).1).2 hl
      obtain ⟨s, rfl, h4, h5, _⟩ := (mem_nx q).1 hm
      rw [hF] at hy
      obtain ⟨ha, hp⟩ := Sp.has_meet.1 hy
      have hne := h.2.2 n (by omega)
      have hwn := hw n
      refine ⟨max (F (q.a l) q.w n).lo (y - (q.w n).hi), ?_, ?_, s, ⟨h4, h5⟩, y, hk, ?_⟩
      · simp only [Sp.Has, Sp.plus, Sp.Ne] at *; omega
      · exact (F_in (w := q.w) n).has (by simp only [Sp.Has, Sp.plus, Sp.Ne] at *; omega)
      · simp only [Sp.Has, Sp.plus, Sp.Ne] at *; omega
def lasts (d : Nat) (p : Pl) (s : Sp) : Bool := (opn q d p).any fun t => decide (t.meet s).Ne
theorem lasts_iff (hal : ∀ i s, (q.al i s).Ne) (hw : ∀ i, (q.w i).Ne) {d n : Nat} {l : List Int} (h : Rem q (n + 1) l) : lasts q d (pl q l) (F (q.a l) q.w n) = true ↔ lev (nx q) d l ≠ [] := by
  have hne : l ≠ [] := fun e => by have := h.1; subst e; simp at this
  rw [← kt_lev q hw h]
  unfold lasts
  rw [List.any_eq_true]
  constructor
  · rintro ⟨t, ht, hm⟩
    have hm : (t.meet (F (q.a l) q.w n)).Ne := by simpa using hm
    have hx : (t.meet (F (q.a l) q.w n)).Has (t.meet (F (q.a l) q.w n)).lo := by simp only [Sp.Has, Sp.Ne] at *; omega
    obtain ⟨h1, h2⟩ := Sp.has_meet.1 hx
    exact ⟨_, h2, (opn_has q hal hw hne).1 ⟨t, ht, h1⟩⟩
  · rintro ⟨x, h1, h2⟩
    obtain ⟨t, ht, hx⟩ := (opn_has q hal hw hne).2 h2
    exact ⟨t, ht, by simpa using Sp.has_ne (Sp.has_meet.2 ⟨hx, h1⟩)⟩
end Go.Pil
set_option linter.unusedVariables false
set_option linter.unusedSimpArgs false
namespace Go.Pil
variable (q : Pb)
def keepL (N : Nat) (l : List Int) : Bool := lasts q (N - l.length) (pl q l) (F (q.a l) q.w (l.length - 1))
theorem follow_all (hal : ∀ i s, (q.al i s).Ne) (hw : ∀ i, (q.w i).Ne) (hf : 0 ≤ q.fl) (cap N : Nat) : fol (nx q) (keepL q N) cap N [] [] = (lev (nx q) N []).take (cap + 1) := by
  refine fol_all (P := fun d b => d ≤ N ∧ Rem q (N - d) b) ?_ ?_ ⟨Nat.le_refl _, by rw [Nat.sub_self]; exact rem_nil q hf⟩
  · rintro d b ⟨h1, h2⟩ c hc
    have := ((rem_nx q h2).1 hc).1
    have e : N - (d + 1) + 1 = N - d := by omega
    rw [e] at this; exact ⟨by omega, this⟩
  · rintro d b ⟨h1, h2⟩ c hc
    have h3 := ((rem_nx q h2).1 hc).1
    have e1 : c.length - 1 = N - (d + 1) := by have := h3.1; omega
    have e2 : N - c.length = d := by have := h3.1; omega
    unfold keepL; rw [e1, e2]; exact lasts_iff q hal hw h3
end Go.Pil
set_option linter.unusedVariables false
set_option linter.unusedSimpArgs false
namespace Go.Pil
structure Shw where
  day : Int
  weight : Int
  deriving DecidableEq
structure Plw where
  no : Int
  cell : Int
  noise : Int
  slab : Int
  jump : Int
  faults : Int
  log : List Shw
  deriving DecidableEq
def watB (x : Int) : Bool := decide (0 ≤ x) && decide (x ≤ 65536)
def noB (x : Int) : Bool := decide (0 ≤ x) && decide (x ≤ 4095)
theorem watB_iff {x : Int} : watB x = true ↔ 0 ≤ x ∧ x ≤ 65536 := by simp [watB]
theorem noB_iff {x : Int} : noB x = true ↔ 0 ≤ x ∧ x ≤ 4095 := by simp [noB]
def logB : Int → List Shw → Bool
  | _, [] => true
  | a, s :: l => decide (a < s.day) && decide (s.day ≤ 1048576) && watB s.weight && logB s.day l
theorem logB_weight {a : Int} {l : List Shw} (h : logB a l = true) : ∀ s ∈ l, 0 ≤ s.weight ∧ s.weight ≤ 65536 := by
  induction l generalizing a with
  | nil => simp
  | cons s l ih =>
    simp only [logB, Bool.and_eq_true] at h
    intro t ht
    rcases List.mem_cons.1 ht with rfl | ht
    · exact watB_iff.1 h.1.2
    · exact ih h.2 t ht
theorem logB_day {a : Int} {l : List Shw} (h : logB a l = true) (ha : -1 ≤ a) : ∀ s ∈ l, a < s.day ∧ 0 ≤ s.day ∧ s.day ≤ 1048576 := by
  induction l generalizing a with
  | nil => simp
  | cons s l ih =>
    simp only [logB, Bool.and_eq_true, decide_eq_true_eq] at h
    intro t ht
    rcases List.mem_cons.1 ht with rfl | ht
    · omega
    · have := ih h.2 (by omega) t ht; omega
def okP (p : Plw) : Bool := noB p.no && noB p.cell && decide (0 ≤ p.faults) && decide (p.faults ≤ 32) && decide (p.log.length ≤ 32) && watB p.noise && watB p.slab && watB p.jump && logB (-1) p.log
structure OkP (p : Plw) : Prop where
  no : 0 ≤ p.no ∧ p.no ≤ 4095
  cell : 0 ≤ p.cell ∧ p.cell ≤ 4095
  faults : 0 ≤ p.faults ∧ p.faults ≤ 32
  len : p.log.length ≤ 32
  noise : 0 ≤ p.noise ∧ p.noise ≤ 65536
  slab : 0 ≤ p.slab ∧ p.slab ≤ 65536
  jump : 0 ≤ p.jump ∧ p.jump ≤ 65536
  log : logB (-1) p.log = true
theorem okP_iff {p : Plw} : okP p = true ↔ OkP p := by
  simp only [okP, Bool.and_eq_true, decide_eq_true_eq, noB_iff, watB_iff]
  exact ⟨fun ⟨⟨⟨⟨⟨⟨⟨⟨h1, h2⟩, h3⟩, h4⟩, h5⟩, h6⟩, h7⟩, h8⟩, h9⟩ => ⟨h1, h2, ⟨h3, h4⟩, h5, h6, h7, h8, h9⟩, fun h => ⟨⟨⟨⟨⟨⟨⟨⟨h.1, h.2⟩, h.3.1⟩, h.3.2⟩, h.4⟩, h.5⟩, h.6⟩, h.7⟩, h.8⟩⟩
def spB (s : Sp) : Bool := decide (s.lo ≤ s.hi) && decide (-65536 ≤ s.lo) && decide (s.hi ≤ 65536)
def okW (p : Plw) (w : List Sp) : Bool := decide (w.length = p.log.length - 1) && w.all spB
def Plw.at (p : Plw) (i : Nat) : Int := (p.log.getD i ⟨0, 0⟩).weight
theorem OkP.at {p : Plw} (h : OkP p) (i : Nat) : 0 ≤ p.at i ∧ p.at i ≤ 65536 := by
  unfold Plw.at
  by_cases hi : i < p.log.length
  · rw [List.getD_eq_getElem?_getD, List.getElem?_eq_getElem hi]; exact logB_weight h.log _ (List.getElem_mem hi)
  · rw [List.getD_eq_getElem?_getD, List.getElem?_eq_none (by omega)]; exact ⟨Int.le_refl _, by decide⟩
def Plw.allow (p : Plw) (i : Nat) (s : Int) : Sp := if s = 2 then ⟨0, 65536⟩ else Sp.meet ⟨p.at i - p.noise, p.at i + p.noise + (if s = 1 then p.slab else 0)⟩ ⟨0, 65536⟩
def Plw.shift (p : Plw) (i : Nat) : Bool := let m := p.at (i + 1) - p.at i; decide (m = 0) || decide (p.jump < m) || decide (p.jump < -m)
def Plw.pb (p : Plw) (w : List Sp) : Pb := ⟨p.shift, p.allow, fun i => w.getD i ⟨0, 0⟩, p.faults⟩
theorem OkP.allow_ne {p : Plw} (h : OkP p) (i : Nat) (s : Int) : (p.allow i s).Ne := by
  have h1 := h.at i; have h2 := h.noise; have h3 := h.slab
  unfold Plw.allow
  split
  · decide
  · simp only [Sp.Ne, Sp.meet]; split <;> omega
theorem OkP.allow_in {p : Plw} (h : OkP p) (i : Nat) (s : Int) : 0 ≤ (p.allow i s).lo ∧ (p.allow i s).hi ≤ 65536 := by
  unfold Plw.allow
  split
  · decide
  · simp only [Sp.meet]; omega
theorem okW_ne {p : Plw} {w : List Sp} (h : okW p w = true) (i : Nat) : (w.getD i ⟨0, 0⟩).Ne ∧ -65536 ≤ (w.getD i ⟨0, 0⟩).lo ∧ (w.getD i ⟨0, 0⟩).hi ≤ 65536 := by
  simp only [okW, Bool.and_eq_true, decide_eq_true_eq, List.all_eq_true, spB] at h
  by_cases hi : i < w.length
  · have := h.2 _ (List.getElem_mem hi)
    rw [List.getD_eq_getElem?_getD, List.getElem?_eq_getElem hi]
    simp only [Option.getD_some, Sp.Ne]; exact ⟨this.1.1, this.1.2, this.2⟩
  · rw [List.getD_eq_getElem?_getD, List.getElem?_eq_none (by omega)]; decide
theorem F_small {a w : Nat → Sp} (ha : ∀ i, 0 ≤ (a i).lo ∧ (a i).hi ≤ 65536) (k : Nat) : 0 ≤ (F a w k).lo ∧ (F a w k).hi ≤ 65536 := by
  have h := F_in (a := a) (w := w) k; have h2 := ha k
  simp only [Sp.In] at h; omega
theorem Sm_small {w : Nat → Sp} (hw : ∀ i, -65536 ≤ (w i).lo ∧ (w i).hi ≤ 65536 ∧ (w i).lo ≤ (w i).hi) (i d : Nat) : -65536 * (d : Int) ≤ (Sm w i d).lo ∧ (Sm w i d).hi ≤ 65536 * (d : Int) ∧ (Sm w i d).lo ≤ (Sm w i d).hi := by
  induction d with
  | zero => simp [Sm]
  | succ d ih => have := hw (i + d); simp only [Sm, Sp.plus]; omega
def logE (p : Plw) : Int := if okP p then 0 else 30
def caseE (p : Plw) (l : List Int) : Int := if okP p = false then 30 else if l.length = p.log.length ∧ Rt (p.pb []) l then 0 else 31
def aliveP (p : Plw) (w : List Sp) (l : List Int) : Prop := Al ((p.pb w).a l) (p.pb w).w l.length
instance (p : Plw) (w : List Sp) (l : List Int) : Decidable (aliveP p w l) := inferInstanceAs (Decidable (Al _ _ _))
def endP (p : Plw) (w : List Sp) (l : List Int) (k : Nat) : Sp := En ((p.pb w).a l) (p.pb w).w l.length k
def endsP (p : Plw) (w : List Sp) (l : List Int) : List Sp := (List.range l.length).map (endP p w l)
def againstP (p : Plw) (w : List Sp) (l : List Int) (i k : Nat) : Prop := Ag ((p.pb w).a l) (p.pb w).w i (k - i)
instance (p : Plw) (w : List Sp) (l : List Int) (i k : Nat) : Decidable (againstP p w l i k) := inferInstanceAs (Decidable (Ag _ _ _ _))
def pairs (n : Nat) : List (Nat × Nat) := (List.range n).flatMap fun i => ((List.range n).filter fun k => decide (i < k)).map fun k => (i, k)
theorem mem_pairs {n : Nat} {x : Nat × Nat} : x ∈ pairs n ↔ x.1 < x.2 ∧ x.2 < n := by
  obtain ⟨i, k⟩ := x
  simp only [pairs, List.mem_flatMap, List.mem_map, List.mem_filter, List.mem_range, decide_eq_true_eq, Prod.mk.injEq]
  constructor
  · rintro ⟨i, _, k, ⟨h1, h2⟩, rfl, rfl⟩; exact ⟨h2, h1⟩
  · rintro ⟨h1, h2⟩; exact ⟨i, Nat.lt_trans h1 h2, k, ⟨h2, h1⟩, rfl, rfl⟩
def refuteP (p : Plw) (w : List Sp) (l : List Int) : Option (Nat × Nat) := (pairs l.length).find? fun x => decide (againstP p w l x.1 x.2)
end Go.Pil
set_option linter.unusedVariables false
set_option linter.unusedSimpArgs false
namespace Go.Pil
def Plw.cut (p : Plw) (n : Nat) : Plw := ⟨p.no, p.cell, p.noise, p.slab, p.jump, p.faults, p.log.take n⟩
end Go.Pil
set_option linter.unusedVariables false
set_option linter.unusedSimpArgs false
namespace Go.Pil
section
variable {a w : Nat → Sp}
def behind (a w : Nat → Sp) (x : Nat → Int) (e : Nat) : Sp := if e = 0 then a 0 else (a e).meet ((⟨x (e - 1), x (e - 1)⟩ : Sp).plus (w (e - 1)))
theorem behind_has {x : Nat → Int} {e : Nat} : (behind a w x e).Has (x e) ↔ (a e).Has (x e) ∧ (0 < e → (w (e - 1)).Has (x e - x (e - 1))) := by
  unfold behind
  by_cases h : e = 0
  · subst h; simp
  · rw [if_neg h]
    simp only [Sp.Has, Sp.meet, Sp.plus]
    constructor
    · intro h2; exact ⟨by omega, fun _ => by omega⟩
    · rintro ⟨h2, h3⟩
      have := h3 (by omega)
      omega
theorem world_iff {n : Nat} {x : Nat → Int} : World a w n x ↔ ∀ e, e < n → (behind a w x e).Has (x e) := by
  constructor
  · rintro ⟨h1, h2⟩ e he
    refine behind_has.2 ⟨h1 e he, fun h0 => ?_⟩
    have := h2 (e - 1) (by omega)
    rwa [show e - 1 + 1 = e by omega] at this
  · intro h
    refine ⟨fun k hk => (behind_has.1 (h k hk)).1, fun k hk => ?_⟩
    have := (behind_has.1 (h (k + 1) hk)).2 (by omega)
    rwa [show k + 1 - 1 = k by omega] at this
end
end Go.Pil
