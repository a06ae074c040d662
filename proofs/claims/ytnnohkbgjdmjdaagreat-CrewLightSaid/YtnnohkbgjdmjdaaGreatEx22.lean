/- What is made of a region of any order. Nothing here speaks of one program. -/
import Derived.Test.YtnnohkbgjdmjdaaGreatEx21
set_option linter.unusedVariables false
set_option linter.unusedSimpArgs false
namespace Go.Ex

/-- Which operations come ahead of one: bits. -/
def maskE (acc : List Nat) : List Edge → Nat
  | [] => 0
  | e :: es => bif Region.binds .any e then (2 ^ e.on ||| (acc[e.on]?).getD 0) ||| maskE acc es else maskE acc es
def masks : List Oper → List Nat → List Nat
  | [], acc => acc
  | o :: os, acc => masks os (acc ++ [maskE acc o.after.toList])

section
variable {ops : Array Oper}
theorem maskE_anc {acc : List Nat} (ha : ∀ (i m k : Nat), acc[i]? = some m → m.testBit k = true → Anc ops i k) : ∀ (es : List Edge) (k : Nat), (maskE acc es).testBit k = true → ∃ e ∈ es, Region.binds .any e = true ∧ (k = e.on ∨ Anc ops e.on k) := by
  intro es
  induction es with
  | nil => intro k h; simp [maskE] at h
  | cons e es ih =>
    intro k h
    cases hb : Region.binds .any e with
    | false =>
      simp only [maskE, hb, cond_false] at h
      obtain ⟨e', h1, h2⟩ := ih k h
      exact ⟨e', List.mem_cons_of_mem _ h1, h2⟩
    | true =>
      simp only [maskE, hb, cond_true, Nat.testBit_or, Bool.or_eq_true] at h
      rcases h with (h | h) | h
      · rw [Nat.testBit_two_pow] at h
        have h' : e.on = k := by simpa using h
        exact ⟨e, by simp, hb, .inl h'.symm⟩
      · cases hg : acc[e.on]? with
        | none => rw [hg] at h; simp at h
        | some m => rw [hg] at h; exact ⟨e, by simp, hb, .inr (ha _ m k hg h)⟩
      · obtain ⟨e', h1, h2⟩ := ih k h
        exact ⟨e', List.mem_cons_of_mem _ h1, h2⟩

theorem masks_anc : ∀ (l : List Oper) (acc : List Nat), (∀ j, l[j]? = ops[acc.length + j]?) → (∀ (i m k : Nat), acc[i]? = some m → m.testBit k = true → Anc ops i k) →
    ∀ (i m k : Nat), (masks l acc)[i]? = some m → m.testBit k = true → Anc ops i k := by
  intro l
  induction l with
  | nil => intro acc _ ha; exact ha
  | cons o l ih =>
    intro acc hl ha
    refine ih _ (fun j => ?_) fun i m k hm hb => ?_
    · have := hl (j + 1)
      rw [List.getElem?_cons_succ] at this
      rw [this, List.length_append]
      congr 1
      simp; omega
    · rcases Nat.lt_or_ge i acc.length with h | h
      · rw [List.getElem?_append_left h] at hm; exact ha i m k hm hb
      · rw [List.getElem?_append_right h] at hm
        have hi : i = acc.length := by
          have := (List.getElem?_eq_some_iff.1 hm).1
          simp at this; omega
        subst hi
        simp at hm
        subst hm
        obtain ⟨e, h1, h2, h3⟩ := maskE_anc ha _ k hb
        have ho : ops[acc.length]? = some o := by have := hl 0; simpa using this.symm
        intro S hc hd
        have hS := hd o ho e (by simpa using h1) h2
        rcases h3 with h3 | h3
        · subst h3; exact hS
        · exact h3 S hc fun o' ho' e' he' hb' => hc _ o' ho' hS e' he' hb'
end

def ord (ms : List Nat) (i k : Nat) : Bool := Nat.testBit ((ms[i]?).getD 0) k
def allB (n : Nat) (f : Nat → Bool) : Bool := (List.range n).all f
theorem allB_get {n : Nat} {f : Nat → Bool} (h : allB n f = true) {i : Nat} (hi : i < n) : f i = true := List.all_eq_true.1 h i (List.mem_range.2 hi)
noncomputable def dsts (js : List J) : List (Option Pt) := js.map J.dst
noncomputable def kinds (js : List J) : List Nat := js.map J.kind
/-- Who writes p comes ahead of i. -/
def readB (ms : List Nat) (i : Nat) (p : Pt) : List (Option Pt) → Nat → Bool
  | [], _ => true
  | d :: ds, k => (match d with | some p' => bif decide (p' = p) then (Nat.blt k i && ord ms i k) || (Nat.blt i k && ord ms k i) else true | none => true) && readB ms i p ds (k + 1)
def usesB (ms : List Nat) (i : Nat) (ds : List (Option Pt)) : List Pt → Bool
  | [] => true
  | p :: ps => readB ms i p ds 0 && usesB ms i ds ps
def readsB (ms : List Nat) (ds : List (Option Pt)) : List J → Nat → Bool
  | [], _ => true
  | j :: js, i => usesB ms i ds j.uses && readsB ms ds js (i + 1)
def freshB (p : Pt) : List (Option Pt) → Bool
  | [] => true
  | d :: ds => (match d with | some p' => !decide (p' = p) | none => true) && freshB p ds
def uniqB : List (Option Pt) → Bool
  | [] => true
  | d :: ds => (match d with | some p => freshB p ds | none => true) && uniqB ds
def edgesB (i : Nat) : List Edge → Bool
  | [] => true
  | e :: es => (!Region.binds .any e || Nat.blt e.on i) && edgesB i es
def downB : List Oper → Nat → Bool
  | [], _ => true
  | o :: os, i => edgesB i o.after.toList && downB os (i + 1)
/-- The operations that may change memory, from w on. -/
def wrs : List Nat → Nat → List Nat
  | [], _ => []
  | k :: ks, i => bif Nat.beq k 3 then i :: wrs ks (i + 1) else wrs ks (i + 1)
def chainB (ms : List Nat) : List Nat → Bool
  | [] => true
  | w :: ws => ws.all (fun w' => ord ms w' w) && chainB ms ws
def badQ (ms : List Nat) (ws : List Nat) (i q : Nat) : Bool := (Nat.blt 0 q && ord ms (q - 1) i) || ws.any fun k => Nat.ble q k && ord ms i k
def curs (ws : List Nat) : List Nat := 0 :: ws.map (· + 1)
def alOf (ms ws : List Nat) (i : Nat) : List Nat := (curs ws).filter fun q => !badQ ms ws i q
noncomputable def sOk (ops : List Oper) (js : List J) (ms ws : List Nat) : Bool := downB ops 0 && (uniqB (dsts js) && (readsB ms (dsts js) js 0 && chainB ms ws))

theorem edgesB_ok {i : Nat} : ∀ {es : List Edge}, edgesB i es = true → ∀ e ∈ es, Region.binds .any e = true → e.on < i := by
  intro es
  induction es with
  | nil => intro _ e he; cases he
  | cons e es ih =>
    intro h e' he' hb
    simp only [edgesB, Bool.and_eq_true, Bool.or_eq_true, Bool.not_eq_true'] at h
    rcases List.mem_cons.1 he' with h1 | h1
    · subst h1
      rcases h.1 with h2 | h2
      · rw [hb] at h2; cases h2
      · exact Nat.le_of_ble_eq_true h2
    · exact ih h.2 e' h1 hb
theorem downB_ok : ∀ {l : List Oper} {k : Nat}, downB l k = true → ∀ i o, l[i]? = some o → ∀ e ∈ o.after, Region.binds .any e = true → e.on < k + i := by
  intro l
  induction l with
  | nil => intro k _ i o h; simp at h
  | cons o l ih =>
    intro k h i o' ho e he hb
    simp only [downB, Bool.and_eq_true] at h
    cases i with
    | zero => simp at ho; subst ho; exact edgesB_ok h.1 e (by simpa using he) hb
    | succ i =>
      have := ih h.2 i o' (by simpa using ho) e he hb
      omega
theorem freshB_ok {p : Pt} : ∀ {ds : List (Option Pt)}, freshB p ds = true → ∀ (i : Nat), ds[i]? ≠ some (some p) := by
  intro ds
  induction ds with
  | nil => intro _ i h; simp at h
  | cons d ds ih =>
    intro h i hi
    simp only [freshB, Bool.and_eq_true] at h
    cases i with
    | zero =>
      simp at hi
      subst hi
      have := h.1
      simp at this
    | succ i => exact ih h.2 i (by simpa using hi)
theorem uniqB_ok : ∀ {ds : List (Option Pt)}, uniqB ds = true → ∀ (i i' : Nat) (p : Pt), ds[i]? = some (some p) → ds[i']? = some (some p) → i = i' := by
  intro ds
  induction ds with
  | nil => intro _ i i' p h; simp at h
  | cons d ds ih =>
    intro h i i' p h1 h2
    simp only [uniqB, Bool.and_eq_true] at h
    cases i with
    | zero =>
      simp at h1
      subst h1
      cases i' with
      | zero => rfl
      | succ i' => exact absurd (by simpa using h2) (freshB_ok h.1 i')
    | succ i =>
      cases i' with
      | zero =>
        simp at h2
        subst h2
        exact absurd (by simpa using h1) (freshB_ok h.1 i)
      | succ i' => rw [ih h.2 i i' p (by simpa using h1) (by simpa using h2)]
theorem readB_ok {ms : List Nat} {i : Nat} {p : Pt} : ∀ {ds : List (Option Pt)} {k : Nat}, readB ms i p ds k = true → ∀ i', ds[i']? = some (some p) → (k + i' < i ∧ ord ms i (k + i') = true) ∨ (i < k + i' ∧ ord ms (k + i') i = true) := by
  intro ds
  induction ds with
  | nil => intro k _ i' h; simp at h
  | cons d ds ih =>
    intro k h i' hi
    simp only [readB, Bool.and_eq_true] at h
    cases i' with
    | zero =>
      simp at hi
      subst hi
      have := h.1
      simp only [decide_true, cond_true, Bool.and_eq_true, Bool.or_eq_true] at this
      exact this.imp (fun g => ⟨Nat.le_of_ble_eq_true g.1, g.2⟩) fun g => ⟨Nat.le_of_ble_eq_true g.1, g.2⟩
    | succ i' =>
      have := ih h.2 i' (by simpa using hi)
      rw [show k + (i' + 1) = k + 1 + i' by omega]
      exact this
theorem usesB_ok {ms : List Nat} {i : Nat} {ds : List (Option Pt)} : ∀ {ps : List Pt}, usesB ms i ds ps = true → ∀ p ∈ ps, readB ms i p ds 0 = true := by
  intro ps
  induction ps with
  | nil => intro _ p h; cases h
  | cons q ps ih =>
    intro h p hp
    simp only [usesB, Bool.and_eq_true] at h
    rcases List.mem_cons.1 hp with h1 | h1
    · subst h1; exact h.1
    · exact ih h.2 p h1
theorem readsB_ok {ms : List Nat} {ds : List (Option Pt)} : ∀ {js : List J} {k : Nat}, readsB ms ds js k = true → ∀ i j, js[i]? = some j → usesB ms (k + i) ds j.uses = true := by
  intro js
  induction js with
  | nil => intro k _ i j h; simp at h
  | cons j0 js ih =>
    intro k h i j hj
    simp only [readsB, Bool.and_eq_true] at h
    cases i with
    | zero => simp at hj; subst hj; exact h.1
    | succ i =>
      have := ih h.2 i j (by simpa using hj)
      rw [show k + (i + 1) = k + 1 + i by omega]
      exact this
theorem wrs_mem : ∀ {ks : List Nat} {k i : Nat}, ks[i]? = some 3 → k + i ∈ wrs ks k := by
  intro ks
  induction ks with
  | nil => intro k i h; simp at h
  | cons x ks ih =>
    intro k i h
    cases i with
    | zero => simp at h; subst h; simp [wrs]
    | succ i =>
      have := ih (k := k + 1) (i := i) (by simpa using h)
      rw [show k + (i + 1) = k + 1 + i by omega]
      simp only [wrs]
      cases Nat.beq x 3 with
      | true => exact List.mem_cons_of_mem _ this
      | false => exact this
theorem wrs_ge : ∀ {ks : List Nat} {k x : Nat}, x ∈ wrs ks k → k ≤ x ∧ ks[x - k]? = some 3 := by
  intro ks
  induction ks with
  | nil => intro k x h; simp [wrs] at h
  | cons y ks ih =>
    intro k x h
    have tail : x ∈ wrs ks (k + 1) → k ≤ x ∧ (y :: ks)[x - k]? = some 3 := fun h => by
      obtain ⟨h1, h2⟩ := ih h
      refine ⟨by omega, ?_⟩
      rw [show x - k = (x - (k + 1)) + 1 by omega, List.getElem?_cons_succ]; exact h2
    simp only [wrs] at h
    cases hb : Nat.beq y 3 with
    | true =>
      rw [hb] at h
      rcases List.mem_cons.1 h with h1 | h1
      · subst h1
        have := Nat.eq_of_beq_eq_true hb
        subst this
        exact ⟨Nat.le_refl _, by simp⟩
      · exact tail h1
    | false => rw [hb] at h; exact tail h
theorem chain_wrs {ms : List Nat} : ∀ {ks : List Nat} {k : Nat}, chainB ms (wrs ks k) = true → ∀ i i', ks[i]? = some 3 → ks[i']? = some 3 → i < i' → ord ms (k + i') (k + i) = true := by
  intro ks
  induction ks with
  | nil => intro k _ i i' h; simp at h
  | cons x ks ih =>
    intro k h i i' h1 h2 hlt
    have htail : chainB ms (wrs ks (k + 1)) = true := by
      simp only [wrs] at h
      cases hb : Nat.beq x 3 with
      | true => rw [hb] at h; simp only [cond_true, chainB, Bool.and_eq_true] at h; exact h.2
      | false => rw [hb] at h; exact h
    cases i' with
    | zero => omega
    | succ i' =>
      cases i with
      | zero =>
        simp at h1
        subst h1
        simp only [wrs] at h
        have hb : Nat.beq 3 3 = true := rfl
        rw [hb] at h
        simp only [cond_true, chainB, Bool.and_eq_true] at h
        have := List.all_eq_true.1 h.1 (k + 1 + i') (wrs_mem (by simpa using h2))
        rw [show k + (i' + 1) = k + 1 + i' by omega]
        exact this
      | succ i =>
        have := ih htail i i' (by simpa using h1) (by simpa using h2) (by omega)
        rw [show k + (i + 1) = k + 1 + i by omega, show k + (i' + 1) = k + 1 + i' by omega]
        exact this
theorem memN_of {q : Nat} : ∀ {l : List Nat}, q ∈ l → memN q l = true := by
  intro l
  induction l with
  | nil => intro h; cases h
  | cons x l ih =>
    intro h
    simp only [memN, Bool.or_eq_true]
    rcases List.mem_cons.1 h with h1 | h1
    · subst h1; exact .inl (by simp)
    · exact .inr (ih h1)

theorem sf_of {ops : Array Oper} {js : List J} (hlen : js.length = ops.size) (h : sOk ops.toList js (masks ops.toList []) (wrs (kinds js) 0) = true) :
    SF ops js ((List.range js.length).map (alOf (masks ops.toList []) (wrs (kinds js) 0))) := by
  have hanc : ∀ i k, ord (masks ops.toList []) i k = true → Anc ops i k := fun i k h => by
    unfold ord at h
    cases hg : (masks ops.toList [])[i]? with
    | none => rw [hg] at h; simp at h
    | some m =>
      rw [hg] at h
      exact masks_anc ops.toList [] (fun j => by simp) (fun i m k h => by simp at h) i m k hg h
  unfold sOk at h
  simp only [Bool.and_eq_true] at h
  obtain ⟨h1, h2, h3, h4⟩ := h
  have hkind : ∀ (i : Nat) (j : J), js[i]? = some j → j.kind = 3 → (kinds js)[i]? = some 3 := fun i j hj hk => by simp [kinds, hj, hk]
  refine ⟨hlen, fun i o ho e he hb => ?_, fun i i' j j' p g1 g2 g3 g4 => ?_, fun i j p hj hp i' j' g1 g2 => ?_, fun i i' j j' g1 g2 g3 g4 g5 => ?_, fun i j q hj hk hq hc hm => ?_⟩
  · have := downB_ok h1 i o (by simpa using ho) e he hb; omega
  · exact uniqB_ok h2 i i' p (by simp [dsts, g1, g3]) (by simp [dsts, g2, g4])
  · have k1 := usesB_ok (readsB_ok h3 i j hj) p hp
    have k2 := readB_ok k1 i' (by simp [dsts, g1, g2])
    simp only [Nat.zero_add] at k2
    exact k2.imp (fun g => ⟨g.1, hanc _ _ g.2⟩) fun g => ⟨g.1, hanc _ _ g.2⟩
  · have := chain_wrs h4 i i' (hkind i j g1 g3) (hkind i' j' g2 g4) g5
    simp only [Nat.zero_add] at this
    exact hanc _ _ this
  · have hi : i < js.length := (List.getElem?_eq_some_iff.1 hj).1
    have he : (((List.range js.length).map (alOf (masks ops.toList []) (wrs (kinds js) 0)))[i]?).getD [] = alOf (masks ops.toList []) (wrs (kinds js) 0) i := by simp [hi]
    rw [he] at hm
    have hcur : q ∈ curs (wrs (kinds js) 0) := by
      rcases hc with hc | ⟨j', g1, g2⟩
      · subst hc; simp [curs]
      · cases q with
        | zero => simp [curs]
        | succ q =>
          simp at g1
          refine List.mem_cons_of_mem _ (List.mem_map.2 ⟨q, ?_, rfl⟩)
          have := wrs_mem (k := 0) (hkind q j' g1 g2)
          rwa [Nat.zero_add] at this
    cases hbq : badQ (masks ops.toList []) (wrs (kinds js) 0) i q with
    | false =>
      have : q ∈ alOf (masks ops.toList []) (wrs (kinds js) 0) i := List.mem_filter.2 ⟨hcur, by rw [hbq]; rfl⟩
      rw [memN_of this] at hm; cases hm
    | true =>
      unfold badQ at hbq
      simp only [Bool.or_eq_true, Bool.and_eq_true] at hbq
      rcases hbq with ⟨g1, g2⟩ | g
      · exact .inl ⟨Nat.le_of_ble_eq_true g1, hanc _ _ g2⟩
      · obtain ⟨k, g1, g2⟩ := List.any_eq_true.1 g
        simp only [Bool.and_eq_true] at g2
        obtain ⟨_, g3⟩ := wrs_ge g1
        have g3' : (kinds js)[k]? = some 3 := by simpa using g3
        simp only [kinds, List.getElem?_map, Option.map_eq_some_iff] at g3'
        obtain ⟨j', g4, g5⟩ := g3'
        exact .inr ⟨k, j', Nat.le_of_ble_eq_true g2.1, g4, g5, hanc _ _ g2.2⟩

section
variable (tab : Tab) (eqs : List (TypeId × List IntKind)) (nt : Nat)
/-- A region of any order. -/
noncomputable def drawK (n : Nat) (js : List J) (ops : List Oper) (ms ws : List Nat) : K :=
  bif sOk ops js ms ws then .draw n (js.zip ((List.range n).map (alOf ms ws))) else .bad
noncomputable def cDraw (ops : Array Oper) : K :=
  drawK ops.size (cJL tab eqs nt ops ops.toList) ops.toList (masks ops.toList []) (wrs (kinds (cJL tab eqs nt ops ops.toList)) 0)
end
theorem cJL_get {tab : Tab} {eqs : List (TypeId × List IntKind)} {nt : Nat} {ops : Array Oper} : ∀ (l : List Oper), (cJL tab eqs nt ops l).length = l.length ∧ ∀ (i : Nat) o, l[i]? = some o → (cJL tab eqs nt ops l)[i]? = some (cJ tab eqs nt ops o) := by
  intro l
  induction l with
  | nil => exact ⟨rfl, fun i o h => by simp at h⟩
  | cons o l ih =>
    refine ⟨by simp [cJL, ih.1], fun i o' h => ?_⟩
    cases i with
    | zero => simp at h; subst h; rfl
    | succ i => exact ih.2 i o' (by simpa using h)

theorem cDraw_ok {tab : Tab} {eqs : List (TypeId × List IntKind)} {nt : Nat} {ops : Array Oper} {P : Program} {call : CallT} (ht : TabOk P tab) (hq : EqsOk P eqs) (hcall : CallOk P call) (hmx : P.follows .mixedOrders = true) {fuel : Nat} {t t' : T X} {h h' : H} {n n' : Pt} {e : E}
    (hx : codeX call fuel (cDraw tab eqs nt ops) t h n = .go e t' h' n') {φ : Pl} {a : Act} {w : World} (st0 : St nt φ t h n a w) (Q : Exit → Act → World → Prop) (hQ : ∀ a' w' φ', Step φ h n w φ' h' n' w' → St nt φ' t' h' n' a' w' → Q .normal a' w') (id : Nat) :
    e = .normal ∧ (Code.region id ops true).wp P Q a w := by
  unfold cDraw drawK at hx
  obtain ⟨hl, hg⟩ := cJL_get (tab := tab) (eqs := eqs) (nt := nt) (ops := ops) ops.toList
  have hlen : (cJL tab eqs nt ops ops.toList).length = ops.size := by rw [hl, Array.length_toList]
  cases hs : sOk ops.toList (cJL tab eqs nt ops ops.toList) (masks ops.toList []) (wrs (kinds (cJL tab eqs nt ops ops.toList)) 0) with
  | false => rw [hs] at hx; cases hx
  | true =>
    rw [hs] at hx
    have F := sf_of hlen hs
    rw [hlen] at F
    have hx' : drawX call ops.size ((cJL tab eqs nt ops ops.toList).zip ((List.range ops.size).map (alOf (masks ops.toList []) (wrs (kinds (cJL tab eqs nt ops ops.toList)) 0)))) t h n = .go e t' h' n' := hx
    generalize hal : (List.range ops.size).map (alOf (masks ops.toList []) (wrs (kinds (cJL tab eqs nt ops ops.toList)) 0)) = al at F hx'
    have hall : al.length = ops.size := by rw [← hal]; simp
    have hm1 : ((cJL tab eqs nt ops ops.toList).zip al).map (·.1) = cJL tab eqs nt ops ops.toList := List.map_fst_zip (by rw [hlen, hall]; exact Nat.le_refl _)
    have hm2 : ((cJL tab eqs nt ops ops.toList).zip al).map (·.2) = al := List.map_snd_zip (by rw [hlen, hall]; exact Nat.le_refl _)
    have hzl : ((cJL tab eqs nt ops ops.toList).zip al).length = ops.size := by rw [List.length_zip, hlen, hall, Nat.min_self]
    rw [← hzl] at hx'
    refine draw_ok ht hq hcall hmx (fun i o ho => ?_) ?_ hx' st0 Q hQ id
    · rw [hm1]; exact hg i o (by simpa using ho)
    · rw [hm1, hm2]; exact F
end Go.Ex
