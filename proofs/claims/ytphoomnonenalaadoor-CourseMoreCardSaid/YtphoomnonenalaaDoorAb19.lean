/- Functions to which variables are lent: they may write them. Nothing here speaks of one program. -/
import Derived.Test.YtphoomnonenalaaDoorAb18
namespace Go.Ab
open Go.RowKit

/-- The names, in the frame to which they are lent, of the variables that lie in the blocks bs. -/
def lentV (bs : List Nat) : OId → Option Nat := fun id => bif Nat.ble 1000000 id.1 && Nat.beq id.2 0 then bs[id.1 - 1000000]? else none
theorem lentV_some {bs : List Nat} {id : OId} {b : Nat} (h : lentV bs id = some b) : 1000000 ≤ id.1 ∧ id.2 = 0 ∧ bs[id.1 - 1000000]? = some b := by
  unfold lentV at h
  cases hc : Nat.ble 1000000 id.1 && Nat.beq id.2 0 with
  | false => rw [hc] at h; cases h
  | true =>
    rw [hc] at h
    simp only [Bool.and_eq_true] at hc
    exact ⟨Nat.le_of_ble_eq_true hc.1, Nat.eq_of_beq_eq_true hc.2, h⟩
theorem lentV_get {bs : List Nat} (k : Nat) : lentV bs (1000000 + k, 0) = bs[k]? := by
  unfold lentV
  rw [show (Nat.ble 1000000 (1000000 + k) && Nat.beq 0 0) = true by rw [Nat.ble_eq_true_of_le (by omega)]; rfl, show 1000000 + k - 1000000 = k by omega]
  rfl

/-- A variable: where it lies, and what it holds (values that name no variable). -/
def Held (w : World) (M : Nat → Option Nat) (b : Nat) (cs : List AV) : Prop :=
  M b = some 0 ∧ ∃ vs ty, w.heap[b]? = some (.cells vs ty (0, 0)) ∧ cs.length ≤ vs.size ∧ ∀ (j : Nat) c, cs[j]? = some c → ∃ v, vs[j]? = some v ∧ v.oneCell' = true ∧ VR w M noV noG c v

def ResM (w : World) (M : Nat → Option Nat) (V : OId → Option Nat) (w' : World) (r : AV) (fr : Option (Nat × Nat × TypeId)) (v : Value) : Prop :=
  match fr with
  | none => VR w' M V noG r v
  | some t => Res w M w' r (some t) v

/-- Called with values that are told by args, and variables lent that hold what lent tells, f returns what r tells, the variables hold what lent' tells, and nothing else that was there has changed. -/
def FSpecM (P : Program) (f : FuncId) (args : List AV) (lent : List (List AV)) (r : AV) (fr : Option (Nat × Nat × TypeId)) (lent' : List (List AV)) : Prop :=
  ∀ (w : World) (M : Nat → Option Nat) (bs : List Nat) (vals : List Value), args.length = vals.length →
    (∀ (i : Nat) x v, args[i]? = some x → vals[i]? = some v → VR w M (lentV bs) noG x v) → (∀ b, w.heap.size ≤ b → M b = none) →
    bs.Nodup → bs.length = lent.length → (∀ (k : Nat) b cs, bs[k]? = some b → lent[k]? = some cs → Held w M b cs) →
    Calls P f vals.toArray w fun e w' => ∃ v, e = .returned v ∧ Kept w ⟨M, fun k => bs.contains k, noV⟩ w' ∧
      (∀ (k : Nat) b cs, bs[k]? = some b → lent'[k]? = some cs → Held w' M b cs) ∧ ResM w M (lentV bs) w' r fr v

/-- A value on its way out that may name what is lent. -/
def isLent (N : Nat) (id : OId) : Bool := Nat.ble 1000000 id.1 && (Nat.blt (id.1 - 1000000) N && Nat.beq id.2 0)
theorem isLent_eq {N : Nat} {id : OId} (h : isLent N id = true) : ∃ k, k < N ∧ id = (1000000 + k, 0) := by
  unfold isLent at h
  simp only [Bool.and_eq_true] at h
  have h1 := Nat.le_of_ble_eq_true h.1
  have h2 : id.1 - 1000000 < N := Nat.le_of_ble_eq_true h.2.1
  have h3 := Nat.eq_of_beq_eq_true h.2.2
  exact ⟨id.1 - 1000000, h2, Prod.ext (by simp only; omega) h3⟩
def AV.closeM (N : Nat) : AV → Option AV
  | .ref id off => bif isLent N id then some (.ref id off) else none
  | .arr id off n => bif isLent N id then some (.arr id off n) else none
  | .tup cs => (closeML N cs).map .tup
  | x => x.close
where
  closeML (N : Nat) : List AV → Option (List AV)
    | [] => some []
    | c :: cs => match c.closeM N, closeML N cs with
      | some d, some ds => some (d :: ds)
      | _, _ => none
theorem closeML_get {N : Nat} : ∀ (cs ds : List AV), AV.closeM.closeML N cs = some ds → cs.length = ds.length ∧ ∀ (i : Nat) (c d : AV), cs[i]? = some c → ds[i]? = some d → c.closeM N = some d := by
  intro cs
  induction cs with
  | nil => intro ds h; simp [AV.closeM.closeML] at h; subst h; exact ⟨rfl, by simp⟩
  | cons c cs ih =>
    intro ds h
    simp only [AV.closeM.closeML] at h
    split at h
    · rename_i d ds' h1 h2
      simp at h; subst h
      obtain ⟨hl, hg⟩ := ih ds' h2
      refine ⟨by simp [hl], fun i c' d' hc hd => ?_⟩
      cases i with
      | zero => simp at hc hd; subst hc; subst hd; exact h1
      | succ i => simp at hc hd; exact hg i c' d' hc hd
    · simp at h
theorem VR.closedM {N : Nat} {w M V G x v} {V' : OId → Option Nat} (h : VR w M V G x v) (hV : ∀ k b, k < N → V (1000000 + k, 0) = some b → V' (1000000 + k, 0) = some b) : ∀ y, x.closeM N = some y → VR w M V' noG y v := by
  induction h with
  | any v => intro y hy; simp [AV.closeM, AV.close] at hy; subst hy; exact .any v
  | sc v => intro y hy; simp [AV.closeM, AV.close] at hy; subst hy; exact .sc v
  | agg cs vs hl h1 h2 _ => intro y hy; exact (VR.agg cs vs hl h1 h2).closed y hy _ _
  | tup cs vs hl _ ih =>
    intro y hy
    simp only [AV.closeM, Option.map_eq_some_iff] at hy
    obtain ⟨ds, hd, rfl⟩ := hy
    obtain ⟨hl2, hg⟩ := closeML_get cs ds hd
    refine .tup ds vs (by omega) fun i d v hdi hvi => ?_
    have hi : i < cs.length := by have := (List.getElem?_eq_some_iff.1 hdi).1; omega
    exact ih i cs[i] v (List.getElem?_eq_getElem hi) hvi hV d (hg i _ d (List.getElem?_eq_getElem hi) hdi)
  | ref id off b h =>
    intro y hy
    simp only [AV.closeM] at hy
    cases hc : isLent N id with
    | false => rw [hc] at hy; cases hy
    | true =>
      rw [hc] at hy; cases hy
      obtain ⟨k, hk, rfl⟩ := isLent_eq hc
      exact .ref _ _ _ (hV _ _ hk h)
  | arr id off n b cap h hcp =>
    intro y hy
    simp only [AV.closeM] at hy
    cases hc : isLent N id with
    | false => rw [hc] at hy; cases hy
    | true =>
      rw [hc] at hy; cases hy
      obtain ⟨k, hk, rfl⟩ := isLent_eq hc
      exact .arr _ _ _ _ _ (hV _ _ hk h) hcp
  | rd cs b off X hc hv _ => intro y hy; simp [AV.closeM, AV.close] at hy; subst hy; exact .rd cs b off X hc hv
  | sl0 a cap => intro y hy; simp [AV.closeM, AV.close] at hy; subst hy; exact .sl0 a cap
  | sl es z b off cap X hz hcap hc hv _ => intro y hy; simp [AV.closeM, AV.close] at hy; subst hy; exact .sl es z b off cap X hz hcap hc hv
  | own id es v h g hg hle heq _ => intro y hy; exact (VR.own (V := noV) id es v h g hg hle heq).closed y hy _ _
  | clo f cs vs hl h _ => intro y hy; exact (VR.clo f cs vs hl h).closed y hy _ _
  | ifc t x v h _ => intro y hy; exact (VR.ifc t x v h).closed y hy _ _

def lentVa (lent : List (List AV)) : OId → Option (List AV) := fun id => bif Nat.ble 1000000 id.1 && Nat.beq id.2 0 then lent[id.1 - 1000000]? else none
def AS.entryM (n : Nat) (args : List AV) (lent : List (List AV)) : AS := { AS.entry n args with va := lentVa lent }

/-- What leaves the frame. -/
def OutM (N : Nat) (σ : AS) (rr : AV) (r : AV) : Option (Nat × Nat × TypeId) → Prop
  | none => rr.closeM N = some r
  | some t => ∃ id, σ.gr id = some t ∧ rr.exp id = some r
/-- What the variables hold in the end. -/
def holdM (σ : AS) : Nat → List (List AV) → Prop
  | _, [] => True
  | k, cs :: l => ((σ.va (1000000 + k, 0)).bind AV.close.closeL = some cs) ∧ holdM σ (k + 1) l
theorem holdM_get {σ : AS} : ∀ (l : List (List AV)) (n k : Nat) cs, holdM σ n l → l[k]? = some cs → (σ.va (1000000 + (n + k), 0)).bind AV.close.closeL = some cs := by
  intro l
  induction l with
  | nil => intro n k cs _ h; simp at h
  | cons a l ih =>
    intro n k cs h hk
    cases k with
    | zero => simp at hk; subst hk; exact h.1
    | succ k => simp at hk; rw [show n + (k + 1) = n + 1 + k by omega]; exact ih (n + 1) k cs h.2 hk

def postQM (P : Program) (fn : Func) (r : AV) (fr : Option (Nat × Nat × TypeId)) (lent' : List (List AV)) : Exit → AS → Prop
  | .normal, σ => (∃ rs, ResAll P σ fn.results.toList rs ∧ OutM lent'.length σ (packA rs) r fr) ∧ holdM σ 0 lent'
  | .ret, σ => (∃ rs, ResAll P σ fn.results.toList rs ∧ OutM lent'.length σ (packA rs) r fr) ∧ holdM σ 0 lent'
  | _, _ => False

set_option maxRecDepth 4000 in
theorem FSpecM.of_body {P : Program} {f : FuncId} {fn : Func} {c : Code} {args : List AV} {lent lent' : List (List AV)} {r : AV} {fr : Option (Nat × Nat × TypeId)} (hf : P.funcs[f]? = some fn) (hb : fn.body = some c)
    (hn : args.length ≤ fn.ntmps) (hN : fn.ntmps ≤ 1000000) (hll : lent'.length = lent.length) (h : ∀ w0 M0, AWP P w0 M0 c (postQM P fn r fr lent') (AS.entryM fn.ntmps args lent)) : FSpecM P f args lent r fr lent' := by
  intro w M bs vals hlen hargs hM hnd hbl hheld
  have hin : ∀ {id : OId} {b}, lentV bs id = some b → ∃ cs, lent[id.1 - 1000000]? = some cs ∧ Held w M b cs := fun {id b} hv => by
    obtain ⟨_, _, h3⟩ := lentV_some hv
    have hlt : id.1 - 1000000 < lent.length := by rw [← hbl]; exact (List.getElem?_eq_some_iff.1 h3).1
    exact ⟨_, List.getElem?_eq_getElem hlt, hheld _ _ _ h3 (List.getElem?_eq_getElem hlt)⟩
  have hold : ∀ b ∈ bs, b < w.heap.size := fun b hb => by
    obtain ⟨k, hk, rfl⟩ := List.mem_iff_getElem.1 hb
    obtain ⟨_, vs, ty, h1, _⟩ := hheld k bs[k] (lent[k]'(by omega)) (List.getElem?_eq_getElem hk) (List.getElem?_eq_getElem (by omega))
    exact lt_of_cells h1
  refine calls_of_wp hf hb (h w ⟨M, fun k => bs.contains k, lentV bs⟩ _ w ⟨⟨M, lentV bs, noG, fun b => (bs.idxOf? b).map fun k => (true, (1000000 + k, 0))⟩, ?_⟩ _ ?_)
  · have hsz : (vals.toArray ++ Array.replicate (fn.ntmps - vals.toArray.size) undef).size = fn.ntmps := by simp; omega
    constructor
    · exact Kept.refl _ _
    · rfl
    · exact hsz
    · intro i
      show VR w M (lentV bs) noG ((args[i]?).getD .any) _
      cases ha : args[i]? with
      | none => exact .any _
      | some x =>
        have hi : i < vals.length := by rw [← hlen]; exact (List.getElem?_eq_some_iff.1 ha).1
        have hv := List.getElem?_eq_getElem hi
        have : (vals.toArray ++ Array.replicate (fn.ntmps - vals.toArray.size) undef).getD i undef = vals[i] := by
          simp [Array.getD, show i < vals.length + (fn.ntmps - vals.length) by omega, Array.getElem_append_left, hi]
        show VR w M (lentV bs) noG x (Array.getD _ i undef)
        rw [this]
        exact hargs i x _ ha hv
    · exact fun _ _ _ => rfl
    · refine fun b hb => ⟨hM b hb, ?_⟩
      show (bs.idxOf? b).map _ = none
      rw [Option.map_eq_none_iff, List.idxOf?_eq_none_iff]
      exact fun hm => by have := hold b hm; omega
    · intro d g hg
      refine ⟨?_, rfl⟩
      show lentV bs (d, g) = none
      cases hv : lentV bs (d, g) with
      | none => rfl
      | some b =>
        exfalso
        obtain ⟨h1, h2, _⟩ := lentV_some hv
        change (bif Nat.ble fn.ntmps d then 1 else 0) ≤ g at hg
        have h1' : fn.ntmps ≤ d := Nat.le_trans hN h1
        have h2' : g = 0 := h2
        rw [Nat.ble_eq_true_of_le h1', h2'] at hg
        exact absurd hg (by simp)
    · intro id b hv
      obtain ⟨h1, h2, _⟩ := lentV_some hv
      refine ⟨Nat.le_trans hN h1, h2, ?_, hv⟩
      show 0 < (bif Nat.ble fn.ntmps id.1 then 1 else 0)
      rw [Nat.ble_eq_true_of_le (Nat.le_trans hN h1)]; exact Nat.one_pos
    · intro id cs hv
      change lentVa lent id = some cs at hv
      unfold lentVa at hv
      cases hc : Nat.ble 1000000 id.1 && Nat.beq id.2 0 with
      | false => rw [hc] at hv; cases hv
      | true =>
        rw [hc] at hv
        change lent[id.1 - 1000000]? = some cs at hv
        simp only [Bool.and_eq_true] at hc
        have h1 := Nat.le_of_ble_eq_true hc.1
        have h2 := Nat.eq_of_beq_eq_true hc.2
        have hk : id.1 - 1000000 < bs.length := by rw [hbl]; exact (List.getElem?_eq_some_iff.1 hv).1
        obtain ⟨g1, vs, ty, g2, g3, g4⟩ := hheld _ _ _ (List.getElem?_eq_getElem hk) hv
        refine ⟨bs[id.1 - 1000000], vs, ty, ?_, .inr ?_, ?_, g1, g2, g3, fun j c hj => ?_⟩
        · show lentV bs id = _
          have hid : id = (1000000 + (id.1 - 1000000), 0) := Prod.ext (by simp only; omega) h2
          have h5 := lentV_get (bs := bs) (id.1 - 1000000)
          rw [← hid, List.getElem?_eq_getElem hk] at h5
          exact h5
        · show bs.contains _ = true
          simp
        · show (bs.idxOf? _).map _ = _
          have : bs.idxOf? bs[id.1 - 1000000] = some (id.1 - 1000000) := by
            rw [List.idxOf?_eq_some_iff]
            exact ⟨hk, rfl, fun j hj he => (List.pairwise_iff_getElem.1 hnd) j (id.1 - 1000000) (Nat.lt_trans hj hk) hk hj (by simpa using he)⟩
          rw [this]
          simp only [Option.map_some, Option.some.injEq, Prod.mk.injEq, true_and]
          exact Prod.ext (by simp only; omega) h2.symm
        · obtain ⟨v, k1, k2, k3⟩ := g4 j c hj
          exact ⟨v, k1, k2, k3.open' _ _⟩
    · intro d g cs hv
      change lentVa lent (d, g) = some cs at hv
      unfold lentVa at hv
      cases hc : Nat.ble 1000000 d && Nat.beq g 0 with
      | false => simp only [hc] at hv; cases hv
      | true =>
        simp only [Bool.and_eq_true] at hc
        have h1 := Nat.le_of_ble_eq_true hc.1
        have h2 := Nat.eq_of_beq_eq_true hc.2
        show g < (bif Nat.ble fn.ntmps d then 1 else 0)
        rw [Nat.ble_eq_true_of_le (Nat.le_trans hN h1), h2]; exact Nat.one_pos
    · exact fun _ _ _ _ h => by cases h
    · exact fun _ _ _ h => by cases h
  · have main : ∀ σ' a' w', ((∃ rs, ResAll P σ' fn.results.toList rs ∧ OutM lent'.length σ' (packA rs) r fr) ∧ holdM σ' 0 lent') → Rel w ⟨M, fun k => bs.contains k, lentV bs⟩ σ' a' w' →
        a'.defers = [] ∧ ∃ v, (results fn a'.tmps).run P w' = .ok v w' ∧ ∃ v', Ending.returned v = .returned v' ∧ Kept w ⟨M, fun k => bs.contains k, noV⟩ w' ∧
          (∀ (k : Nat) b cs, bs[k]? = some b → lent'[k]? = some cs → Held w' M b cs) ∧ ResM w M (lentV bs) w' r fr v' := fun σ' a' w' ⟨⟨rs, h1, h2⟩, hho⟩ ⟨x, hx⟩ => by
      obtain ⟨cv, g1, g2⟩ := run_results' hx h1
      have hvar : ∀ (k : Nat) b, bs[k]? = some b → ∃ cs cs', lent'[k]? = some cs' ∧ σ'.va (1000000 + k, 0) = some cs ∧ AV.close.closeL cs = some cs' ∧ x.V (1000000 + k, 0) = some b := fun k b hk => by
        have hlt : k < lent'.length := by rw [hll, ← hbl]; exact (List.getElem?_eq_some_iff.1 hk).1
        have h3 := holdM_get lent' 0 k _ hho (List.getElem?_eq_getElem hlt)
        rw [Nat.zero_add] at h3
        obtain ⟨cs, q1, q2⟩ := Option.bind_eq_some_iff.1 h3
        exact ⟨cs, _, List.getElem?_eq_getElem hlt, q1, q2, (hx.lent _ b ((lentV_get k).trans hk)).2.2.2⟩
      have hM0 : ∀ b, bs.contains b = true → x.M b = some 0 := fun b hb => by
        obtain ⟨k, hk, hkb⟩ := List.mem_iff_getElem.1 (List.contains_iff_mem.1 hb)
        obtain ⟨cs, cs', _, q1, _, q3⟩ := hvar k b (by rw [List.getElem?_eq_getElem hk, hkb])
        obtain ⟨b', vs, ty, m1, _, _, m4, _⟩ := hx.va _ _ q1
        have : b' = b := Option.some.inj (m1.symm.trans q3)
        subst this
        exact m4
      have himm : ∀ b off y, Imm w' x.M b off y → Imm w' M b off y := fun b off y hi => ⟨hi.1, hi.2.1, fun m hm => by
        rcases Nat.lt_or_ge b w.heap.size with hlt | hge
        · cases hc : bs.contains b with
          | true => exact absurd (hi.2.2 0 (hM0 b hc)) (Nat.not_lt_zero _)
          | false => exact hi.2.2 m (by rw [hx.m0 b hlt hc]; exact hm)
        · rw [hM b hge] at hm; cases hm⟩
      refine ⟨hx.defers, cv, g1, cv, rfl, ⟨hx.below.os, hx.below.tape, hx.below.output, hx.below.size, hx.below.block⟩, fun k b cs hk hcs => ?_, ?_⟩
      · obtain ⟨cs0, cs', p1, p2, p3, p4⟩ := hvar k b hk
        have : cs' = cs := Option.some.inj (p1.symm.trans hcs)
        subst this
        obtain ⟨b', vs, ty, m1, m2, m3, m4, m5, m6, m7⟩ := hx.va _ _ p2
        have : b' = b := Option.some.inj (m1.symm.trans p4)
        subst this
        obtain ⟨q1, q2⟩ := closeL_get _ _ p3
        have hlt : k < lent.length := by rw [← hbl]; exact (List.getElem?_eq_some_iff.1 hk).1
        refine ⟨(hheld k b' _ hk (List.getElem?_eq_getElem hlt)).1, vs, ty, m5, by rw [← q1]; exact m6, fun j c hj => ?_⟩
        have hj' : j < cs0.length := by rw [q1]; exact (List.getElem?_eq_some_iff.1 hj).1
        obtain ⟨v, n1, n2, n3⟩ := m7 j _ (List.getElem?_eq_getElem hj')
        exact ⟨v, n1, n2, (n3.closed c (q2 j _ c (List.getElem?_eq_getElem hj') hj) _ _).mono himm⟩
      · cases fr with
        | none =>
          refine (g2.closedM (V' := lentV bs) (fun k b q1 q2 => ?_) r h2).mono himm
          have hk : k < bs.length := by rw [hbl, ← hll]; exact q1
          obtain ⟨_, _, _, _, _, q3⟩ := hvar k _ (List.getElem?_eq_getElem hk)
          rw [lentV_get, List.getElem?_eq_getElem hk]
          exact q3.symm.trans q2
        | some t =>
          obtain ⟨n, z, e⟩ := t
          obtain ⟨id, k1, k2⟩ := h2
          obtain ⟨l, l1, l2, l3, l3', l4, l5⟩ := hx.gr id n z e k1
          refine ⟨l, l2, l3, l3', l4, fun b hb => ?_, (VR.expd l1 g2 r k2).mono fun b off y hi => ⟨hi.1, hi.2.1, fun m hm => ?_⟩⟩
          · obtain ⟨p1, p2, p3, vs, p4, p5⟩ := l5 b hb
            refine ⟨p1.resolve_right fun hc => ?_, vs, p4, p5⟩
            obtain ⟨k, hk, hkb⟩ := List.mem_iff_getElem.1 (List.contains_iff_mem.1 hc)
            obtain ⟨cs, cs', _, q1, _, q3⟩ := hvar k b (by rw [List.getElem?_eq_getElem hk, hkb])
            obtain ⟨b', vs', ty, m1, _, m3, _⟩ := hx.va _ _ q1
            have : b' = b := Option.some.inj (m1.symm.trans q3)
            subst this
            rw [p2] at m3; cases m3
          · cases hbl' : l.blk with
            | none =>
              simp only [hbl'] at hm
              exact (himm b off y hi).2.2 m hm
            | some b0 =>
              simp only [hbl'] at hm
              by_cases hbb : b = b0
              · subst hbb
                rw [upd_same] at hm
                exact hi.2.2 m (by rw [(l5 b hbl').2.2.1]; exact hm)
              · rw [upd_ne _ _ hbb] at hm
                exact (himm b off y hi).2.2 m hm
    intro e σ' a' w' he hr'
    cases e with
    | normal => exact main σ' a' w' he hr'
    | ret => exact main σ' a' w' he hr'
    | exit _ => exact he.elim
    | goto _ => exact he.elim
    | panic _ => exact he.elim
    | outgrown => exact he.elim
end Go.Ab
