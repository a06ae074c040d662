/- A row that is known beside the frame is written no more. Nothing here speaks of one program. -/
import Derived.Test.YtelenedgaoglaaaGreatDoorAdA
set_option linter.unusedVariables false
set_option linter.unusedSimpArgs false
namespace Go.Ab
open Go.RowKit
theorem WeakJ.cast {J J' J'' : Sec} {σ σ' : AS} (h : J = J') (k : WeakJ J' σ J'' σ') : WeakJ J σ J'' σ' := by subst h; exact k
theorem VR.slRow {w : World} {M : Nat → Option Nat} {T F : Nat → Prop} {e z n : Nat} {v : Value} {cs : List AV} {es : List (List AV)} {M' : Nat → Option Nat} (h : Jrow e z v n cs T F w M) (hes : es.flatten = cs) (hz : ∀ x ∈ es, x.length = z) (hn : es.length = n) (hM : ∀ k, v.ownBlock = some k → M' k = none)
    (himm : ∀ b off u, Imm w M b off u → Imm w M' b off u) : VR w M' noV noG (.sl es) v := by
  obtain ⟨h1, h2, xs, h3, h4, h5⟩ := h
  subst hes hn
  rcases h3.2 with ⟨hv, h0⟩ | ⟨g, cap, cur, hv, _, hg, hnc, hcm, hcs, htake⟩
  · have : es = [] := List.eq_nil_of_length_eq_zero h0
    subst this; subst hv
    exact .sl0 _ _
  · subst hv
    have hcell : ∀ (i : Nat) el (j : Nat) c, es[i]? = some el → el[j]? = some c → ∃ u, w.cell? ⟨g, 0 + (i * z + j), none⟩ = some u ∧ u.oneCell' = true ∧ VR w M noV noG c u := fun i el j c he hc => by
      have h6 := flat_get es hz i j el c he hc
      have hlt : i * z + j < xs.length := by rw [h4]; exact (List.getElem?_eq_some_iff.1 h6).1
      obtain ⟨q1, q2⟩ := h5 _ c _ h6 (List.getElem?_eq_getElem hlt)
      refine ⟨_, ?_, q1, inF_open q2⟩
      have := h3.cells (g := g) rfl _ _ (List.getElem?_eq_getElem hlt)
      rw [addr_add] at this
      exact this
    refine VR.sl es z g 0 cap (fun i j => (w.cell? ⟨g, 0 + (i * z + j), none⟩).getD undef) hz hnc (fun i el j c he hc => ?_) (fun i el j c he hc => ?_)
    · obtain ⟨u, q1, q2, _⟩ := hcell i el j c he hc
      rw [q1]
      exact ⟨q1, q2, fun m hm => by rw [hM g rfl] at hm; cases hm⟩
    · obtain ⟨u, q1, _, q3⟩ := hcell i el j c he hc
      rw [q1]
      exact q3.monoI rfl himm
def AS.set (σ : AS) (t : Nat) (v : AV) : AS := { σ with tm := upd σ.tm t v }
theorem WeakJ.freeze {J2 : Sec} {σ : AS} {e z n : Nat} {v : Value} {cs : List AV} {es : List (List AV)} (t : Nat) (ht : exact (σ.tm t) = some v) (hes : es.flatten = cs) (hz : ∀ x ∈ es, x.length = z) (hn : es.length = n) (o2 : SecOk J2) :
    WeakJ ((Jrow e z v n cs).sep J2) σ J2 (σ.set t (.sl es)) := fun F0 w0 M0 a w ⟨x, T, F, hx⟩ => by
  obtain ⟨T1, F1, T2, F2, h1, h2, h3, h4, h5, h6⟩ := hx.sec
  classical
  let M' : Nat → Option Nat := fun b => if v.ownBlock = some b then none else x.M b
  have hT1 : ∀ b, v.ownBlock = some b → T1 b := fun b hb => (h5.1 b).2 hb
  have hM' : ∀ b, v.ownBlock ≠ some b → M' b = x.M b := fun b hb => if_neg hb
  have himm : ∀ b off u, Imm w x.M b off u → Imm w M' b off u := fun b off u hi => ⟨hi.1, hi.2.1, fun m hm => by
    by_cases hb : v.ownBlock = some b
    · simp only [M', if_pos hb] at hm; cases hm
    · rw [hM' b hb] at hm; exact hi.2.2 m hm⟩
  have hno : ∀ b, v.ownBlock = some b → ¬ Owned σ x b := fun b hb => hx.free b ((h2 b).2 (.inl (Jrow_ok.sub h5 b (hT1 b hb))))
  have hr := hx.rel
  have htv : a.tmps.getD t undef = v := (hr.tm t).exact _ ht
  refine ⟨⟨M', x.V, x.G, x.ow⟩, T2, F2, ⟨?_, o2.stab h6 fun b hb => ⟨rfl, hM' b fun e => h3 b (hT1 b e) hb⟩, o2, hx.tf, fun b hb => hx.t b ((h1 b).2 (.inr hb)), fun b hb => hx.lt b ((h2 b).2 (.inr hb)), fun b hb => hx.free b ((h2 b).2 (.inr hb)), fun b hb => hx.f0 b ((h2 b).2 (.inr hb))⟩⟩
  constructor
  · exact hr.below
  · exact hr.defers
  · exact hr.size
  · intro i
    show VR _ _ _ _ (upd σ.tm t _ i) _
    by_cases hi : i = t
    · subst hi
      rw [upd_same, htv]
      exact (VR.slRow h5 hes hz hn (fun k hk => if_pos hk) himm).open' _ _
    · rw [upd_ne _ _ hi]; exact (hr.tm i).mono himm fun _ _ hh => hh
  · intro b hb hb2
    show M' b = _
    rw [hM' b fun e => ?_]
    · exact hr.m0 b hb hb2
    · rcases hx.t b ((h1 b).2 (.inl (hT1 b e))) with q | q
      · omega
      · rw [hb2] at q; cases q
  · intro b hb
    refine ⟨?_, (hr.mlt b hb).2⟩
    show M' b = none
    by_cases he : v.ownBlock = some b
    · exact if_pos he
    · rw [hM' b he]; exact (hr.mlt b hb).1
  · exact hr.fresh
  · exact hr.lent
  · intro id cs' hv
    obtain ⟨b, vs, ty, g1, g2, g3, g4, g5, g6, g7⟩ := hr.va id cs' hv
    refine ⟨b, vs, ty, g1, g2, g3, ?_, g5, g6, fun j c hj => ?_⟩
    · show M' b = _
      rw [hM' b fun e => hno b e (.inl ⟨id, cs', hv, g1⟩)]; exact g4
    · obtain ⟨u, q1, q2, q3⟩ := g7 j c hj
      exact ⟨u, q1, q2, q3.mono himm fun _ _ hh => hh⟩
  · exact hr.vgen
  · intro id n' z' e' hg
    obtain ⟨l, g1, g2, g3, g3', g4, g5⟩ := hr.gr id n' z' e' hg
    refine ⟨l, g1, g2, g3, g3', g4, fun b hb => ?_⟩
    obtain ⟨q1, q2, q3, q4⟩ := g5 b hb
    exact ⟨q1, q2, by show M' b = _; rw [hM' b fun e => hno b e (.inr ⟨id, _, l, hg, g1, hb⟩)]; exact q3, q4⟩
  · exact hr.ggen
end Go.Ab
namespace Go.Ab
open Go.RowKit
theorem WeakJ.comm {J1 J2 : Sec} {σ : AS} (o1 : SecOk J1) (o2 : SecOk J2) : WeakJ (J1.sep J2) σ (J2.sep J1) σ := WeakJ.same (Sec.sep_ok o2 o1) fun T F w M h => Sec.sep_comm h
theorem OpJ.frameR {P : Program} {F0 : Nat → Prop} {w0 : World} {M0 : MT} {J1 J2 : Sec} {σ : AS} {o : Oper} {R : Sec → AS → Prop} (o1 : SecOk J1) (o2 : SecOk J2) (h : ∀ E u N, OpJ P E u N J2 σ o R) :
    OpJ P F0 w0 M0 (J1.sep J2) σ o (fun J' σ' => ∃ J2', R J2' σ' ∧ SecOk J2' ∧ J' = J1.sep J2') := by
  intro a w hr K Q hK
  refine OpJ.frame o2 o1 (R := fun J' σ' => R J' σ' ∧ SecOk J') (fun E u N => ?_) a w (WeakJ.comm o1 o2 _ _ _ _ _ hr) K Q fun J' σ' a' w' ⟨J2', ⟨hR, hok⟩, hJ⟩ hr' => ?_
  · intro a w hr K Q hK
    exact h E u N a w hr K Q fun J' σ' a' w' hR hr' => hK J' σ' a' w' ⟨hR, by obtain ⟨x, T, F, hx⟩ := hr'; exact hx.ok⟩ hr'
  · subst hJ
    exact hK _ σ' a' w' ⟨J2', hR, hok, rfl⟩ (WeakJ.comm hok o1 _ _ _ _ _ hr')
theorem WeakJ.dropL {J1 J2 : Sec} {σ : AS} (o1 : SecOk J1) (o2 : SecOk J2) : WeakJ (J1.sep J2) σ J2 σ := WeakJ.trans (WeakJ.comm o1 o2) (WeakJ.drop o2)
end Go.Ab
set_option linter.unusedVariables false
set_option linter.unusedSimpArgs false
namespace Go.Ab
open Go.RowKit
def adr (b : Nat) : Value := .pointer (some ⟨b, 0, none⟩)
theorem AWPJ.someW {P : Program} {F0 : Nat → Prop} {w0 : World} {M0 : MT} {Q : Exit → Sec → AS → Prop} {J : Sec} {σ : AS} {c : Code} {ι : Type} {Js : ι → Sec} {σs : ι → AS} (hw : ∀ F0 w0 M0 a w, RelJ F0 J w0 M0 σ a w → ∃ i, RelJ F0 (Js i) w0 M0 (σs i) a w) (h : ∀ i, AWPJ P F0 w0 M0 c Q (Js i) (σs i)) : AWPJ P F0 w0 M0 c Q J σ := fun a w hr => by
  obtain ⟨i, hi⟩ := hw _ _ _ _ _ hr
  exact h i a w hi
theorem RelW.var {w0 : World} {M0 : MT} {σ : AS} {a : Act} {w : World} {x : Wit} (h : RelW w0 M0 σ a w x) {id : OId} {cs : List AV} (hv : σ.va id = some cs) :
    ∃ b, x.V id = some b ∧ Mine w0 M0 b ∧ x.M b = some 0 ∧ b < w.heap.size ∧ Cells w x.M x.V x.G b 0 cs := by
  obtain ⟨b, vs, ty, h1, h2, h3, h4, h5, h6, h7⟩ := h.va id cs hv
  exact ⟨b, h1, h2, h4, lt_of_cells h5, fun j c hj => by
    obtain ⟨v, g1, g2, g3⟩ := h7 j c hj
    exact ⟨v, by simp [World.cell?, h5, g1], g2, g3⟩⟩
theorem RelX.settle {w0 : World} {M0 : MT} {σ : AS} {a : Act} {w : World} {x : Wit} {F0 T F : Nat → Prop} {J J' : Sec} (h : RelX F0 J w0 M0 σ a w x T F) (bs : List Nat) (hbs : ∀ b ∈ bs, Mine w0 M0 b ∧ b < w.heap.size ∧ x.M b = some 0 ∧ ¬ F b) {T' : Nat → Prop} (tms : List (Nat × AV)) (htm : ∀ p ∈ tms, p.2.plain = true ∧ VR w x.M noV noG p.2 (a.tmps.getD p.1 undef))
    (hT' : ∀ b, T' b → T b ∨ (∃ b' ∈ bs, b = b')) (ok' : SecOk J')
    (hJ' : ∀ M', (∀ b, b ∉ bs → M' b = x.M b) → (∀ b ∈ bs, (T' b → M' b = some 0) ∧ (¬ T' b → M' b = none)) → (∀ b off u, Imm w x.M b off u → Imm w M' b off u) → J' T' (fun b => F b ∨ (b < w.heap.size ∧ M' b ≠ some 0) ∨ b ∈ bs) w M') (hTT : True) :
    RelJ F0 J' w0 M0 (AS.mk' σ.n tms [] [] []) a w := by
  classical
  let M' : Nat → Option Nat := fun b => if b ∈ bs then (if T' b then some 0 else none) else x.M b
  have hM1 : ∀ b, b ∉ bs → M' b = x.M b := fun b hb => if_neg hb
  have hM2 : ∀ b ∈ bs, (T' b → M' b = some 0) ∧ (¬ T' b → M' b = none) := fun b hb => by
    have e : M' b = if T' b then some 0 else none := if_pos hb
    exact ⟨fun h => by rw [e, if_pos h], fun h => by rw [e, if_neg h]⟩
  have himm : ∀ b off u, Imm w x.M b off u → Imm w M' b off u := fun b off u hi => by
    have hb : b ∉ bs := fun hb => absurd (hi.2.2 0 (hbs b hb).2.2.1) (by omega)
    exact ⟨hi.1, hi.2.1, by rw [hM1 b hb]; exact hi.2.2⟩
  have hr := h.rel
  refine ⟨⟨M', fun id => if σ.n ≤ id.1 ∧ id.2 = 0 then x.V id else none, noG, fun _ => none⟩, T', fun b => F b ∨ (b < w.heap.size ∧ M' b ≠ some 0) ∨ b ∈ bs, ?_⟩
  constructor
  · constructor
    · exact hr.below
    · exact hr.defers
    · exact hr.size
    · intro i
      show VR _ _ _ _ ((lk tms i).getD .any) _
      cases hl : lk tms i with
      | none => exact .any _
      | some v =>
        obtain ⟨k1, k2⟩ := htm _ (lk_mem tms i v hl)
        exact k2.plain k1 _ _ _ _
    · intro b hb ht
      show M' b = M0.m b
      rw [hM1 b fun hm => (hbs b hm).1.ne hb ht rfl]
      exact hr.m0 b hb ht
    · intro b hb
      refine ⟨?_, rfl⟩
      show M' b = none
      rw [hM1 b fun hm => by have := (hbs b hm).2.1; omega]
      exact (hr.mlt b hb).1
    · intro d g hg
      change genM σ.n [] d ≤ g at hg
      refine ⟨?_, rfl⟩
      show (if _ then _ else _) = none
      rw [if_neg]
      rintro ⟨h1, h2⟩
      have h2 : g = 0 := h2
      have : genM σ.n [] d = 1 := by unfold genM; rw [Nat.ble_eq_true_of_le h1]; rfl
      omega
    · intro id b hid
      obtain ⟨q1, q2, q3, q4⟩ := hr.lent id b hid
      refine ⟨q1, q2, ?_, ?_⟩
      · show 0 < genM σ.n [] id.1
        have : genM σ.n [] id.1 = 1 := by unfold genM; rw [Nat.ble_eq_true_of_le q1]; rfl
        omega
      · show (if _ then _ else _) = _
        rw [if_pos ⟨q1, q2⟩]; exact q4
    · intro id cs hv; cases hv
    · intro d g cs hv; cases hv
    · intro id n z e hg; cases hg
    · intro d g nz hg; cases hg
  · exact hJ' M' hM1 hM2 himm
  · exact ok'
  · exact h.tf
  · intro b hb
    rcases hT' b hb with q | ⟨b', q1, q2⟩
    · exact h.t b q
    · subst q2; exact (hbs b q1).1
  · intro b hb
    rcases hb with q | q | q
    · exact h.lt b q
    · exact q.1
    · exact (hbs b q).2.1
  · intro b hb ho
    rcases ho with ⟨id, cs, h1, _⟩ | ⟨id, t, l, h1, _⟩
    · cases h1
    · cases h1
  · intro b hb
    have mine : Mine w0 M0 b → F0 b ∨ w0.heap.size ≤ b ∨ M0.m b ≠ some 0 := fun hm => hm.elim (fun q => .inr (.inl q)) fun q => .inl (h.tf b q)
    rcases hb with q | q | q
    · exact h.f0 b q
    · by_cases hm : b ∈ bs
      · exact mine (hbs b hm).1
      · by_cases hlt : b < w0.heap.size
        · cases ht : M0.t b with
          | true => exact .inl (h.tf b ht)
          | false =>
            refine .inr (.inr ?_)
            rw [← hr.m0 b hlt ht, ← hM1 b hm]; exact q.2
        · exact .inr (.inl (by omega))
    · exact mine (hbs b q).1
theorem VR.clo_ref1 {w : World} {M : Nat → Option Nat} {V : OId → Option Nat} {G : OId → Option GL} {f : FuncId} {id : OId} {b : Nat} {v : Value} (h : VR w M V G (.clo f [.ref id 0]) v) (hb : V id = some b) : v = .func (.func f) #[] #[adr b] := by
  cases h with
  | clo _ _ vs hl hh =>
    match vs, hl with
    | [v1], _ =>
      have h1 := hh 0 _ _ rfl rfl
      cases h1 with
      | ref _ _ b' hb' => cases hb'.symm.trans hb; rfl
theorem VR.clo_ref3 {w : World} {M : Nat → Option Nat} {V : OId → Option Nat} {G : OId → Option GL} {f : FuncId} {i1 i2 i3 : OId} {b1 b2 b3 : Nat} {v : Value} (h : VR w M V G (.clo f [.ref i1 0, .ref i2 0, .ref i3 0]) v) (h1 : V i1 = some b1) (h2 : V i2 = some b2) (h3 : V i3 = some b3) : v = .func (.func f) #[] #[adr b1, adr b2, adr b3] := by
  cases h with
  | clo _ _ vs hl hh =>
    match vs, hl with
    | [v1, v2, v3], _ =>
      have k1 := hh 0 _ _ rfl rfl
      have k2 := hh 1 _ _ rfl rfl
      have k3 := hh 2 _ _ rfl rfl
      cases k1 with
      | ref _ _ c1 q1 =>
        cases k2 with
        | ref _ _ c2 q2 =>
          cases k3 with
          | ref _ _ c3 q3 =>
            cases q1.symm.trans h1; cases q2.symm.trans h2; cases q3.symm.trans h3; rfl
theorem VR.clo_ref4 {w : World} {M : Nat → Option Nat} {V : OId → Option Nat} {G : OId → Option GL} {f : FuncId} {i1 i2 i3 i4 : OId} {b1 b2 b3 b4 : Nat} {v : Value} (h : VR w M V G (.clo f [.ref i1 0, .ref i2 0, .ref i3 0, .ref i4 0]) v) (h1 : V i1 = some b1) (h2 : V i2 = some b2) (h3 : V i3 = some b3) (h4 : V i4 = some b4) : v = .func (.func f) #[] #[adr b1, adr b2, adr b3, adr b4] := by
  cases h with
  | clo _ _ vs hl hh =>
    match vs, hl with
    | [v1, v2, v3, v4], _ =>
      have k1 := hh 0 _ _ rfl rfl
      have k2 := hh 1 _ _ rfl rfl
      have k3 := hh 2 _ _ rfl rfl
      have k4 := hh 3 _ _ rfl rfl
      cases k1 with
      | ref _ _ c1 q1 =>
        cases k2 with
        | ref _ _ c2 q2 =>
          cases k3 with
          | ref _ _ c3 q3 =>
            cases k4 with
            | ref _ _ c4 q4 =>
              cases q1.symm.trans h1; cases q2.symm.trans h2; cases q3.symm.trans h3; cases q4.symm.trans h4; rfl
theorem rd_of {w : World} {M M' : Nat → Option Nat} {V : OId → Option Nat} {G : OId → Option GL} {F : Nat → Prop} {b : Nat} {cs cs' : List AV} (hc : Cells w M V G b 0 cs) (hcl : AV.close.closeL cs = some cs') (hF : F b) (hM : M' b = none) (himm : ∀ b off u, Imm w M b off u → Imm w (inF F M') b off u) : VR w (inF F M') noV noG (.rd cs') (adr b) := by
  obtain ⟨hl, hg⟩ := closeL_get _ _ hcl
  have hcell : ∀ (j : Nat) c, cs'[j]? = some c → ∃ v, w.cell? ⟨b, 0 + j, none⟩ = some v ∧ v.oneCell' = true ∧ VR w (inF F M') noV noG c v := fun j c hj => by
    have hlt : j < cs.length := by rw [hl]; exact (List.getElem?_eq_some_iff.1 hj).1
    obtain ⟨v, g1, g2, g3⟩ := hc j _ (List.getElem?_eq_getElem hlt)
    exact ⟨v, g1, g2, (g3.closed c (hg j _ c (List.getElem?_eq_getElem hlt) hj) noV noG).monoI rfl himm⟩
  refine VR.rd cs' b 0 (fun j => (w.cell? ⟨b, 0 + j, none⟩).getD undef) (fun j c hj => ?_) (fun j c hj => ?_)
  · obtain ⟨v, g1, g2, g3⟩ := hcell j c hj
    rw [g1]
    exact inF_imm.2 ⟨hF, g1, g2, fun m hm => by rw [hM] at hm; cases hm⟩
  · obtain ⟨v, g1, g2, g3⟩ := hcell j c hj
    rw [g1]; exact g3
end Go.Ab
set_option linter.unusedVariables false
set_option linter.unusedSimpArgs false
namespace Go.Ab
open Go.RowKit
def Jvar (b : Nat) (u : Value) : Sec := fun T F w M => (∀ k, T k ↔ k = b) ∧ F b ∧ M b = some 0 ∧ ∃ vs ty, w.heap[b]? = some (.cells vs ty (0, 0)) ∧ vs[0]? = some u
theorem Jvar_ok {b : Nat} {u : Value} : SecOk (Jvar b u) where
  stab := fun ⟨h1, h2, h3, vs, ty, h4, h5⟩ h => ⟨h1, h2, (h b h2).2.trans h3, vs, ty, (h b h2).1.trans h4, h5⟩
  sub := fun ⟨h1, h2, _⟩ k hk => by rw [(h1 k).1 hk]; exact h2
  hid := fun ⟨h1, _, h3, _⟩ k hk => by rw [(h1 k).1 hk]; exact h3
theorem Jvar_cells {b : Nat} {u : Value} {T F w M} (h : Jvar b u T F w M) (h1 : u.oneCell' = true) : ∀ (j : Nat) c, ([.sc u] : List AV)[j]? = some c → ∃ v, w.cell? ⟨b, 0 + j, none⟩ = some v ∧ v.oneCell' = true ∧ VR w M noV noG c v := by
  intro j c hj
  obtain ⟨_, _, _, vs, ty, h4, h5⟩ := h
  rcases j with _ | j
  · simp at hj; subst hj; exact ⟨u, by simp [World.cell?, h4, h5], h1, .sc _⟩
  · simp at hj
theorem rdA_cells {w : World} {M : Nat → Option Nat} {b : Nat} {cs : List AV} (h : VR w M noV noG (.rd cs) (adr b)) : ∀ (j : Nat) c, cs[j]? = some c → ∃ v, w.cell? ⟨b, 0 + j, none⟩ = some v ∧ v.oneCell' = true ∧ VR w M noV noG c v := by
  generalize hu : adr b = u at h
  cases h with
  | rd _ b' off X hc hv =>
    cases hu
    intro j c hj
    exact ⟨X j, (hc j c hj).1, (hc j c hj).2.1, hv j c hj⟩
section
variable {P : Program} {F0 : Nat → Prop} {w0 : World} {M0 : MT} {σ : AS} {ty : TypeId} {pos : String} {after : Array Edge} {guard : Option (Nat × Bool)}
theorem o_storeVar {t : TypeId} {d : Option Tmp} {b : Nat} {u u' : Value} (x y : Operand) (hx : exact (σ.ev x) = some (.pointer (some ⟨b, 0, none⟩))) (hy : exact (σ.ev y) = some u') (hs : ∀ w, (sizeOf t).run P w = .ok 1 w) (h1 : u'.oneCell' = true) (hd : okDB σ d = true) :
    OpJ P F0 w0 M0 (Jvar b u) σ ⟨d, .store t x y, ty, pos, after, guard⟩ (fun J1 σ' => J1 = Jvar b u' ∧ σ' = σ.put d (.sc undef)) :=
  OpJ.of_skip (S := fun J1 => J1 = Jvar b u') hd fun a w X T F hr => by
    have hcv := (hr.rel.ev x).exact _ hx
    have hyv := (hr.rel.ev y).exact _ hy
    have hp := hr.postRefl
    obtain ⟨g1, g2, g3, cur, tyb, hg, h5⟩ := hp.sec
    have hT : T b := (g1 b).2 rfl
    have hfit : 0 < cur.size := (Array.getElem?_eq_some_iff.1 h5).1
    have hcu : u'.cells = #[u'] := by cases u' <;> simp_all [Value.cells, Value.oneCell']
    have hst := run_storeCells_at P b 0 tyb [u'] 0 cur w hg (by simp; omega) (fun v hv => by simp at hv; subst hv; exact h1)
    have hrow : (cur.toList.take 0 ++ [u'] ++ cur.toList.drop (0 + 1)).toArray = cur.set 0 u' hfit := by
      apply Array.ext'
      simp only [Array.toList_set, List.set_eq_take_append_cons_drop, Array.length_toList, hfit, if_true]
      simp
    have hst2 : (storeCells ⟨b, 0, none⟩ [u']).run P w = .ok () (w.setRow b (cur.set 0 u' hfit)) := by
      simp only [Nat.add_zero] at hst
      rw [← hrow]
      exact hst
    refine ⟨w.setRow b (cur.set 0 u' hfit), _, T, F, cutM σ X, ?_, rfl, ?_⟩
    · simp [execOp, hcv, hyv, Instr.storeAt, Instr.sureAddr, storeVar, hs, Result.andThen, hcu, hst2]
    · exact ⟨Jvar_ok, ⟨g1, g2, g3, _, tyb, setRow_heap w b cur _ tyb _ hg, by simp [hfit]⟩, rfl, rfl, rfl, by rw [setRow_size]; exact Nat.le_refl _, fun k hk hT' => setRow_other w b k _ (fun e => hT' (e ▸ hT)), fun k m hs => hs.row fun m hm => by have := hm.cells hg; simpa using this, fun _ h => .inl h, fun b' hb => by rw [setRow_size]; exact hr.lt b' hb, fun _ h => .inl h, fun _ _ _ => rfl, fun b' hb => hr.cutTop b' (by rw [setRow_size] at hb; exact hb)⟩
end
end Go.Ab
