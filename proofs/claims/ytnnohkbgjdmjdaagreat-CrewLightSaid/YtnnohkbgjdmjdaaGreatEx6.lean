/- Operations that look at values alone, second part. Nothing here speaks of one program. -/
import Derived.Test.YtnnohkbgjdmjdaaGreatEx5
set_option linter.unusedVariables false
set_option linter.unusedSimpArgs false
namespace Go.Ex

theorem foldl_set (off : Nat) : ∀ (l : List Value) (s : Nat) (cells : Array Value),
    ((l.zipIdx s).foldl (fun cs (c : Value × Nat) => cs.setIfInBounds (off + c.2) c.1) cells).size = cells.size ∧
    ∀ k, ((l.zipIdx s).foldl (fun cs (c : Value × Nat) => cs.setIfInBounds (off + c.2) c.1) cells)[k]? =
      if off + s ≤ k ∧ k < off + s + l.length ∧ k < cells.size then l[k - off - s]? else cells[k]? := by
  intro l
  induction l with
  | nil => intro s cells; refine ⟨rfl, fun k => ?_⟩; rw [if_neg (by simp; omega)]; rfl
  | cons v l ih =>
    intro s cells
    simp only [List.zipIdx_cons, List.foldl_cons]
    obtain ⟨h1, h2⟩ := ih (s + 1) (cells.setIfInBounds (off + s) v)
    refine ⟨by rw [h1]; simp, fun k => ?_⟩
    rw [h2]
    simp only [Array.size_setIfInBounds, List.length_cons, Array.getElem?_setIfInBounds]
    by_cases c1 : k = off + s
    · subst c1
      rw [if_neg (by omega), if_pos rfl]
      by_cases c2 : off + s < cells.size
      · rw [if_pos c2, if_pos (by omega)]
        have : off + s - off - s = 0 := by omega
        rw [this]; rfl
      · rw [if_neg c2, if_neg (by omega)]
        rw [Array.getElem?_eq_none (by omega)]
    · rw [if_neg (fun h : off + s = k => c1 h.symm)]
      by_cases c3 : off + (s + 1) ≤ k ∧ k < off + (s + 1) + l.length ∧ k < cells.size
      · rw [if_pos c3, if_pos (by omega)]
        obtain ⟨q, hq⟩ : ∃ q, k - off - s = q + 1 := ⟨k - off - s - 1, by omega⟩
        rw [hq, List.getElem?_cons_succ]
        congr 1
        omega
      · rw [if_neg c3, if_neg (by omega)]

/-- What writes a part's cells. -/
theorem foldl_put (off : Nat) (v : Array Value) (cells : Array Value) (h : off + v.size ≤ cells.size) :
    (v.zipIdx.foldl (fun cs (c : Value × Nat) => cs.setIfInBounds (off + c.2) c.1) cells).toList = cells.toList.take off ++ v.toList ++ cells.toList.drop (off + v.size) := by
  rw [← Array.foldl_toList]
  have hz : v.zipIdx.toList = v.toList.zipIdx 0 := by simp
  rw [hz]
  obtain ⟨h1, h2⟩ := foldl_set off v.toList 0 cells
  apply List.ext_getElem?
  intro k
  rw [Array.getElem?_toList, h2 k]
  simp only [Array.length_toList, List.getElem?_append, List.length_append, List.length_take, List.getElem?_take, List.getElem?_drop, Array.getElem?_toList]
  have hm : min off cells.size = off := by omega
  simp only [hm]
  by_cases c1 : k < off
  · rw [if_neg (by omega), if_pos (by omega), if_pos c1, if_pos c1]
  · by_cases c2 : k < off + v.size
    · rw [if_pos (by omega), if_pos c2, if_neg c1]; simp
    · rw [if_neg (by omega), if_neg c2]; congr 1; omega

theorem beq_ff {i d : Nat} (h : i ≠ d) : Nat.beq i d = false := by
  cases hb : Nat.beq i d with
  | false => rfl
  | true => exact absurd (Nat.eq_of_beq_eq_true hb) h
section
variable {φ : Pl} {t : T X} {a : Act} {P : Program} {tab : Tab} {dst : Option Tmp} {type : TypeId} {pos : String} {after : Array Edge} {guard : Option (Nat × Bool)}

theorem inCells_ok {x : X} {l : List X} (h : inCells x = some l) {v : Value} (hv : VR φ x v) : CR φ l v.cells.toList := by
  have one : ∀ {x v}, VR φ x v → (∀ cs, x ≠ .agg cs) → (∀ cs, x ≠ .tup cs) → CR φ [x] v.cells.toList := fun {x v} hv h1 h2 => by
    cases hv with
    | agg cs => exact absurd rfl (h1 cs)
    | tup cs => exact absurd rfl (h2 cs)
    | _ => refine ⟨VRL.nil.cons (by constructor <;> assumption), fun u hu => ?_⟩; simp [Value.cells] at hu; subst hu; rfl
  unfold inCells at h
  split at h
  · cases h
    obtain ⟨vs, h1, h2⟩ := inv_agg hv
    subst h2
    simpa [Value.cells] using h1
  · cases h
  · rename_i h1 h2
    cases h
    exact one hv h1 h2

theorem lput_ok {cs new cs' : List X} {off : Nat} (h : lput cs off new = some cs') {vs nv : List Value} (hc : CR φ cs vs) (hn : CR φ new nv) :
    off + nv.length ≤ vs.length ∧ CR φ cs' (vs.take off ++ nv ++ vs.drop (off + nv.length)) := by
  unfold lput at h
  cases hb : Nat.ble (off + new.length) cs.length with
  | false => rw [hb] at h; cases h
  | true =>
    rw [hb] at h
    cases h
    have := Nat.le_of_ble_eq_true hb
    rw [hn.1.1, hc.1.1] at this
    refine ⟨this, ((hc.take off).append hn).append ?_⟩
    rw [hn.1.1]; exact hc.drop _

theorem fill_ok (h : TmR φ t a) {place place' : Nat → Option (Nat × Nat)} : ∀ {parts : List (Nat × Operand)} {ps : List (Nat × Nat × D)} {cs cs' : List X} {vs : Array Value},
    (∀ i q, place i = some q → place' i = some q) → cPs place parts = some ps → fillX t ps cs = some cs' → CR φ cs vs.toList →
    ∃ vs', Instr.fill place' vs (parts.map fun p => (p.1, a.eval p.2)) = some vs' ∧ CR φ cs' vs'.toList := by
  intro parts
  induction parts with
  | nil =>
    intro ps cs cs' vs _ hc hf hv
    simp [cPs] at hc; subst hc
    simp [fillX] at hf; subst hf
    exact ⟨vs, rfl, hv⟩
  | cons p parts ih =>
    intro ps cs cs' vs hpl hc hf hv
    obtain ⟨i, o⟩ := p
    unfold cPs at hc
    split at hc
    · rename_i off size d l h1 h2 h3
      cases hc
      unfold fillX at hf
      split at hf
      · cases hf
      · rename_i x h4
        split at hf
        · cases hf
        · rename_i xc h5
          have hx := inCells_ok h5 (ev_ok h h2 h4)
          cases hb : Nat.beq xc.length size with
          | false => rw [hb] at hf; cases hf
          | true =>
            rw [hb] at hf
            have hsz := Nat.eq_of_beq_eq_true hb
            simp only [cond_true] at hf
            split at hf
            · cases hf
            · rename_i cs1 h6
              obtain ⟨g1, g2⟩ := lput_ok h6 hv hx
              have hlen : (a.eval o).cells.size = size := by rw [← hsz, hx.1.1, Array.length_toList]
              rw [Array.length_toList, Array.length_toList] at g1
              rw [Array.length_toList] at g2
              rw [← foldl_put off _ _ g1] at g2
              obtain ⟨vs', g3, g4⟩ := ih hpl h3 hf g2
              refine ⟨vs', ?_, g4⟩
              simp only [List.map_cons, Instr.fill, hpl i _ h1]
              rw [if_neg (by simp only [ne_eq, hlen, not_true_eq_false, decide_false, Bool.false_or, decide_eq_true_eq, Nat.not_lt, gt_iff_lt]; omega)]
              exact g3
    · cases hc

theorem run_places (ht : TabOk P tab) (w : World) : ∀ (fs : List Field), allTy tab (fs.map fun f => (f.offset, f.type)) = true →
    ∃ l : List (Nat × Nat), (fs.mapM fun f => do pure (f.offset, ← sizeOf f.type) : Sem (List (Nat × Nat))).run P w = .ok l w ∧
      ∀ i q, place tab (fs.map fun f => (f.offset, f.type)) i = some q → l[i]? = some q := by
  intro fs
  induction fs with
  | nil => intro _; exact ⟨[], rfl, fun i q h => by simp [place] at h⟩
  | cons f fs ih =>
    intro hall
    simp only [List.map_cons, allTy, Bool.and_eq_true] at hall
    obtain ⟨l, h1, h2⟩ := ih hall.2
    have hf := hall.1
    split at hf
    · rename_i ti h3
      obtain ⟨i0, u0, ht0⟩ := ty_ok ht h3
      refine ⟨(f.offset, ti.size) :: l, ?_, fun i q hq => ?_⟩
      · rw [List.mapM_cons]
        simp only [Sem.run_bind, ht0.size, h1, Result.andThen_ok, Sem.run_pure]
      · cases i with
        | zero => simp [place, h3] at hq; subst hq; rfl
        | succ i => simp [place] at hq ⊢; exact h2 i q (by simpa [place] using hq)
    · cases hf

theorem build_ok (h : TmR φ t a) (ht : TabOk P tab) {e : TypeId} {parts : Array (Nat × Operand)} {zs : List X} {ps : List (Nat × Nat × D)} {r : X}
    (hc : cBuild tab e parts.toList = some (.p (.build zs ps))) (hr : rBuild zs ps t = some r) : Pure P φ a ⟨dst, .build e parts, type, pos, after, guard⟩ r := fun w => by
  unfold rBuild at hr
  split at hr
  · cases hr
  · rename_i cs hfill
    cases hr
    have hmap : (parts.map fun p => (p.1, a.eval p.2)).toList = parts.toList.map fun p => (p.1, a.eval p.2) := by simp
    unfold cBuild at hc
    split at hc
    · rename_i fs zs' zvv he
      split at hc
      · rename_i l hps
        cases hall : allTy tab fs with
        | false => rw [hall] at hc; cases hc
        | true =>
          rw [hall] at hc
          cases hc
          obtain ⟨i, u, hti⟩ := ty_ok ht he
          obtain ⟨fa, g1, g2⟩ := kind_struct (congrArg TI.kind hti.eq).symm
          obtain ⟨zv, _, hz2, hz3⟩ := hti.zero (zs := zs) rfl
          have hu := hti.under
          rw [g1] at hu
          subst g2
          obtain ⟨l, hl1, hl2⟩ := run_places (P := P) ht w fa.toList hall
          obtain ⟨vs', k1, k2⟩ := fill_ok h (place' := fun i => l.toArray[i]?) (fun i q hq => by simpa using hl2 i q hq) hps hfill (hz2 φ)
          have hl1' : (fa.mapM fun f => do pure (f.offset, ← sizeOf f.type) : Sem (Array (Nat × Nat))).run P w = .ok l.toArray w := by
            rw [Array.mapM_eq_mapM_toList]
            simp only [Sem.run_map, hl1]
            rfl
          refine ⟨.agg vs', ?_, by have := VR.agg' k2; simpa using this⟩
          simp only [execOp]
          refine run_value ?_
          simp only [Instr.build, Sem.run_bind, hz3, Result.andThen_ok, run_underlying' hu, hl1', hmap, k1, Sem.run_pure]
      · cases hc
    · rename_i n el zs' zvv he
      split at hc
      · rename_i ei hel
        split at hc
        · rename_i l hps
          cases hc
          obtain ⟨i, u, hti⟩ := ty_ok ht he
          obtain ⟨i2, u2, ht2⟩ := ty_ok ht hel
          obtain ⟨zv, _, hz2, hz3⟩ := hti.zero (zs := zs) rfl
          have hu := hti.under
          rw [kind_array (congrArg TI.kind hti.eq).symm] at hu
          obtain ⟨vs', k1, k2⟩ := fill_ok h (place' := fun i => some (i * ei.size, ei.size)) (fun i q hq => hq) hps hfill (hz2 φ)
          refine ⟨.agg vs', ?_, by have := VR.agg' k2; simpa using this⟩
          simp only [execOp]
          refine run_value ?_
          simp only [Instr.build, Sem.run_bind, hz3, Result.andThen_ok, run_underlying' hu, ht2.size, hmap, k1, Sem.run_pure]
        · cases hc
      · cases hc
    · cases hc

theorem lgetL_ok {cs l : List X} {off n : Nat} (h : lgetL cs off n = some l) {vs : List Value} (hc : CR φ cs vs) : off + n ≤ vs.length ∧ CR φ l ((vs.drop off).take n) := by
  unfold lgetL at h
  cases hb : Nat.ble (off + n) cs.length with
  | false => rw [hb] at h; cases h
  | true =>
    rw [hb] at h
    cases h
    have := Nat.le_of_ble_eq_true hb
    rw [hc.1.1] at this
    exact ⟨this, (hc.drop off).take n⟩

theorem part_ok {e : TypeId} {ti : TI} {i u} (hti : TyR P e ti i u) {o : Nat} {cs : List X} {r : X} (hr : partX ti.agg o ti.size cs = some r) {vs : List Value} (hc : CR φ cs vs) (w : World) :
    ∃ v, (part e vs.toArray o).run P w = .ok v w ∧ VR φ r v := by
  unfold partX at hr
  split at hr
  · rename_i hag
    split at hr
    · rename_i l hl
      cases hr
      obtain ⟨h1, h2⟩ := lgetL_ok hl hc
      refine ⟨.agg ((vs.drop o).take ti.size).toArray, ?_, VR.agg' h2⟩
      have ha := hti.isAgg w
      rw [hag] at ha
      simp only [part, Sem.run_bind, ha, hti.size, Result.andThen, if_true, Sem.run_pure]
      congr 2
      apply Array.ext'
      simp [List.extract_eq_take_drop]
    · cases hr
  · rename_i hag
    have ha := hti.isAgg w
    rw [hag] at ha
    have hlt : o < vs.length := by rw [← hc.1.1]; exact (List.getElem?_eq_some_iff.1 hr).1
    exact ⟨vs[o], by simp [part, ha, Result.andThen, hlt], hc.1.2 o r _ hr (List.getElem?_eq_getElem hlt)⟩

theorem fld_ok (h : TmR φ t a) (ht : TabOk P tab) {x : Operand} {d : D} {r : X} {e : TypeId} {f o : Nat} {ft : TypeId} {fi : TI} {fs : List (Nat × TypeId)} {z1 z2 z3 z4 z5} (he : ty tab e = some ⟨z1, z2, z3, .struct fs, z4, z5⟩) (hp : fs[f]? = some (o, ft)) (hft : ty tab ft = some fi)
    (hc : cD x = some d) (hr : rFld fi.agg o fi.size d t = some r) : Pure P φ a ⟨dst, .field e x f, type, pos, after, guard⟩ r := fun w => by
  unfold rFld at hr
  split at hr
  · rename_i cs h1
    obtain ⟨vs, h2, h3⟩ := inv_agg (ev_ok h hc h1)
    obtain ⟨i, u, hti⟩ := ty_ok ht he
    obtain ⟨fa, g1, g2⟩ := kind_struct (congrArg TI.kind hti.eq).symm
    have hu := hti.under
    rw [g1] at hu
    obtain ⟨i2, u2, ht2⟩ := ty_ok ht hft
    rw [g2, List.getElem?_map, Option.map_eq_some_iff] at hp
    obtain ⟨fd, h6, h7⟩ := hp
    cases h7
    have h6' : fa[f]? = some fd := by simpa using h6
    obtain ⟨v, k1, k2⟩ := part_ok ht2 hr h2 w
    refine ⟨v, ?_, k2⟩
    simp only [execOp, h3]
    exact run_value (by simp [Instr.field, run_underlying' hu, h6', asAgg, Result.andThen, k1])
  · cases hr

theorem bnd_ok (h : TmR φ t a) {o : Option Operand} {d : Option D} {n dflt : Nat} (hc : cDO o = some d) (hb : bnd t d dflt = some n) :
    (o = none ∧ n = dflt) ∨ ∃ x k, o = some x ∧ a.eval x = .int k n := by
  cases o with
  | none =>
    simp [cDO] at hc; subst hc
    simp [bnd] at hb; exact .inl ⟨rfl, hb.symm⟩
  | some x =>
    simp only [cDO] at hc
    split at hc
    · rename_i d' h1
      cases hc
      simp only [bnd] at hb
      split at hb
      · rename_i y h2
        obtain ⟨k, h3⟩ := asI_ok hb (ev_ok h h1 h2)
        exact .inr ⟨x, k, rfl, h3⟩
      · cases hb
    · cases hc
theorem run_bound {k : IntKind} {n y : Nat} (hn : n ≤ y) (code : BoundsCode) (w : World) : (Instr.sliceBound (.int k n) y code).run P w = .ok n w := by
  have : (n : Int) ≤ y := by omega
  simp [Instr.sliceBound, asIntOf, this, hn]

theorem slS_ok (h : TmR φ t a) (ht : TabOk P tab) {x : Operand} {lo hi mx : Option Operand} {d : D} {dl dh dm : Option D} {r : X} {e el : TypeId} {ei : TI} {z1 z2 z3 z4 z5} (he : ty tab e = some ⟨z1, z2, z3, .slice el, z4, z5⟩) (hel : ty tab el = some ei)
    (hc : cD x = some d) (hl : cDO lo = some dl) (hh : cDO hi = some dh) (hm : cDO mx = some dm) (hr : rSlS ei.size d dl dh dm t = some r) :
    Pure P φ a ⟨dst, .slice e x lo hi mx, type, pos, after, guard⟩ r := fun w => by
  obtain ⟨i, u, hti⟩ := ty_ok ht he
  have hu := hti.under
  rw [kind_slice (congrArg TI.kind hti.eq).symm] at hu
  obtain ⟨i2, u2, ht2⟩ := ty_ok ht hel
  unfold rSlS at hr
  split at hr
  · rename_i id off len cap z hx
    obtain ⟨b, s, c, h1, h2, h3, h4, h5, h6⟩ := inv_sl (ev_ok h hc hx)
    split at hr
    · rename_i l hh' hbl hbh
      have hlo := bnd_ok h hl hbl
      have hhi := bnd_ok h hh hbh
      split at hr
      · -- two bounds
        have hmx : mx = none := by
          cases mx with
          | none => rfl
          | some o => simp only [cDO] at hm; split at hm <;> cases hm
        subst hmx
        unfold slX at hr
        simp only at hr
        cases hb : Nat.ble hh' cap && Nat.ble l hh' with
        | false => rw [hb] at hr; cases hr
        | true =>
          rw [hb] at hr
          simp only [cond_true] at hr
          simp only [Bool.and_eq_true] at hb
          have hb1 := Nat.le_of_ble_eq_true hb.1
          have hb2 := Nat.le_of_ble_eq_true hb.2
          have hB : (Instr.sliceBounds true len c (lo.map a.eval) (hi.map a.eval) none).run P w = .ok (l, hh', c) w := by
            rcases hlo with ⟨rfl, rfl⟩ | ⟨o, k, rfl, ho⟩ <;> rcases hhi with ⟨rfl, rfl⟩ | ⟨o', k', rfl, ho'⟩ <;>
              simp_all [Instr.sliceBounds, run_bound, Result.andThen, Nat.le_trans hb1 h4]
          have hrun : (execOp a.eval ⟨dst, .slice e x lo hi none, type, pos, after, guard⟩).run P w =
              .ok (.value (.slice (some (if c = l then ⟨b, off, none⟩ else ⟨b, off + l * ei.size, none⟩)) (hh' - l) (c - l))) w := by
            simp only [execOp, h2]
            refine run_value ?_
            have : ∀ (q : Prop) [Decidable q], (if q then some (⟨b, off, none⟩ : Addr) else (some (⟨b, off, none⟩ : Addr)).map (·.add (l * ei.size))) = some (if q then ⟨b, off, none⟩ else ⟨b, off + l * ei.size, none⟩) := fun q _ => by
              split <;> simp [addr_add]
            simp only [Option.map_none, Instr.sliceAt, Sem.run_bind, run_underlying' hu, Result.andThen_ok, Instr.slice, hB, ht2.size, this, Sem.run_pure]
          refine ⟨_, hrun, ?_⟩
          cases hz : Nat.beq z 0 with
          | true =>
            have hz0 := Nat.eq_of_beq_eq_true hz
            rw [hz] at hr
            simp only [cond_true] at hr
            have hcc := h5 hz0
            subst hcc
            by_cases hcl : c = l
            · subst hcl
              simp at hr
              subst hr
              rw [if_pos rfl, Nat.sub_self]
              exact .sl0 id off _ _ b s h1 (by omega)
            · rw [beq_ff hcl] at hr
              simp only [cond_false] at hr
              cases hr
              rw [if_neg hcl]
              exact .sl0 id _ _ _ b s h1 (by omega)
          | false =>
            have hz0 := Nat.ne_of_beq_eq_false hz
            rw [hz] at hr
            simp only [cond_false] at hr
            obtain ⟨k, hk⟩ : ∃ k, z = k + 1 := ⟨z - 1, by omega⟩
            obtain ⟨g1, g2⟩ := h6 k hk
            subst hk
            cases hl0 : Nat.beq l 0 with
            | true =>
              have := Nat.eq_of_beq_eq_true hl0
              subst this
              simp at hr
              subst hr
              have hif : (if c = 0 then (⟨b, off, none⟩ : Addr) else ⟨b, off + 0 * ei.size, none⟩) = ⟨b, off, none⟩ := by simp
              rw [hif]
              exact .sl1 id off hh' cap k c b s h1 hb1 h4 g1 g2
            | false =>
              have hl1 := Nat.ne_of_beq_eq_false hl0
              rw [hl0] at hr
              simp only [cond_false] at hr
              cases hlast : Nat.blt l cap && Nat.beq (k + 1) (ei.size + 1) with
              | false => rw [hlast] at hr; cases hr
              | true =>
                rw [hlast] at hr
                cases hr
                simp only [Bool.and_eq_true] at hlast
                have hlt : l < cap := Nat.le_of_ble_eq_true hlast.1
                have hke := Nat.eq_of_beq_eq_true hlast.2
                have hke' : k = ei.size := by omega
                subst hke'
                rw [if_neg (by omega)]
                refine .sl1 id _ _ _ ei.size (c - l) b s h1 (by omega) (by omega) ?_ (by omega)
                rw [Nat.sub_mul]
                have : l * ei.size ≤ c * ei.size := Nat.mul_le_mul_right _ (by omega)
                omega
      · -- three
        rename_i dmx
        split at hr
        · cases hr
        · rename_i dhi
          split at hr
          · rename_i m hbm
            obtain ⟨hm1, km, hm2, hm3⟩ : ∃ o k, mx = some o ∧ a.eval o = .int k m := by
              rcases bnd_ok h hm hbm with ⟨g1, g2⟩ | g
              · subst g1; simp [cDO] at hm
              · obtain ⟨o, k, g1, g2⟩ := g; exact ⟨o, k, g1, g2⟩
            obtain ⟨hh1, kh, hh2, hh3⟩ : ∃ o k, hi = some o ∧ a.eval o = .int k hh' := by
              rcases bnd_ok h hh hbh with ⟨g1, g2⟩ | g
              · subst g1; simp [cDO] at hh
              · obtain ⟨o, k, g1, g2⟩ := g; exact ⟨o, k, g1, g2⟩
            subst hm2; subst hh2
            unfold slX at hr
            simp only at hr
            cases hb : Nat.ble m cap && Nat.ble hh' m && Nat.ble l hh' with
            | false => rw [hb] at hr; cases hr
            | true =>
              rw [hb] at hr
              simp only [cond_true] at hr
              simp only [Bool.and_eq_true] at hb
              have hb1 := Nat.le_of_ble_eq_true hb.1.1
              have hb2 := Nat.le_of_ble_eq_true hb.1.2
              have hb3 := Nat.le_of_ble_eq_true hb.2
              have hB : (Instr.sliceBounds true len c (lo.map a.eval) (some (a.eval hh1)) (some (a.eval hm1))).run P w = .ok (l, hh', m) w := by
                have hM := run_bound (P := P) (k := km) (n := m) (y := c) (by omega) .slice3Acap w
                have hH := run_bound (P := P) (k := kh) (n := hh') (y := m) hb2 .slice3B w
                rcases hlo with ⟨rfl, rfl⟩ | ⟨o, k, rfl, ho⟩
                · simp [Instr.sliceBounds, hm3, hh3, hM, hH, Result.andThen]
                · simp [Instr.sliceBounds, hm3, hh3, hM, hH, Result.andThen, ho, run_bound hb3]
              have hrun : (execOp a.eval ⟨dst, .slice e x lo (some hh1) (some hm1), type, pos, after, guard⟩).run P w =
                  .ok (.value (.slice (some (if m = l then ⟨b, off, none⟩ else ⟨b, off + l * ei.size, none⟩)) (hh' - l) (m - l))) w := by
                simp only [execOp, h2]
                refine run_value ?_
                by_cases hml : m = l
                · simp [Instr.sliceAt, run_underlying' hu, Result.andThen, Instr.slice, hB, ht2.size, hml]
                · simp [Instr.sliceAt, run_underlying' hu, Result.andThen, Instr.slice, hB, ht2.size, hml, addr_add]
              refine ⟨_, hrun, ?_⟩
              cases hr
              by_cases hml : m = l
              · subst hml
                simp
                exact .sl0 id _ _ _ b s h1 (by omega)
              · rw [beq_ff hml, if_neg hml]
                exact .sl0 id _ _ _ b s h1 (by omega)
          · cases hr
    · cases hr
  · cases hr
end
end Go.Ex
