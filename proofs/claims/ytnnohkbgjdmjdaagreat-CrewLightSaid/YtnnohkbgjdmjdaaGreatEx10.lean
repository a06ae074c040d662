/- Operations that look into memory, and those that make a block. Nothing here speaks of one program. -/
import Derived.Test.YtnnohkbgjdmjdaaGreatEx9
import Derived.Laws.MakeOwn
import Derived.Laws.NewFold
set_option linter.unusedVariables false
set_option linter.unusedSimpArgs false
namespace Go.Ex
section
variable {φ : Pl} {t : T X} {a : Act} {P : Program} {tab : Tab} {eqs : List (TypeId × List IntKind)} {dst : Option Tmp} {type : TypeId} {pos : String} {after : Array Edge} {guard : Option (Nat × Bool)} {h : H} {n : Pt} {w : World}

theorem opR_ok (hp : Hp h n w φ) (ht : TabOk P tab) (hm : TmR φ t a) {op : Op} {i : IR} {r : X} (hc : cOp tab eqs op = some (.r i)) (hr : opR i t h = some r) :
    ∃ v, (execOp a.eval ⟨dst, op, type, pos, after, guard⟩).run P w = .ok (.value v) w ∧ VR φ r v := by
  unfold cOp at hc
  split at hc
  all_goals first
    | (split at hc <;> cases hc; done)
    | (repeat' split at hc
       all_goals cases hc
       done)
    | skip
  · exfalso
    unfold cBuild at hc
    repeat' split at hc
    all_goals first | (cases hc; done) | skip
    all_goals (revert hc; cases (allTy tab _) <;> intro hc <;> cases hc)
  · exfalso
    unfold cBuildS at hc
    repeat' split at hc
    all_goals first | (cases hc; done) | skip
    all_goals (revert hc; cases (Nat.ble _ _ && (Nat.beq _ _ && Nat.blt _ _)) <;> intro hc <;> cases hc)
  · split at hc
    · rename_i ti d he hx
      cases hag : ti.agg with
      | true => rw [hag] at hc; cases hc; exact loadA_ok hp ht hm he hag hx hr
      | false => rw [hag] at hc; cases hc; exact load1_ok hp ht hm he hag hx hr
    · cases hc
  · repeat' split at hc
    all_goals first | (cases hc; done) | skip
    all_goals (revert hc; cases (Nat.beq _ _ && Nat.blt _ _) <;> intro hc <;> cases hc)
  · exfalso
    unfold cSlice at hc
    repeat' split at hc
    all_goals cases hc
  · repeat' split at hc
    all_goals first | (cases hc; done) | skip
    all_goals (revert hc; cases (Nat.blt _ _) <;> intro hc <;> cases hc)
  · split at hc
    · rename_i he hx hy
      split at hc
      · rename_i hk hz; cases hc
        exact look_ok hp ht hm he hk hz hx hy hr
      · cases hc
    · cases hc
  · exfalso
    unfold cBuiltin at hc
    repeat' split at hc
    all_goals first | (cases hc; done) | skip
    all_goals (revert hc; cases (Nat.beq _ _ && (Nat.beq _ _ && Nat.blt _ _)) <;> intro hc <;> cases hc)

/-- A block is made, and a value that tells of it. -/
def Alc (P : Program) (φ : Pl) (a : Act) (o : Oper) (m : Pt) (x : X) (ob : O) : Prop :=
  ∀ w, ∃ v obj s, (execOp a.eval o).run P w = .ok (.value v) (w.alloc obj) ∧ (∀ φ', Ex φ φ' → ObjR φ' (w.alloc obj) w.heap.size s ob) ∧ ∀ φ', φ' m = some (w.heap.size, s) → VR φ' x v

theorem objR_new {cs : List X} {vs : Array Value} {e : TypeId} (hc : CR φ cs vs.toList) (w : World) : ∀ φ', Ex φ φ' → ObjR φ' (w.alloc (.cells vs e)) w.heap.size vs.size (.cells cs) := fun φ' he => by
  have hl : cs.length = vs.size := by rw [hc.1.1, Array.length_toList]
  refine ⟨vs, e, heap_new w _, rfl, by omega, ?_⟩
  rw [List.take_of_length_le (by rw [Array.length_toList]; omega)]
  exact hc.mono he

theorem new_ok (ht : TabOk P tab) {e : TypeId} {m : Pt} {zs : List X} {z1 z2 z3 z4 z5} (he : ty tab e = some ⟨z1, z2, z3, z4, some zs, z5⟩) : Alc P φ a ⟨dst, .alloc e, type, pos, after, guard⟩ m (.ptr m 0) (.cells zs) := fun w => by
  obtain ⟨i, u, hti⟩ := ty_ok ht he
  obtain ⟨zv, _, hz1, hz2⟩ := hti.zero (zs := zs) rfl
  refine ⟨.pointer (some ⟨w.heap.size, 0, none⟩), .cells zv.cells e, zv.cells.size, ?_, objR_new (hz1 φ) w, fun φ' h1 => .ptr m 0 _ _ h1⟩
  simp only [execOp]
  refine run_value ?_
  simp [Instr.alloc, hz2, newVar, newRow, Result.andThen]

theorem box_ok (hm : TmR φ t a) {e : TypeId} {x : Operand} {d : D} {m : Pt} {r : X} {ob : O} (hx : cD x = some d) (hr : rBox d t m = some (r, ob)) : Alc P φ a ⟨dst, .box e x, type, pos, after, guard⟩ m r ob := fun w => by
  unfold rBox at hr
  split at hr
  · cases hr
  · rename_i y h1
    split at hr
    · cases hr
    · rename_i l hl
      cases hr
      have h2 := inCells_ok hl (ev_ok hm hx h1)
      refine ⟨.pointer (some ⟨w.heap.size, 0, none⟩), .cells (a.eval x).cells e, (a.eval x).cells.size, ?_, objR_new h2 w, fun φ' h1 => .ptr m 0 _ _ h1⟩
      simp only [execOp]
      refine run_value ?_
      simp [Instr.box, newVar, newRow, Result.andThen]

theorem mkM_ok {e : TypeId} {k : IntKind} {m : Pt} : Alc P φ a ⟨dst, .makeMap e none, type, pos, after, guard⟩ m (.map m) (.map [] k) := fun w => by
  refine ⟨.map (some w.heap.size), .map #[] 0, 0, ?_, fun φ' he => ⟨#[], 0, heap_new w _, rfl, fun i e r h => by simp at h⟩, fun φ' h1 => .map m _ _ h1⟩
  simp only [execOp]
  refine run_value ?_
  simp [Instr.makeMap, Result.andThen]

theorem mkMA_ok {e : TypeId} {ks : List IntKind} {m : Pt} : Alc P φ a ⟨dst, .makeMap e none, type, pos, after, guard⟩ m (.map m) (.mapA [] ks) := fun w => by
  refine ⟨.map (some w.heap.size), .map #[] 0, 0, ?_, fun φ' he => ⟨#[], 0, heap_new w _, rfl, fun i e r h => by simp at h⟩, fun φ' h1 => .map m _ _ h1⟩
  simp only [execOp]
  refine run_value ?_
  simp [Instr.makeMap, Result.andThen]

/-- Zero cells, again and again. -/
theorem range_rep (zc : Array Value) (hz : 0 < zc.size) : ∀ n, (List.range (n * zc.size)).map (fun i => zc[i % zc.size]!) = (List.replicate n zc.toList).flatten := by
  intro n
  induction n with
  | zero => simp
  | succ n ih =>
    have e : (n + 1) * zc.size = zc.size + n * zc.size := by rw [Nat.succ_mul]; omega
    rw [e, List.range_add, List.map_append, List.map_map, List.replicate_succ, List.flatten_cons]
    congr 1
    · apply List.ext_getElem?
      intro i
      by_cases hi : i < zc.size
      · simp [Nat.mod_eq_of_lt hi, hi]
      · have : zc.size ≤ i := by omega
        simp [this]
    · rw [← ih]
      apply List.map_congr_left
      intro i _
      simp

theorem zero_row (ht : TabOk P tab) {e : TypeId} {ti : TI} {i u} (hti : TyR P e ti i u) {zs : List X} (hz : ti.zero = some zs) (hl : zs.length = ti.size) (hp : 0 < ti.size) (n : Nat) :
    ∃ zv, (∀ w, (zeroValue e).run P w = .ok zv w) ∧ ∀ φ, CR φ (repL n zs) ((Array.range (n * ti.size)).map (zv.cells[· % zv.cells.size]!)).toList := by
  obtain ⟨zv, _, hz1, hz2⟩ := hti.zero hz
  refine ⟨zv, hz2, fun φ => ?_⟩
  have hsz : zv.cells.size = ti.size := by have := (hz1 φ).1.1; rw [hl] at this; rw [this, Array.length_toList]
  have := range_rep zv.cells (by omega) n
  rw [hsz] at this ⊢
  have e1 : ((Array.range (n * ti.size)).map fun i => zv.cells[i % ti.size]!).toList = (List.range (n * ti.size)).map fun i => zv.cells[i % ti.size]! := by simp
  rw [e1, this]
  exact (hz1 φ).rep n

theorem buildS_ok (ht : TabOk P tab) (hm : TmR φ t a) {e : TypeId} {len : Nat} {parts : Array (Nat × Operand)} {zs : List X} {ps : List (Nat × Nat × D)} {m : Pt} {r : X} {ob : O}
    (hc : cBuildS tab e len parts.toList = some (.a (.buildS zs len ps))) (hr : rBuildS zs len ps t m = some (r, ob)) : Alc P φ a ⟨dst, .buildSlice e len parts, type, pos, after, guard⟩ m r ob := fun w => by
  unfold rBuildS at hr
  split at hr
  · cases hr
  · rename_i cs hf
    cases hr
    unfold cBuildS at hc
    split at hc
    · rename_i el _ _ he
      split at hc
      · rename_i size _ _ _ zs' _ hel
        split at hc
        · rename_i l hps
          cases hb : (Nat.ble (len * size) 1000000 && (Nat.beq zs'.length size && Nat.blt 0 size)) with
          | false => rw [hb] at hc; cases hc
          | true =>
            rw [hb] at hc
            cases hc
            simp only [Bool.and_eq_true] at hb
            have hb1 := Nat.le_of_ble_eq_true hb.1
            have hb2 := Nat.eq_of_beq_eq_true hb.2.1
            have hb3 : 0 < size := Nat.le_of_ble_eq_true hb.2.2
            obtain ⟨i, u, hti⟩ := ty_ok ht he
            obtain ⟨i2, u2, ht2⟩ := ty_ok ht hel
            have hu := hti.under
            rw [kind_slice (congrArg TI.kind hti.eq).symm] at hu
            obtain ⟨zv, hz1, hz2⟩ := zero_row ht ht2 (zs := zs) rfl hb2 hb3 len
            have hmap : (parts.map fun p => (p.1, a.eval p.2)).toList = parts.toList.map fun p => (p.1, a.eval p.2) := by simp
            obtain ⟨vs', k1, k2⟩ := fill_ok hm (place' := fun i => some (i * size, size)) (fun i q hq => hq) hps hf (hz2 φ)
            refine ⟨.slice (some ⟨w.heap.size, 0, none⟩) len len, .cells vs' el, vs'.size, ?_, objR_new k2 w, fun φ' h1 => .sl0 m 0 len len _ _ h1 (Nat.le_refl _)⟩
            simp only [execOp]
            refine run_value ?_
            have hs := ht2.size w
            simp only at hs
            simp only [Instr.buildSlice, Sem.run_bind, run_underlying' hu, hs, Result.andThen_ok]
            rw [if_neg (by omega)]
            by_cases h0 : len * size = 0
            · rw [if_pos h0]
              have hv : ((Array.range (len * size)).map fun i => zv.cells[i % zv.cells.size]!) = (Array.range (len * size)).map fun i => (#[] : Array Value)[i % (#[] : Array Value).size]! := by rw [h0]; apply Array.ext <;> simp
              simp only at k1 hv
              rw [hv] at k1
              simp only [Sem.run_bind, Sem.run_pure, Result.andThen_ok, hmap, k1, newRow, run_newObj_alloc]
            · rw [if_neg h0]
              simp only at k1
              simp only [Sem.run_bind, Sem.run_pure, Result.andThen_ok, hz1, hmap, k1, newRow, run_newObj_alloc]
        · cases hc
      · cases hc
    · cases hc

theorem mkS_ok (ht : TabOk P tab) (hm : TmR φ t a) {e el : TypeId} {x y : Operand} {dx dy : D} {zs : List X} {size bytes : Nat} {m : Pt} {r : X} {ob : O} {z1 z2 z3 z4 z5 y3 y4 y5} (he : ty tab e = some ⟨z1, z2, z3, .slice el, z4, z5⟩) (hel : ty tab el = some ⟨size, bytes, y3, y4, some zs, y5⟩)
    (hb2 : zs.length = size) (hb3 : 0 < size) (hx : cD x = some dx) (hy : cD y = some dy) (hr : rMkS zs bytes dx dy t m = some (r, ob)) : Alc P φ a ⟨dst, .makeSlice e x y, type, pos, after, guard⟩ m r ob := fun w => by
  unfold rMkS at hr
  split at hr
  · rename_i vx vy h1 h2
    split at hr
    · rename_i l c h3 h4
      cases hb : (Nat.ble l c && (Nat.ble c 1000000 && Nat.ble (c * bytes) 1000000000)) with
      | false => rw [hb] at hr; cases hr
      | true =>
        rw [hb] at hr
        cases hr
        simp only [Bool.and_eq_true] at hb
        have hlc := Nat.le_of_ble_eq_true hb.1
        have hcs := Nat.le_of_ble_eq_true hb.2.1
        have hcb := Nat.le_of_ble_eq_true hb.2.2
        obtain ⟨k1, g1⟩ := asI_ok h3 (ev_ok hm hx h1)
        obtain ⟨k2, g2⟩ := asI_ok h4 (ev_ok hm hy h2)
        obtain ⟨i, u, hti⟩ := ty_ok ht he
        obtain ⟨i2, u2, ht2⟩ := ty_ok ht hel
        have hu := hti.under
        rw [kind_slice (congrArg TI.kind hti.eq).symm] at hu
        obtain ⟨zv, hz1, hz2⟩ := zero_row ht ht2 (zs := zs) rfl hb2 hb3 c
        have hby : i2.bytes = bytes := (congrArg TI.bytes ht2.eq).symm
        have hsz : i2.size = size := (congrArg TI.size ht2.eq).symm
        have hcb' : (i2.bytes : Int) * (c : Int) ≤ 281474976710656 := by
          have : (i2.bytes : Int) * (c : Int) = ((c * bytes : Nat) : Int) := by rw [hby, Nat.mul_comm]; simp
          rw [this]; omega
        obtain ⟨zv', hzi, _⟩ := ht2.zero (zs := zs) rfl
        have hzz : zv' = zv := by
          have h5 : (zeroValue el).run P w = .ok zv' w := by simp [zeroValue, typeInfo, ht2.info, hzi]
          rw [hz1 w] at h5
          cases h5; rfl
        have hrun := run_make (P := P) w e el i2 zv' hu ht2.info hzi k1 k2 l c (by omega) (by omega) hcb' (by omega)
        simp only [Int.toNat_natCast, hsz, madeCells, hzz] at hrun
        refine ⟨.slice (some ⟨w.heap.size, 0, none⟩) l c, .cells _ el, _, ?_, objR_new (hz2 φ) w, fun φ' h1 => .sl0 m 0 l c _ _ h1 hlc⟩
        simp only [execOp, g1, g2]
        exact run_value hrun
    · cases hr
  · cases hr
end
end Go.Ex
