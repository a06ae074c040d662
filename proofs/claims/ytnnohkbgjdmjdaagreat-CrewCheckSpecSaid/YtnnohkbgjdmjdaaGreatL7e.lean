import Derived.Test.YtnnohkbgjdmjdaaGreatL7c
import Derived.Test.YtnnohkbgjdmjdaaGreatAbC
set_option linter.unusedSimpArgs false
set_option linter.unusedVariables false
namespace Go.Proofs.YtnnohkbgjdmjdaaGreat
open Go.Ab

theorem all_at {α : Type} {q : α → Bool} {w : List α} {k : Nat} (h : k < w.length) : (w.drop k).all q = (q w[k] && (w.drop (k + 1)).all q) := by rw [List.drop_eq_getElem_cons h]; rfl
structure Sit where
  no : Int
  kind : Int
  cell : Int
structure Trk where
  no : Int
  a : Int
  b : Int
  min : Int
  cell : Int
  steep : Int
structure Rng where
  s : List Sit
  t : List Trk
def eSi (x : Sit) : List AV := [I x.no, I x.kind, I x.cell]
def eTr (x : Trk) : List AV := [I x.no, I x.a, I x.b, I x.min, I x.cell, I x.steep]
def sts (l : List Sit) : List (List AV) := l.map eSi
def trs (l : List Trk) : List (List AV) := l.map eTr
def eRg (r : Rng) : List AV := [.sl (sts r.s), .sl (trs r.t)]
theorem sts_len (l : List Sit) : (sts l).length = l.length := by simp [sts]
theorem trs_len (l : List Trk) : (trs l).length = l.length := by simp [trs]
theorem sts_at {l : List Sit} {k : Nat} (h : k < l.length) : (sts l)[k]? = some (eSi l[k]) := by simp [sts, h]
theorem trs_at {l : List Trk} {k : Nat} (h : k < l.length) : (trs l)[k]? = some (eTr l[k]) := by simp [trs, h]
def inB (x a b : Int) : Bool := decide (a ≤ x) && decide (x ≤ b)
def sitB (x : Sit) : Bool := inB x.no 0 4095 && (inB x.kind 1 3 && (inB x.cell 0 4095 && (decide (x.kind = 2) || decide (x.cell = 0))))
def trkB (x : Trk) : Bool := inB x.no 0 4095 && (inB x.a 0 4095 && (inB x.b 0 4095 && (!decide (x.a = x.b) && (inB x.min 1 1440 && (inB x.steep 0 60 && (inB x.cell 0 4095 && (decide (x.steep > 0) || decide (x.cell = 0))))))))
def hasN (l : List Sit) (n : Int) : Bool := l.any fun x => decide (x.no = n)
def okSs : Int → List Sit → Bool
  | _, [] => true
  | h, x :: l => (sitB x && decide (h < x.no)) && okSs x.no l
def trkS (S : List Sit) (x : Trk) : Bool := trkB x && (hasN S x.a && hasN S x.b)
def okTs (S : List Sit) : Int → List Trk → Bool
  | _, [] => true
  | h, x :: l => (trkS S x && decide (h < x.no)) && okTs S x.no l
def okR (r : Rng) : Bool := (decide (r.s.length ≤ 16) && okSs (-1) r.s) && (decide (r.t.length ≤ 48) && okTs r.s (-1) r.t)
def prS (l : List Sit) : Nat → Int
  | 0 => -1
  | k + 1 => match l[k]? with | some x => x.no | none => -1
def prT (l : List Trk) : Nat → Int
  | 0 => -1
  | k + 1 => match l[k]? with | some x => x.no | none => -1
theorem prS_s {l : List Sit} {k : Nat} (h : k < l.length) : prS l (k + 1) = l[k].no := by simp [prS, h]
theorem prT_s {l : List Trk} {k : Nat} (h : k < l.length) : prT l (k + 1) = l[k].no := by simp [prT, h]
theorem okSs_at {l : List Sit} {k : Nat} (h : k < l.length) : okSs (prS l k) (l.drop k) = ((sitB l[k] && decide (prS l k < l[k].no)) && okSs (prS l (k + 1)) (l.drop (k + 1))) := by
  rw [prS_s h, List.drop_eq_getElem_cons h]; rfl
theorem okTs_at {S : List Sit} {l : List Trk} {k : Nat} (h : k < l.length) : okTs S (prT l k) (l.drop k) = ((trkS S l[k] && decide (prT l k < l[k].no)) && okTs S (prT l (k + 1)) (l.drop (k + 1))) := by
  rw [prT_s h, List.drop_eq_getElem_cons h]; rfl
theorem okSs_bad {l : List Sit} {k : Nat} (h : k < l.length) (hv : okSs (-1) l = okSs (prS l k) (l.drop k)) (hb : (sitB l[k] && decide (prS l k < l[k].no)) = false) : okSs (-1) l = false := by
  rw [hv, okSs_at h, hb]; rfl
theorem okSs_go {l : List Sit} {k : Nat} (h : k < l.length) (hv : okSs (-1) l = okSs (prS l k) (l.drop k)) (hb : (sitB l[k] && decide (prS l k < l[k].no)) = true) : okSs (-1) l = okSs (prS l (k + 1)) (l.drop (k + 1)) := by
  rw [hv, okSs_at h, hb]; rfl
theorem okTs_bad {S : List Sit} {l : List Trk} {k : Nat} (h : k < l.length) (hv : okTs S (-1) l = okTs S (prT l k) (l.drop k)) (hb : (trkS S l[k] && decide (prT l k < l[k].no)) = false) : okTs S (-1) l = false := by
  rw [hv, okTs_at h, hb]; rfl
theorem okTs_go {S : List Sit} {l : List Trk} {k : Nat} (h : k < l.length) (hv : okTs S (-1) l = okTs S (prT l k) (l.drop k)) (hb : (trkS S l[k] && decide (prT l k < l[k].no)) = true) : okTs S (-1) l = okTs S (prT l (k + 1)) (l.drop (k + 1)) := by
  rw [hv, okTs_at h, hb]; rfl
def firstA {α : Type} (q : α → Bool) : List α → Int → Int
  | [], _ => -1
  | x :: l, i => if q x = true then i else firstA q l (i + 1)
theorem firstA_at {α : Type} {q : α → Bool} {l : List α} {k : Nat} (h : k < l.length) : firstA q (l.drop k) k = if q l[k] = true then (k : Int) else firstA q (l.drop (k + 1)) ((k + 1 : Nat) : Int) := by
  rw [List.drop_eq_getElem_cons h]; rfl
theorem firstA_any {α : Type} (q : α → Bool) : ∀ (l : List α) (i : Int), 0 ≤ i → decide (firstA q l i ≥ 0) = l.any q ∧ -1 ≤ firstA q l i := by
  intro l
  induction l with
  | nil => intro i _; exact ⟨rfl, by simp [firstA]⟩
  | cons x l ih =>
    intro i hi
    by_cases hx : q x = true
    · have e : firstA q (x :: l) i = i := if_pos hx
      rw [e, List.any_cons, hx]; exact ⟨by simp [hi], by omega⟩
    · have e : firstA q (x :: l) i = firstA q l (i + 1) := if_neg hx
      rw [e, List.any_cons, show q x = false by simpa using hx]; exact ih (i + 1) (by omega)

set_option maxRecDepth 20000 in
theorem isNo_s (x : Int) : FSpec Tryz.prog 86 [I x] (B (inB x 0 4095)) (none) := by
  refine FSpec.of_body Tryz.func86 rfl (leB rfl) fun w0 M0 => ?_
  refine AWP.seq ?_
  refine AWP.region ?_
  refine AOps.call (o_assign _ rfl rfl) ?_
  refine AOps.nil ?_
  refine AWP.seq ?_
  refine AWP.region ?_
  refine AOps.call (o_move _ rfl rfl) ?_
  refine AOps.call (o_call (isIn_s _ _ _) Tryz.call28 rfl rfl) ?_
  refine AOps.call (o_assign _ rfl rfl) ?_
  refine AOps.nil ?_
  refine AWP.ret ?_
  exact postQ.ret1 Tryz.results86 rfl rfl

set_option maxRecDepth 20000 in
theorem isSite_s (x : Sit) : FSpec Tryz.prog 59 [.agg (eSi x)] (B (sitB x)) (none) := by
  refine FSpec.of_body Tryz.func59 rfl (leB rfl) fun w0 M0 => ?_
  refine AWP.seq ?_
  refine AWP.region ?_
  refine AOps.call (o_box _ rfl rfl rfl) ?_
  refine AOps.call (o_assign _ rfl rfl) ?_
  refine AOps.nil ?_
  refine AWP.seq ?_
  refine AWP.region ?_
  refine AOps.call (o_fieldRef _ rfl fa68_0 rfl rfl) ?_
  refine AOps.call (o_loadRef _ rfl rfl Tryz.sizeOf3 Tryz.isAgg3 rfl rfl rfl) ?_
  refine AOps.call (o_call (isNo_s _) Tryz.call86 rfl rfl) ?_
  refine AOps.call (o_move _ rfl rfl) ?_
  refine AOps.split rfl rfl rfl (fun h5 => ?_) (fun h5 => ?_)
  · skip
    refine AOps.go rfl rfl rfl h5 (o_fieldRef _ rfl fa68_1 rfl rfl) ?_
    refine AOps.go rfl rfl rfl h5 (o_loadRef _ rfl rfl Tryz.sizeOf3 Tryz.isAgg3 rfl rfl rfl) ?_
    refine AOps.go rfl rfl rfl h5 (o_call (isIn_s _ _ _) Tryz.call28 rfl rfl) ?_
    refine AOps.call (o_pickT _ _ _ rfl h5 rfl rfl) ?_
    refine AOps.call (o_move _ rfl rfl) ?_
    refine AOps.split rfl rfl rfl (fun h9 => ?_) (fun h9 => ?_)
    · skip
      refine AOps.go rfl rfl rfl h9 (o_fieldRef _ rfl fa68_2 rfl rfl) ?_
      refine AOps.go rfl rfl rfl h9 (o_loadRef _ rfl rfl Tryz.sizeOf3 Tryz.isAgg3 rfl rfl rfl) ?_
      refine AOps.go rfl rfl rfl h9 (o_call (isNo_s _) Tryz.call86 rfl rfl) ?_
      refine AOps.call (o_pickT _ _ _ rfl h9 rfl rfl) ?_
      refine AOps.call (o_move _ rfl rfl) ?_
      refine AOps.split rfl rfl rfl (fun h13 => ?_) (fun h13 => ?_)
      · skip
        refine AOps.go rfl rfl rfl h13 (o_fieldRef _ rfl fa68_1 rfl rfl) ?_
        refine AOps.go rfl rfl rfl h13 (o_loadRef _ rfl rfl Tryz.sizeOf3 Tryz.isAgg3 rfl rfl rfl) ?_
        refine AOps.go rfl rfl rfl h13 (o_bin _ _ rfl rfl (fun _ => rfl) rfl) ?_
        refine AOps.go rfl rfl rfl h13 (o_move _ rfl rfl) ?_
        refine AOps.split rfl rfl rfl (fun h17 => ?_) (fun h17 => ?_)
        · skip
          refine AOps.go rfl rfl rfl h17 (o_fieldRef _ rfl fa68_2 rfl rfl) ?_
          refine AOps.go rfl rfl rfl h17 (o_loadRef _ rfl rfl Tryz.sizeOf3 Tryz.isAgg3 rfl rfl rfl) ?_
          refine AOps.go rfl rfl rfl h17 (o_bin _ _ rfl rfl (fun _ => rfl) rfl) ?_
          refine AOps.go rfl rfl rfl h13 (o_pickF _ _ _ rfl h17 rfl rfl) ?_
          refine AOps.call (o_pickT _ _ _ rfl h13 rfl rfl) ?_
          refine AOps.call (o_assign _ rfl rfl) ?_
          refine AOps.nil ?_
          refine AWP.ret ?_
          refine postQ.ret1 Tryz.results59 rfl ?_
          simp_all [AV.close, B, I, sitB, inB]
          try (first | (intros; omega) | rfl)
        · skip
          refine AOps.pass rfl rfl rfl h17 rfl ?_
          refine AOps.pass rfl rfl rfl h17 rfl ?_
          refine AOps.pass rfl rfl rfl h17 rfl ?_
          refine AOps.go rfl rfl rfl h13 (o_pickT _ _ _ rfl h17 rfl rfl) ?_
          refine AOps.call (o_pickT _ _ _ rfl h13 rfl rfl) ?_
          refine AOps.call (o_assign _ rfl rfl) ?_
          refine AOps.nil ?_
          refine AWP.ret ?_
          refine postQ.ret1 Tryz.results59 rfl ?_
          simp_all [AV.close, B, I, sitB, inB]
          try (first | (intros; omega) | rfl)
      · skip
        refine AOps.pass rfl rfl rfl h13 rfl ?_
        refine AOps.pass rfl rfl rfl h13 rfl ?_
        refine AOps.pass rfl rfl rfl h13 rfl ?_
        refine AOps.pass rfl rfl rfl h13 rfl ?_
        refine AOps.passU rfl rfl rfl rfl ?_
        refine AOps.passU rfl rfl rfl rfl ?_
        refine AOps.passU rfl rfl rfl rfl ?_
        refine AOps.pass rfl rfl rfl h13 rfl ?_
        refine AOps.call (o_pickF _ _ _ rfl h13 rfl rfl) ?_
        refine AOps.call (o_assign _ rfl rfl) ?_
        refine AOps.nil ?_
        refine AWP.ret ?_
        refine postQ.ret1 Tryz.results59 rfl ?_
        simp_all [AV.close, B, I, sitB, inB]
        try (first | (intros; omega) | rfl)
    · skip
      refine AOps.pass rfl rfl rfl h9 rfl ?_
      refine AOps.pass rfl rfl rfl h9 rfl ?_
      refine AOps.pass rfl rfl rfl h9 rfl ?_
      refine AOps.call (o_pickF _ _ _ rfl h9 rfl rfl) ?_
      refine AOps.call (o_move _ rfl rfl) ?_
      refine AOps.pass rfl rfl rfl rfl rfl ?_
      refine AOps.pass rfl rfl rfl rfl rfl ?_
      refine AOps.pass rfl rfl rfl rfl rfl ?_
      refine AOps.pass rfl rfl rfl rfl rfl ?_
      refine AOps.passU rfl rfl rfl rfl ?_
      refine AOps.passU rfl rfl rfl rfl ?_
      refine AOps.passU rfl rfl rfl rfl ?_
      refine AOps.pass rfl rfl rfl rfl rfl ?_
      refine AOps.call (o_pickF _ _ _ rfl rfl rfl rfl) ?_
      refine AOps.call (o_assign _ rfl rfl) ?_
      refine AOps.nil ?_
      refine AWP.ret ?_
      refine postQ.ret1 Tryz.results59 rfl ?_
      simp_all [AV.close, B, I, sitB, inB]
      try (first | (intros; omega) | rfl)
  · skip
    refine AOps.pass rfl rfl rfl h5 rfl ?_
    refine AOps.pass rfl rfl rfl h5 rfl ?_
    refine AOps.pass rfl rfl rfl h5 rfl ?_
    refine AOps.call (o_pickF _ _ _ rfl h5 rfl rfl) ?_
    refine AOps.call (o_move _ rfl rfl) ?_
    refine AOps.pass rfl rfl rfl rfl rfl ?_
    refine AOps.pass rfl rfl rfl rfl rfl ?_
    refine AOps.pass rfl rfl rfl rfl rfl ?_
    refine AOps.call (o_pickF _ _ _ rfl rfl rfl rfl) ?_
    refine AOps.call (o_move _ rfl rfl) ?_
    refine AOps.pass rfl rfl rfl rfl rfl ?_
    refine AOps.pass rfl rfl rfl rfl rfl ?_
    refine AOps.pass rfl rfl rfl rfl rfl ?_
    refine AOps.pass rfl rfl rfl rfl rfl ?_
    refine AOps.passU rfl rfl rfl rfl ?_
    refine AOps.passU rfl rfl rfl rfl ?_
    refine AOps.passU rfl rfl rfl rfl ?_
    refine AOps.pass rfl rfl rfl rfl rfl ?_
    refine AOps.call (o_pickF _ _ _ rfl rfl rfl rfl) ?_
    refine AOps.call (o_assign _ rfl rfl) ?_
    refine AOps.nil ?_
    refine AWP.ret ?_
    refine postQ.ret1 Tryz.results59 rfl ?_
    simp_all [AV.close, B, I, sitB, inB]
    try (first | (intros; omega) | rfl)

set_option maxRecDepth 20000 in
theorem isTrack_s (x : Trk) : FSpec Tryz.prog 60 [.agg (eTr x)] (B (trkB x)) (none) := by
  refine FSpec.of_body Tryz.func60 rfl (leB rfl) fun w0 M0 => ?_
  refine AWP.seq ?_
  refine AWP.region ?_
  refine AOps.call (o_box _ rfl rfl rfl) ?_
  refine AOps.call (o_assign _ rfl rfl) ?_
  refine AOps.nil ?_
  refine AWP.seq ?_
  refine AWP.seq ?_
  refine AWP.region ?_
  refine AOps.call (o_fieldRef _ rfl fa74_0 rfl rfl) ?_
  refine AOps.call (o_loadRef _ rfl rfl Tryz.sizeOf3 Tryz.isAgg3 rfl rfl rfl) ?_
  refine AOps.call (o_call (isNo_s _) Tryz.call86 rfl rfl) ?_
  refine AOps.call (o_un _ rfl (fun _ => rfl) rfl) ?_
  refine AOps.call (o_move _ rfl rfl) ?_
  refine AOps.split rfl rfl rfl (fun h6 => ?_) (fun h6 => ?_)
  · skip
    refine AOps.go rfl rfl rfl h6 (o_fieldRef _ rfl fa74_1 rfl rfl) ?_
    refine AOps.go rfl rfl rfl h6 (o_loadRef _ rfl rfl Tryz.sizeOf3 Tryz.isAgg3 rfl rfl rfl) ?_
    refine AOps.go rfl rfl rfl h6 (o_call (isNo_s _) Tryz.call86 rfl rfl) ?_
    refine AOps.go rfl rfl rfl h6 (o_un _ rfl (fun _ => rfl) rfl) ?_
    refine AOps.call (o_pickF _ _ _ rfl h6 rfl rfl) ?_
    refine AOps.call (o_move _ rfl rfl) ?_
    refine AOps.split rfl rfl rfl (fun h11 => ?_) (fun h11 => ?_)
    · skip
      refine AOps.go rfl rfl rfl h11 (o_fieldRef _ rfl fa74_2 rfl rfl) ?_
      refine AOps.go rfl rfl rfl h11 (o_loadRef _ rfl rfl Tryz.sizeOf3 Tryz.isAgg3 rfl rfl rfl) ?_
      refine AOps.go rfl rfl rfl h11 (o_call (isNo_s _) Tryz.call86 rfl rfl) ?_
      refine AOps.go rfl rfl rfl h11 (o_un _ rfl (fun _ => rfl) rfl) ?_
      refine AOps.call (o_pickF _ _ _ rfl h11 rfl rfl) ?_
      refine AOps.call (o_move _ rfl rfl) ?_
      refine AOps.split rfl rfl rfl (fun h16 => ?_) (fun h16 => ?_)
      · skip
        refine AOps.go rfl rfl rfl h16 (o_fieldRef _ rfl fa74_1 rfl rfl) ?_
        refine AOps.go rfl rfl rfl h16 (o_loadRef _ rfl rfl Tryz.sizeOf3 Tryz.isAgg3 rfl rfl rfl) ?_
        refine AOps.go rfl rfl rfl h16 (o_fieldRef _ rfl fa74_2 rfl rfl) ?_
        refine AOps.go rfl rfl rfl h16 (o_loadRef _ rfl rfl Tryz.sizeOf3 Tryz.isAgg3 rfl rfl rfl) ?_
        refine AOps.go rfl rfl rfl h16 (o_bin _ _ rfl rfl (fun _ => rfl) rfl) ?_
        refine AOps.call (o_pickF _ _ _ rfl h16 rfl rfl) ?_
        refine AOps.call (o_move _ rfl rfl) ?_
        refine AOps.split rfl rfl rfl (fun h22 => ?_) (fun h22 => ?_)
        · skip
          refine AOps.go rfl rfl rfl h22 (o_fieldRef _ rfl fa74_3 rfl rfl) ?_
          refine AOps.go rfl rfl rfl h22 (o_loadRef _ rfl rfl Tryz.sizeOf3 Tryz.isAgg3 rfl rfl rfl) ?_
          refine AOps.go rfl rfl rfl h22 (o_call (isIn_s _ _ _) Tryz.call28 rfl rfl) ?_
          refine AOps.go rfl rfl rfl h22 (o_un _ rfl (fun _ => rfl) rfl) ?_
          refine AOps.call (o_pickF _ _ _ rfl h22 rfl rfl) ?_
          refine AOps.nil ?_
          refine AWP.cond _ rfl (fun h27 => ?_) (fun h27 => ?_)
          · skip
            refine AWP.seq ?_
            refine AWP.region ?_
            refine AOps.call (o_assign _ rfl rfl) ?_
            refine AOps.nil ?_
            refine AWP.ret ?_
            refine postQ.ret1 Tryz.results60 rfl ?_
            simp_all [AV.close, B, I, trkB, inB]
            try (first | (intros; omega) | (rw [decide_eq_false (by omega : ¬ 0 < x.steep)]; rfl) | rfl)
          · skip
            refine AWP.skip ?_
            refine AWP.seq ?_
            refine AWP.region ?_
            refine AOps.call (o_fieldRef _ rfl fa74_5 rfl rfl) ?_
            refine AOps.call (o_loadRef _ rfl rfl Tryz.sizeOf3 Tryz.isAgg3 rfl rfl rfl) ?_
            refine AOps.call (o_call (isIn_s _ _ _) Tryz.call28 rfl rfl) ?_
            refine AOps.call (o_move _ rfl rfl) ?_
            refine AOps.split rfl rfl rfl (fun h31 => ?_) (fun h31 => ?_)
            · skip
              refine AOps.go rfl rfl rfl h31 (o_fieldRef _ rfl fa74_4 rfl rfl) ?_
              refine AOps.go rfl rfl rfl h31 (o_loadRef _ rfl rfl Tryz.sizeOf3 Tryz.isAgg3 rfl rfl rfl) ?_
              refine AOps.go rfl rfl rfl h31 (o_call (isNo_s _) Tryz.call86 rfl rfl) ?_
              refine AOps.call (o_pickT _ _ _ rfl h31 rfl rfl) ?_
              refine AOps.call (o_move _ rfl rfl) ?_
              refine AOps.split rfl rfl rfl (fun h35 => ?_) (fun h35 => ?_)
              · skip
                refine AOps.go rfl rfl rfl h35 (o_fieldRef _ rfl fa74_5 rfl rfl) ?_
                refine AOps.go rfl rfl rfl h35 (o_loadRef _ rfl rfl Tryz.sizeOf3 Tryz.isAgg3 rfl rfl rfl) ?_
                refine AOps.go rfl rfl rfl h35 (o_bin _ _ rfl rfl (fun _ => rfl) rfl) ?_
                refine AOps.go rfl rfl rfl h35 (o_move _ rfl rfl) ?_
                refine AOps.split rfl rfl rfl (fun h39 => ?_) (fun h39 => ?_)
                · skip
                  refine AOps.go rfl rfl rfl h39 (o_fieldRef _ rfl fa74_4 rfl rfl) ?_
                  refine AOps.go rfl rfl rfl h39 (o_loadRef _ rfl rfl Tryz.sizeOf3 Tryz.isAgg3 rfl rfl rfl) ?_
                  refine AOps.go rfl rfl rfl h39 (o_bin _ _ rfl rfl (fun _ => rfl) rfl) ?_
                  refine AOps.go rfl rfl rfl h35 (o_pickF _ _ _ rfl h39 rfl rfl) ?_
                  refine AOps.call (o_pickT _ _ _ rfl h35 rfl rfl) ?_
                  refine AOps.call (o_assign _ rfl rfl) ?_
                  refine AOps.nil ?_
                  refine AWP.ret ?_
                  refine postQ.ret1 Tryz.results60 rfl ?_
                  simp_all [AV.close, B, I, trkB, inB]
                  try (first | (intros; omega) | (rw [decide_eq_false (by omega : ¬ 0 < x.steep)]; rfl) | rfl)
                · skip
                  refine AOps.pass rfl rfl rfl h39 rfl ?_
                  refine AOps.pass rfl rfl rfl h39 rfl ?_
                  refine AOps.pass rfl rfl rfl h39 rfl ?_
                  refine AOps.go rfl rfl rfl h35 (o_pickT _ _ _ rfl h39 rfl rfl) ?_
                  refine AOps.call (o_pickT _ _ _ rfl h35 rfl rfl) ?_
                  refine AOps.call (o_assign _ rfl rfl) ?_
                  refine AOps.nil ?_
                  refine AWP.ret ?_
                  refine postQ.ret1 Tryz.results60 rfl ?_
                  simp_all [AV.close, B, I, trkB, inB]
                  try (first | (intros; omega) | (rw [decide_eq_false (by omega : ¬ 0 < x.steep)]; rfl) | rfl)
              · skip
                refine AOps.pass rfl rfl rfl h35 rfl ?_
                refine AOps.pass rfl rfl rfl h35 rfl ?_
                refine AOps.pass rfl rfl rfl h35 rfl ?_
                refine AOps.pass rfl rfl rfl h35 rfl ?_
                refine AOps.passU rfl rfl rfl rfl ?_
                refine AOps.passU rfl rfl rfl rfl ?_
                refine AOps.passU rfl rfl rfl rfl ?_
                refine AOps.pass rfl rfl rfl h35 rfl ?_
                refine AOps.call (o_pickF _ _ _ rfl h35 rfl rfl) ?_
                refine AOps.call (o_assign _ rfl rfl) ?_
                refine AOps.nil ?_
                refine AWP.ret ?_
                refine postQ.ret1 Tryz.results60 rfl ?_
                simp_all [AV.close, B, I, trkB, inB]
                try (first | (intros; omega) | (rw [decide_eq_false (by omega : ¬ 0 < x.steep)]; rfl) | rfl)
            · skip
              refine AOps.pass rfl rfl rfl h31 rfl ?_
              refine AOps.pass rfl rfl rfl h31 rfl ?_
              refine AOps.pass rfl rfl rfl h31 rfl ?_
              refine AOps.call (o_pickF _ _ _ rfl h31 rfl rfl) ?_
              refine AOps.call (o_move _ rfl rfl) ?_
              refine AOps.pass rfl rfl rfl rfl rfl ?_
              refine AOps.pass rfl rfl rfl rfl rfl ?_
              refine AOps.pass rfl rfl rfl rfl rfl ?_
              refine AOps.pass rfl rfl rfl rfl rfl ?_
              refine AOps.passU rfl rfl rfl rfl ?_
              refine AOps.passU rfl rfl rfl rfl ?_
              refine AOps.passU rfl rfl rfl rfl ?_
              refine AOps.pass rfl rfl rfl rfl rfl ?_
              refine AOps.call (o_pickF _ _ _ rfl rfl rfl rfl) ?_
              refine AOps.call (o_assign _ rfl rfl) ?_
              refine AOps.nil ?_
              refine AWP.ret ?_
              refine postQ.ret1 Tryz.results60 rfl ?_
              simp_all [AV.close, B, I, trkB, inB]
              try (first | (intros; omega) | (rw [decide_eq_false (by omega : ¬ 0 < x.steep)]; rfl) | rfl)
        · skip
          refine AOps.pass rfl rfl rfl h22 rfl ?_
          refine AOps.pass rfl rfl rfl h22 rfl ?_
          refine AOps.pass rfl rfl rfl h22 rfl ?_
          refine AOps.pass rfl rfl rfl h22 rfl ?_
          refine AOps.call (o_pickT _ _ _ rfl h22 rfl rfl) ?_
          refine AOps.nil ?_
          refine AWP.condT rfl ?_
          refine AWP.seq ?_
          refine AWP.region ?_
          refine AOps.call (o_assign _ rfl rfl) ?_
          refine AOps.nil ?_
          refine AWP.ret ?_
          refine postQ.ret1 Tryz.results60 rfl ?_
          simp_all [AV.close, B, I, trkB, inB]
          try (first | (intros; omega) | (rw [decide_eq_false (by omega : ¬ 0 < x.steep)]; rfl) | rfl)
      · skip
        refine AOps.pass rfl rfl rfl h16 rfl ?_
        refine AOps.pass rfl rfl rfl h16 rfl ?_
        refine AOps.pass rfl rfl rfl h16 rfl ?_
        refine AOps.pass rfl rfl rfl h16 rfl ?_
        refine AOps.pass rfl rfl rfl h16 rfl ?_
        refine AOps.call (o_pickT _ _ _ rfl h16 rfl rfl) ?_
        refine AOps.call (o_move _ rfl rfl) ?_
        refine AOps.pass rfl rfl rfl rfl rfl ?_
        refine AOps.pass rfl rfl rfl rfl rfl ?_
        refine AOps.pass rfl rfl rfl rfl rfl ?_
        refine AOps.pass rfl rfl rfl rfl rfl ?_
        refine AOps.call (o_pickT _ _ _ rfl rfl rfl rfl) ?_
        refine AOps.nil ?_
        refine AWP.condT rfl ?_
        refine AWP.seq ?_
        refine AWP.region ?_
        refine AOps.call (o_assign _ rfl rfl) ?_
        refine AOps.nil ?_
        refine AWP.ret ?_
        refine postQ.ret1 Tryz.results60 rfl ?_
        simp_all [AV.close, B, I, trkB, inB]
        try (first | (intros; omega) | (rw [decide_eq_false (by omega : ¬ 0 < x.steep)]; rfl) | rfl)
    · skip
      refine AOps.pass rfl rfl rfl h11 rfl ?_
      refine AOps.pass rfl rfl rfl h11 rfl ?_
      refine AOps.pass rfl rfl rfl h11 rfl ?_
      refine AOps.pass rfl rfl rfl h11 rfl ?_
      refine AOps.call (o_pickT _ _ _ rfl h11 rfl rfl) ?_
      refine AOps.call (o_move _ rfl rfl) ?_
      refine AOps.pass rfl rfl rfl rfl rfl ?_
      refine AOps.pass rfl rfl rfl rfl rfl ?_
      refine AOps.pass rfl rfl rfl rfl rfl ?_
      refine AOps.pass rfl rfl rfl rfl rfl ?_
      refine AOps.pass rfl rfl rfl rfl rfl ?_
      refine AOps.call (o_pickT _ _ _ rfl rfl rfl rfl) ?_
      refine AOps.call (o_move _ rfl rfl) ?_
      refine AOps.pass rfl rfl rfl rfl rfl ?_
      refine AOps.pass rfl rfl rfl rfl rfl ?_
      refine AOps.pass rfl rfl rfl rfl rfl ?_
      refine AOps.pass rfl rfl rfl rfl rfl ?_
      refine AOps.call (o_pickT _ _ _ rfl rfl rfl rfl) ?_
      refine AOps.nil ?_
      refine AWP.condT rfl ?_
      refine AWP.seq ?_
      refine AWP.region ?_
      refine AOps.call (o_assign _ rfl rfl) ?_
      refine AOps.nil ?_
      refine AWP.ret ?_
      refine postQ.ret1 Tryz.results60 rfl ?_
      simp_all [AV.close, B, I, trkB, inB]
      try (first | (intros; omega) | (rw [decide_eq_false (by omega : ¬ 0 < x.steep)]; rfl) | rfl)
  · skip
    refine AOps.pass rfl rfl rfl h6 rfl ?_
    refine AOps.pass rfl rfl rfl h6 rfl ?_
    refine AOps.pass rfl rfl rfl h6 rfl ?_
    refine AOps.pass rfl rfl rfl h6 rfl ?_
    refine AOps.call (o_pickT _ _ _ rfl h6 rfl rfl) ?_
    refine AOps.call (o_move _ rfl rfl) ?_
    refine AOps.pass rfl rfl rfl rfl rfl ?_
    refine AOps.pass rfl rfl rfl rfl rfl ?_
    refine AOps.pass rfl rfl rfl rfl rfl ?_
    refine AOps.pass rfl rfl rfl rfl rfl ?_
    refine AOps.call (o_pickT _ _ _ rfl rfl rfl rfl) ?_
    refine AOps.call (o_move _ rfl rfl) ?_
    refine AOps.pass rfl rfl rfl rfl rfl ?_
    refine AOps.pass rfl rfl rfl rfl rfl ?_
    refine AOps.pass rfl rfl rfl rfl rfl ?_
    refine AOps.pass rfl rfl rfl rfl rfl ?_
    refine AOps.pass rfl rfl rfl rfl rfl ?_
    refine AOps.call (o_pickT _ _ _ rfl rfl rfl rfl) ?_
    refine AOps.call (o_move _ rfl rfl) ?_
    refine AOps.pass rfl rfl rfl rfl rfl ?_
    refine AOps.pass rfl rfl rfl rfl rfl ?_
    refine AOps.pass rfl rfl rfl rfl rfl ?_
    refine AOps.pass rfl rfl rfl rfl rfl ?_
    refine AOps.call (o_pickT _ _ _ rfl rfl rfl rfl) ?_
    refine AOps.nil ?_
    refine AWP.condT rfl ?_
    refine AWP.seq ?_
    refine AWP.region ?_
    refine AOps.call (o_assign _ rfl rfl) ?_
    refine AOps.nil ?_
    refine AWP.ret ?_
    refine postQ.ret1 Tryz.results60 rfl ?_
    simp_all [AV.close, B, I, trkB, inB]
    try (first | (intros; omega) | (rw [decide_eq_false (by omega : ¬ 0 < x.steep)]; rfl) | rfl)

set_option maxRecDepth 20000 in
theorem areSites_s (l : List Sit) : FSpec Tryz.prog 34 [.sl (sts l)] (B (decide (l.length ≤ 16) && okSs (-1) l)) (none) := by
  refine FSpec.of_body Tryz.func34 rfl (leB rfl) fun w0 M0 => ?_
  have hll := sts_len l
  refine AWP.seq ?_
  refine AWP.region ?_
  refine AOps.call (o_assign _ rfl rfl) ?_
  refine AOps.nil ?_
  refine AWP.seq ?_
  refine AWP.seq ?_
  refine AWP.region ?_
  refine AOps.call (o_move _ rfl rfl) ?_
  refine AOps.call (o_len _ Tryz.underlying22 rfl rfl) ?_
  refine AOps.call (o_bin _ _ rfl rfl (fun _ => rfl) rfl) ?_
  refine AOps.nil ?_
  refine AWP.cond _ rfl (fun h4 => ?_) (fun h4 => ?_)
  · skip
    have h16 : ¬ l.length ≤ 16 := by have hq := of_decide_eq_true h4; omega
    refine AWP.seq ?_
    refine AWP.region ?_
    refine AOps.call (o_assign _ rfl rfl) ?_
    refine AOps.nil ?_
    refine AWP.ret ?_
    refine postQ.ret1 Tryz.results34 rfl ?_
    first
    | (rw [decide_eq_false h16]; rfl)
    | (rw [decide_eq_true h16, hE]; rfl)
  · skip
    have h16 : l.length ≤ 16 := by have hq := of_decide_eq_false h4; omega
    refine AWP.skip ?_
    refine AWP.seq ?_
    refine AWP.region ?_
    refine AOps.call (o_assign _ rfl rfl) ?_
    refine AOps.nil ?_
    refine AWP.seq ?_
    refine AWP.seq ?_
    refine AWP.region ?_
    refine AOps.call (o_move _ rfl rfl) ?_
    refine AOps.call (o_len _ Tryz.underlying22 rfl rfl) ?_
    refine AOps.call (o_move _ rfl rfl) ?_
    refine AOps.nil ?_
    refine AWP.block ?_
    refine AWP.loop (ι := Nat) (fun i => AS.mk' 27 [(0, .sl (sts l)), (3, I (prS l i)), (9, .sl (sts l)), (10, I (sts l).length), (11, I i)] [] [] []) (fun i => i ≤ l.length ∧ okSs (-1) l = okSs (prS l i) (l.drop i)) (fun i => l.length - i) (0) (Weak.mk' rfl ⟨⟨.refl rfl, rfl⟩, ⟨⟨.refl rfl, rfl⟩, ⟨⟨.refl rfl, rfl⟩, ⟨⟨.refl rfl, rfl⟩, ⟨⟨.refl rfl, rfl⟩, trivial⟩⟩⟩⟩⟩ trivial trivial) (⟨Nat.zero_le _, rfl⟩) ?_
    rintro k ⟨hk, hv⟩
    try dsimp only at *
    refine AWP.seq ?_
    refine AWP.region ?_
    refine AOps.call (o_bin _ _ rfl rfl (fun _ => rfl) rfl) ?_
    refine AOps.nil ?_
    refine AWP.seq ?_
    refine AWP.cond _ rfl (fun h10 => ?_) (fun h10 => ?_)
    · skip
      have hlt : k < l.length := by have hq := of_decide_eq_true h10; omega
      have hel := sts_at hlt
      refine AWP.skip ?_
      refine AWP.seq ?_
      refine AWP.block ?_
      refine AWP.seq ?_
      refine AWP.region ?_
      refine AOps.call (o_index _ _ Tryz.underlying22 Tryz.sizeOf68 rfl rfl (by omega) (by assumption) rfl rfl) ?_
      refine AOps.call (o_loadRd _ rfl Tryz.sizeOf68 Tryz.isAgg68 rfl rfl rfl) ?_
      refine AOps.call (o_alloc ze68 rfl rfl) ?_
      refine AOps.cons (o_store _ _ rfl rfl Tryz.sizeOf68 rfl rfl rfl rfl rfl) ?_
      refine AOps.nil ?_
      refine AWP.seq ?_
      refine AWP.seq ?_
      refine AWP.region ?_
      refine AOps.call (o_loadRef _ rfl rfl Tryz.sizeOf68 Tryz.isAgg68 rfl rfl rfl) ?_
      refine AOps.call (o_call (isSite_s _) Tryz.call59 rfl rfl) ?_
      refine AOps.call (o_un _ rfl (fun _ => rfl) rfl) ?_
      refine AOps.call (o_move _ rfl rfl) ?_
      refine AOps.split rfl rfl rfl (fun h17 => ?_) (fun h17 => ?_)
      · skip
        refine AOps.go rfl rfl rfl h17 (o_fieldRef _ rfl fa68_0 rfl rfl) ?_
        refine AOps.go rfl rfl rfl h17 (o_loadRef _ rfl rfl Tryz.sizeOf3 Tryz.isAgg3 rfl rfl rfl) ?_
        refine AOps.go rfl rfl rfl h17 (o_move _ rfl rfl) ?_
        refine AOps.go rfl rfl rfl h17 (o_bin _ _ rfl rfl (fun _ => rfl) rfl) ?_
        refine AOps.call (o_pickF _ _ _ rfl h17 rfl rfl) ?_
        refine AOps.nil ?_
        refine AWP.cond _ rfl (fun h21 => ?_) (fun h21 => ?_)
        · skip
          have hbk : (sitB l[k] && decide (prS l k < l[k].no)) = false := by
            cases hc : (sitB l[k] && decide (prS l k < l[k].no)) with
            | false => rfl
            | true =>
              simp only [Bool.and_eq_true, decide_eq_true_eq] at hc
              simp_all [AV.close, B, I]
              try omega
          have hE := okSs_bad hlt hv hbk
          refine AWP.seq ?_
          refine AWP.region ?_
          refine AOps.call (o_assign _ rfl rfl) ?_
          refine AOps.nil ?_
          refine AWP.ret ?_
          refine postQ.ret1 Tryz.results34 rfl ?_
          first
          | (rw [decide_eq_false h16]; rfl)
          | (rw [decide_eq_true h16, hE]; rfl)
        · skip
          have hbk : (sitB l[k] && decide (prS l k < l[k].no)) = true := by
            simp only [Bool.and_eq_true, decide_eq_true_eq]
            simp_all [AV.close, B, I]
            try omega
          refine AWP.skip ?_
          refine AWP.region ?_
          refine AOps.call (o_fieldRef _ rfl fa68_0 rfl rfl) ?_
          refine AOps.call (o_loadRef _ rfl rfl Tryz.sizeOf3 Tryz.isAgg3 rfl rfl rfl) ?_
          refine AOps.call (o_assign _ rfl rfl) ?_
          refine AOps.nil ?_
          refine AWP.region ?_
          refine AOps.call (o_add _ _ rfl rfl ⟨by (try dsimp only); omega, by (try dsimp only); omega⟩ rfl) ?_
          refine AOps.call (o_move _ rfl rfl) ?_
          refine AOps.nil ?_
          refine ⟨k + 1, ?_, (Weak.mk' rfl ⟨⟨.refl rfl, rfl⟩, ⟨⟨.refl (by rw [prS_s hlt]; rfl), rfl⟩, ⟨⟨.refl rfl, rfl⟩, ⟨⟨.refl rfl, rfl⟩, ⟨⟨.refl rfl, rfl⟩, trivial⟩⟩⟩⟩⟩ trivial trivial)⟩
          exact ⟨⟨by omega, okSs_go hlt hv hbk⟩, by omega⟩
      · skip
        refine AOps.pass rfl rfl rfl h17 rfl ?_
        refine AOps.pass rfl rfl rfl h17 rfl ?_
        refine AOps.pass rfl rfl rfl h17 rfl ?_
        refine AOps.pass rfl rfl rfl h17 rfl ?_
        refine AOps.call (o_pickT _ _ _ rfl h17 rfl rfl) ?_
        refine AOps.nil ?_
        refine AWP.condT rfl ?_
        have hbk : (sitB l[k] && decide (prS l k < l[k].no)) = false := by
          cases hc : (sitB l[k] && decide (prS l k < l[k].no)) with
          | false => rfl
          | true =>
            simp only [Bool.and_eq_true, decide_eq_true_eq] at hc
            simp_all [AV.close, B, I]
            try omega
        have hE := okSs_bad hlt hv hbk
        refine AWP.seq ?_
        refine AWP.region ?_
        refine AOps.call (o_assign _ rfl rfl) ?_
        refine AOps.nil ?_
        refine AWP.ret ?_
        refine postQ.ret1 Tryz.results34 rfl ?_
        first
        | (rw [decide_eq_false h16]; rfl)
        | (rw [decide_eq_true h16, hE]; rfl)
    · skip
      have hkl : l.length ≤ k := by have hq := of_decide_eq_false h10; omega
      have hE : okSs (-1) l = true := by rw [hv, List.drop_eq_nil_of_le hkl]; rfl
      refine AWP.exit ?_
      refine AWP.seq ?_
      refine AWP.region ?_
      refine AOps.call (o_assign _ rfl rfl) ?_
      refine AOps.nil ?_
      refine AWP.ret ?_
      refine postQ.ret1 Tryz.results34 rfl ?_
      first
      | (rw [decide_eq_false h16]; rfl)
      | (rw [decide_eq_true h16, hE]; rfl)

set_option maxRecDepth 20000 in
theorem hasSite1_s (x : Sit) (n : Int) : FSpec Tryz.prog 68 [.agg (eSi x), .rd [I n]] (B (decide (x.no = n))) (none) := by
  refine FSpec.of_body Tryz.func68 rfl (leB rfl) fun w0 M0 => ?_
  refine AWP.seq ?_
  refine AWP.region ?_
  refine AOps.call (o_box _ rfl rfl rfl) ?_
  refine AOps.call (o_assign _ rfl rfl) ?_
  refine AOps.nil ?_
  refine AWP.seq ?_
  refine AWP.region ?_
  refine AOps.call (o_fieldRef _ rfl fa68_0 rfl rfl) ?_
  refine AOps.call (o_loadRef _ rfl rfl Tryz.sizeOf3 Tryz.isAgg3 rfl rfl rfl) ?_
  refine AOps.call (o_loadRd _ rfl Tryz.sizeOf3 Tryz.isAgg3 rfl rfl rfl) ?_
  refine AOps.call (o_bin _ _ rfl rfl (fun _ => rfl) rfl) ?_
  refine AOps.call (o_assign _ rfl rfl) ?_
  refine AOps.nil ?_
  refine AWP.ret ?_
  exact postQ.ret1 Tryz.results68 rfl rfl

set_option maxRecDepth 20000 in
theorem IndexSt_s (l : List Sit) (n : Int) (hl : l.length ≤ 1000000) : FSpec Tryz.prog 69 [.sl (sts l), .clo 68 [.rd [I n]]] (I (firstA (fun x : Sit => decide (x.no = n)) l 0)) (none) := by
  refine FSpec.of_body Tryz.func69 rfl (leB rfl) fun w0 M0 => ?_
  have hll := sts_len l
  refine AWP.seq ?_
  refine AWP.region ?_
  refine AOps.call (o_assign _ rfl rfl) ?_
  refine AOps.nil ?_
  refine AWP.seq ?_
  refine AWP.seq ?_
  refine AWP.region ?_
  refine AOps.call (o_move _ rfl rfl) ?_
  refine AOps.call (o_len _ Tryz.underlying22 rfl rfl) ?_
  refine AOps.call (o_move _ rfl rfl) ?_
  refine AOps.nil ?_
  refine AWP.block ?_
  refine AWP.loop (ι := Nat) (fun i => AS.mk' 19 [(0, .sl (sts l)), (1, .clo 68 [.rd [I n]]), (7, I (sts l).length), (8, I i)] [] [] []) (fun i => i ≤ l.length ∧ firstA (fun x : Sit => decide (x.no = n)) l 0 = firstA (fun x : Sit => decide (x.no = n)) (l.drop i) i) (fun i => l.length - i) (0) (Weak.mk' rfl ⟨⟨.refl rfl, rfl⟩, ⟨⟨.refl rfl, rfl⟩, ⟨⟨.refl rfl, rfl⟩, ⟨⟨.refl rfl, rfl⟩, trivial⟩⟩⟩⟩ trivial trivial) (⟨Nat.zero_le _, rfl⟩) ?_
  rintro k ⟨hk, hinv⟩
  try dsimp only at *
  refine AWP.seq ?_
  refine AWP.region ?_
  refine AOps.call (o_bin _ _ rfl rfl (fun _ => rfl) rfl) ?_
  refine AOps.nil ?_
  refine AWP.seq ?_
  refine AWP.cond _ rfl (fun h6 => ?_) (fun h6 => ?_)
  · skip
    have hlt : k < l.length := by have hq := of_decide_eq_true h6; omega
    have hel := sts_at hlt
    refine AWP.skip ?_
    refine AWP.seq ?_
    refine AWP.block ?_
    refine AWP.seq ?_
    refine AWP.region ?_
    refine AOps.call (o_move _ rfl rfl) ?_
    refine AOps.call (o_assign _ rfl rfl) ?_
    refine AOps.nil ?_
    refine AWP.seq ?_
    refine AWP.region ?_
    refine AOps.call (o_move _ rfl rfl) ?_
    refine AOps.call (o_move _ rfl rfl) ?_
    refine AOps.call (o_move _ rfl rfl) ?_
    refine AOps.call (o_index _ _ Tryz.underlying22 Tryz.sizeOf68 rfl rfl (by omega) (by assumption) rfl rfl) ?_
    refine AOps.call (o_loadRd _ rfl Tryz.sizeOf68 Tryz.isAgg68 rfl rfl rfl) ?_
    refine AOps.call (o_callV (cl := [.agg (eSi l[k])]) (ccl := [.rd [I n]]) _ rfl (hasSite1_s l[k] n) Tryz.call68 rfl rfl rfl) ?_
    refine AOps.nil ?_
    refine AWP.cond _ rfl (fun h12 => ?_) (fun h12 => ?_)
    · skip
      have hq : (fun x : Sit => decide (x.no = n)) l[k] = true := h12
      refine AWP.seq ?_
      refine AWP.region ?_
      refine AOps.call (o_move _ rfl rfl) ?_
      refine AOps.call (o_assign _ rfl rfl) ?_
      refine AOps.nil ?_
      refine AWP.ret ?_
      refine postQ.ret1 Tryz.results69 rfl ?_
      first
      | (rw [hinv, firstA_at hlt, if_pos hq]; rfl)
      | (rw [hinv]; rfl)
    · skip
      have hq : (fun x : Sit => decide (x.no = n)) l[k] = false := h12
      refine AWP.skip ?_
      refine AWP.region ?_
      refine AOps.call (o_add _ _ rfl rfl ⟨by (try dsimp only); omega, by (try dsimp only); omega⟩ rfl) ?_
      refine AOps.call (o_move _ rfl rfl) ?_
      refine AOps.nil ?_
      refine ⟨k + 1, ?_, (Weak.mk' rfl ⟨⟨.refl rfl, rfl⟩, ⟨⟨.refl rfl, rfl⟩, ⟨⟨.refl rfl, rfl⟩, ⟨⟨.refl rfl, rfl⟩, trivial⟩⟩⟩⟩ trivial trivial)⟩
      refine ⟨⟨by omega, ?_⟩, by omega⟩
      rw [hinv, firstA_at hlt, if_neg (by simpa using hq)]
  · skip
    have hkl : k = l.length := by have hq := of_decide_eq_false h6; omega
    subst hkl
    rw [List.drop_length] at hinv
    refine AWP.exit ?_
    refine AWP.seq ?_
    refine AWP.region ?_
    refine AOps.call (o_assign _ rfl rfl) ?_
    refine AOps.nil ?_
    refine AWP.ret ?_
    refine postQ.ret1 Tryz.results69 rfl ?_
    first
    | (rw [hinv, firstA_at hlt, if_pos hq]; rfl)
    | (rw [hinv]; rfl)

set_option maxRecDepth 20000 in
theorem ContSt_s (l : List Sit) (n : Int) (hl : l.length ≤ 1000000) : FSpec Tryz.prog 67 [.sl (sts l), .clo 68 [.rd [I n]]] (B (hasN l n)) (none) := by
  refine FSpec.of_body Tryz.func67 rfl (leB rfl) fun w0 M0 => ?_
  refine AWP.seq ?_
  refine AWP.region ?_
  refine AOps.call (o_assign _ rfl rfl) ?_
  refine AOps.nil ?_
  refine AWP.seq ?_
  refine AWP.region ?_
  refine AOps.call (o_move _ rfl rfl) ?_
  refine AOps.call (o_move _ rfl rfl) ?_
  refine AOps.call (o_call (IndexSt_s l n hl) Tryz.call69 rfl rfl) ?_
  refine AOps.call (o_bin _ _ rfl rfl (fun _ => rfl) rfl) ?_
  refine AOps.call (o_assign _ rfl rfl) ?_
  refine AOps.nil ?_
  refine AWP.ret ?_
  refine postQ.ret1 Tryz.results67 rfl ?_
  show some (B _) = some (B _)
  rw [(firstA_any _ l 0 (Int.le_refl 0)).1]
  rfl

set_option maxRecDepth 20000 in
theorem hasSite_s (r : Rng) (n : Int) (hl : r.s.length ≤ 1000000) : FSpec Tryz.prog 42 [.agg (eRg r), I n] (B (hasN r.s n)) (none) := by
  refine FSpec.of_body Tryz.func42 rfl (leB rfl) fun w0 M0 => ?_
  refine AWP.seq ?_
  refine AWP.region ?_
  refine AOps.call (o_box _ rfl rfl rfl) ?_
  refine AOps.call (o_box _ rfl rfl rfl) ?_
  refine AOps.call (o_assign _ rfl rfl) ?_
  refine AOps.nil ?_
  refine AWP.seq ?_
  refine AWP.region ?_
  refine AOps.call (o_fieldRef _ rfl fa25_0 rfl rfl) ?_
  refine AOps.call (o_loadRef _ rfl rfl Tryz.sizeOf22 Tryz.isAgg22 rfl rfl rfl) ?_
  refine AOps.weak (Weak.frzv (id := (3, 0)) (t := 3) rfl rfl rfl) ?_
  refine AOps.call (o_makeClo rfl rfl) ?_
  refine AOps.call (o_call (ContSt_s r.s n hl) Tryz.call67 rfl rfl) ?_
  refine AOps.call (o_assign _ rfl rfl) ?_
  refine AOps.nil ?_
  refine AWP.ret ?_
  exact postQ.ret1 Tryz.results42 rfl rfl

set_option maxRecDepth 20000 in
theorem areTracks_s (r : Rng) (hl : r.s.length ≤ 1000000) : FSpec Tryz.prog 35 [.agg (eRg r)] (B (decide (r.t.length ≤ 48) && okTs r.s (-1) r.t)) (none) := by
  refine FSpec.of_body Tryz.func35 rfl (leB rfl) fun w0 M0 => ?_
  have hll := trs_len r.t
  refine AWP.seq ?_
  refine AWP.region ?_
  refine AOps.call (o_box _ rfl rfl rfl) ?_
  refine AOps.call (o_assign _ rfl rfl) ?_
  refine AOps.nil ?_
  refine AWP.seq ?_
  refine AWP.seq ?_
  refine AWP.region ?_
  refine AOps.call (o_fieldRef _ rfl fa25_1 rfl rfl) ?_
  refine AOps.call (o_loadRef _ rfl rfl Tryz.sizeOf23 Tryz.isAgg23 rfl rfl rfl) ?_
  refine AOps.call (o_len _ Tryz.underlying23 rfl rfl) ?_
  refine AOps.call (o_bin _ _ rfl rfl (fun _ => rfl) rfl) ?_
  refine AOps.nil ?_
  refine AWP.cond _ rfl (fun h6 => ?_) (fun h6 => ?_)
  · skip
    have h16 : ¬ r.t.length ≤ 48 := by have hq := of_decide_eq_true h6; omega
    refine AWP.seq ?_
    refine AWP.region ?_
    refine AOps.call (o_assign _ rfl rfl) ?_
    refine AOps.nil ?_
    refine AWP.ret ?_
    refine postQ.ret1 Tryz.results35 rfl ?_
    first
    | (rw [decide_eq_false h16]; rfl)
    | (rw [decide_eq_true h16, hE]; rfl)
  · skip
    have h16 : r.t.length ≤ 48 := by have hq := of_decide_eq_false h6; omega
    refine AWP.skip ?_
    refine AWP.seq ?_
    refine AWP.region ?_
    refine AOps.call (o_assign _ rfl rfl) ?_
    refine AOps.nil ?_
    refine AWP.seq ?_
    refine AWP.seq ?_
    refine AWP.region ?_
    refine AOps.call (o_fieldRef _ rfl fa25_1 rfl rfl) ?_
    refine AOps.call (o_loadRef _ rfl rfl Tryz.sizeOf23 Tryz.isAgg23 rfl rfl rfl) ?_
    refine AOps.call (o_len _ Tryz.underlying23 rfl rfl) ?_
    refine AOps.call (o_move _ rfl rfl) ?_
    refine AOps.nil ?_
    refine AWP.block ?_
    refine AWP.loop (ι := Nat) (fun i => AS.mk' 43 [(1, .ref (1, 0) 0), (3, I (prT r.t i)), (11, .sl (trs r.t)), (12, I (trs r.t).length), (13, I i)] [((1, 0), eRg r)] [] [(1, 1)]) (fun i => i ≤ r.t.length ∧ okTs r.s (-1) r.t = okTs r.s (prT r.t i) (r.t.drop i)) (fun i => r.t.length - i) (0) (Weak.mk' rfl ⟨⟨.refl rfl, rfl⟩, ⟨⟨.refl rfl, rfl⟩, ⟨⟨.refl rfl, rfl⟩, ⟨⟨.refl rfl, rfl⟩, ⟨⟨.refl rfl, rfl⟩, trivial⟩⟩⟩⟩⟩ ⟨⟨rfl, rfl, rfl⟩, trivial⟩ trivial) (⟨Nat.zero_le _, rfl⟩) ?_
    rintro k ⟨hk, hv⟩
    try dsimp only at *
    refine AWP.seq ?_
    refine AWP.region ?_
    refine AOps.call (o_bin _ _ rfl rfl (fun _ => rfl) rfl) ?_
    refine AOps.nil ?_
    refine AWP.seq ?_
    refine AWP.cond _ rfl (fun h13 => ?_) (fun h13 => ?_)
    · skip
      have hlt : k < r.t.length := by have hq := of_decide_eq_true h13; omega
      have hel := trs_at hlt
      refine AWP.skip ?_
      refine AWP.seq ?_
      refine AWP.block ?_
      refine AWP.seq ?_
      refine AWP.region ?_
      refine AOps.call (o_index _ _ Tryz.underlying23 Tryz.sizeOf74 rfl rfl (by omega) (by assumption) rfl rfl) ?_
      refine AOps.call (o_loadRd _ rfl Tryz.sizeOf74 Tryz.isAgg74 rfl rfl rfl) ?_
      refine AOps.call (o_alloc ze74 rfl rfl) ?_
      refine AOps.cons (o_store _ _ rfl rfl Tryz.sizeOf74 rfl rfl rfl rfl rfl) ?_
      refine AOps.nil ?_
      refine AWP.seq ?_
      refine AWP.seq ?_
      refine AWP.region ?_
      refine AOps.call (o_loadRef _ rfl rfl Tryz.sizeOf74 Tryz.isAgg74 rfl rfl rfl) ?_
      refine AOps.call (o_call (isTrack_s _) Tryz.call60 rfl rfl) ?_
      refine AOps.call (o_un _ rfl (fun _ => rfl) rfl) ?_
      refine AOps.call (o_move _ rfl rfl) ?_
      refine AOps.split rfl rfl rfl (fun h20 => ?_) (fun h20 => ?_)
      · skip
        refine AOps.go rfl rfl rfl h20 (o_fieldRef _ rfl fa74_0 rfl rfl) ?_
        refine AOps.go rfl rfl rfl h20 (o_loadRef _ rfl rfl Tryz.sizeOf3 Tryz.isAgg3 rfl rfl rfl) ?_
        refine AOps.go rfl rfl rfl h20 (o_move _ rfl rfl) ?_
        refine AOps.go rfl rfl rfl h20 (o_bin _ _ rfl rfl (fun _ => rfl) rfl) ?_
        refine AOps.call (o_pickF _ _ _ rfl h20 rfl rfl) ?_
        refine AOps.call (o_move _ rfl rfl) ?_
        refine AOps.split rfl rfl rfl (fun h24 => ?_) (fun h24 => ?_)
        · skip
          refine AOps.go rfl rfl rfl h24 (o_loadRef _ rfl rfl Tryz.sizeOf25 Tryz.isAgg25 rfl rfl rfl) ?_
          refine AOps.go rfl rfl rfl h24 (o_fieldRef _ rfl fa74_1 rfl rfl) ?_
          refine AOps.go rfl rfl rfl h24 (o_loadRef _ rfl rfl Tryz.sizeOf3 Tryz.isAgg3 rfl rfl rfl) ?_
          refine AOps.go rfl rfl rfl h24 (o_call (hasSite_s r _ hl) Tryz.call42 rfl rfl) ?_
          refine AOps.go rfl rfl rfl h24 (o_un _ rfl (fun _ => rfl) rfl) ?_
          refine AOps.call (o_pickF _ _ _ rfl h24 rfl rfl) ?_
          refine AOps.call (o_move _ rfl rfl) ?_
          refine AOps.split rfl rfl rfl (fun h30 => ?_) (fun h30 => ?_)
          · skip
            refine AOps.go rfl rfl rfl h30 (o_loadRef _ rfl rfl Tryz.sizeOf25 Tryz.isAgg25 rfl rfl rfl) ?_
            refine AOps.go rfl rfl rfl h30 (o_fieldRef _ rfl fa74_2 rfl rfl) ?_
            refine AOps.go rfl rfl rfl h30 (o_loadRef _ rfl rfl Tryz.sizeOf3 Tryz.isAgg3 rfl rfl rfl) ?_
            refine AOps.go rfl rfl rfl h30 (o_call (hasSite_s r _ hl) Tryz.call42 rfl rfl) ?_
            refine AOps.go rfl rfl rfl h30 (o_un _ rfl (fun _ => rfl) rfl) ?_
            refine AOps.call (o_pickF _ _ _ rfl h30 rfl rfl) ?_
            refine AOps.nil ?_
            refine AWP.cond _ rfl (fun h36 => ?_) (fun h36 => ?_)
            · skip
              have hbk : (trkS r.s r.t[k] && decide (prT r.t k < r.t[k].no)) = false := by
                cases hc : (trkS r.s r.t[k] && decide (prT r.t k < r.t[k].no)) with
                | false => rfl
                | true =>
                  simp only [Bool.and_eq_true, decide_eq_true_eq, trkS] at hc
                  simp_all [AV.close, B, I]
                  try omega
              have hE := okTs_bad hlt hv hbk
              refine AWP.seq ?_
              refine AWP.region ?_
              refine AOps.call (o_assign _ rfl rfl) ?_
              refine AOps.nil ?_
              refine AWP.ret ?_
              refine postQ.ret1 Tryz.results35 rfl ?_
              first
              | (rw [decide_eq_false h16]; rfl)
              | (rw [decide_eq_true h16, hE]; rfl)
            · skip
              have hbk : (trkS r.s r.t[k] && decide (prT r.t k < r.t[k].no)) = true := by
                simp only [Bool.and_eq_true, decide_eq_true_eq, trkS]
                simp_all [AV.close, B, I]
                try omega
              refine AWP.skip ?_
              refine AWP.region ?_
              refine AOps.call (o_fieldRef _ rfl fa74_0 rfl rfl) ?_
              refine AOps.call (o_loadRef _ rfl rfl Tryz.sizeOf3 Tryz.isAgg3 rfl rfl rfl) ?_
              refine AOps.call (o_assign _ rfl rfl) ?_
              refine AOps.nil ?_
              refine AWP.region ?_
              refine AOps.call (o_add _ _ rfl rfl ⟨by (try dsimp only); omega, by (try dsimp only); omega⟩ rfl) ?_
              refine AOps.call (o_move _ rfl rfl) ?_
              refine AOps.nil ?_
              refine ⟨k + 1, ?_, (Weak.mk' rfl ⟨⟨.refl rfl, rfl⟩, ⟨⟨.refl (by rw [prT_s hlt]; rfl), rfl⟩, ⟨⟨.refl rfl, rfl⟩, ⟨⟨.refl rfl, rfl⟩, ⟨⟨.refl rfl, rfl⟩, trivial⟩⟩⟩⟩⟩ ⟨⟨rfl, rfl, rfl⟩, trivial⟩ trivial)⟩
              exact ⟨⟨by omega, okTs_go hlt hv hbk⟩, by omega⟩
          · skip
            refine AOps.pass rfl rfl rfl h30 rfl ?_
            refine AOps.pass rfl rfl rfl h30 rfl ?_
            refine AOps.pass rfl rfl rfl h30 rfl ?_
            refine AOps.pass rfl rfl rfl h30 rfl ?_
            refine AOps.pass rfl rfl rfl h30 rfl ?_
            refine AOps.call (o_pickT _ _ _ rfl h30 rfl rfl) ?_
            refine AOps.nil ?_
            refine AWP.condT rfl ?_
            have hbk : (trkS r.s r.t[k] && decide (prT r.t k < r.t[k].no)) = false := by
              cases hc : (trkS r.s r.t[k] && decide (prT r.t k < r.t[k].no)) with
              | false => rfl
              | true =>
                simp only [Bool.and_eq_true, decide_eq_true_eq, trkS] at hc
                simp_all [AV.close, B, I]
                try omega
            have hE := okTs_bad hlt hv hbk
            refine AWP.seq ?_
            refine AWP.region ?_
            refine AOps.call (o_assign _ rfl rfl) ?_
            refine AOps.nil ?_
            refine AWP.ret ?_
            refine postQ.ret1 Tryz.results35 rfl ?_
            first
            | (rw [decide_eq_false h16]; rfl)
            | (rw [decide_eq_true h16, hE]; rfl)
        · skip
          refine AOps.pass rfl rfl rfl h24 rfl ?_
          refine AOps.pass rfl rfl rfl h24 rfl ?_
          refine AOps.pass rfl rfl rfl h24 rfl ?_
          refine AOps.pass rfl rfl rfl h24 rfl ?_
          refine AOps.pass rfl rfl rfl h24 rfl ?_
          refine AOps.call (o_pickT _ _ _ rfl h24 rfl rfl) ?_
          refine AOps.call (o_move _ rfl rfl) ?_
          refine AOps.pass rfl rfl rfl rfl rfl ?_
          refine AOps.pass rfl rfl rfl rfl rfl ?_
          refine AOps.pass rfl rfl rfl rfl rfl ?_
          refine AOps.pass rfl rfl rfl rfl rfl ?_
          refine AOps.pass rfl rfl rfl rfl rfl ?_
          refine AOps.call (o_pickT _ _ _ rfl rfl rfl rfl) ?_
          refine AOps.nil ?_
          refine AWP.condT rfl ?_
          have hbk : (trkS r.s r.t[k] && decide (prT r.t k < r.t[k].no)) = false := by
            cases hc : (trkS r.s r.t[k] && decide (prT r.t k < r.t[k].no)) with
            | false => rfl
            | true =>
              simp only [Bool.and_eq_true, decide_eq_true_eq, trkS] at hc
              simp_all [AV.close, B, I]
              try omega
          have hE := okTs_bad hlt hv hbk
          refine AWP.seq ?_
          refine AWP.region ?_
          refine AOps.call (o_assign _ rfl rfl) ?_
          refine AOps.nil ?_
          refine AWP.ret ?_
          refine postQ.ret1 Tryz.results35 rfl ?_
          first
          | (rw [decide_eq_false h16]; rfl)
          | (rw [decide_eq_true h16, hE]; rfl)
      · skip
        refine AOps.pass rfl rfl rfl h20 rfl ?_
        refine AOps.pass rfl rfl rfl h20 rfl ?_
        refine AOps.pass rfl rfl rfl h20 rfl ?_
        refine AOps.pass rfl rfl rfl h20 rfl ?_
        refine AOps.call (o_pickT _ _ _ rfl h20 rfl rfl) ?_
        refine AOps.call (o_move _ rfl rfl) ?_
        refine AOps.pass rfl rfl rfl rfl rfl ?_
        refine AOps.pass rfl rfl rfl rfl rfl ?_
        refine AOps.pass rfl rfl rfl rfl rfl ?_
        refine AOps.pass rfl rfl rfl rfl rfl ?_
        refine AOps.pass rfl rfl rfl rfl rfl ?_
        refine AOps.call (o_pickT _ _ _ rfl rfl rfl rfl) ?_
        refine AOps.call (o_move _ rfl rfl) ?_
        refine AOps.pass rfl rfl rfl rfl rfl ?_
        refine AOps.pass rfl rfl rfl rfl rfl ?_
        refine AOps.pass rfl rfl rfl rfl rfl ?_
        refine AOps.pass rfl rfl rfl rfl rfl ?_
        refine AOps.pass rfl rfl rfl rfl rfl ?_
        refine AOps.call (o_pickT _ _ _ rfl rfl rfl rfl) ?_
        refine AOps.nil ?_
        refine AWP.condT rfl ?_
        have hbk : (trkS r.s r.t[k] && decide (prT r.t k < r.t[k].no)) = false := by
          cases hc : (trkS r.s r.t[k] && decide (prT r.t k < r.t[k].no)) with
          | false => rfl
          | true =>
            simp only [Bool.and_eq_true, decide_eq_true_eq, trkS] at hc
            simp_all [AV.close, B, I]
            try omega
        have hE := okTs_bad hlt hv hbk
        refine AWP.seq ?_
        refine AWP.region ?_
        refine AOps.call (o_assign _ rfl rfl) ?_
        refine AOps.nil ?_
        refine AWP.ret ?_
        refine postQ.ret1 Tryz.results35 rfl ?_
        first
        | (rw [decide_eq_false h16]; rfl)
        | (rw [decide_eq_true h16, hE]; rfl)
    · skip
      have hkl : r.t.length ≤ k := by have hq := of_decide_eq_false h13; omega
      have hE : okTs r.s (-1) r.t = true := by rw [hv, List.drop_eq_nil_of_le hkl]; rfl
      refine AWP.exit ?_
      refine AWP.seq ?_
      refine AWP.region ?_
      refine AOps.call (o_assign _ rfl rfl) ?_
      refine AOps.nil ?_
      refine AWP.ret ?_
      refine postQ.ret1 Tryz.results35 rfl ?_
      first
      | (rw [decide_eq_false h16]; rfl)
      | (rw [decide_eq_true h16, hE]; rfl)

set_option maxRecDepth 20000 in
theorem CheckRange_s (r : Rng) : FSpec Tryz.prog 13 [.agg (eRg r)] (I (if okR r then 0 else 70)) (none) := by
  refine FSpec.of_body Tryz.func13 rfl (leB rfl) fun w0 M0 => ?_
  refine AWP.seq ?_
  refine AWP.region ?_
  refine AOps.call (o_box _ rfl rfl rfl) ?_
  refine AOps.call (o_assign _ rfl rfl) ?_
  refine AOps.nil ?_
  refine AWP.seq ?_
  refine AWP.seq ?_
  refine AWP.region ?_
  refine AOps.call (o_fieldRef _ rfl fa25_0 rfl rfl) ?_
  refine AOps.call (o_loadRef _ rfl rfl Tryz.sizeOf22 Tryz.isAgg22 rfl rfl rfl) ?_
  refine AOps.call (o_call (areSites_s _) Tryz.call34 rfl rfl) ?_
  refine AOps.call (o_un _ rfl (fun _ => rfl) rfl) ?_
  refine AOps.call (o_move _ rfl rfl) ?_
  refine AOps.split rfl rfl rfl (fun h7 => ?_) (fun h7 => ?_)
  · skip
    refine AOps.go rfl rfl rfl h7 (o_loadRef _ rfl rfl Tryz.sizeOf25 Tryz.isAgg25 rfl rfl rfl) ?_
    refine AOps.go rfl rfl rfl h7 (o_call (areTracks_s _ (by simp_all; omega)) Tryz.call35 rfl rfl) ?_
    refine AOps.go rfl rfl rfl h7 (o_un _ rfl (fun _ => rfl) rfl) ?_
    refine AOps.call (o_pickF _ _ _ rfl h7 rfl rfl) ?_
    refine AOps.nil ?_
    refine AWP.cond _ rfl (fun h11 => ?_) (fun h11 => ?_)
    · skip
      refine AWP.seq ?_
      refine AWP.region ?_
      refine AOps.call (o_assign _ rfl rfl) ?_
      refine AOps.nil ?_
      refine AWP.ret ?_
      refine postQ.ret1 Tryz.results13 rfl ?_
      unfold okR
      simp_all [AV.close, I]
      try (first | (intros; omega) | (intro h9; rcases h11 with h12 | h12; omega; exact h12) | (intro h9; rcases h7 with h12 | h12; omega; simp [h12]))
    · skip
      refine AWP.skip ?_
      refine AWP.seq ?_
      refine AWP.region ?_
      refine AOps.call (o_assign _ rfl rfl) ?_
      refine AOps.nil ?_
      refine AWP.ret ?_
      refine postQ.ret1 Tryz.results13 rfl ?_
      unfold okR
      simp_all [AV.close, I]
      try (first | (intros; omega) | (intro h9; rcases h11 with h12 | h12; omega; exact h12) | (intro h9; rcases h7 with h12 | h12; omega; simp [h12]))
  · skip
    refine AOps.pass rfl rfl rfl h7 rfl ?_
    refine AOps.pass rfl rfl rfl h7 rfl ?_
    refine AOps.pass rfl rfl rfl h7 rfl ?_
    refine AOps.call (o_pickT _ _ _ rfl h7 rfl rfl) ?_
    refine AOps.nil ?_
    refine AWP.condT rfl ?_
    refine AWP.seq ?_
    refine AWP.region ?_
    refine AOps.call (o_assign _ rfl rfl) ?_
    refine AOps.nil ?_
    refine AWP.ret ?_
    refine postQ.ret1 Tryz.results13 rfl ?_
    unfold okR
    simp_all [AV.close, I]
    try (first | (intros; omega) | (intro h9; rcases h11 with h12 | h12; omega; exact h12) | (intro h9; rcases h7 with h12 | h12; omega; simp [h12]))

set_option maxRecDepth 20000 in
theorem within_s (n m : Int) : FSpec Tryz.prog 30 [I n, I m] (B (inB n 0 m)) (none) := by
  refine FSpec.of_body Tryz.func30 rfl (leB rfl) fun w0 M0 => ?_
  refine AWP.seq ?_
  refine AWP.region ?_
  refine AOps.call (o_assign _ rfl rfl) ?_
  refine AOps.nil ?_
  refine AWP.seq ?_
  refine AWP.region ?_
  refine AOps.call (o_move _ rfl rfl) ?_
  refine AOps.call (o_bin _ _ rfl rfl (fun _ => rfl) rfl) ?_
  refine AOps.call (o_move _ rfl rfl) ?_
  refine AOps.split rfl rfl rfl (fun h3 => ?_) (fun h3 => ?_)
  · skip
    refine AOps.go rfl rfl rfl h3 (o_move _ rfl rfl) ?_
    refine AOps.go rfl rfl rfl h3 (o_move _ rfl rfl) ?_
    refine AOps.go rfl rfl rfl h3 (o_bin _ _ rfl rfl (fun _ => rfl) rfl) ?_
    refine AOps.call (o_pickT _ _ _ rfl h3 rfl rfl) ?_
    refine AOps.call (o_assign _ rfl rfl) ?_
    refine AOps.nil ?_
    refine AWP.ret ?_
    refine postQ.ret1 Tryz.results30 rfl ?_
    simp_all [AV.close, B, I, inB]
    try (intros; omega)
  · skip
    refine AOps.pass rfl rfl rfl h3 rfl ?_
    refine AOps.pass rfl rfl rfl h3 rfl ?_
    refine AOps.pass rfl rfl rfl h3 rfl ?_
    refine AOps.call (o_pickF _ _ _ rfl h3 rfl rfl) ?_
    refine AOps.call (o_assign _ rfl rfl) ?_
    refine AOps.nil ?_
    refine AWP.ret ?_
    refine postQ.ret1 Tryz.results30 rfl ?_
    simp_all [AV.close, B, I, inB]
    try (intros; omega)

set_option maxRecDepth 20000 in
theorem Daylight_s (d : Int) (hd : 0 ≤ d ∧ d ≤ 1048576) : FSpec Tryz.prog 31 [I d] (I (lightN d)) (none) := by
  refine FSpec.of_body Tryz.func31 rfl (leB rfl) fun w0 M0 => ?_
  have hm : 0 ≤ d % 365 ∧ d % 365 < 365 := ⟨Int.emod_nonneg _ (by decide), Int.emod_lt_of_pos _ (by decide)⟩
  refine AWP.seq ?_
  refine AWP.region ?_
  refine AOps.call (o_assign _ rfl rfl) ?_
  refine AOps.nil ?_
  refine AWP.seq ?_
  refine AWP.region ?_
  refine AOps.call (o_move _ rfl rfl) ?_
  refine AOps.call (o_rem _ _ rfl rfl ⟨by omega, by omega⟩ (by decide) rfl) ?_
  refine AOps.call (o_assign _ rfl rfl) ?_
  refine AOps.nil ?_
  refine AWP.seq ?_
  refine AWP.seq ?_
  refine AWP.region ?_
  refine AOps.call (o_move _ rfl rfl) ?_
  refine AOps.call (o_bin _ _ rfl rfl (fun _ => rfl) rfl) ?_
  refine AOps.nil ?_
  refine AWP.cond _ rfl (fun h5 => ?_) (fun h5 => ?_)
  · skip
    refine AWP.seq ?_
    refine AWP.region ?_
    refine AOps.call (o_move _ rfl rfl) ?_
    refine AOps.call (o_mul _ _ rfl rfl ⟨by (try dsimp only); omega, by (try dsimp only); omega⟩ rfl) ?_
    refine AOps.call (o_quo _ _ rfl rfl ⟨by omega, by omega⟩ (by omega) rfl) ?_
    refine AOps.call (o_add _ _ rfl rfl ⟨by (try dsimp only); omega, by (try dsimp only); omega⟩ rfl) ?_
    refine AOps.call (o_assign _ rfl rfl) ?_
    refine AOps.nil ?_
    refine AWP.ret ?_
    refine postQ.ret1 Tryz.results31 rfl ?_
    simp_all [AV.close, I, lightN]
    try (intros; omega)
  · skip
    refine AWP.skip ?_
    refine AWP.seq ?_
    refine AWP.region ?_
    refine AOps.call (o_move _ rfl rfl) ?_
    refine AOps.call (o_sub _ _ rfl rfl ⟨by (try dsimp only); omega, by (try dsimp only); omega⟩ rfl) ?_
    refine AOps.call (o_mul _ _ rfl rfl ⟨by (try dsimp only); omega, by (try dsimp only); omega⟩ rfl) ?_
    refine AOps.call (o_quo _ _ rfl rfl ⟨by omega, by omega⟩ (by omega) rfl) ?_
    refine AOps.call (o_add _ _ rfl rfl ⟨by (try dsimp only); omega, by (try dsimp only); omega⟩ rfl) ?_
    refine AOps.call (o_assign _ rfl rfl) ?_
    refine AOps.nil ?_
    refine AWP.ret ?_
    refine postQ.ret1 Tryz.results31 rfl ?_
    simp_all [AV.close, I, lightN]
    try (intros; omega)

set_option maxRecDepth 20000 in
theorem LightR_s (d : Int) : FSpec Tryz.prog 8 [I d] (.tup [I (if okDay d then lightN d else 0), I (if okDay d then 0 else 1)]) (none) := by
  refine FSpec.of_body Tryz.func8 rfl (leB rfl) fun w0 M0 => ?_
  refine AWP.seq ?_
  refine AWP.region ?_
  refine AOps.call (o_assign _ rfl rfl) ?_
  refine AOps.call (o_assign _ rfl rfl) ?_
  refine AOps.nil ?_
  refine AWP.seq ?_
  refine AWP.seq ?_
  refine AWP.region ?_
  refine AOps.call (o_move _ rfl rfl) ?_
  refine AOps.call (o_call (within_s _ _) Tryz.call30 rfl rfl) ?_
  refine AOps.call (o_un _ rfl (fun _ => rfl) rfl) ?_
  refine AOps.nil ?_
  refine AWP.cond _ rfl (fun h6 => ?_) (fun h6 => ?_)
  · skip
    refine AWP.seq ?_
    refine AWP.region ?_
    refine AOps.call (o_assign _ rfl rfl) ?_
    refine AOps.call (o_assign _ rfl rfl) ?_
    refine AOps.nil ?_
    refine AWP.ret ?_
    refine postQ.ret2 Tryz.results8 rfl rfl ?_
    simp_all [AV.close, AV.close.closeL, B, I, okDay, inB]
    try (intros; omega)
  · skip
    refine AWP.skip ?_
    refine AWP.seq ?_
    refine AWP.region ?_
    refine AOps.call (o_move _ rfl rfl) ?_
    refine AOps.call (o_call (Daylight_s _ (by simp_all [inB])) Tryz.call31 rfl rfl) ?_
    refine AOps.call (o_assign _ rfl rfl) ?_
    refine AOps.call (o_assign _ rfl rfl) ?_
    refine AOps.nil ?_
    refine AWP.ret ?_
    refine postQ.ret2 Tryz.results8 rfl rfl ?_
    simp_all [AV.close, AV.close.closeL, B, I, okDay, inB]
    try (intros; omega)

theorem breaks_fin : ∀ k : Fin 61, 25 < (k.val : Int) → bearsN (k.val : Int) * ((k.val : Int) - 25) < 10000 ∧ 10000 ≤ (bearsN (k.val : Int) + 1) * ((k.val : Int) - 25) := by decide +kernel
theorem breaks_in {w s : Int} (hw : 0 ≤ w ∧ w ≤ 65536) (hs : 0 ≤ s ∧ s ≤ 60) : (decide (s > 25) && decide (w * (s - 25) ≥ 10000)) = decide (w > bearsN s) := by
  by_cases h : s ≤ 25
  · have hb : ¬ w > bearsN s := by unfold bearsN; rw [if_pos h]; omega
    rw [decide_eq_false (by omega : ¬ s > 25), decide_eq_false hb]; rfl
  · have := breaks_fin ⟨s.toNat, by omega⟩
    simp only [Int.toNat_of_nonneg hs.1] at this
    obtain ⟨h1, h2⟩ := this (by omega)
    rw [decide_eq_true (by omega : s > 25), Bool.true_and]
    generalize bearsN s = b at *
    by_cases hb : w > b
    · rw [decide_eq_true hb]
      have : (b + 1) * (s - 25) ≤ w * (s - 25) := Int.mul_le_mul_of_nonneg_right (by omega) (by omega)
      exact decide_eq_true (by omega)
    · rw [decide_eq_false hb]
      have : w * (s - 25) ≤ b * (s - 25) := Int.mul_le_mul_of_nonneg_right (by omega) (by omega)
      exact decide_eq_false (by omega)

set_option maxRecDepth 20000 in
theorem breaks_s (w s : Int) (hw : 0 ≤ w ∧ w ≤ 65536) (hs : 0 ≤ s ∧ s ≤ 60) : FSpec Tryz.prog 33 [I w, I s] (B (decide (w > bearsN s))) (none) := by
  refine FSpec.of_body Tryz.func33 rfl (leB rfl) fun w0 M0 => ?_
  have hE := breaks_in hw hs
  have hm : 0 ≤ w * 60 ∧ w * 60 ≤ 3932160 := by omega
  have hq : 25 < s → 0 ≤ w * (s - 25) ∧ w * (s - 25) ≤ w * 60 := fun h => ⟨Int.mul_nonneg hw.1 (by omega), Int.mul_le_mul_of_nonneg_left (by omega) hw.1⟩
  refine AWP.seq ?_
  refine AWP.region ?_
  refine AOps.call (o_assign _ rfl rfl) ?_
  refine AOps.nil ?_
  refine AWP.seq ?_
  refine AWP.region ?_
  refine AOps.call (o_move _ rfl rfl) ?_
  refine AOps.call (o_bin _ _ rfl rfl (fun _ => rfl) rfl) ?_
  refine AOps.call (o_move _ rfl rfl) ?_
  refine AOps.split rfl rfl rfl (fun h3 => ?_) (fun h3 => ?_)
  · skip
    refine AOps.go rfl rfl rfl h3 (o_move _ rfl rfl) ?_
    refine AOps.go rfl rfl rfl h3 (o_move _ rfl rfl) ?_
    refine AOps.go rfl rfl rfl h3 (o_sub _ _ rfl rfl ⟨by (try dsimp only); omega, by (try dsimp only); omega⟩ rfl) ?_
    refine AOps.go rfl rfl rfl h3 (o_mul _ _ rfl rfl (by have := hq (by simp_all); exact ⟨by omega, by omega⟩) rfl) ?_
    refine AOps.go rfl rfl rfl h3 (o_bin _ _ rfl rfl (fun _ => rfl) rfl) ?_
    refine AOps.call (o_pickT _ _ _ rfl h3 rfl rfl) ?_
    refine AOps.call (o_assign _ rfl rfl) ?_
    refine AOps.nil ?_
    refine AWP.ret ?_
    refine postQ.ret1 Tryz.results33 rfl ?_
    first
    | (rw [← hE]; simp_all [AV.close, B, I]; done)
    | (rw [← hE]; simp_all [AV.close, B, I]; omega)
  · skip
    refine AOps.pass rfl rfl rfl h3 rfl ?_
    refine AOps.pass rfl rfl rfl h3 rfl ?_
    refine AOps.pass rfl rfl rfl h3 rfl ?_
    refine AOps.pass rfl rfl rfl h3 rfl ?_
    refine AOps.pass rfl rfl rfl h3 rfl ?_
    refine AOps.call (o_pickF _ _ _ rfl h3 rfl rfl) ?_
    refine AOps.call (o_assign _ rfl rfl) ?_
    refine AOps.nil ?_
    refine AWP.ret ?_
    refine postQ.ret1 Tryz.results33 rfl ?_
    first
    | (rw [← hE]; simp_all [AV.close, B, I]; done)
    | (rw [← hE]; simp_all [AV.close, B, I]; omega)

set_option maxRecDepth 20000 in
theorem BreaksR_s (w s : Int) : FSpec Tryz.prog 10 [I w, I s] (.tup [B (okW w && okS s && decide (w > bearsN s)), I (if okW w && okS s then 0 else 1)]) (none) := by
  refine FSpec.of_body Tryz.func10 rfl (leB rfl) fun w0 M0 => ?_
  refine AWP.seq ?_
  refine AWP.region ?_
  refine AOps.call (o_assign _ rfl rfl) ?_
  refine AOps.call (o_assign _ rfl rfl) ?_
  refine AOps.nil ?_
  refine AWP.seq ?_
  refine AWP.seq ?_
  refine AWP.region ?_
  refine AOps.call (o_move _ rfl rfl) ?_
  refine AOps.call (o_call (within_s _ _) Tryz.call30 rfl rfl) ?_
  refine AOps.call (o_un _ rfl (fun _ => rfl) rfl) ?_
  refine AOps.call (o_move _ rfl rfl) ?_
  refine AOps.split rfl rfl rfl (fun h5 => ?_) (fun h5 => ?_)
  · skip
    refine AOps.go rfl rfl rfl h5 (o_move _ rfl rfl) ?_
    refine AOps.go rfl rfl rfl h5 (o_call (within_s _ _) Tryz.call30 rfl rfl) ?_
    refine AOps.go rfl rfl rfl h5 (o_un _ rfl (fun _ => rfl) rfl) ?_
    refine AOps.call (o_pickF _ _ _ rfl h5 rfl rfl) ?_
    refine AOps.nil ?_
    refine AWP.cond _ rfl (fun h9 => ?_) (fun h9 => ?_)
    · skip
      refine AWP.seq ?_
      refine AWP.region ?_
      refine AOps.call (o_assign _ rfl rfl) ?_
      refine AOps.call (o_assign _ rfl rfl) ?_
      refine AOps.nil ?_
      refine AWP.ret ?_
      refine postQ.ret2 Tryz.results10 rfl rfl ?_
      simp_all [AV.close, AV.close.closeL, B, I, okS, okW, inB]
      try (intros; omega)
    · skip
      refine AWP.skip ?_
      refine AWP.seq ?_
      refine AWP.region ?_
      refine AOps.call (o_move _ rfl rfl) ?_
      refine AOps.call (o_move _ rfl rfl) ?_
      refine AOps.call (o_call (breaks_s _ _ (by simp_all [inB]) (by simp_all [inB])) Tryz.call33 rfl rfl) ?_
      refine AOps.call (o_assign _ rfl rfl) ?_
      refine AOps.call (o_assign _ rfl rfl) ?_
      refine AOps.nil ?_
      refine AWP.ret ?_
      refine postQ.ret2 Tryz.results10 rfl rfl ?_
      simp_all [AV.close, AV.close.closeL, B, I, okS, okW, inB]
      try (intros; omega)
  · skip
    refine AOps.pass rfl rfl rfl h5 rfl ?_
    refine AOps.pass rfl rfl rfl h5 rfl ?_
    refine AOps.pass rfl rfl rfl h5 rfl ?_
    refine AOps.call (o_pickT _ _ _ rfl h5 rfl rfl) ?_
    refine AOps.nil ?_
    refine AWP.condT rfl ?_
    refine AWP.seq ?_
    refine AWP.region ?_
    refine AOps.call (o_assign _ rfl rfl) ?_
    refine AOps.call (o_assign _ rfl rfl) ?_
    refine AOps.nil ?_
    refine AWP.ret ?_
    refine postQ.ret2 Tryz.results10 rfl rfl ?_
    simp_all [AV.close, AV.close.closeL, B, I, okS, okW, inB]
    try (intros; omega)

theorem bears_pos {s : Int} (hs : 0 ≤ s ∧ s ≤ 60) : 0 < bearsN s ∧ bearsN s ≤ 65536 := by
  have : ∀ k : Fin 61, 0 < bearsN (k.val : Int) ∧ bearsN (k.val : Int) ≤ 65536 := by decide +kernel
  have := this ⟨s.toNat, by omega⟩
  simp only [Int.toNat_of_nonneg hs.1] at this
  exact this

set_option maxRecDepth 20000 in
theorem BearsR_s (s : Int) : FSpec Tryz.prog 12 [I s] (.tup [I (if okS s then bearsN s else 0), I (if okS s then 0 else 1)]) (none) := by
  refine FSpec.of_body Tryz.func12 rfl (leB rfl) fun w0 M0 => ?_
  refine AWP.seq ?_
  refine AWP.region ?_
  refine AOps.call (o_assign _ rfl rfl) ?_
  refine AOps.call (o_assign _ rfl rfl) ?_
  refine AOps.nil ?_
  refine AWP.seq ?_
  refine AWP.seq ?_
  refine AWP.region ?_
  refine AOps.call (o_move _ rfl rfl) ?_
  refine AOps.call (o_call (within_s _ _) Tryz.call30 rfl rfl) ?_
  refine AOps.call (o_un _ rfl (fun _ => rfl) rfl) ?_
  refine AOps.nil ?_
  refine AWP.cond _ rfl (fun h6 => ?_) (fun h6 => ?_)
  · skip
    have hn : okS s = false := by
      cases hc : okS s with
      | false => rfl
      | true =>
        have h9 := okS_in hc
        simp [inB] at h6
        omega
    refine AWP.seq ?_
    refine AWP.region ?_
    refine AOps.call (o_assign _ rfl rfl) ?_
    refine AOps.call (o_assign _ rfl rfl) ?_
    refine AOps.nil ?_
    refine AWP.ret ?_
    refine postQ.ret2 Tryz.results12 rfl rfl ?_
    first
    | (rw [hn]; rfl)
    | (rw [hs0, ← hE]; rfl)
  · skip
    have hs0 : okS s = true := by
      simp [inB] at h6
      simp [okS]
      omega
    have hs := okS_in hs0
    have hB := bears_pos hs
    refine AWP.skip ?_
    refine AWP.seq ?_
    refine AWP.seq ?_
    refine AWP.region ?_
    refine AOps.call (o_assign _ rfl rfl) ?_
    refine AOps.nil ?_
    refine AWP.block ?_
    refine AWP.loop (ι := Nat) (fun i => AS.mk' 17 [(0, I s), (4, I (65536 - (i : Int)))] [] [] []) (fun i => (i : Int) + bearsN s ≤ 65536) (fun i => 65536 - i) (0) (Weak.mk' rfl ⟨⟨.refl rfl, rfl⟩, ⟨⟨.refl rfl, rfl⟩, trivial⟩⟩ trivial trivial) (by have := hB; omega) ?_
    rintro k hv
    try dsimp only at *
    refine AWP.seq ?_
    refine AWP.seq ?_
    refine AWP.region ?_
    refine AOps.call (o_move _ rfl rfl) ?_
    refine AOps.call (o_bin _ _ rfl rfl (fun _ => rfl) rfl) ?_
    refine AOps.nil ?_
    refine AWP.cond _ rfl (fun h11 => ?_) (fun h11 => ?_)
    · skip
      have hp := of_decide_eq_true h11
      refine AWP.skip ?_
      refine AWP.seq ?_
      refine AWP.block ?_
      refine AWP.seq ?_
      refine AWP.region ?_
      refine AOps.call (o_move _ rfl rfl) ?_
      refine AOps.call (o_move _ rfl rfl) ?_
      refine AOps.call (o_call (breaks_s _ _ ⟨by omega, by omega⟩ hs) Tryz.call33 rfl rfl) ?_
      refine AOps.call (o_un _ rfl (fun _ => rfl) rfl) ?_
      refine AOps.nil ?_
      refine AWP.cond _ rfl (fun h15 => ?_) (fun h15 => ?_)
      · skip
        have hq : ¬ (65536 - (k : Int)) > bearsN s := by simpa using h15
        have hE : 65536 - (k : Int) = bearsN s := by omega
        refine AWP.seq ?_
        refine AWP.region ?_
        refine AOps.call (o_move _ rfl rfl) ?_
        refine AOps.call (o_assign _ rfl rfl) ?_
        refine AOps.call (o_assign _ rfl rfl) ?_
        refine AOps.nil ?_
        refine AWP.ret ?_
        refine postQ.ret2 Tryz.results12 rfl rfl ?_
        first
        | (rw [hn]; rfl)
        | (rw [hs0, ← hE]; rfl)
      · skip
        have hq : (65536 - (k : Int)) > bearsN s := by simpa using h15
        refine AWP.skip ?_
        refine AWP.region ?_
        refine AOps.call (o_move _ rfl rfl) ?_
        refine AOps.call (o_sub _ _ rfl rfl ⟨by (try dsimp only); omega, by (try dsimp only); omega⟩ rfl) ?_
        refine AOps.call (o_assign _ rfl rfl) ?_
        refine AOps.nil ?_
        refine ⟨k + 1, ?_, (Weak.mk' rfl ⟨⟨.refl rfl, rfl⟩, ⟨⟨.refl ((congrArg I (show (65536 : Int) - (k : Int) - 1 = 65536 - ((k + 1 : Nat) : Int) by omega) :)), rfl⟩, trivial⟩⟩ trivial trivial)⟩
        refine ⟨by omega, by omega⟩
    · skip
      exfalso
      have hp := of_decide_eq_false h11
      omega

set_option maxRecDepth 20000 in
theorem validTrack_s (x : Trk) : FSpec Tryz.prog 36 [.agg (eTr x)] (B (trkB x)) (none) := by
  refine FSpec.of_body Tryz.func36 rfl (leB rfl) fun w0 M0 => ?_
  refine AWP.seq ?_
  refine AWP.region ?_
  refine AOps.call (o_box _ rfl rfl rfl) ?_
  refine AOps.call (o_assign _ rfl rfl) ?_
  refine AOps.nil ?_
  refine AWP.seq ?_
  refine AWP.region ?_
  refine AOps.call (o_fieldRef _ rfl fa74_0 rfl rfl) ?_
  refine AOps.call (o_loadRef _ rfl rfl Tryz.sizeOf3 Tryz.isAgg3 rfl rfl rfl) ?_
  refine AOps.call (o_call (within_s _ _) Tryz.call30 rfl rfl) ?_
  refine AOps.call (o_move _ rfl rfl) ?_
  refine AOps.split rfl rfl rfl (fun h5 => ?_) (fun h5 => ?_)
  · skip
    refine AOps.go rfl rfl rfl h5 (o_fieldRef _ rfl fa74_1 rfl rfl) ?_
    refine AOps.go rfl rfl rfl h5 (o_loadRef _ rfl rfl Tryz.sizeOf3 Tryz.isAgg3 rfl rfl rfl) ?_
    refine AOps.go rfl rfl rfl h5 (o_call (within_s _ _) Tryz.call30 rfl rfl) ?_
    refine AOps.call (o_pickT _ _ _ rfl h5 rfl rfl) ?_
    refine AOps.call (o_move _ rfl rfl) ?_
    refine AOps.split rfl rfl rfl (fun h9 => ?_) (fun h9 => ?_)
    · skip
      refine AOps.go rfl rfl rfl h9 (o_fieldRef _ rfl fa74_2 rfl rfl) ?_
      refine AOps.go rfl rfl rfl h9 (o_loadRef _ rfl rfl Tryz.sizeOf3 Tryz.isAgg3 rfl rfl rfl) ?_
      refine AOps.go rfl rfl rfl h9 (o_call (within_s _ _) Tryz.call30 rfl rfl) ?_
      refine AOps.call (o_pickT _ _ _ rfl h9 rfl rfl) ?_
      refine AOps.call (o_move _ rfl rfl) ?_
      refine AOps.split rfl rfl rfl (fun h13 => ?_) (fun h13 => ?_)
      · skip
        refine AOps.go rfl rfl rfl h13 (o_fieldRef _ rfl fa74_4 rfl rfl) ?_
        refine AOps.go rfl rfl rfl h13 (o_loadRef _ rfl rfl Tryz.sizeOf3 Tryz.isAgg3 rfl rfl rfl) ?_
        refine AOps.go rfl rfl rfl h13 (o_call (within_s _ _) Tryz.call30 rfl rfl) ?_
        refine AOps.call (o_pickT _ _ _ rfl h13 rfl rfl) ?_
        refine AOps.call (o_move _ rfl rfl) ?_
        refine AOps.split rfl rfl rfl (fun h17 => ?_) (fun h17 => ?_)
        · skip
          refine AOps.go rfl rfl rfl h17 (o_fieldRef _ rfl fa74_5 rfl rfl) ?_
          refine AOps.go rfl rfl rfl h17 (o_loadRef _ rfl rfl Tryz.sizeOf3 Tryz.isAgg3 rfl rfl rfl) ?_
          refine AOps.go rfl rfl rfl h17 (o_call (within_s _ _) Tryz.call30 rfl rfl) ?_
          refine AOps.call (o_pickT _ _ _ rfl h17 rfl rfl) ?_
          refine AOps.call (o_assign _ rfl rfl) ?_
          refine AOps.nil ?_
          refine AWP.seq ?_
          refine AWP.region ?_
          refine AOps.call (o_move _ rfl rfl) ?_
          refine AOps.call (o_move _ rfl rfl) ?_
          refine AOps.split rfl rfl rfl (fun h21 => ?_) (fun h21 => ?_)
          · skip
            refine AOps.go rfl rfl rfl h21 (o_fieldRef _ rfl fa74_1 rfl rfl) ?_
            refine AOps.go rfl rfl rfl h21 (o_loadRef _ rfl rfl Tryz.sizeOf3 Tryz.isAgg3 rfl rfl rfl) ?_
            refine AOps.go rfl rfl rfl h21 (o_fieldRef _ rfl fa74_2 rfl rfl) ?_
            refine AOps.go rfl rfl rfl h21 (o_loadRef _ rfl rfl Tryz.sizeOf3 Tryz.isAgg3 rfl rfl rfl) ?_
            refine AOps.go rfl rfl rfl h21 (o_bin _ _ rfl rfl (fun _ => rfl) rfl) ?_
            refine AOps.call (o_pickT _ _ _ rfl h21 rfl rfl) ?_
            refine AOps.call (o_move _ rfl rfl) ?_
            refine AOps.split rfl rfl rfl (fun h27 => ?_) (fun h27 => ?_)
            · skip
              refine AOps.go rfl rfl rfl h27 (o_fieldRef _ rfl fa74_3 rfl rfl) ?_
              refine AOps.go rfl rfl rfl h27 (o_loadRef _ rfl rfl Tryz.sizeOf3 Tryz.isAgg3 rfl rfl rfl) ?_
              refine AOps.go rfl rfl rfl h27 (o_bin _ _ rfl rfl (fun _ => rfl) rfl) ?_
              refine AOps.call (o_pickT _ _ _ rfl h27 rfl rfl) ?_
              refine AOps.call (o_move _ rfl rfl) ?_
              refine AOps.split rfl rfl rfl (fun h31 => ?_) (fun h31 => ?_)
              · skip
                refine AOps.go rfl rfl rfl h31 (o_fieldRef _ rfl fa74_3 rfl rfl) ?_
                refine AOps.go rfl rfl rfl h31 (o_loadRef _ rfl rfl Tryz.sizeOf3 Tryz.isAgg3 rfl rfl rfl) ?_
                refine AOps.go rfl rfl rfl h31 (o_bin _ _ rfl rfl (fun _ => rfl) rfl) ?_
                refine AOps.call (o_pickT _ _ _ rfl h31 rfl rfl) ?_
                refine AOps.call (o_move _ rfl rfl) ?_
                refine AOps.split rfl rfl rfl (fun h35 => ?_) (fun h35 => ?_)
                · skip
                  refine AOps.go rfl rfl rfl h35 (o_fieldRef _ rfl fa74_5 rfl rfl) ?_
                  refine AOps.go rfl rfl rfl h35 (o_loadRef _ rfl rfl Tryz.sizeOf3 Tryz.isAgg3 rfl rfl rfl) ?_
                  refine AOps.go rfl rfl rfl h35 (o_bin _ _ rfl rfl (fun _ => rfl) rfl) ?_
                  refine AOps.go rfl rfl rfl h35 (o_move _ rfl rfl) ?_
                  refine AOps.split rfl rfl rfl (fun h39 => ?_) (fun h39 => ?_)
                  · skip
                    refine AOps.go rfl rfl rfl h39 (o_fieldRef _ rfl fa74_4 rfl rfl) ?_
                    refine AOps.go rfl rfl rfl h39 (o_loadRef _ rfl rfl Tryz.sizeOf3 Tryz.isAgg3 rfl rfl rfl) ?_
                    refine AOps.go rfl rfl rfl h39 (o_bin _ _ rfl rfl (fun _ => rfl) rfl) ?_
                    refine AOps.go rfl rfl rfl h35 (o_pickF _ _ _ rfl h39 rfl rfl) ?_
                    refine AOps.call (o_pickT _ _ _ rfl h35 rfl rfl) ?_
                    refine AOps.call (o_assign _ rfl rfl) ?_
                    refine AOps.nil ?_
                    refine AWP.ret ?_
                    refine postQ.ret1 Tryz.results36 rfl ?_
                    simp_all [AV.close, B, I, trkB, inB]
                    try (first | (intros; omega) | (rw [decide_eq_false (by omega : ¬ 0 < x.steep)]; rfl) | rfl)
                  · skip
                    refine AOps.pass rfl rfl rfl h39 rfl ?_
                    refine AOps.pass rfl rfl rfl h39 rfl ?_
                    refine AOps.pass rfl rfl rfl h39 rfl ?_
                    refine AOps.go rfl rfl rfl h35 (o_pickT _ _ _ rfl h39 rfl rfl) ?_
                    refine AOps.call (o_pickT _ _ _ rfl h35 rfl rfl) ?_
                    refine AOps.call (o_assign _ rfl rfl) ?_
                    refine AOps.nil ?_
                    refine AWP.ret ?_
                    refine postQ.ret1 Tryz.results36 rfl ?_
                    simp_all [AV.close, B, I, trkB, inB]
                    try (first | (intros; omega) | (rw [decide_eq_false (by omega : ¬ 0 < x.steep)]; rfl) | rfl)
                · skip
                  refine AOps.pass rfl rfl rfl h35 rfl ?_
                  refine AOps.pass rfl rfl rfl h35 rfl ?_
                  refine AOps.pass rfl rfl rfl h35 rfl ?_
                  refine AOps.pass rfl rfl rfl h35 rfl ?_
                  refine AOps.passU rfl rfl rfl rfl ?_
                  refine AOps.passU rfl rfl rfl rfl ?_
                  refine AOps.passU rfl rfl rfl rfl ?_
                  refine AOps.pass rfl rfl rfl h35 rfl ?_
                  refine AOps.call (o_pickF _ _ _ rfl h35 rfl rfl) ?_
                  refine AOps.call (o_assign _ rfl rfl) ?_
                  refine AOps.nil ?_
                  refine AWP.ret ?_
                  refine postQ.ret1 Tryz.results36 rfl ?_
                  simp_all [AV.close, B, I, trkB, inB]
                  try (first | (intros; omega) | (rw [decide_eq_false (by omega : ¬ 0 < x.steep)]; rfl) | rfl)
              · skip
                refine AOps.pass rfl rfl rfl h31 rfl ?_
                refine AOps.pass rfl rfl rfl h31 rfl ?_
                refine AOps.pass rfl rfl rfl h31 rfl ?_
                refine AOps.call (o_pickF _ _ _ rfl h31 rfl rfl) ?_
                refine AOps.call (o_move _ rfl rfl) ?_
                refine AOps.pass rfl rfl rfl rfl rfl ?_
                refine AOps.pass rfl rfl rfl rfl rfl ?_
                refine AOps.pass rfl rfl rfl rfl rfl ?_
                refine AOps.pass rfl rfl rfl rfl rfl ?_
                refine AOps.passU rfl rfl rfl rfl ?_
                refine AOps.passU rfl rfl rfl rfl ?_
                refine AOps.passU rfl rfl rfl rfl ?_
                refine AOps.pass rfl rfl rfl rfl rfl ?_
                refine AOps.call (o_pickF _ _ _ rfl rfl rfl rfl) ?_
                refine AOps.call (o_assign _ rfl rfl) ?_
                refine AOps.nil ?_
                refine AWP.ret ?_
                refine postQ.ret1 Tryz.results36 rfl ?_
                simp_all [AV.close, B, I, trkB, inB]
                try (first | (intros; omega) | (rw [decide_eq_false (by omega : ¬ 0 < x.steep)]; rfl) | rfl)
            · skip
              refine AOps.pass rfl rfl rfl h27 rfl ?_
              refine AOps.pass rfl rfl rfl h27 rfl ?_
              refine AOps.pass rfl rfl rfl h27 rfl ?_
              refine AOps.call (o_pickF _ _ _ rfl h27 rfl rfl) ?_
              refine AOps.call (o_move _ rfl rfl) ?_
              refine AOps.pass rfl rfl rfl rfl rfl ?_
              refine AOps.pass rfl rfl rfl rfl rfl ?_
              refine AOps.pass rfl rfl rfl rfl rfl ?_
              refine AOps.call (o_pickF _ _ _ rfl rfl rfl rfl) ?_
              refine AOps.call (o_move _ rfl rfl) ?_
              refine AOps.pass rfl rfl rfl rfl rfl ?_
              refine AOps.pass rfl rfl rfl rfl rfl ?_
              refine AOps.pass rfl rfl rfl rfl rfl ?_
              refine AOps.pass rfl rfl rfl rfl rfl ?_
              refine AOps.passU rfl rfl rfl rfl ?_
              refine AOps.passU rfl rfl rfl rfl ?_
              refine AOps.passU rfl rfl rfl rfl ?_
              refine AOps.pass rfl rfl rfl rfl rfl ?_
              refine AOps.call (o_pickF _ _ _ rfl rfl rfl rfl) ?_
              refine AOps.call (o_assign _ rfl rfl) ?_
              refine AOps.nil ?_
              refine AWP.ret ?_
              refine postQ.ret1 Tryz.results36 rfl ?_
              simp_all [AV.close, B, I, trkB, inB]
              try (first | (intros; omega) | (rw [decide_eq_false (by omega : ¬ 0 < x.steep)]; rfl) | rfl)
          · skip
            refine AOps.pass rfl rfl rfl h21 rfl ?_
            refine AOps.pass rfl rfl rfl h21 rfl ?_
            refine AOps.pass rfl rfl rfl h21 rfl ?_
            refine AOps.pass rfl rfl rfl h21 rfl ?_
            refine AOps.pass rfl rfl rfl h21 rfl ?_
            refine AOps.call (o_pickF _ _ _ rfl h21 rfl rfl) ?_
            refine AOps.call (o_move _ rfl rfl) ?_
            refine AOps.pass rfl rfl rfl rfl rfl ?_
            refine AOps.pass rfl rfl rfl rfl rfl ?_
            refine AOps.pass rfl rfl rfl rfl rfl ?_
            refine AOps.call (o_pickF _ _ _ rfl rfl rfl rfl) ?_
            refine AOps.call (o_move _ rfl rfl) ?_
            refine AOps.pass rfl rfl rfl rfl rfl ?_
            refine AOps.pass rfl rfl rfl rfl rfl ?_
            refine AOps.pass rfl rfl rfl rfl rfl ?_
            refine AOps.call (o_pickF _ _ _ rfl rfl rfl rfl) ?_
            refine AOps.call (o_move _ rfl rfl) ?_
            refine AOps.pass rfl rfl rfl rfl rfl ?_
            refine AOps.pass rfl rfl rfl rfl rfl ?_
            refine AOps.pass rfl rfl rfl rfl rfl ?_
            refine AOps.pass rfl rfl rfl rfl rfl ?_
            refine AOps.passU rfl rfl rfl rfl ?_
            refine AOps.passU rfl rfl rfl rfl ?_
            refine AOps.passU rfl rfl rfl rfl ?_
            refine AOps.pass rfl rfl rfl rfl rfl ?_
            refine AOps.call (o_pickF _ _ _ rfl rfl rfl rfl) ?_
            refine AOps.call (o_assign _ rfl rfl) ?_
            refine AOps.nil ?_
            refine AWP.ret ?_
            refine postQ.ret1 Tryz.results36 rfl ?_
            simp_all [AV.close, B, I, trkB, inB]
            try (first | (intros; omega) | (rw [decide_eq_false (by omega : ¬ 0 < x.steep)]; rfl) | rfl)
        · skip
          refine AOps.pass rfl rfl rfl h17 rfl ?_
          refine AOps.pass rfl rfl rfl h17 rfl ?_
          refine AOps.pass rfl rfl rfl h17 rfl ?_
          refine AOps.call (o_pickF _ _ _ rfl h17 rfl rfl) ?_
          refine AOps.call (o_assign _ rfl rfl) ?_
          refine AOps.nil ?_
          refine AWP.seq ?_
          refine AWP.region ?_
          refine AOps.call (o_move _ rfl rfl) ?_
          refine AOps.call (o_move _ rfl rfl) ?_
          refine AOps.pass rfl rfl rfl rfl rfl ?_
          refine AOps.pass rfl rfl rfl rfl rfl ?_
          refine AOps.pass rfl rfl rfl rfl rfl ?_
          refine AOps.pass rfl rfl rfl rfl rfl ?_
          refine AOps.pass rfl rfl rfl rfl rfl ?_
          refine AOps.call (o_pickF _ _ _ rfl rfl rfl rfl) ?_
          refine AOps.call (o_move _ rfl rfl) ?_
          refine AOps.pass rfl rfl rfl rfl rfl ?_
          refine AOps.pass rfl rfl rfl rfl rfl ?_
          refine AOps.pass rfl rfl rfl rfl rfl ?_
          refine AOps.call (o_pickF _ _ _ rfl rfl rfl rfl) ?_
          refine AOps.call (o_move _ rfl rfl) ?_
          refine AOps.pass rfl rfl rfl rfl rfl ?_
          refine AOps.pass rfl rfl rfl rfl rfl ?_
          refine AOps.pass rfl rfl rfl rfl rfl ?_
          refine AOps.call (o_pickF _ _ _ rfl rfl rfl rfl) ?_
          refine AOps.call (o_move _ rfl rfl) ?_
          refine AOps.pass rfl rfl rfl rfl rfl ?_
          refine AOps.pass rfl rfl rfl rfl rfl ?_
          refine AOps.pass rfl rfl rfl rfl rfl ?_
          refine AOps.pass rfl rfl rfl rfl rfl ?_
          refine AOps.passU rfl rfl rfl rfl ?_
          refine AOps.passU rfl rfl rfl rfl ?_
          refine AOps.passU rfl rfl rfl rfl ?_
          refine AOps.pass rfl rfl rfl rfl rfl ?_
          refine AOps.call (o_pickF _ _ _ rfl rfl rfl rfl) ?_
          refine AOps.call (o_assign _ rfl rfl) ?_
          refine AOps.nil ?_
          refine AWP.ret ?_
          refine postQ.ret1 Tryz.results36 rfl ?_
          simp_all [AV.close, B, I, trkB, inB]
          try (first | (intros; omega) | (rw [decide_eq_false (by omega : ¬ 0 < x.steep)]; rfl) | rfl)
      · skip
        refine AOps.pass rfl rfl rfl h13 rfl ?_
        refine AOps.pass rfl rfl rfl h13 rfl ?_
        refine AOps.pass rfl rfl rfl h13 rfl ?_
        refine AOps.call (o_pickF _ _ _ rfl h13 rfl rfl) ?_
        refine AOps.call (o_move _ rfl rfl) ?_
        refine AOps.pass rfl rfl rfl rfl rfl ?_
        refine AOps.pass rfl rfl rfl rfl rfl ?_
        refine AOps.pass rfl rfl rfl rfl rfl ?_
        refine AOps.call (o_pickF _ _ _ rfl rfl rfl rfl) ?_
        refine AOps.call (o_assign _ rfl rfl) ?_
        refine AOps.nil ?_
        refine AWP.seq ?_
        refine AWP.region ?_
        refine AOps.call (o_move _ rfl rfl) ?_
        refine AOps.call (o_move _ rfl rfl) ?_
        refine AOps.pass rfl rfl rfl rfl rfl ?_
        refine AOps.pass rfl rfl rfl rfl rfl ?_
        refine AOps.pass rfl rfl rfl rfl rfl ?_
        refine AOps.pass rfl rfl rfl rfl rfl ?_
        refine AOps.pass rfl rfl rfl rfl rfl ?_
        refine AOps.call (o_pickF _ _ _ rfl rfl rfl rfl) ?_
        refine AOps.call (o_move _ rfl rfl) ?_
        refine AOps.pass rfl rfl rfl rfl rfl ?_
        refine AOps.pass rfl rfl rfl rfl rfl ?_
        refine AOps.pass rfl rfl rfl rfl rfl ?_
        refine AOps.call (o_pickF _ _ _ rfl rfl rfl rfl) ?_
        refine AOps.call (o_move _ rfl rfl) ?_
        refine AOps.pass rfl rfl rfl rfl rfl ?_
        refine AOps.pass rfl rfl rfl rfl rfl ?_
        refine AOps.pass rfl rfl rfl rfl rfl ?_
        refine AOps.call (o_pickF _ _ _ rfl rfl rfl rfl) ?_
        refine AOps.call (o_move _ rfl rfl) ?_
        refine AOps.pass rfl rfl rfl rfl rfl ?_
        refine AOps.pass rfl rfl rfl rfl rfl ?_
        refine AOps.pass rfl rfl rfl rfl rfl ?_
        refine AOps.pass rfl rfl rfl rfl rfl ?_
        refine AOps.passU rfl rfl rfl rfl ?_
        refine AOps.passU rfl rfl rfl rfl ?_
        refine AOps.passU rfl rfl rfl rfl ?_
        refine AOps.pass rfl rfl rfl rfl rfl ?_
        refine AOps.call (o_pickF _ _ _ rfl rfl rfl rfl) ?_
        refine AOps.call (o_assign _ rfl rfl) ?_
        refine AOps.nil ?_
        refine AWP.ret ?_
        refine postQ.ret1 Tryz.results36 rfl ?_
        simp_all [AV.close, B, I, trkB, inB]
        try (first | (intros; omega) | (rw [decide_eq_false (by omega : ¬ 0 < x.steep)]; rfl) | rfl)
    · skip
      refine AOps.pass rfl rfl rfl h9 rfl ?_
      refine AOps.pass rfl rfl rfl h9 rfl ?_
      refine AOps.pass rfl rfl rfl h9 rfl ?_
      refine AOps.call (o_pickF _ _ _ rfl h9 rfl rfl) ?_
      refine AOps.call (o_move _ rfl rfl) ?_
      refine AOps.pass rfl rfl rfl rfl rfl ?_
      refine AOps.pass rfl rfl rfl rfl rfl ?_
      refine AOps.pass rfl rfl rfl rfl rfl ?_
      refine AOps.call (o_pickF _ _ _ rfl rfl rfl rfl) ?_
      refine AOps.call (o_move _ rfl rfl) ?_
      refine AOps.pass rfl rfl rfl rfl rfl ?_
      refine AOps.pass rfl rfl rfl rfl rfl ?_
      refine AOps.pass rfl rfl rfl rfl rfl ?_
      refine AOps.call (o_pickF _ _ _ rfl rfl rfl rfl) ?_
      refine AOps.call (o_assign _ rfl rfl) ?_
      refine AOps.nil ?_
      refine AWP.seq ?_
      refine AWP.region ?_
      refine AOps.call (o_move _ rfl rfl) ?_
      refine AOps.call (o_move _ rfl rfl) ?_
      refine AOps.pass rfl rfl rfl rfl rfl ?_
      refine AOps.pass rfl rfl rfl rfl rfl ?_
      refine AOps.pass rfl rfl rfl rfl rfl ?_
      refine AOps.pass rfl rfl rfl rfl rfl ?_
      refine AOps.pass rfl rfl rfl rfl rfl ?_
      refine AOps.call (o_pickF _ _ _ rfl rfl rfl rfl) ?_
      refine AOps.call (o_move _ rfl rfl) ?_
      refine AOps.pass rfl rfl rfl rfl rfl ?_
      refine AOps.pass rfl rfl rfl rfl rfl ?_
      refine AOps.pass rfl rfl rfl rfl rfl ?_
      refine AOps.call (o_pickF _ _ _ rfl rfl rfl rfl) ?_
      refine AOps.call (o_move _ rfl rfl) ?_
      refine AOps.pass rfl rfl rfl rfl rfl ?_
      refine AOps.pass rfl rfl rfl rfl rfl ?_
      refine AOps.pass rfl rfl rfl rfl rfl ?_
      refine AOps.call (o_pickF _ _ _ rfl rfl rfl rfl) ?_
      refine AOps.call (o_move _ rfl rfl) ?_
      refine AOps.pass rfl rfl rfl rfl rfl ?_
      refine AOps.pass rfl rfl rfl rfl rfl ?_
      refine AOps.pass rfl rfl rfl rfl rfl ?_
      refine AOps.pass rfl rfl rfl rfl rfl ?_
      refine AOps.passU rfl rfl rfl rfl ?_
      refine AOps.passU rfl rfl rfl rfl ?_
      refine AOps.passU rfl rfl rfl rfl ?_
      refine AOps.pass rfl rfl rfl rfl rfl ?_
      refine AOps.call (o_pickF _ _ _ rfl rfl rfl rfl) ?_
      refine AOps.call (o_assign _ rfl rfl) ?_
      refine AOps.nil ?_
      refine AWP.ret ?_
      refine postQ.ret1 Tryz.results36 rfl ?_
      simp_all [AV.close, B, I, trkB, inB]
      try (first | (intros; omega) | (rw [decide_eq_false (by omega : ¬ 0 < x.steep)]; rfl) | rfl)
  · skip
    refine AOps.pass rfl rfl rfl h5 rfl ?_
    refine AOps.pass rfl rfl rfl h5 rfl ?_
    refine AOps.pass rfl rfl rfl h5 rfl ?_
    refine AOps.call (o_pickF _ _ _ rfl h5 rfl rfl) ?_
    refine AOps.call (o_move _ rfl rfl) ?_
    refine AOps.pass rfl rfl rfl rfl rfl ?_
    refine AOps.pass rfl rfl rfl rfl rfl ?_
    refine AOps.pass rfl rfl rfl rfl rfl ?_
    refine AOps.call (o_pickF _ _ _ rfl rfl rfl rfl) ?_
    refine AOps.call (o_move _ rfl rfl) ?_
    refine AOps.pass rfl rfl rfl rfl rfl ?_
    refine AOps.pass rfl rfl rfl rfl rfl ?_
    refine AOps.pass rfl rfl rfl rfl rfl ?_
    refine AOps.call (o_pickF _ _ _ rfl rfl rfl rfl) ?_
    refine AOps.call (o_move _ rfl rfl) ?_
    refine AOps.pass rfl rfl rfl rfl rfl ?_
    refine AOps.pass rfl rfl rfl rfl rfl ?_
    refine AOps.pass rfl rfl rfl rfl rfl ?_
    refine AOps.call (o_pickF _ _ _ rfl rfl rfl rfl) ?_
    refine AOps.call (o_assign _ rfl rfl) ?_
    refine AOps.nil ?_
    refine AWP.seq ?_
    refine AWP.region ?_
    refine AOps.call (o_move _ rfl rfl) ?_
    refine AOps.call (o_move _ rfl rfl) ?_
    refine AOps.pass rfl rfl rfl rfl rfl ?_
    refine AOps.pass rfl rfl rfl rfl rfl ?_
    refine AOps.pass rfl rfl rfl rfl rfl ?_
    refine AOps.pass rfl rfl rfl rfl rfl ?_
    refine AOps.pass rfl rfl rfl rfl rfl ?_
    refine AOps.call (o_pickF _ _ _ rfl rfl rfl rfl) ?_
    refine AOps.call (o_move _ rfl rfl) ?_
    refine AOps.pass rfl rfl rfl rfl rfl ?_
    refine AOps.pass rfl rfl rfl rfl rfl ?_
    refine AOps.pass rfl rfl rfl rfl rfl ?_
    refine AOps.call (o_pickF _ _ _ rfl rfl rfl rfl) ?_
    refine AOps.call (o_move _ rfl rfl) ?_
    refine AOps.pass rfl rfl rfl rfl rfl ?_
    refine AOps.pass rfl rfl rfl rfl rfl ?_
    refine AOps.pass rfl rfl rfl rfl rfl ?_
    refine AOps.call (o_pickF _ _ _ rfl rfl rfl rfl) ?_
    refine AOps.call (o_move _ rfl rfl) ?_
    refine AOps.pass rfl rfl rfl rfl rfl ?_
    refine AOps.pass rfl rfl rfl rfl rfl ?_
    refine AOps.pass rfl rfl rfl rfl rfl ?_
    refine AOps.pass rfl rfl rfl rfl rfl ?_
    refine AOps.passU rfl rfl rfl rfl ?_
    refine AOps.passU rfl rfl rfl rfl ?_
    refine AOps.passU rfl rfl rfl rfl ?_
    refine AOps.pass rfl rfl rfl rfl rfl ?_
    refine AOps.call (o_pickF _ _ _ rfl rfl rfl rfl) ?_
    refine AOps.call (o_assign _ rfl rfl) ?_
    refine AOps.nil ?_
    refine AWP.ret ?_
    refine postQ.ret1 Tryz.results36 rfl ?_
    simp_all [AV.close, B, I, trkB, inB]
    try (first | (intros; omega) | (rw [decide_eq_false (by omega : ¬ 0 < x.steep)]; rfl) | rfl)

set_option maxRecDepth 20000 in
theorem Place_s (r : Rng) (n : Int) (hl : r.s.length ≤ 1000000) : FSpec Tryz.prog 37 [.agg (eRg r), I n] (I (firstA (fun x : Sit => decide (x.no = n)) r.s 0)) (none) := by
  refine FSpec.of_body Tryz.func37 rfl (leB rfl) fun w0 M0 => ?_
  have hll := sts_len r.s
  refine AWP.seq ?_
  refine AWP.region ?_
  refine AOps.call (o_box _ rfl rfl rfl) ?_
  refine AOps.call (o_assign _ rfl rfl) ?_
  refine AOps.nil ?_
  refine AWP.seq ?_
  refine AWP.seq ?_
  refine AWP.region ?_
  refine AOps.call (o_assign _ rfl rfl) ?_
  refine AOps.nil ?_
  refine AWP.block ?_
  refine AWP.loop (ι := Nat) (fun i => AS.mk' 22 [(1, I n), (2, .ref (2, 0) 0), (5, I i)] [((2, 0), eRg r)] [] [(2, 1)]) (fun i => i ≤ r.s.length ∧ firstA (fun x : Sit => decide (x.no = n)) r.s 0 = firstA (fun x : Sit => decide (x.no = n)) (r.s.drop i) i) (fun i => r.s.length - i) (0) (Weak.mk' rfl ⟨⟨.refl rfl, rfl⟩, ⟨⟨.refl rfl, rfl⟩, ⟨⟨.refl rfl, rfl⟩, trivial⟩⟩⟩ ⟨⟨rfl, rfl, rfl⟩, trivial⟩ trivial) (⟨Nat.zero_le _, rfl⟩) ?_
  rintro k ⟨hk, hinv⟩
  try dsimp only at *
  refine AWP.seq ?_
  refine AWP.seq ?_
  refine AWP.region ?_
  refine AOps.call (o_move _ rfl rfl) ?_
  refine AOps.call (o_fieldRef _ rfl fa25_0 rfl rfl) ?_
  refine AOps.call (o_loadRef _ rfl rfl Tryz.sizeOf22 Tryz.isAgg22 rfl rfl rfl) ?_
  refine AOps.call (o_len _ Tryz.underlying22 rfl rfl) ?_
  refine AOps.call (o_bin _ _ rfl rfl (fun _ => rfl) rfl) ?_
  refine AOps.nil ?_
  refine AWP.cond _ rfl (fun h8 => ?_) (fun h8 => ?_)
  · skip
    have hlt : k < r.s.length := by have hq := of_decide_eq_true h8; omega
    have hel := sts_at hlt
    refine AWP.skip ?_
    refine AWP.seq ?_
    refine AWP.block ?_
    refine AWP.seq ?_
    refine AWP.region ?_
    refine AOps.call (o_fieldRef _ rfl fa25_0 rfl rfl) ?_
    refine AOps.call (o_loadRef _ rfl rfl Tryz.sizeOf22 Tryz.isAgg22 rfl rfl rfl) ?_
    refine AOps.call (o_move _ rfl rfl) ?_
    refine AOps.call (o_index _ _ Tryz.underlying22 Tryz.sizeOf68 rfl rfl (by omega) (by assumption) rfl rfl) ?_
    refine AOps.call (o_fieldRd _ rfl fa68_0 rfl) ?_
    refine AOps.call (o_loadRd _ rfl Tryz.sizeOf3 Tryz.isAgg3 rfl rfl rfl) ?_
    refine AOps.call (o_move _ rfl rfl) ?_
    refine AOps.call (o_bin _ _ rfl rfl (fun _ => rfl) rfl) ?_
    refine AOps.nil ?_
    refine AWP.cond _ rfl (fun h16 => ?_) (fun h16 => ?_)
    · skip
      have hq : (fun x : Sit => decide (x.no = n)) r.s[k] = true := h16
      refine AWP.seq ?_
      refine AWP.region ?_
      refine AOps.call (o_move _ rfl rfl) ?_
      refine AOps.call (o_assign _ rfl rfl) ?_
      refine AOps.nil ?_
      refine AWP.ret ?_
      refine postQ.ret1 Tryz.results37 rfl ?_
      first
      | (rw [hinv, firstA_at hlt, if_pos hq]; rfl)
      | (rw [hinv]; rfl)
    · skip
      have hq : (fun x : Sit => decide (x.no = n)) r.s[k] = false := h16
      refine AWP.skip ?_
      refine AWP.region ?_
      refine AOps.call (o_move _ rfl rfl) ?_
      refine AOps.call (o_add _ _ rfl rfl ⟨by (try dsimp only); omega, by (try dsimp only); omega⟩ rfl) ?_
      refine AOps.call (o_assign _ rfl rfl) ?_
      refine AOps.nil ?_
      refine ⟨k + 1, ?_, (Weak.mk' rfl ⟨⟨.refl rfl, rfl⟩, ⟨⟨.refl rfl, rfl⟩, ⟨⟨.refl rfl, rfl⟩, trivial⟩⟩⟩ ⟨⟨rfl, rfl, rfl⟩, trivial⟩ trivial)⟩
      refine ⟨⟨by omega, ?_⟩, by omega⟩
      rw [hinv, firstA_at hlt, if_neg (by simpa using hq)]
  · skip
    have hkl : k = r.s.length := by have hq := of_decide_eq_false h8; omega
    subst hkl
    rw [List.drop_length] at hinv
    refine AWP.exit ?_
    refine AWP.seq ?_
    refine AWP.region ?_
    refine AOps.call (o_assign _ rfl rfl) ?_
    refine AOps.nil ?_
    refine AWP.ret ?_
    refine postQ.ret1 Tryz.results37 rfl ?_
    first
    | (rw [hinv, firstA_at hlt, if_pos hq]; rfl)
    | (rw [hinv]; rfl)

def plc (l : List Sit) (n : Int) : Int := firstA (fun x : Sit => decide (x.no = n)) l 0
theorem plc_no (l : List Sit) (n : Int) : plc l n < 0 ↔ hasN l n = false := by
  have h := (firstA_any (fun x : Sit => decide (x.no = n)) l 0 (Int.le_refl 0)).1
  unfold hasN plc
  rw [← h]
  simp
theorem plc_yes (l : List Sit) (n : Int) : 0 ≤ plc l n ↔ hasN l n = true := by
  have h := (firstA_any (fun x : Sit => decide (x.no = n)) l 0 (Int.le_refl 0)).1
  unfold hasN plc
  rw [← h]
  simp
theorem trk_lo {x : Trk} (h : trkB x = true) : -1 < x.no := by
  simp only [trkB, inB, Bool.and_eq_true, decide_eq_true_eq] at h
  have := h.1.1
  omega
theorem PlaceC_s (r : Rng) (n : Int) (hl : r.s.length ≤ 1000000) : FSpec Tryz.prog 37 [.agg (eRg r), I n] (I (plc r.s n)) none := Place_s r n hl

end Go.Proofs.YtnnohkbgjdmjdaaGreat

