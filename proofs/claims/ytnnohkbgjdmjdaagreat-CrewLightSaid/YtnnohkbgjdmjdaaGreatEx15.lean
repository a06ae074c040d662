/- What an operation looks at. Nothing here speaks of one program. -/
import Derived.Test.YtnnohkbgjdmjdaaGreatEx14
set_option linter.unusedVariables false
set_option linter.unusedSimpArgs false
namespace Go.Ex

def D.use : D → List Pt
  | .t p => [p]
  | .c _ => []
def usesL : List D → List Pt
  | [] => []
  | d :: l => d.use ++ usesL l
def usesO : Option D → List Pt
  | none => []
  | some d => d.use
def usesP : List (Nat × Nat × D) → List Pt
  | [] => []
  | p :: l => p.2.2.use ++ usesP l
def IP.uses : IP → List Pt
  | .mov x => x.use
  | .pick c a b => c.use ++ (a.use ++ b.use)
  | .build _ ps => usesP ps
  | .nilc x => x.use
  | .bin _ x y => x.use ++ y.use
  | .binb _ x y => x.use ++ y.use
  | .eqa _ _ x y => x.use ++ y.use
  | .isnilS _ x => x.use
  | .isnilP _ x => x.use
  | .isnilF _ x => x.use
  | .not x => x.use
  | .neg x => x.use
  | .conv _ x => x.use
  | .mkF _ b => usesL b
  | .slS _ x lo hi mx => x.use ++ (usesO lo ++ (usesO hi ++ usesO mx))
  | .faddr _ x => x.use
  | .fld _ _ _ x => x.use
  | .iaddrA _ _ x i => x.use ++ i.use
  | .iaddrS _ x i => x.use ++ i.use
  | .ext x _ => x.use
  | .len x => x.use
  | .max x y => x.use ++ y.use
  | .min x y => x.use ++ y.use
  | .bad => []
def IR.uses : IR → List Pt
  | .load1 a => a.use
  | .loadA _ a => a.use
  | .look _ _ m k => m.use ++ k.use
def IA.uses : IA → List Pt
  | .new _ => []
  | .box x => x.use
  | .buildS _ _ ps => usesP ps
  | .mkM _ => []
  | .mkMA _ => []
  | .mkS _ _ l c => l.use ++ c.use
def IW.uses : IW → List Pt
  | .store _ a x => a.use ++ x.use
  | .upd m k v => m.use ++ (k.use ++ v.use)
  | .call _ args => usesL args
  | .callv f args => f.use ++ usesL args
  | .app _ _ s x => s.use ++ x.use
  | .copy _ d s => d.use ++ s.use
def J.uses : J → List Pt
  | .p _ i => i.uses
  | .r _ i => i.uses
  | .a _ i => i.uses
  | .w _ i => i.uses
  | .g q0 _ _ j0 => q0 :: j0.uses

def Same (t t' : T X) (l : List Pt) : Prop := ∀ p ∈ l, t'.get p = t.get p
theorem Same.left {t t' : T X} {l m : List Pt} (h : Same t t' (l ++ m)) : Same t t' l := fun p hp => h p (List.mem_append.2 (.inl hp))
theorem Same.right {t t' : T X} {l m : List Pt} (h : Same t t' (l ++ m)) : Same t t' m := fun p hp => h p (List.mem_append.2 (.inr hp))

section
variable {t t' : T X}
theorem ev_same {d : D} (h : Same t t' d.use) : ev t' d = ev t d := by
  cases d with
  | t p => exact h p (by simp [D.use])
  | c x => rfl
theorem evL_same : ∀ {l : List D}, Same t t' (usesL l) → evL t' l = evL t l := by
  intro l
  induction l with
  | nil => intro _; rfl
  | cons d l ih =>
    intro h
    show (match ev t' d with | none => none | some x => match evL t' l with | none => none | some xs => some (x :: xs)) = (match ev t d with | none => none | some x => match evL t l with | none => none | some xs => some (x :: xs))
    rw [ev_same h.left, ih h.right]
theorem bnd_same {d : Option D} {n : Nat} (h : Same t t' (usesO d)) : bnd t' d n = bnd t d n := by
  cases d with
  | none => rfl
  | some d => simp only [bnd]; rw [ev_same h]
theorem fill_same : ∀ {l : List (Nat × Nat × D)} {cs : List X}, Same t t' (usesP l) → fillX t' l cs = fillX t l cs := by
  intro l
  induction l with
  | nil => intro cs _; rfl
  | cons p l ih =>
    intro cs h
    obtain ⟨off, size, d⟩ := p
    simp only [fillX]
    rw [ev_same (d := d) h.left]
    split
    · rfl
    · split
      · rfl
      · rename_i vc _
        cases Nat.beq vc.length size with
        | false => rfl
        | true =>
          simp only [cond_true]
          split
          · rfl
          · exact ih h.right

theorem opP_same {i : IP} (h : Same t t' i.uses) : opP i t' = opP i t := by
  cases i with
  | mov x => exact ev_same h
  | pick c a b => show rPick c a b t' = rPick c a b t; unfold rPick; rw [ev_same h.left, ev_same h.right.left, ev_same h.right.right]
  | build zs ps => show rBuild zs ps t' = rBuild zs ps t; unfold rBuild; rw [fill_same h]
  | nilc x => show rNilc x t' = rNilc x t; unfold rNilc; rw [ev_same h]
  | bin op x y => show rBin op x y t' = rBin op x y t; unfold rBin; rw [ev_same h.left, ev_same h.right]
  | binb op x y => show rBinb op x y t' = rBinb op x y t; unfold rBinb; rw [ev_same h.left, ev_same h.right]
  | eqa neg ks x y => show rEqa neg ks x y t' = rEqa neg ks x y t; unfold rEqa; rw [ev_same h.left, ev_same h.right]
  | isnilS neg x => show rIsnilS neg x t' = rIsnilS neg x t; unfold rIsnilS; rw [ev_same h]
  | isnilP neg x => show rIsnilP neg x t' = rIsnilP neg x t; unfold rIsnilP; rw [ev_same h]
  | isnilF neg x => show rIsnilF neg x t' = rIsnilF neg x t; unfold rIsnilF; rw [ev_same h]
  | not x => show rNot x t' = rNot x t; unfold rNot; rw [ev_same h]
  | neg x => show rNeg x t' = rNeg x t; unfold rNeg; rw [ev_same h]
  | conv k x => show rConv k x t' = rConv k x t; unfold rConv; rw [ev_same h]
  | mkF f b => show rMkF f b t' = rMkF f b t; unfold rMkF; rw [evL_same h]
  | slS z x lo hi mx => show rSlS z x lo hi mx t' = rSlS z x lo hi mx t; unfold rSlS; simp only [ev_same h.left, bnd_same h.right.left, bnd_same h.right.right.left, bnd_same h.right.right.right]
  | faddr o x => show rFaddr o x t' = rFaddr o x t; unfold rFaddr; rw [ev_same h]
  | fld g o s x => show rFld g o s x t' = rFld g o s x t; unfold rFld; rw [ev_same h]
  | iaddrA n z x i => show rIaddrA n z x i t' = rIaddrA n z x i t; unfold rIaddrA; rw [ev_same h.left, ev_same h.right]
  | iaddrS z x i => show rIaddrS z x i t' = rIaddrS z x i t; unfold rIaddrS; rw [ev_same h.left, ev_same h.right]
  | ext x i => show rExt x i t' = rExt x i t; unfold rExt; rw [ev_same h]
  | len x => show rLen x t' = rLen x t; unfold rLen; rw [ev_same h]
  | max x y => show rMax x y t' = rMax x y t; unfold rMax; rw [ev_same h.left, ev_same h.right]
  | min x y => show rMin x y t' = rMin x y t; unfold rMin; rw [ev_same h.left, ev_same h.right]
  | bad => rfl
theorem opR_same {i : IR} {m : H} (h : Same t t' i.uses) : opR i t' m = opR i t m := by
  cases i with
  | load1 a => show rLoad1 a t' m = rLoad1 a t m; unfold rLoad1; rw [ev_same h]
  | loadA s a => show rLoadA s a t' m = rLoadA s a t m; unfold rLoadA; rw [ev_same h]
  | look z ok x k => show rLook z ok x k t' m = rLook z ok x k t m; unfold rLook; rw [ev_same h.left, ev_same h.right]
theorem opA_same {i : IA} {m : Pt} (h : Same t t' i.uses) : opA i t' m = opA i t m := by
  cases i with
  | new zs => rfl
  | box x => show rBox x t' m = rBox x t m; unfold rBox; rw [ev_same h]
  | buildS zs len ps => show rBuildS zs len ps t' m = rBuildS zs len ps t m; unfold rBuildS; rw [fill_same h]
  | mkM k => rfl
  | mkMA k => rfl
  | mkS zs b l c => show rMkS zs b l c t' m = rMkS zs b l c t m; unfold rMkS; rw [ev_same h.left, ev_same h.right]
theorem opW_same {i : IW} {call : CallT} {m : H} {n : Pt} (h : Same t t' i.uses) : opW i call t' m n = opW i call t m n := by
  cases i with
  | store s a x => show rStore s a x call t' m n = rStore s a x call t m n; unfold rStore; rw [ev_same h.left, ev_same h.right]
  | upd x k v => show rUpd x k v call t' m n = rUpd x k v call t m n; unfold rUpd; rw [ev_same h.left, ev_same h.right.left, ev_same h.right.right]
  | call f args => show rCall f args call t' m n = rCall f args call t m n; unfold rCall; rw [evL_same h]
  | callv f args => show rCallv f args call t' m n = rCallv f args call t m n; unfold rCallv; rw [ev_same h.left, evL_same h.right]
  | app z b s x => show rApp z b s x call t' m n = rApp z b s x call t m n; unfold rApp; rw [ev_same h.left, ev_same h.right]
  | copy z d s => show rCopy z d s call t' m n = rCopy z d s call t m n; unfold rCopy; rw [ev_same h.left, ev_same h.right]
end

/-- What an operation does, told of the value alone: x: its value. -/
inductive Eff (call : CallT) (t : T X) (h : H) (n : Pt) : J → X → H → Pt → Prop
  | p (d : Pt) (i : IP) (x : X) (hr : opP i t = some x) : Eff call t h n (.p d i) x h n
  | r (d : Pt) (i : IR) (x : X) (hr : opR i t h = some x) : Eff call t h n (.r d i) x h n
  | a (d : Pt) (i : IA) (x : X) (o : O) (hr : opA i t n = some (x, o)) : Eff call t h n (.a d i) x (h.put n o) n.inc
  | w (d : Option Pt) (i : IW) (x : X) (h' : H) (n' : Pt) (hr : opW i call t h n = some (x, h', n')) : Eff call t h n (.w d i) x h' n'
  | go (p : Pt) (b : Bool) (d : Option Pt) (j : J) (x : X) (h' : H) (n' : Pt) (hp : t.get p = some (.bool b)) (hj : Eff call t h n j x h' n') : Eff call t h n (.g p b d j) x h' n'
  | no (p : Pt) (b : Bool) (d : Option Pt) (j : J) (c : Bool) (hp : t.get p = some (.bool c)) (hc : c ≠ b) : Eff call t h n (.g p b d j) (.tup []) h n
  | un (p : Pt) (b : Bool) (d : Option Pt) (j : J) (hp : t.get p = some (.tup [])) : Eff call t h n (.g p b d j) (.tup []) h n

/-- The guards name the destination of what they guard. -/
def J.fine : J → Prop
  | .g _ _ d0 j0 => j0.dst = d0 ∧ j0.fine
  | _ => True

theorem step_eff {call : CallT} {h : H} {n : Pt} : ∀ {j : J} {t t1 : T X} {h' : H} {n' : Pt}, j.fine → step j call t h n = .ok t1 h' n' → ∃ x, Eff call t h n j x h' n' ∧ t1 = putO t j.dst x := by
  intro j
  induction j with
  | p d i =>
    intro t t1 h' n' _ hs
    have hs' : stP d i call t h n = .ok t1 h' n' := hs
    unfold stP at hs'
    cases hr : opP i t with
    | none => rw [hr] at hs'; cases hs'
    | some x => rw [hr] at hs'; cases hs'; exact ⟨x, .p d i x hr, rfl⟩
  | r d i =>
    intro t t1 h' n' _ hs
    have hs' : stR d i call t h n = .ok t1 h' n' := hs
    unfold stR at hs'
    cases hr : opR i t h with
    | none => rw [hr] at hs'; cases hs'
    | some x => rw [hr] at hs'; cases hs'; exact ⟨x, .r d i x hr, rfl⟩
  | a d i =>
    intro t t1 h' n' _ hs
    have hs' : stA d i call t h n = .ok t1 h' n' := hs
    unfold stA at hs'
    cases hr : opA i t n with
    | none => rw [hr] at hs'; cases hs'
    | some q =>
      obtain ⟨x, o⟩ := q
      rw [hr] at hs'
      simp only [incK_eq] at hs'
      cases hs'; exact ⟨x, .a d i x o hr, rfl⟩
  | w d i =>
    intro t t1 h' n' _ hs
    have hs' : stW d i call t h n = .ok t1 h' n' := hs
    unfold stW at hs'
    cases hr : opW i call t h n with
    | none => rw [hr] at hs'; cases hs'
    | some q =>
      obtain ⟨x, h1, n1⟩ := q
      rw [hr] at hs'
      cases hs'; exact ⟨x, .w d i x h' n' hr, rfl⟩
  | g p b d j ih =>
    intro t t1 h' n' hf hs
    have hs' : stG p b d j (step j) call t h n = .ok t1 h' n' := hs
    unfold stG at hs'
    split at hs'
    · rename_i c hc
      by_cases hcb : c = b
      · subst hcb
        simp only [beq_self_eq_true, cond_true] at hs'
        obtain ⟨x, g1, g2⟩ := ih hf.2 hs'
        exact ⟨x, .go p c d j x h' n' hc g1, by rw [g2, hf.1]; rfl⟩
      · have : (c == b) = false := by simpa using hcb
        rw [this] at hs'
        cases hs'
        exact ⟨.tup [], .no p b d j c hc hcb, rfl⟩
    · rename_i hc
      cases hs'
      exact ⟨.tup [], .un p b d j hc, rfl⟩
    · cases hs'

theorem Eff.step {call : CallT} {t : T X} {h : H} {n : Pt} {j : J} {x : X} {h' : H} {n' : Pt} (he : Eff call t h n j x h' n') (hf : j.fine) : Ex.step j call t h n = .ok (putO t j.dst x) h' n' := by
  induction he with
  | p d i x hr => show stP d i call t h n = _; unfold stP; rw [hr]; rfl
  | r d i x hr => show stR d i call t h n = _; unfold stR; rw [hr]; rfl
  | a d i x o hr => show stA d i call t h n = _; unfold stA; rw [hr]; simp only [incK_eq]; rfl
  | w d i x h' n' hr => show stW d i call t h n = _; unfold stW; rw [hr]; rfl
  | go p b d j x h' n' hp hj ih =>
    show stG p b d j (Ex.step j) call t h n = _
    unfold stG
    rw [hp]
    simp only [beq_self_eq_true, cond_true]
    rw [ih hf.2, hf.1]; rfl
  | no p b d j c hp hc =>
    show stG p b d j (Ex.step j) call t h n = _
    unfold stG
    rw [hp]
    have : (c == b) = false := by simpa using hc
    simp only [this, cond_false]
    rfl
  | un p b d j hp =>
    show stG p b d j (Ex.step j) call t h n = _
    unfold stG
    rw [hp]
    rfl

theorem Eff.same {call : CallT} {t t' : T X} {h : H} {n : Pt} {j : J} {x : X} {h' : H} {n' : Pt} (he : Eff call t h n j x h' n') (hs : Same t t' j.uses) : Eff call t' h n j x h' n' := by
  induction he with
  | p d i x hr => exact .p d i x (by rw [opP_same hs]; exact hr)
  | r d i x hr => exact .r d i x (by rw [opR_same hs]; exact hr)
  | a d i x o hr => exact .a d i x o (by rw [opA_same hs]; exact hr)
  | w d i x h' n' hr => exact .w d i x h' n' (by rw [opW_same hs]; exact hr)
  | go p b d j x h' n' hp hj ih => exact .go p b d j x h' n' (by rw [hs p (by simp [J.uses])]; exact hp) (ih fun q hq => hs q (by simp [J.uses, hq]))
  | no p b d j c hp hc => exact .no p b d j c (by rw [hs p (by simp [J.uses])]; exact hp) hc
  | un p b d j hp => exact .un p b d j (by rw [hs p (by simp [J.uses])]; exact hp)

theorem kind_p (d : Pt) (i : IP) : (J.p d i).kind = 0 := rfl
theorem kind_r (d : Pt) (i : IR) : (J.r d i).kind = 1 := rfl
theorem kind_a (d : Pt) (i : IA) : (J.a d i).kind = 2 := rfl
theorem kind_w (d : Option Pt) (i : IW) : (J.w d i).kind = 3 := rfl
theorem kind_g (p : Pt) (b : Bool) (d : Option Pt) (j : J) : (J.g p b d j).kind = j.kind := rfl

/-- Operations that leave the memory as it is. -/
theorem Eff.value {call : CallT} {t : T X} {h : H} {n : Pt} {j : J} {x : X} {h' : H} {n' : Pt} (he : Eff call t h n j x h' n') (hk : j.kind = 0 ∨ j.kind = 1) : h' = h ∧ n' = n := by
  induction he with
  | p => exact ⟨rfl, rfl⟩
  | r => exact ⟨rfl, rfl⟩
  | a => simp [kind_a] at hk
  | w => simp [kind_w] at hk
  | go p b d j x h' n' hp hj ih => exact ih hk
  | no => exact ⟨rfl, rfl⟩
  | un => exact ⟨rfl, rfl⟩
theorem Eff.pure {call : CallT} {t : T X} {h : H} {n : Pt} {j : J} {x : X} {h' : H} {n' : Pt} (he : Eff call t h n j x h' n') (hk : j.kind = 0) (h2 : H) (n2 : Pt) : Eff call t h2 n2 j x h2 n2 := by
  induction he with
  | p d i x hr => exact .p d i x hr
  | r => simp [kind_r] at hk
  | a => simp [kind_a] at hk
  | w => simp [kind_w] at hk
  | go p b d j x h' n' hp hj ih => exact .go p b d j x _ _ hp (ih hk)
  | no p b d j c hp hc => exact .no p b d j c hp hc
  | un p b d j hp => exact .un p b d j hp
theorem Eff.read {call : CallT} {t : T X} {h : H} {n : Pt} {j : J} {x : X} {h' : H} {n' : Pt} (he : Eff call t h n j x h' n') (hk : j.kind = 1) (n2 : Pt) : Eff call t h n2 j x h n2 := by
  induction he with
  | p => simp [kind_p] at hk
  | r d i x hr => exact .r d i x hr
  | a => simp [kind_a] at hk
  | w => simp [kind_w] at hk
  | go p b d j x h' n' hp hj ih => exact .go p b d j x _ _ hp (ih hk)
  | no p b d j c hp hc => exact .no p b d j c hp hc
  | un p b d j hp => exact .un p b d j hp
/-- An operation that makes a block, or is passed over. -/
theorem Eff.alc {call : CallT} {t : T X} {h : H} {n : Pt} {j : J} {x : X} {h' : H} {n' : Pt} (he : Eff call t h n j x h' n') (hk : j.kind = 2) :
    (h' = h ∧ n' = n ∧ ∀ h2 n2, Eff call t h2 n2 j x h2 n2) ∨ (∃ o, h' = h.put n o ∧ n' = n.inc ∧ ∀ h2, Eff call t h2 n j x (h2.put n o) n.inc) := by
  induction he with
  | p => simp [kind_p] at hk
  | r => simp [kind_r] at hk
  | w => simp [kind_w] at hk
  | a d i x o hr => exact .inr ⟨o, rfl, rfl, fun h2 => .a d i x o hr⟩
  | go p b d j x h' n' hp hj ih =>
    rcases ih hk with ⟨g1, g2, g3⟩ | ⟨o, g1, g2, g3⟩
    · exact .inl ⟨g1, g2, fun h2 n2 => .go p b d j x _ _ hp (g3 h2 n2)⟩
    · exact .inr ⟨o, g1, g2, fun h2 => .go p b d j x _ _ hp (g3 h2)⟩
  | no p b d j c hp hc => exact .inl ⟨rfl, rfl, fun h2 n2 => .no p b d j c hp hc⟩
  | un p b d j hp => exact .inl ⟨rfl, rfl, fun h2 n2 => .un p b d j hp⟩
end Go.Ex
