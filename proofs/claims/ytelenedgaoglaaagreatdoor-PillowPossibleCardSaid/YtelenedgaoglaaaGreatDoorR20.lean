/- R20. -/
import Derived.Test.YtelenedgaoglaaaGreatDoorR19
import Derived.Test.YtelenedgaoglaaaGreatDoorAdB
set_option linter.unusedSimpArgs false
set_option linter.unusedVariables false
namespace Go.Proofs.YtelenedgaoglaaaGreatDoor
open Go.Ab
open Go.Pil Go.RowKit
theorem fol_len {β : Type} {nx : β → List β} {keep : β → Bool} {cap : Nat} : ∀ (d : Nat) (acc : List β) (b : β), acc.length ≤ cap → (fol nx keep cap d acc b).length ≤ cap + 1 := by
  intro d
  induction d with
  | zero => intro acc b h; show (acc ++ [b]).length ≤ _; simp; omega
  | succ d ih =>
    intro acc b h
    show ((nx b).foldl _ acc).length ≤ _
    have : ∀ (l : List β) (acc : List β), acc.length ≤ cap + 1 → (l.foldl (fun acc c => if acc.length ≤ cap ∧ keep c = true then fol nx keep cap d acc c else acc) acc).length ≤ cap + 1 := by
      intro l
      induction l with
      | nil => intro acc h; exact h
      | cons c l ihl =>
        intro acc h
        rw [List.foldl_cons]
        refine ihl _ ?_
        split
        · rename_i hc; exact ih _ _ hc.1
        · exact h
    exact this _ _ (by omega)
theorem postQJ.end0 {P : Program} {R : AV → Sec → Prop} {J : Sec} {σ : AS} {fn : Func} (hf : fn.results = #[]) (hR : R (.tup []) J) : postQJ P fn R .normal J σ := ⟨[], .tup [], by rw [hf]; exact trivial, rfl, hR⟩
def Jfc (fc : List (AV × Value)) : Sec := fun T F w M => (∀ b, ¬ T b) ∧ ∀ q ∈ fc, VR w (inF F M) noV noG q.1 q.2
theorem Jfc_ok {fc : List (AV × Value)} : SecOk (Jfc fc) where
  stab := fun ⟨h1, h2⟩ h => ⟨h1, fun q hq => inF_stab h (h2 q hq)⟩
  sub := fun h b hb => absurd hb (h.1 b)
  hid := fun h b hb => absurd hb (h.1 b)
abbrev stC (l : List Int) : AV := .sl (ints l)
structure Fv where
  r : Nat
  a : Nat
  l : Nat
  f : Nat
def Fv.foV (v : Fv) : Value := .func (.func 92) #[] #[adr v.r, adr v.a, adr v.l, adr v.f]
def Fv.cap (v : Fv) : List Value := [adr v.r, adr v.a, adr v.l, adr v.f]
def Fv.fc (v : Fv) (p : Plw) (w : List Sp) (bo : Nat) : List (AV × Value) := [(.rd (eR p w), adr v.r), (.rd [.sc (laV bo)], adr v.l), (.rd [.sc v.foV], adr v.f)]
abbrev JFo (p : Plw) (w : List Sp) (s bk br bo : Nat) (v : Fv) (a : Option Addr) (cap : Nat) (acc : List (List Int)) : Sec :=
  ((Jvar v.a (.slice a acc.length cap)).sep (Jrow 25 1 (.slice a acc.length cap) acc.length (acc.map stC))).sep ((JM p w s bk br bo).sep (Jfc (v.fc p w bo)))
theorem JFo_ok {p w s bk br bo v a cap acc} : SecOk (JFo p w s bk br bo v a cap acc) := Sec.sep_ok (Sec.sep_ok Jvar_ok Jrow_ok) (Sec.sep_ok JM_ok Jfc_ok)
theorem JFo_fact {p w s bk br bo v a cap acc} {y : AV} {u : Value} (hm : (y, u) ∈ v.fc p w bo) {T F w' M} (h : JFo p w s bk br bo v a cap acc T F w' M) : VR w' M noV noG y u := by
  obtain ⟨_, _, h1⟩ := Sec.sep_r h
  obtain ⟨_, _, h2⟩ := Sec.sep_r h1
  exact inF_open (h2.2 _ hm)
theorem nx_len (p : Plw) (w) (l) : (nx (p.pb w) l).length ≤ 3 := by
  rw [← accB_all]; exact Nat.le_trans (accB_len ..) (next_len _ _)
theorem rem_child {q : Pb} {n : Nat} {b c : List Int} (h : Rem q n b) (hc : c ∈ nx q b) : Rem q (n + 1) c := ((rem_nx q h).1 hc).1
theorem rem_ld {p : Plw} {w} {n : Nat} {b : List Int} (h : Rem (p.pb w) n b) : b ≠ [] → (Fp p w b (b.length - 1)).Ne := fun hb => by
  have := h.1
  have h2 := List.length_pos_iff.2 hb
  exact h.2.2 _ (by omega)
theorem foR_app {p w s bk br bo v} {a1 : Addr} {cap1 : Nat} {acc : List (List Int)} {b : List Int} : ((Jvar v.a (.slice (some a1) (acc.length + [[stC b]].length) cap1)).sep (Jrow 25 1 (.slice (some a1) (acc.length + [[stC b]].length) cap1) (acc.length + [[stC b]].length) (acc.map stC ++ [[stC b]].flatten))).sep ((JM p w s bk br bo).sep (Jfc (v.fc p w bo))) = JFo p w s bk br bo v (some a1) cap1 (acc ++ [b]) := by
  unfold JFo
  rw [List.length_append, List.map_append]
  rfl
set_option maxRecDepth 20000 in
theorem follow_l (p : Plw) (w : List Sp) (hp : OkP p) (hw : okW p w = true) (s bk br bo : Nat) (v : Fv) (b : List Int) (hb : b.length = p.log.length) (acc : List (List Int)) (a : Option Addr) (cap : Nat) (hac : acc.length ≤ 64) : FSpecJ Tryz.prog (JFo p w s bk br bo v a cap acc) 92 [.agg (eBc p w b), .rd (eR p w), .sc (adr v.a), .rd [.sc (laV bo)], .rd [.sc v.foV]] (fun r J' => r = .tup [] ∧ ∃ a' cap', J' = JFo p w s bk br bo v a' cap' (fol (nx (p.pb w)) (keepL (p.pb w) p.log.length) 64 0 acc b)) := by
  refine FSpecJ.of_body Tryz.func92 rfl (leB rfl) fun F0 w0 M0 => ?_
  have h32 := hp.len
  refine AWPJ.seq ?_
  refine AWPJ.lift (fun u N => ?_)
  refine AWP.region ?_
  refine AOps.call (o_box _ rfl rfl rfl) ?_
  refine AOps.nil ?_
  refine AWPJ.seq ?_
  refine AWPJ.seq ?_
  refine AWPJ.lift (fun u N => ?_)
  refine AWP.region ?_
  refine AOps.call (o_fieldRd _ rfl fa91_0 rfl) ?_
  refine AOps.call (o_loadRd _ rfl Tryz.sizeOf83 Tryz.isAgg83 rfl rfl rfl) ?_
  refine AOps.call (o_fieldRef _ rfl fa112_0 rfl rfl) ?_
  refine AOps.call (o_fieldRef _ rfl fa110_0 rfl rfl) ?_
  refine AOps.call (o_loadRef _ rfl rfl Tryz.sizeOf3 Tryz.isAgg3 rfl rfl rfl) ?_
  refine AOps.call (o_call (isLast_s p ((b.length : Int) - 1) h32) Tryz.call57 rfl rfl) ?_
  refine AOps.nil ?_
  refine AWPJ.cond _ rfl (fun h8 => ?_) (fun h8 => ?_)
  · skip
    skip
    refine AWPJ.seq ?_
    refine AWPJ.region ?_
    refine AOpsJ.op (OpAnyJ.op (o_look (cs := [.sc (.slice a acc.length cap)]) (r := .sc (.slice a acc.length cap)) _ rfl Tryz.sizeOf40 Tryz.isAgg40 (fun T F w M h => by obtain ⟨_, _, h1⟩ := Sec.sep_l h; obtain ⟨_, _, h2⟩ := Sec.sep_l h1; exact Jvar_cells h2 rfl) rfl rfl)) ?_
    rintro _ _ ⟨rfl, rfl⟩
    refine AOpsJ.call (fun u N => o_fieldRef _ rfl fa112_1 rfl rfl) ?_
    refine AOpsJ.call (fun u N => o_loadRef _ rfl rfl Tryz.sizeOf25 Tryz.isAgg25 rfl rfl rfl) ?_
    refine AOpsJ.call (fun u N => o_lit Tryz.underlying40 Tryz.sizeOf25 Tryz.zeroValue25 rfl rfl rfl rfl rfl rfl rfl) ?_
    refine AOpsJ.weak (Weak.toJ (Weak.mk' (n := 39) (tm := [(2, .sc (adr v.a)), (14, .sc (.slice a acc.length cap)), (17, .sl [[stC b]])]) (va := []) (gr := []) (gen := []) rfl ⟨⟨.refl rfl, rfl⟩, ⟨⟨.refl rfl, rfl⟩, ⟨⟨.sl rfl, rfl⟩, trivial⟩⟩⟩ trivial trivial)) ?_
    refine AOpsJ.op (OpJ.frame (Sec.sep_ok Jvar_ok Jrow_ok) (Sec.sep_ok JM_ok Jfc_ok) (fun E u N => OpJ.frameR Jvar_ok Jrow_ok (fun E u N => o_appendRow (n := acc.length) (cs := acc.map stC) (ns := [[stC b]]) _ _ Tryz.underlying40 info25 rfl rfl rfl rfl rfl rfl rfl (fun c hc => by simp at hc; subst hc; rfl) (by unfold Tryz.t25; simp only [List.length_cons, List.length_nil]; omega) rfl (by simp) (.inr fun _ => rfl) rfl))) ?_
    rintro _ _ ⟨_, ⟨_, ⟨_, ⟨a2, cap2, rfl, rfl⟩, rfl⟩, _, rfl⟩, rfl⟩
    refine AOpsJ.op (OpJ.frame (Sec.sep_ok Jvar_ok Jrow_ok) (Sec.sep_ok JM_ok Jfc_ok) (fun E u N => OpJ.frame Jvar_ok Jrow_ok (fun E u N => o_storeVar _ _ rfl rfl Tryz.sizeOf40 rfl rfl))) ?_
    rintro _ _ ⟨_, ⟨_, ⟨rfl, rfl⟩, rfl⟩, rfl⟩
    refine AOpsJ.nil ?_
    refine AWPJ.ret ?_
    try dsimp only [seqQJ, blockQJ, roundQJ]
    try rw [show Nat.beq 0 0 = true from rfl, cond_true]
    refine postQJ.ret0 Tryz.results92  ?_
    exact ⟨rfl, _, _, foR_app⟩
  · skip
    exfalso
    have h1 := of_decide_eq_false h8
    omega
set_option maxRecDepth 20000 in
theorem follow_c (p : Plw) (w : List Sp) (hp : OkP p) (hw : okW p w = true) (s bk br bo : Nat) (v : Fv) (d : Nat) (b : List Int) (hd : d + 1 ≤ p.log.length) (hrem : Rem (p.pb w) (p.log.length - (d + 1)) b) (hb : b ≠ []) (acc : List (List Int)) (a : Option Addr) (cap : Nat) (hac0 : acc.length ≤ 64) (ih : ∀ c ∈ (nx (p.pb w) b), ∀ acc a cap, acc.length ≤ 64 → FSpecJ Tryz.prog (JFo p w s bk br bo v a cap acc) 92 ([.agg (eBc p w c)] ++ v.cap.map .sc) (fun r J' => r = .tup [] ∧ ∃ a' cap', J' = JFo p w s bk br bo v a' cap' (fol (nx (p.pb w)) (keepL (p.pb w) p.log.length) 64 d acc c))) : FSpecJ Tryz.prog (JFo p w s bk br bo v a cap acc) 92 [.agg (eBc p w b), .rd (eR p w), .sc (adr v.a), .rd [.sc (laV bo)], .rd [.sc v.foV]] (fun r J' => r = .tup [] ∧ ∃ a' cap', J' = JFo p w s bk br bo v a' cap' (fol (nx (p.pb w)) (keepL (p.pb w) p.log.length) 64 (d + 1) acc b)) := by
  refine FSpecJ.of_body Tryz.func92 rfl (leB rfl) fun F0 w0 M0 => ?_
  have h32 := hp.len
  have hnl := nx_len p w b
  have hbl := hrem.1
  have hgl := bgs_len p w (nx (p.pb w) b)
  refine AWPJ.seq ?_
  refine AWPJ.lift (fun u N => ?_)
  refine AWP.region ?_
  refine AOps.call (o_box _ rfl rfl rfl) ?_
  refine AOps.nil ?_
  refine AWPJ.seq ?_
  refine AWPJ.seq ?_
  refine AWPJ.lift (fun u N => ?_)
  refine AWP.region ?_
  refine AOps.call (o_fieldRd _ rfl fa91_0 rfl) ?_
  refine AOps.call (o_loadRd _ rfl Tryz.sizeOf83 Tryz.isAgg83 rfl rfl rfl) ?_
  refine AOps.call (o_fieldRef _ rfl fa112_0 rfl rfl) ?_
  refine AOps.call (o_fieldRef _ rfl fa110_0 rfl rfl) ?_
  refine AOps.call (o_loadRef _ rfl rfl Tryz.sizeOf3 Tryz.isAgg3 rfl rfl rfl) ?_
  refine AOps.call (o_call (isLast_s p ((b.length : Int) - 1) h32) Tryz.call57 rfl rfl) ?_
  refine AOps.nil ?_
  refine AWPJ.cond _ rfl (fun h8 => ?_) (fun h8 => ?_)
  · skip
    exfalso
    have h1 := of_decide_eq_true h8
    omega
  · skip
    skip
    refine AWPJ.skip ?_
    refine AWPJ.seq ?_
    refine AWPJ.lift (fun u N => ?_)
    refine AWP.region ?_
    refine AOps.call (o_loadRd _ rfl Tryz.sizeOf91 Tryz.isAgg91 rfl rfl rfl) ?_
    refine AOps.call (o_loadRef _ rfl rfl Tryz.sizeOf112 Tryz.isAgg112 rfl rfl rfl) ?_
    refine AOps.call (o_call (further_c p w b hp hw (by omega) hrem.2.1 (rem_ld hrem) hb) Tryz.call80 rfl rfl) ?_
    refine AOps.call (o_len _ Tryz.underlying114 rfl rfl) ?_
    refine AOps.call (o_move _ rfl rfl) ?_
    refine AOps.nil ?_
    refine AWPJ.block ?_
    refine AWPJ.loop (ι := Nat × List (List Int) × Option Addr × Nat) (fun i => JFo p w s bk br bo v i.2.2.1 i.2.2.2 i.2.1) (fun i => AS.mk' 39 [(1, .rd (eR p w)), (2, .sc (adr v.a)), (3, .rd [.sc (laV bo)]), (4, .rd [.sc v.foV]), (21, .sl (bgs p w (nx (p.pb w) b))), (22, I (bgs p w (nx (p.pb w) b)).length), (23, I i.1)] [] [] []) (fun i => i.1 ≤ (nx (p.pb w) b).length ∧ i.2.1 = ((nx (p.pb w) b).take i.1).foldl (fun acc c => if acc.length ≤ 64 ∧ (keepL (p.pb w) p.log.length) c = true then fol (nx (p.pb w)) (keepL (p.pb w) p.log.length) 64 d acc c else acc) acc ∧ i.2.1.length ≤ 65) (fun i => (nx (p.pb w) b).length - i.1) (0, acc, a, cap) (Weak.toJ (Weak.mk' rfl ⟨⟨.refl rfl, rfl⟩, ⟨⟨.refl rfl, rfl⟩, ⟨⟨.refl rfl, rfl⟩, ⟨⟨.refl rfl, rfl⟩, ⟨⟨.refl rfl, rfl⟩, ⟨⟨.refl rfl, rfl⟩, ⟨⟨.refl rfl, rfl⟩, trivial⟩⟩⟩⟩⟩⟩⟩ trivial trivial)) (⟨Nat.zero_le _, rfl, by dsimp only; omega⟩) ?_
    rintro ⟨k, ac, a1, cap1⟩ ⟨hk, hac, hle⟩
    try dsimp only at *
    refine AWPJ.seq ?_
    refine AWPJ.lift (fun u N => ?_)
    refine AWP.region ?_
    refine AOps.call (o_bin _ _ rfl rfl (fun _ => rfl) rfl) ?_
    refine AOps.nil ?_
    refine AWPJ.seq ?_
    refine AWPJ.cond _ rfl (fun h15 => ?_) (fun h15 => ?_)
    · skip
      have hlt : k < (nx (p.pb w) b).length := by have := of_decide_eq_true h15; omega
      have hch : Rem (p.pb w) (p.log.length - (d + 1) + 1) (nx (p.pb w) b)[k] := rem_child hrem (List.getElem_mem hlt)
      have hcl := hch.1
      have hcn : (nx (p.pb w) b)[k] ≠ [] := fun e => by rw [e] at hcl; simp at hcl
      have hel := bgs_at (p := p) (w := w) hlt
      rw [eB_c hcn] at hel
      refine AWPJ.skip ?_
      refine AWPJ.seq ?_
      refine AWPJ.block ?_
      refine AWPJ.seq ?_
      refine AWPJ.lift (fun u N => ?_)
      refine AWP.region ?_
      refine AOps.call (o_index _ _ Tryz.underlying114 Tryz.sizeOf112 rfl rfl (by omega) (by assumption) rfl rfl) ?_
      refine AOps.call (o_loadRd _ rfl Tryz.sizeOf112 Tryz.isAgg112 rfl rfl rfl) ?_
      refine AOps.call (o_alloc ze112 rfl rfl) ?_
      refine AOps.cons (o_store _ _ rfl rfl Tryz.sizeOf112 rfl rfl rfl rfl rfl) ?_
      refine AOps.nil ?_
      refine AWPJ.seq ?_
      refine AWPJ.region ?_
      refine AOpsJ.op (OpAnyJ.op (o_look (cs := [.sc (.slice a1 ac.length cap1)]) (r := .sc (.slice a1 ac.length cap1)) _ rfl Tryz.sizeOf40 Tryz.isAgg40 (fun T F w M h => by obtain ⟨_, _, h1⟩ := Sec.sep_l h; obtain ⟨_, _, h2⟩ := Sec.sep_l h1; exact Jvar_cells h2 rfl) rfl rfl)) ?_
      rintro _ _ ⟨rfl, rfl⟩
      refine AOpsJ.call (fun u N => o_lenX _ Tryz.underlying40 rfl rfl) ?_
      refine AOpsJ.call (fun u N => o_bin _ _ rfl rfl (fun _ => rfl) rfl) ?_
      refine AOpsJ.call (fun u N => o_move _ rfl rfl) ?_
      refine AOpsJ.split rfl rfl rfl (fun h22 => ?_) (fun h22 => ?_)
      · skip
        have hq64 : ac.length ≤ 64 := by have := of_decide_eq_true h22; omega
        refine AOpsJ.go rfl rfl rfl h22 (fun u N => OpAny.seq (o_loadRd _ rfl Tryz.sizeOf129 Tryz.isAgg129 rfl rfl rfl)) ?_
        refine AOpsJ.go rfl rfl rfl h22 (fun u N => OpAny.seq (o_loadRef _ rfl rfl Tryz.sizeOf112 Tryz.isAgg112 rfl rfl rfl)) ?_
        refine AOpsJ.goOp rfl rfl rfl h22 (OpJ.frameR (Sec.sep_ok Jvar_ok Jrow_ok) (Sec.sep_ok JM_ok Jfc_ok) (fun E u N => OpJ.frame JM_ok Jfc_ok (fun E u N => o_callVJ (f := 118) (caps := [adr bo]) (cl := [.agg (eBc p w (nx (p.pb w) b)[k])]) _ rfl (lasts_s p w hp hw s bk br bo (nx (p.pb w) b)[k] hcn (by omega) hch.2.1) Tryz.call118 rfl (.inr fun _ => rfl) rfl))) ?_
        rintro _ _ ⟨_, ⟨_, ⟨_, ⟨rfl, rfl⟩, rfl⟩, rfl⟩, _, rfl⟩
        refine AOpsJ.call (fun u N => o_pickT _ _ _ rfl h22 rfl rfl) ?_
        refine AOpsJ.nil ?_
        refine AWPJ.cond _ rfl (fun h26 => ?_) (fun h26 => ?_)
        · skip
          have hkeep : (keepL (p.pb w) p.log.length) (nx (p.pb w) b)[k] = true := h26
          refine AWPJ.region ?_
          refine AOpsJ.call (fun u N => o_loadRd _ rfl Tryz.sizeOf131 Tryz.isAgg131 rfl rfl rfl) ?_
          refine AOpsJ.call (fun u N => o_loadRef _ rfl rfl Tryz.sizeOf112 Tryz.isAgg112 rfl rfl rfl) ?_
          refine AOpsJ.op (o_callVJ (f := 92) (caps := v.cap) (cl := [.agg (eBc p w (nx (p.pb w) b)[k])]) _ rfl (ih _ (List.getElem_mem hlt) ac a1 cap1 hq64) Tryz.call92 rfl (.inr fun _ => rfl) rfl) ?_
          rintro _ _ ⟨_, ⟨rfl, a2, cap2, rfl⟩, rfl⟩
          refine AOpsJ.nil ?_
          refine AWPJ.lift (fun u N => ?_)
          refine AWP.region ?_
          refine AOps.call (o_add _ _ rfl rfl ⟨by (try dsimp only); omega, by (try dsimp only); omega⟩ rfl) ?_
          refine AOps.call (o_move _ rfl rfl) ?_
          refine AOps.nil ?_
          first
          | refine ⟨(k + 1, fol (nx (p.pb w)) (keepL (p.pb w) p.log.length) 64 d ac (nx (p.pb w) b)[k], a2, cap2), ⟨⟨by (try dsimp only); omega, ?_, fol_len d ac _ hq64⟩, by (try dsimp only); omega⟩, Weak.toJ (Weak.mk' rfl ⟨⟨.refl rfl, rfl⟩, ⟨⟨.refl rfl, rfl⟩, ⟨⟨.refl rfl, rfl⟩, ⟨⟨.refl rfl, rfl⟩, ⟨⟨.refl rfl, rfl⟩, ⟨⟨.refl rfl, rfl⟩, ⟨⟨.refl rfl, rfl⟩, trivial⟩⟩⟩⟩⟩⟩⟩ trivial trivial)⟩
          | refine ⟨(k + 1, ac, a1, cap1), ⟨⟨by (try dsimp only); omega, ?_, hle⟩, by (try dsimp only); omega⟩, Weak.toJ (Weak.mk' rfl ⟨⟨.refl rfl, rfl⟩, ⟨⟨.refl rfl, rfl⟩, ⟨⟨.refl rfl, rfl⟩, ⟨⟨.refl rfl, rfl⟩, ⟨⟨.refl rfl, rfl⟩, ⟨⟨.refl rfl, rfl⟩, ⟨⟨.refl rfl, rfl⟩, trivial⟩⟩⟩⟩⟩⟩⟩ trivial trivial)⟩
          rw [List.take_succ_eq_append_getElem hlt, List.foldl_append, ← hac]
          simp only [List.foldl_cons, List.foldl_nil]
          first
          | (rw [if_pos ⟨hq64, hkeep⟩]; done)
          | (rw [if_neg (fun h => hno h)]; done)
        · skip
          have hno : ¬ (ac.length ≤ 64 ∧ (keepL (p.pb w) p.log.length) (nx (p.pb w) b)[k] = true) := fun h => by have := h26; simp_all
          refine AWPJ.skip ?_
          refine AWPJ.lift (fun u N => ?_)
          refine AWP.region ?_
          refine AOps.call (o_add _ _ rfl rfl ⟨by (try dsimp only); omega, by (try dsimp only); omega⟩ rfl) ?_
          refine AOps.call (o_move _ rfl rfl) ?_
          refine AOps.nil ?_
          first
          | refine ⟨(k + 1, fol (nx (p.pb w)) (keepL (p.pb w) p.log.length) 64 d ac (nx (p.pb w) b)[k], a2, cap2), ⟨⟨by (try dsimp only); omega, ?_, fol_len d ac _ hq64⟩, by (try dsimp only); omega⟩, Weak.toJ (Weak.mk' rfl ⟨⟨.refl rfl, rfl⟩, ⟨⟨.refl rfl, rfl⟩, ⟨⟨.refl rfl, rfl⟩, ⟨⟨.refl rfl, rfl⟩, ⟨⟨.refl rfl, rfl⟩, ⟨⟨.refl rfl, rfl⟩, ⟨⟨.refl rfl, rfl⟩, trivial⟩⟩⟩⟩⟩⟩⟩ trivial trivial)⟩
          | refine ⟨(k + 1, ac, a1, cap1), ⟨⟨by (try dsimp only); omega, ?_, hle⟩, by (try dsimp only); omega⟩, Weak.toJ (Weak.mk' rfl ⟨⟨.refl rfl, rfl⟩, ⟨⟨.refl rfl, rfl⟩, ⟨⟨.refl rfl, rfl⟩, ⟨⟨.refl rfl, rfl⟩, ⟨⟨.refl rfl, rfl⟩, ⟨⟨.refl rfl, rfl⟩, ⟨⟨.refl rfl, rfl⟩, trivial⟩⟩⟩⟩⟩⟩⟩ trivial trivial)⟩
          rw [List.take_succ_eq_append_getElem hlt, List.foldl_append, ← hac]
          simp only [List.foldl_cons, List.foldl_nil]
          first
          | (rw [if_pos ⟨hq64, hkeep⟩]; done)
          | (rw [if_neg (fun h => hno h)]; done)
      · skip
        have hno : ¬ (ac.length ≤ 64 ∧ (keepL (p.pb w) p.log.length) (nx (p.pb w) b)[k] = true) := fun h => by have := of_decide_eq_false h22; omega
        refine AOpsJ.pass rfl rfl rfl h22 rfl ?_
        refine AOpsJ.pass rfl rfl rfl h22 rfl ?_
        refine AOpsJ.pass rfl rfl rfl h22 rfl ?_
        refine AOpsJ.call (fun u N => o_pickF _ _ _ rfl h22 rfl rfl) ?_
        refine AOpsJ.nil ?_
        refine AWPJ.condF rfl ?_
        refine AWPJ.skip ?_
        refine AWPJ.lift (fun u N => ?_)
        refine AWP.region ?_
        refine AOps.call (o_add _ _ rfl rfl ⟨by (try dsimp only); omega, by (try dsimp only); omega⟩ rfl) ?_
        refine AOps.call (o_move _ rfl rfl) ?_
        refine AOps.nil ?_
        first
        | refine ⟨(k + 1, fol (nx (p.pb w)) (keepL (p.pb w) p.log.length) 64 d ac (nx (p.pb w) b)[k], a2, cap2), ⟨⟨by (try dsimp only); omega, ?_, fol_len d ac _ hq64⟩, by (try dsimp only); omega⟩, Weak.toJ (Weak.mk' rfl ⟨⟨.refl rfl, rfl⟩, ⟨⟨.refl rfl, rfl⟩, ⟨⟨.refl rfl, rfl⟩, ⟨⟨.refl rfl, rfl⟩, ⟨⟨.refl rfl, rfl⟩, ⟨⟨.refl rfl, rfl⟩, ⟨⟨.refl rfl, rfl⟩, trivial⟩⟩⟩⟩⟩⟩⟩ trivial trivial)⟩
        | refine ⟨(k + 1, ac, a1, cap1), ⟨⟨by (try dsimp only); omega, ?_, hle⟩, by (try dsimp only); omega⟩, Weak.toJ (Weak.mk' rfl ⟨⟨.refl rfl, rfl⟩, ⟨⟨.refl rfl, rfl⟩, ⟨⟨.refl rfl, rfl⟩, ⟨⟨.refl rfl, rfl⟩, ⟨⟨.refl rfl, rfl⟩, ⟨⟨.refl rfl, rfl⟩, ⟨⟨.refl rfl, rfl⟩, trivial⟩⟩⟩⟩⟩⟩⟩ trivial trivial)⟩
        rw [List.take_succ_eq_append_getElem hlt, List.foldl_append, ← hac]
        simp only [List.foldl_cons, List.foldl_nil]
        first
        | (rw [if_pos ⟨hq64, hkeep⟩]; done)
        | (rw [if_neg (fun h => hno h)]; done)
    · skip
      have hkl : k = (nx (p.pb w) b).length := by have := of_decide_eq_false h15; omega
      have hfin : ac = fol (nx (p.pb w)) (keepL (p.pb w) p.log.length) 64 (d + 1) acc b := by rw [hac, hkl, List.take_length]; rfl
      refine AWPJ.exit ?_
      try dsimp only [seqQJ, blockQJ, roundQJ]
      try rw [show Nat.beq 0 0 = true from rfl, cond_true]
      refine postQJ.end0 Tryz.results92  ?_
      exact ⟨rfl, a1, cap1, by rw [hfin]⟩
set_option maxRecDepth 20000 in
theorem follow_n (p : Plw) (w : List Sp) (hp : OkP p) (hw : okW p w = true) (s bk br bo : Nat) (v : Fv) (d : Nat) (b : List Int) (hd : d + 1 ≤ p.log.length) (hrem : Rem (p.pb w) (p.log.length - (d + 1)) b) (hb : b = []) (acc : List (List Int)) (a : Option Addr) (cap : Nat) (hac0 : acc.length ≤ 64) (ih : ∀ c ∈ (nx (p.pb w) b), ∀ acc a cap, acc.length ≤ 64 → FSpecJ Tryz.prog (JFo p w s bk br bo v a cap acc) 92 ([.agg (eBc p w c)] ++ v.cap.map .sc) (fun r J' => r = .tup [] ∧ ∃ a' cap', J' = JFo p w s bk br bo v a' cap' (fol (nx (p.pb w)) (keepL (p.pb w) p.log.length) 64 d acc c))) : FSpecJ Tryz.prog (JFo p w s bk br bo v a cap acc) 92 [.agg (eBn p w b), .rd (eR p w), .sc (adr v.a), .rd [.sc (laV bo)], .rd [.sc v.foV]] (fun r J' => r = .tup [] ∧ ∃ a' cap', J' = JFo p w s bk br bo v a' cap' (fol (nx (p.pb w)) (keepL (p.pb w) p.log.length) 64 (d + 1) acc b)) := by
  refine FSpecJ.of_body Tryz.func92 rfl (leB rfl) fun F0 w0 M0 => ?_
  have h32 := hp.len
  have hnl := nx_len p w b
  have hbl := hrem.1
  have hgl := bgs_len p w (nx (p.pb w) b)
  refine AWPJ.seq ?_
  refine AWPJ.lift (fun u N => ?_)
  refine AWP.region ?_
  refine AOps.call (o_box _ rfl rfl rfl) ?_
  refine AOps.nil ?_
  refine AWPJ.seq ?_
  refine AWPJ.seq ?_
  refine AWPJ.lift (fun u N => ?_)
  refine AWP.region ?_
  refine AOps.call (o_fieldRd _ rfl fa91_0 rfl) ?_
  refine AOps.call (o_loadRd _ rfl Tryz.sizeOf83 Tryz.isAgg83 rfl rfl rfl) ?_
  refine AOps.call (o_fieldRef _ rfl fa112_0 rfl rfl) ?_
  refine AOps.call (o_fieldRef _ rfl fa110_0 rfl rfl) ?_
  refine AOps.call (o_loadRef _ rfl rfl Tryz.sizeOf3 Tryz.isAgg3 rfl rfl rfl) ?_
  refine AOps.call (o_call (isLast_s p ((b.length : Int) - 1) h32) Tryz.call57 rfl rfl) ?_
  refine AOps.nil ?_
  refine AWPJ.cond _ rfl (fun h8 => ?_) (fun h8 => ?_)
  · skip
    exfalso
    have h1 := of_decide_eq_true h8
    omega
  · skip
    skip
    refine AWPJ.skip ?_
    refine AWPJ.seq ?_
    refine AWPJ.lift (fun u N => ?_)
    refine AWP.region ?_
    refine AOps.call (o_loadRd _ rfl Tryz.sizeOf91 Tryz.isAgg91 rfl rfl rfl) ?_
    refine AOps.call (o_loadRef _ rfl rfl Tryz.sizeOf112 Tryz.isAgg112 rfl rfl rfl) ?_
    refine AOps.call (o_call (further_n p w b hp hw (by omega) hrem.2.1 (rem_ld hrem) hb) Tryz.call80 rfl rfl) ?_
    refine AOps.call (o_len _ Tryz.underlying114 rfl rfl) ?_
    refine AOps.call (o_move _ rfl rfl) ?_
    refine AOps.nil ?_
    refine AWPJ.block ?_
    refine AWPJ.loop (ι := Nat × List (List Int) × Option Addr × Nat) (fun i => JFo p w s bk br bo v i.2.2.1 i.2.2.2 i.2.1) (fun i => AS.mk' 39 [(1, .rd (eR p w)), (2, .sc (adr v.a)), (3, .rd [.sc (laV bo)]), (4, .rd [.sc v.foV]), (21, .sl (bgs p w (nx (p.pb w) b))), (22, I (bgs p w (nx (p.pb w) b)).length), (23, I i.1)] [] [] []) (fun i => i.1 ≤ (nx (p.pb w) b).length ∧ i.2.1 = ((nx (p.pb w) b).take i.1).foldl (fun acc c => if acc.length ≤ 64 ∧ (keepL (p.pb w) p.log.length) c = true then fol (nx (p.pb w)) (keepL (p.pb w) p.log.length) 64 d acc c else acc) acc ∧ i.2.1.length ≤ 65) (fun i => (nx (p.pb w) b).length - i.1) (0, acc, a, cap) (Weak.toJ (Weak.mk' rfl ⟨⟨.refl rfl, rfl⟩, ⟨⟨.refl rfl, rfl⟩, ⟨⟨.refl rfl, rfl⟩, ⟨⟨.refl rfl, rfl⟩, ⟨⟨.refl rfl, rfl⟩, ⟨⟨.refl rfl, rfl⟩, ⟨⟨.refl rfl, rfl⟩, trivial⟩⟩⟩⟩⟩⟩⟩ trivial trivial)) (⟨Nat.zero_le _, rfl, by dsimp only; omega⟩) ?_
    rintro ⟨k, ac, a1, cap1⟩ ⟨hk, hac, hle⟩
    try dsimp only at *
    refine AWPJ.seq ?_
    refine AWPJ.lift (fun u N => ?_)
    refine AWP.region ?_
    refine AOps.call (o_bin _ _ rfl rfl (fun _ => rfl) rfl) ?_
    refine AOps.nil ?_
    refine AWPJ.seq ?_
    refine AWPJ.cond _ rfl (fun h15 => ?_) (fun h15 => ?_)
    · skip
      have hlt : k < (nx (p.pb w) b).length := by have := of_decide_eq_true h15; omega
      have hch : Rem (p.pb w) (p.log.length - (d + 1) + 1) (nx (p.pb w) b)[k] := rem_child hrem (List.getElem_mem hlt)
      have hcl := hch.1
      have hcn : (nx (p.pb w) b)[k] ≠ [] := fun e => by rw [e] at hcl; simp at hcl
      have hel := bgs_at (p := p) (w := w) hlt
      rw [eB_c hcn] at hel
      refine AWPJ.skip ?_
      refine AWPJ.seq ?_
      refine AWPJ.block ?_
      refine AWPJ.seq ?_
      refine AWPJ.lift (fun u N => ?_)
      refine AWP.region ?_
      refine AOps.call (o_index _ _ Tryz.underlying114 Tryz.sizeOf112 rfl rfl (by omega) (by assumption) rfl rfl) ?_
      refine AOps.call (o_loadRd _ rfl Tryz.sizeOf112 Tryz.isAgg112 rfl rfl rfl) ?_
      refine AOps.call (o_alloc ze112 rfl rfl) ?_
      refine AOps.cons (o_store _ _ rfl rfl Tryz.sizeOf112 rfl rfl rfl rfl rfl) ?_
      refine AOps.nil ?_
      refine AWPJ.seq ?_
      refine AWPJ.region ?_
      refine AOpsJ.op (OpAnyJ.op (o_look (cs := [.sc (.slice a1 ac.length cap1)]) (r := .sc (.slice a1 ac.length cap1)) _ rfl Tryz.sizeOf40 Tryz.isAgg40 (fun T F w M h => by obtain ⟨_, _, h1⟩ := Sec.sep_l h; obtain ⟨_, _, h2⟩ := Sec.sep_l h1; exact Jvar_cells h2 rfl) rfl rfl)) ?_
      rintro _ _ ⟨rfl, rfl⟩
      refine AOpsJ.call (fun u N => o_lenX _ Tryz.underlying40 rfl rfl) ?_
      refine AOpsJ.call (fun u N => o_bin _ _ rfl rfl (fun _ => rfl) rfl) ?_
      refine AOpsJ.call (fun u N => o_move _ rfl rfl) ?_
      refine AOpsJ.split rfl rfl rfl (fun h22 => ?_) (fun h22 => ?_)
      · skip
        have hq64 : ac.length ≤ 64 := by have := of_decide_eq_true h22; omega
        refine AOpsJ.go rfl rfl rfl h22 (fun u N => OpAny.seq (o_loadRd _ rfl Tryz.sizeOf129 Tryz.isAgg129 rfl rfl rfl)) ?_
        refine AOpsJ.go rfl rfl rfl h22 (fun u N => OpAny.seq (o_loadRef _ rfl rfl Tryz.sizeOf112 Tryz.isAgg112 rfl rfl rfl)) ?_
        refine AOpsJ.goOp rfl rfl rfl h22 (OpJ.frameR (Sec.sep_ok Jvar_ok Jrow_ok) (Sec.sep_ok JM_ok Jfc_ok) (fun E u N => OpJ.frame JM_ok Jfc_ok (fun E u N => o_callVJ (f := 118) (caps := [adr bo]) (cl := [.agg (eBc p w (nx (p.pb w) b)[k])]) _ rfl (lasts_s p w hp hw s bk br bo (nx (p.pb w) b)[k] hcn (by omega) hch.2.1) Tryz.call118 rfl (.inr fun _ => rfl) rfl))) ?_
        rintro _ _ ⟨_, ⟨_, ⟨_, ⟨rfl, rfl⟩, rfl⟩, rfl⟩, _, rfl⟩
        refine AOpsJ.call (fun u N => o_pickT _ _ _ rfl h22 rfl rfl) ?_
        refine AOpsJ.nil ?_
        refine AWPJ.cond _ rfl (fun h26 => ?_) (fun h26 => ?_)
        · skip
          have hkeep : (keepL (p.pb w) p.log.length) (nx (p.pb w) b)[k] = true := h26
          refine AWPJ.region ?_
          refine AOpsJ.call (fun u N => o_loadRd _ rfl Tryz.sizeOf131 Tryz.isAgg131 rfl rfl rfl) ?_
          refine AOpsJ.call (fun u N => o_loadRef _ rfl rfl Tryz.sizeOf112 Tryz.isAgg112 rfl rfl rfl) ?_
          refine AOpsJ.op (o_callVJ (f := 92) (caps := v.cap) (cl := [.agg (eBc p w (nx (p.pb w) b)[k])]) _ rfl (ih _ (List.getElem_mem hlt) ac a1 cap1 hq64) Tryz.call92 rfl (.inr fun _ => rfl) rfl) ?_
          rintro _ _ ⟨_, ⟨rfl, a2, cap2, rfl⟩, rfl⟩
          refine AOpsJ.nil ?_
          refine AWPJ.lift (fun u N => ?_)
          refine AWP.region ?_
          refine AOps.call (o_add _ _ rfl rfl ⟨by (try dsimp only); omega, by (try dsimp only); omega⟩ rfl) ?_
          refine AOps.call (o_move _ rfl rfl) ?_
          refine AOps.nil ?_
          first
          | refine ⟨(k + 1, fol (nx (p.pb w)) (keepL (p.pb w) p.log.length) 64 d ac (nx (p.pb w) b)[k], a2, cap2), ⟨⟨by (try dsimp only); omega, ?_, fol_len d ac _ hq64⟩, by (try dsimp only); omega⟩, Weak.toJ (Weak.mk' rfl ⟨⟨.refl rfl, rfl⟩, ⟨⟨.refl rfl, rfl⟩, ⟨⟨.refl rfl, rfl⟩, ⟨⟨.refl rfl, rfl⟩, ⟨⟨.refl rfl, rfl⟩, ⟨⟨.refl rfl, rfl⟩, ⟨⟨.refl rfl, rfl⟩, trivial⟩⟩⟩⟩⟩⟩⟩ trivial trivial)⟩
          | refine ⟨(k + 1, ac, a1, cap1), ⟨⟨by (try dsimp only); omega, ?_, hle⟩, by (try dsimp only); omega⟩, Weak.toJ (Weak.mk' rfl ⟨⟨.refl rfl, rfl⟩, ⟨⟨.refl rfl, rfl⟩, ⟨⟨.refl rfl, rfl⟩, ⟨⟨.refl rfl, rfl⟩, ⟨⟨.refl rfl, rfl⟩, ⟨⟨.refl rfl, rfl⟩, ⟨⟨.refl rfl, rfl⟩, trivial⟩⟩⟩⟩⟩⟩⟩ trivial trivial)⟩
          rw [List.take_succ_eq_append_getElem hlt, List.foldl_append, ← hac]
          simp only [List.foldl_cons, List.foldl_nil]
          first
          | (rw [if_pos ⟨hq64, hkeep⟩]; done)
          | (rw [if_neg (fun h => hno h)]; done)
        · skip
          have hno : ¬ (ac.length ≤ 64 ∧ (keepL (p.pb w) p.log.length) (nx (p.pb w) b)[k] = true) := fun h => by have := h26; simp_all
          refine AWPJ.skip ?_
          refine AWPJ.lift (fun u N => ?_)
          refine AWP.region ?_
          refine AOps.call (o_add _ _ rfl rfl ⟨by (try dsimp only); omega, by (try dsimp only); omega⟩ rfl) ?_
          refine AOps.call (o_move _ rfl rfl) ?_
          refine AOps.nil ?_
          first
          | refine ⟨(k + 1, fol (nx (p.pb w)) (keepL (p.pb w) p.log.length) 64 d ac (nx (p.pb w) b)[k], a2, cap2), ⟨⟨by (try dsimp only); omega, ?_, fol_len d ac _ hq64⟩, by (try dsimp only); omega⟩, Weak.toJ (Weak.mk' rfl ⟨⟨.refl rfl, rfl⟩, ⟨⟨.refl rfl, rfl⟩, ⟨⟨.refl rfl, rfl⟩, ⟨⟨.refl rfl, rfl⟩, ⟨⟨.refl rfl, rfl⟩, ⟨⟨.refl rfl, rfl⟩, ⟨⟨.refl rfl, rfl⟩, trivial⟩⟩⟩⟩⟩⟩⟩ trivial trivial)⟩
          | refine ⟨(k + 1, ac, a1, cap1), ⟨⟨by (try dsimp only); omega, ?_, hle⟩, by (try dsimp only); omega⟩, Weak.toJ (Weak.mk' rfl ⟨⟨.refl rfl, rfl⟩, ⟨⟨.refl rfl, rfl⟩, ⟨⟨.refl rfl, rfl⟩, ⟨⟨.refl rfl, rfl⟩, ⟨⟨.refl rfl, rfl⟩, ⟨⟨.refl rfl, rfl⟩, ⟨⟨.refl rfl, rfl⟩, trivial⟩⟩⟩⟩⟩⟩⟩ trivial trivial)⟩
          rw [List.take_succ_eq_append_getElem hlt, List.foldl_append, ← hac]
          simp only [List.foldl_cons, List.foldl_nil]
          first
          | (rw [if_pos ⟨hq64, hkeep⟩]; done)
          | (rw [if_neg (fun h => hno h)]; done)
      · skip
        have hno : ¬ (ac.length ≤ 64 ∧ (keepL (p.pb w) p.log.length) (nx (p.pb w) b)[k] = true) := fun h => by have := of_decide_eq_false h22; omega
        refine AOpsJ.pass rfl rfl rfl h22 rfl ?_
        refine AOpsJ.pass rfl rfl rfl h22 rfl ?_
        refine AOpsJ.pass rfl rfl rfl h22 rfl ?_
        refine AOpsJ.call (fun u N => o_pickF _ _ _ rfl h22 rfl rfl) ?_
        refine AOpsJ.nil ?_
        refine AWPJ.condF rfl ?_
        refine AWPJ.skip ?_
        refine AWPJ.lift (fun u N => ?_)
        refine AWP.region ?_
        refine AOps.call (o_add _ _ rfl rfl ⟨by (try dsimp only); omega, by (try dsimp only); omega⟩ rfl) ?_
        refine AOps.call (o_move _ rfl rfl) ?_
        refine AOps.nil ?_
        first
        | refine ⟨(k + 1, fol (nx (p.pb w)) (keepL (p.pb w) p.log.length) 64 d ac (nx (p.pb w) b)[k], a2, cap2), ⟨⟨by (try dsimp only); omega, ?_, fol_len d ac _ hq64⟩, by (try dsimp only); omega⟩, Weak.toJ (Weak.mk' rfl ⟨⟨.refl rfl, rfl⟩, ⟨⟨.refl rfl, rfl⟩, ⟨⟨.refl rfl, rfl⟩, ⟨⟨.refl rfl, rfl⟩, ⟨⟨.refl rfl, rfl⟩, ⟨⟨.refl rfl, rfl⟩, ⟨⟨.refl rfl, rfl⟩, trivial⟩⟩⟩⟩⟩⟩⟩ trivial trivial)⟩
        | refine ⟨(k + 1, ac, a1, cap1), ⟨⟨by (try dsimp only); omega, ?_, hle⟩, by (try dsimp only); omega⟩, Weak.toJ (Weak.mk' rfl ⟨⟨.refl rfl, rfl⟩, ⟨⟨.refl rfl, rfl⟩, ⟨⟨.refl rfl, rfl⟩, ⟨⟨.refl rfl, rfl⟩, ⟨⟨.refl rfl, rfl⟩, ⟨⟨.refl rfl, rfl⟩, ⟨⟨.refl rfl, rfl⟩, trivial⟩⟩⟩⟩⟩⟩⟩ trivial trivial)⟩
        rw [List.take_succ_eq_append_getElem hlt, List.foldl_append, ← hac]
        simp only [List.foldl_cons, List.foldl_nil]
        first
        | (rw [if_pos ⟨hq64, hkeep⟩]; done)
        | (rw [if_neg (fun h => hno h)]; done)
    · skip
      have hkl : k = (nx (p.pb w) b).length := by have := of_decide_eq_false h15; omega
      have hfin : ac = fol (nx (p.pb w)) (keepL (p.pb w) p.log.length) 64 (d + 1) acc b := by rw [hac, hkl, List.take_length]; rfl
      refine AWPJ.exit ?_
      try dsimp only [seqQJ, blockQJ, roundQJ]
      try rw [show Nat.beq 0 0 = true from rfl, cond_true]
      refine postQJ.end0 Tryz.results92  ?_
      exact ⟨rfl, a1, cap1, by rw [hfin]⟩
theorem eBn_c {p : Plw} {w : List Sp} {w' : World} {M : Nat → Option Nat} {u : Value} (h : VR w' M noV noG (.agg (eBn p w [])) u) : VR w' M noV noG (.agg (eBc p w [])) u := by
  cases h with
  | agg _ vs hl h1 hh =>
    refine .agg _ vs hl h1 fun i c x hc hx => ?_
    rcases i with _ | _ | _ | _ | _ | _ | i
    · exact hh 0 c x hc hx
    · exact hh 1 c x hc hx
    · exact hh 2 c x hc hx
    · have := hh 3 _ x rfl hx
      have e : c = .sl [] := (Option.some.inj hc).symm
      subst e
      cases this
      exact .sl0 _ _
    · exact hh 4 c x hc hx
    · exact hh 5 c x hc hx
    · cases hc
theorem follow_s (p : Plw) (w : List Sp) (hp : OkP p) (hw : okW p w = true) (s bk br bo : Nat) (v : Fv) : ∀ (d : Nat) (b : List Int), d ≤ p.log.length → Rem (p.pb w) (p.log.length - d) b → ∀ (acc : List (List Int)) (a : Option Addr) (cap : Nat), acc.length ≤ 64 → FSpecJ Tryz.prog (JFo p w s bk br bo v a cap acc) 92 ([.agg (eB p w b)] ++ v.cap.map .sc) (fun r J' => r = .tup [] ∧ ∃ a' cap', J' = JFo p w s bk br bo v a' cap' (fol (nx (p.pb w)) (keepL (p.pb w) p.log.length) 64 d acc b)) := by
  have know : ∀ (b : List Int) (e : List AV) acc a cap R, (∀ w' M u, VR w' M noV noG (.agg (eB p w b)) u → VR w' M noV noG (.agg e) u) → FSpecJ Tryz.prog (JFo p w s bk br bo v a cap acc) 92 [.agg e, .rd (eR p w), .sc (adr v.a), .rd [.sc (laV bo)], .rd [.sc v.foV]] R → FSpecJ Tryz.prog (JFo p w s bk br bo v a cap acc) 92 ([.agg (eB p w b)] ++ v.cap.map .sc) R := fun b e acc a cap R he h =>
    FSpecJ.know h rfl fun T F w M hJ i x y u hx hy hv => by
      have hf := fun {y u} (hm : (y, u) ∈ v.fc p _ bo) => JFo_fact hm hJ
      rcases i with _ | _ | _ | _ | _ | i
      · simp at hx hy; subst hx; subst hy; exact he _ _ _ hv
      · simp [Fv.cap] at hx hy; subst hx; subst hy; rw [hv.exact _ rfl]; exact hf (by simp [Fv.fc])
      · simp [Fv.cap] at hx hy; subst hx; subst hy; exact hv
      · simp [Fv.cap] at hx hy; subst hx; subst hy; rw [hv.exact _ rfl]; exact hf (by simp [Fv.fc])
      · simp [Fv.cap] at hx hy; subst hx; subst hy; rw [hv.exact _ rfl]; exact hf (by simp [Fv.fc])
      · simp at hy
  intro d
  induction d with
  | zero =>
    intro b _ hrem acc a cap hac
    refine know b (eBc p w b) acc a cap _ (fun w' M u hu => ?_) (follow_l p w hp hw s bk br bo v b hrem.1 acc a cap hac)
    by_cases hb : b = []
    · subst hb; exact eBn_c hu
    · rw [eB_c hb] at hu; exact hu
  | succ d ih =>
    intro b hd hrem acc a cap hac
    have ih' : ∀ c ∈ nx (p.pb w) b, ∀ acc a cap, acc.length ≤ 64 → FSpecJ Tryz.prog (JFo p w s bk br bo v a cap acc) 92 ([.agg (eBc p w c)] ++ v.cap.map .sc) (fun r J' => r = .tup [] ∧ ∃ a' cap', J' = JFo p w s bk br bo v a' cap' (fol (nx (p.pb w)) (keepL (p.pb w) p.log.length) 64 d acc c)) := fun c hc acc a cap hac => by
      have hch := rem_child hrem hc
      have hcl := hch.1
      have hcn : c ≠ [] := fun e => by rw [e] at hcl; simp at hcl
      have e : p.log.length - (d + 1) + 1 = p.log.length - d := by omega
      rw [e] at hch
      rw [← eB_c hcn]
      exact ih c (by omega) hch acc a cap hac
    by_cases hb : b = []
    · exact know b (eBn p w b) acc a cap _ (fun w' M u hu => by rw [eB_n hb] at hu; exact hu) (follow_n p w hp hw s bk br bo v d b hd hrem hb acc a cap hac ih')
    · exact know b (eBc p w b) acc a cap _ (fun w' M u hu => by rw [eB_c hb] at hu; exact hu) (follow_c p w hp hw s bk br bo v d b hd hrem hb acc a cap hac ih')
end Go.Proofs.YtelenedgaoglaaaGreatDoor
