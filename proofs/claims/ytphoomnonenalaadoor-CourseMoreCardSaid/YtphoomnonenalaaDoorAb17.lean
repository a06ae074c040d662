/- A variable of the frame that is written no more: it can be read, by function values too. Nothing here speaks of one program. -/
import Derived.Test.YtphoomnonenalaaDoorAb16
namespace Go.Ab
open Go.RowKit
section
variable {σ : AS}
def AS.frzv (σ : AS) (id : OId) (t : Nat) (cs : List AV) : AS := { σ with tm := upd σ.tm t (.rd cs), va := updO σ.va id none }
theorem Weak.frzv {id : OId} {t : Nat} {cs cs' : List AV} (hv : nf (σ.tm t) = some (.ref id 0)) (hva : σ.va id = some cs) (hcl : AV.close.closeL cs = some cs') : Weak σ (σ.frzv id t cs') := by
  intro w0 M0 a w ⟨x, h⟩
  obtain ⟨b, vs, ty, h1, h2, h3, h4, h5, h6, h7⟩ := h.va id cs hva
  have himm : ∀ b' off y, Imm w x.M b' off y → Imm w (upd x.M b (some vs.size)) b' off y := fun b' off y hi => by
    by_cases hb : b' = b
    · subst hb; exact absurd (hi.2.2 0 h4) (by omega)
    · exact ⟨hi.1, hi.2.1, by rw [upd_ne _ _ hb]; exact hi.2.2⟩
  obtain ⟨hl, hg⟩ := closeL_get cs _ hcl
  refine ⟨⟨upd x.M b (some vs.size), x.V, x.G, x.ow⟩, ?_⟩
  constructor
  · exact h.below
  · exact h.defers
  · exact h.size
  · intro i
    show VR _ _ _ _ (upd σ.tm t _ i) _
    by_cases hi : i = t
    · subst hi
      rw [upd_same]
      have h8 := h.tm i
      rw [nf_eq hv] at h8
      generalize a.tmps.getD i undef = cv at h8
      cases h8 with
      | ref _ _ b' hb' =>
        have : b = b' := Option.some.inj (h1.symm.trans hb')
        subst this
        have hcell : ∀ (j : Nat) c, cs'[j]? = some c → ∃ v, vs[j]? = some v ∧ v.oneCell' = true ∧ VR w (upd x.M b (some vs.size)) noV noG c v := fun j c hc => by
          have hlt : j < cs.length := by rw [hl]; exact (List.getElem?_eq_some_iff.1 hc).1
          obtain ⟨v, g1, g2, g3⟩ := h7 j _ (List.getElem?_eq_getElem hlt)
          exact ⟨v, g1, g2, (g3.closed _ (hg _ _ _ (List.getElem?_eq_getElem hlt) hc) noV noG).mono himm⟩
        refine .rd cs' b 0 (fun j => (vs[j]?).getD undef) (fun j c hc => ?_) (fun j c hc => ?_)
        · obtain ⟨v, g1, g2, g3⟩ := hcell j c hc
          rw [g1, Nat.zero_add]
          refine ⟨?_, g2, fun m hm => ?_⟩
          · simp only [World.cell?, h5]
            simpa using g1
          · change upd x.M b (some vs.size) b = some m at hm
            rw [upd_same] at hm
            cases hm
            exact (Array.getElem?_eq_some_iff.1 g1).1
        · obtain ⟨v, g1, g2, g3⟩ := hcell j c hc
          rw [g1]; exact g3
    · rw [upd_ne _ _ hi]
      exact (h.tm i).mono himm
  · intro b' hb' ht
    show upd x.M b _ b' = M0.m b'
    rw [upd_ne _ _ (h2.ne hb' ht)]; exact h.m0 b' hb' ht
  · intro b' hb'
    have := lt_of_cells h5
    show upd x.M b _ b' = none ∧ _
    rw [upd_ne _ _ (by omega)]; exact h.mlt b' hb'
  · exact h.fresh
  · exact h.lent
  · intro id' cs1 hv'
    change updO σ.va id none id' = some cs1 at hv'
    by_cases hid : id' = id
    · subst hid; rw [updO_same] at hv'; cases hv'
    · rw [updO_ne _ _ hid] at hv'
      obtain ⟨b1, vs1, ty1, k1, k2, k3, k4, k5, k6, k7⟩ := h.va id' cs1 hv'
      have hb1 : b1 ≠ b := fun hh => by
        subst hh
        rw [h3] at k3
        exact hid (Prod.mk.inj (Option.some.inj k3)).2.symm
      refine ⟨b1, vs1, ty1, k1, k2, k3, by show upd x.M _ _ b1 = _; rw [upd_ne _ _ hb1]; exact k4, k5, k6, fun j c hj => ?_⟩
      obtain ⟨v, g1, g2, g3⟩ := k7 j c hj
      exact ⟨v, g1, g2, g3.mono himm⟩
  · intro d' g cs1 hv'
    change updO σ.va id none (d', g) = some cs1 at hv'
    by_cases hid : (d', g) = id
    · rw [hid, updO_same] at hv'; cases hv'
    · rw [updO_ne _ _ hid] at hv'; exact h.vgen d' g _ hv'
  · intro id' n' z' e' hg'
    obtain ⟨l', k1, k2, k3, k3', k4, k5⟩ := h.gr id' n' z' e' hg'
    refine ⟨l', k1, k2, k3, k3', k4, fun b1 hb1 => ?_⟩
    obtain ⟨g1, g2, g3, vs1, g4, g5⟩ := k5 b1 hb1
    have hne : b1 ≠ b := fun hh => by subst hh; rw [h3] at g2; cases g2
    exact ⟨g1, g2, by show upd x.M _ _ b1 = _; rw [upd_ne _ _ hne]; exact g3, vs1, g4, g5⟩
  · exact h.ggen
end
section
variable {P : Program} {w0 : World} {M0 : MT} {σ : AS} {ty : TypeId} {pos : String} {after : Array Edge} {guard : Option (Nat × Bool)}
theorem o_makeClo {d : Option Tmp} {f : FuncId} {caps : Array Operand} {cs : List AV} (hc : nfL (caps.toList.map σ.ev) = some cs) (hd : okDB σ d = true) :
    OpAny P w0 M0 σ ⟨d, .makeFunc (.func f) #[] caps, ty, pos, after, guard⟩ (.val (.clo f cs)) := ok_makeFunc (nfL_eq hc).symm (okD hd)
theorem o_callVG {Γ : World → Prop} {f : FuncId} {caps ccl : List AV} {args : Array Operand} {tys : Array TypeId} {cl : List AV} {r : AV} {fr : Option (Nat × Nat × TypeId)} {d : Tmp} (x : Operand) (hx : nf (σ.ev x) = some (.clo f caps)) (hs : FSpecG P Γ f (cl ++ ccl) r fr) (hG : ∀ w, Kept w0 M0 w → Γ w) (hb : Body P f)
    (hcl : (args.toList.map fun o => (σ.ev o).close) = cl.map some) (hcc : AV.close.closeL caps = some ccl) (hd : okDB σ (some d) = true) :
    OpAny P w0 M0 σ ⟨some d, .call ⟨.value x, args, tys⟩, ty, pos, after, guard⟩ (.call r fr) := ok_callV x (nf_eq hx) hs hG hb hcl hcc (okD hd)
end
end Go.Ab
