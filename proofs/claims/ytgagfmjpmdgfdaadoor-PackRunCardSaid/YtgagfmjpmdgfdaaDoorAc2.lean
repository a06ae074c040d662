/- A call that uses up a variable of the frame, in a region of any order. Nothing here speaks of one program. -/
import Derived.Test.YtgagfmjpmdgfdaaDoorAc1
set_option linter.unusedVariables false
namespace Go.Ab
open Go.RowKit
theorem FSpecM.toC {P : Program} {f : FuncId} {args : List AV} {lent lent' : List (List AV)} {r r' : AV} (h : FSpecM P f args lent r none lent') (hr : r.close = some r') : FSpecC P f args lent r' :=
  fun w M bs vals h1 h2 h3 h4 h5 h6 => (h w M bs vals h1 h2 h3 h4 h5 h6).mono fun e w' ⟨v, he, hk, _, hv⟩ => ⟨v, M, he, hk, fun _ _ => rfl, VR.closed hv _ hr noV noG⟩
section
variable {P : Program} {w0 : World} {M0 : MT} {σ : AS} {ty : TypeId} {pos : String} {after : Array Edge} {guard : Option (Nat × Bool)}
theorem o_callCR {f : FuncId} {args : Array Operand} {tys : Array TypeId} {cl cs : List AV} {r : AV} {d : Tmp} {off : Nat} (id : OId) (y : Operand) (hs : FSpecC P f cl [cs] r) (hb : Body P f)
    (hy : args[0]? = some y) (hyv : nf (σ.ev y) = some (.ref id off))
    (hcl : (args.toList.map fun o => lendA [id] (σ.ev o)) = cl.map some) (hva : (σ.va id).bind AV.close.closeL = some cs) (hd : okDB σ (some d) = true) :
    OpAnyM P w0 M0 σ ⟨some d, .call ⟨.value (.func f), args, tys⟩, ty, pos, after, guard⟩ (.spend id r) := by
  have hd : d < σ.n := okD hd
  intro σ' hag a w ⟨X, hr⟩ K Q hK
  obtain ⟨cs0, e1, e2⟩ := Option.bind_eq_some_iff.1 hva
  have hyin : y ∈ (Op.call ⟨.value (.func f), args, tys⟩).operands := by
    simp [Op.operands, Call.operands]
    exact .inr (Array.mem_of_getElem? hy)
  have hva' : σ'.va id = some cs0 := hag.va y hyin id off cs0 (nf_eq hyv) e1
  obtain ⟨b, vs, ty', m1, m2, m3, m4, m5, m6, m7⟩ := hr.va id cs0 hva'
  have hV : ∀ (k : Nat) id' b', [id][k]? = some id' → [b][k]? = some b' → X.V id' = some b' := fun k id' b' h1 h2 => by
    cases k with
    | zero => simp at h1 h2; subst h1; subst h2; exact m1
    | succ k => simp at h1
  have hheld : ∀ (k : Nat) b' cs', [b][k]? = some b' → [cs][k]? = some cs' → Held w X.M b' cs' := fun k b' cs' h1 h2 => by
    cases k with
    | succ k => simp at h1
    | zero =>
      simp at h1 h2; subst h1; subst h2
      obtain ⟨p1, p2⟩ := closeL_get _ _ e2
      refine ⟨m4, vs, ty', m5, by rw [← p1]; exact m6, fun j c hj => ?_⟩
      have hj' : j < cs0.length := by rw [p1]; exact (List.getElem?_eq_some_iff.1 hj).1
      obtain ⟨v, n1, n2, n3⟩ := m7 j _ (List.getElem?_eq_getElem hj')
      exact ⟨v, n1, n2, n3.closed c (p2 j _ c (List.getElem?_eq_getElem hj') hj) _ _⟩
  have hrun : (execOp a.eval ⟨some d, .call ⟨.value (.func f), args, tys⟩, ty, pos, after, guard⟩).run P w = .ok (.enter f (args.map a.eval)) w := by
    simp [execOp, resolve, Deferred.ofValue, Act.eval, invoke]
    exact hb _ _
  unfold Oper.wp
  rw [hrun, Oper.upon_enter]
  have hlen : args.toList.length = cl.length := by simpa using congrArg List.length hcl
  have hcall := hs w X.M [b] (args.toList.map a.eval) (by simp [hlen]) (fun i x v hx hv => by
      simp only [List.getElem?_map, Option.map_eq_some_iff] at hv
      obtain ⟨o, ho, rfl⟩ := hv
      have h1 : (args.toList.map fun o => lendA [id] (σ.ev o))[i]? = some (lendA [id] (σ.ev o)) := by rw [List.getElem?_map, ho]; rfl
      rw [hcl, List.getElem?_map, hx] at h1
      have h2 := hr.ev o
      rw [hag.ev o (by simp [Op.operands, Call.operands]; exact .inr (Array.mem_toList_iff.1 (List.mem_of_getElem? ho)))] at h2
      exact h2.lent rfl hV (Option.some.inj h1).symm) (fun b hbb => (hr.mlt b hbb).1) (by simp) rfl hheld
  have harr : (args.toList.map a.eval).toArray = args.map a.eval := by apply Array.ext'; simp
  rw [harr] at hcall
  refine hcall.mono fun e w' ⟨v, M', he, hkept, hMM, hres⟩ => ?_
  subst he
  have hR := hr.spend ⟨m1, m2, m3, m4, lt_of_cells m5⟩ hkept hMM
  exact hK _ _ ⟨_, hR.put (d := some d) (show d < _ by show d < σ'.n; rw [hag.n]; exact hd) (VR.open' hres _ _)⟩
end
end Go.Ab
