/- What steps make of the layers of a pack, plain: pre: what stands in the column above its top. -/
import Derived.Test.YtgagfmjpmdgfdaaDoorP1
namespace Go.Proofs.YtgagfmjpmdgfdaaDoor
open Go.Ab
theorem entF_ice {left : Int} {l : Lay} (h : flo l) (h0 : 0 ≤ left) (h1 : 1 ≤ l.ice) : 1 ≤ (entF left l).2.ice := by
  unfold flo entF at *; simp only []; omega
def colOk (ls : List Lay) : Prop := ∀ l ∈ ls, flo l ∧ 1 ≤ l.ice
theorem pourL_col : ∀ {ls : List Lay} {much : Int}, colOk ls → 0 ≤ much → colOk (pourL much ls).2 := by
  intro ls
  induction ls with
  | nil => intro much _ _ l h; simp [pourL] at h
  | cons l r ih =>
    intro much h h0 x hx
    have hl := h l (by simp)
    have h1 := entF_ok (left := much) hl.1 h0
    simp only [pourL, List.mem_cons] at hx
    rcases hx with rfl | hx
    · exact ⟨h1.2.2, entF_ice hl.1 h0 hl.2⟩
    · exact ih (fun y hy => h y (by simp [hy])) h1.1 x hx
theorem colOk_flo {ls : List Lay} (h : colOk ls) : ∀ l ∈ ls, flo l := fun l hl => (h l hl).1
/-- Frost enters a layer. -/
def frzF (left : Int) (l : Lay) : Int × Lay := (left - min left l.wet, ⟨l.ice + min left l.wet, l.wet - min left l.wet, l.cold⟩)
def frzL : Int → List Lay → Int × List Lay
  | much, [] => (much, [])
  | much, l :: r => ((frzL (frzF much l).1 r).1, (frzF much l).2 :: (frzL (frzF much l).1 r).2)
theorem frzL_len (much : Int) (ls : List Lay) : (frzL much ls).2.length = ls.length := by
  induction ls generalizing much with
  | nil => rfl
  | cons l r ih => simp [frzL, ih]
/-- The top layer loses ice, and gets liquid water: the layer then, those below it, and what runs out. -/
def losF (ice wet : Int) (l : Lay) : Lay := ⟨l.ice - ice, l.wet + wet - max 0 (l.wet + wet - (l.ice - ice) / 20), l.cold⟩
def losO (ice wet : Int) (l : Lay) : Int := max 0 (l.wet + wet - (l.ice - ice) / 20)
/-- lose: what stands above the top then, the layers, and what runs out. -/
def losK (pre : List Lay) (l : Lay) (r : List Lay) (ice wet : Int) : List Lay × List Lay × Int :=
  if l.ice - ice = 0 then (pre ++ [losF ice wet l], (pourL (losO ice wet l) r).2, (pourL (losO ice wet l) r).1)
  else (pre, losF ice wet l :: (pourL (losO ice wet l) r).2, (pourL (losO ice wet l) r).1)
theorem losO_ok {ice wet : Int} {l : Lay} : 0 ≤ losO ice wet l := by unfold losO; omega
theorem losF_ok {ice wet : Int} {l : Lay} (h : flo l) (h0 : 0 ≤ ice) (h1 : ice ≤ l.ice) (h2 : 0 ≤ wet) : flo (losF ice wet l) := by
  unfold flo losF at *; simp only []; omega
def melt (pre ls : List Lay) (much out : Int) : List Lay × List Lay × Int :=
  match ls with
  | [] => (pre, [], out)
  | l :: r =>
    if much ≤ 0 then (pre, l :: r, out)
    else
      if l.ice - min (much - min much l.cold) l.ice = 0 then
        melt (pre ++ [losF (min (much - min much l.cold) l.ice) (min (much - min much l.cold) l.ice) ⟨l.ice, l.wet, l.cold - min much l.cold⟩])
          (pourL (losO (min (much - min much l.cold) l.ice) (min (much - min much l.cold) l.ice) ⟨l.ice, l.wet, l.cold - min much l.cold⟩) r).2
          (much - min much l.cold - min (much - min much l.cold) l.ice)
          (out + (pourL (losO (min (much - min much l.cold) l.ice) (min (much - min much l.cold) l.ice) ⟨l.ice, l.wet, l.cold - min much l.cold⟩) r).1)
      else (pre, losF (min (much - min much l.cold) l.ice) (min (much - min much l.cold) l.ice) ⟨l.ice, l.wet, l.cold - min much l.cold⟩ ::
          (pourL (losO (min (much - min much l.cold) l.ice) (min (much - min much l.cold) l.ice) ⟨l.ice, l.wet, l.cold - min much l.cold⟩) r).2,
          out + (pourL (losO (min (much - min much l.cold) l.ice) (min (much - min much l.cold) l.ice) ⟨l.ice, l.wet, l.cold - min much l.cold⟩) r).1)
termination_by ls.length
decreasing_by simp [pourL_len]
def take (pre ls : List Lay) (much taken out : Int) : List Lay × List Lay × Int × Int :=
  match ls with
  | [] => (pre, [], taken, out)
  | l :: r =>
    if much ≤ taken then (pre, l :: r, taken, out)
    else
      if l.ice - min (much - taken) l.ice = 0 then
        take (pre ++ [losF (min (much - taken) l.ice) 0 l]) (pourL (losO (min (much - taken) l.ice) 0 l) r).2 much (taken + min (much - taken) l.ice) (out + (pourL (losO (min (much - taken) l.ice) 0 l) r).1)
      else (pre, losF (min (much - taken) l.ice) 0 l :: (pourL (losO (min (much - taken) l.ice) 0 l) r).2, taken + min (much - taken) l.ice, out + (pourL (losO (min (much - taken) l.ice) 0 l) r).1)
termination_by ls.length
decreasing_by simp [pourL_len]
/-- One round of melting, by lose. -/
theorem melt_cons {pre : List Lay} {l : Lay} {r : List Lay} {much out : Int} (h : flo l) (h1 : 1 ≤ l.ice) (hm : 0 < much) :
    melt pre (l :: r) much out =
      (fun q : List Lay × List Lay × Int => melt q.1 q.2.1 (much - min much l.cold - min (much - min much l.cold) l.ice) (out + q.2.2))
        (losK pre ⟨l.ice, l.wet, l.cold - min much l.cold⟩ r (min (much - min much l.cold) l.ice) (min (much - min much l.cold) l.ice)) := by
  conv => lhs; rw [melt]
  rw [if_neg (by omega)]
  unfold losK
  dsimp only
  by_cases h2 : l.ice - min (much - min much l.cold) l.ice = 0
  · rw [if_pos h2, if_pos h2]
  · rw [if_neg h2, if_neg h2]
    dsimp only
    rw [melt, if_pos (by unfold flo at h; omega)]
theorem melt_end {pre ls : List Lay} {much out : Int} (h : much ≤ 0 ∨ ls = []) : melt pre ls much out = (pre, ls, out) := by
  rcases h with h | rfl
  · cases ls with
    | nil => rw [melt]
    | cons l r => rw [melt, if_pos h]
  · rw [melt]
theorem take_cons {pre : List Lay} {l : Lay} {r : List Lay} {much taken out : Int} (h : flo l) (h1 : 1 ≤ l.ice) (hm : taken < much) :
    take pre (l :: r) much taken out =
      (fun q : List Lay × List Lay × Int => take q.1 q.2.1 much (taken + min (much - taken) l.ice) (out + q.2.2)) (losK pre l r (min (much - taken) l.ice) 0) := by
  conv => lhs; rw [take]
  rw [if_neg (by omega)]
  unfold losK
  by_cases h2 : l.ice - min (much - taken) l.ice = 0
  · rw [if_pos h2, if_pos h2]
  · rw [if_neg h2, if_neg h2]
    dsimp only
    rw [take, if_pos (by omega)]
theorem take_end {pre ls : List Lay} {much taken out : Int} (h : much ≤ taken ∨ ls = []) : take pre ls much taken out = (pre, ls, taken, out) := by
  rcases h with h | rfl
  · cases ls with
    | nil => rw [take]
    | cons l r => rw [take, if_pos h]
  · rw [take]
theorem losK_ok {pre : List Lay} {l : Lay} {r : List Lay} {ice wet : Int} (h : colOk (l :: r)) (h0 : 0 ≤ ice) (h1 : ice ≤ l.ice) (h2 : 0 ≤ wet) :
    colOk (losK pre l r ice wet).2.1 ∧ 0 ≤ (losK pre l r ice wet).2.2 ∧ (losK pre l r ice wet).2.2 ≤ losO ice wet l ∧ (losK pre l r ice wet).1.length + (losK pre l r ice wet).2.1.length = pre.length + (r.length + 1) := by
  have hr : colOk r := fun x hx => h x (by simp [hx])
  have hl := h l (by simp)
  have h3 := losO_ok (ice := ice) (wet := wet) (l := l)
  have h4 := pourL_col hr h3
  have h5 := pourL_ok (colOk_flo hr) h3
  have h6 := losF_ok hl.1 h0 h1 h2
  unfold losK
  split
  · exact ⟨h4, h5.1, h5.2.1, by simp [pourL_len]; omega⟩
  · refine ⟨fun x hx => ?_, h5.1, h5.2.1, by simp [pourL_len]⟩
    simp only [List.mem_cons] at hx
    rcases hx with rfl | hx
    · exact ⟨h6, by unfold losF; simp only []; omega⟩
    · exact h4 x hx
end Go.Proofs.YtgagfmjpmdgfdaaDoor
