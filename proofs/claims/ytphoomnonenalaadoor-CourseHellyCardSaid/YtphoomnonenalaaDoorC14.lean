import Derived.Test.YtphoomnonenalaaDoorC13
import Derived.Test.YtphoomnonenalaaDoorEq1
set_option linter.unusedSimpArgs false
set_option linter.unusedVariables false
namespace Go.Proofs.YtphoomnonenalaaDoor
open Go.Ab
def S0 : Scl := ⟨0, 2, [⟨10, 0, 0, 1⟩]⟩
def S1 : Scl := ⟨0, 2, [⟨10, 0, 0, 1⟩, ⟨13, 0, 3, 3⟩]⟩
theorem dd (u : Nat) (h : ¬ u < 10) : Lib.decDigits u = Lib.decDigits (u / 10) ++ [UInt8.ofNat (48 + u % 10)] := by rw [Lib.decDigits, dif_neg h]
theorem d1 (u : Nat) (h : u < 10) : Lib.decDigits u = [UInt8.ofNat (48 + u)] := by rw [Lib.decDigits, dif_pos h]
theorem itn (n : Nat) : Lib.itoa (n : Int) = Lib.decDigits n := by unfold Lib.itoa; rw [if_neg (by omega)]; rfl
theorem it0 : itoaS 0 = ⟨#[48]⟩ := by unfold itoaS; rw [show (0 : Int) = ((0 : Nat) : Int) from rfl, itn, d1 _ (by decide)]; rfl
theorem it1 : itoaS 1 = ⟨#[49]⟩ := by unfold itoaS; rw [show (1 : Int) = ((1 : Nat) : Int) from rfl, itn, d1 _ (by decide)]; rfl
theorem it2 : itoaS 2 = ⟨#[50]⟩ := by unfold itoaS; rw [show (2 : Int) = ((2 : Nat) : Int) from rfl, itn, d1 _ (by decide)]; rfl
theorem it5 : itoaS 5 = ⟨#[53]⟩ := by unfold itoaS; rw [show (5 : Int) = ((5 : Nat) : Int) from rfl, itn, d1 _ (by decide)]; rfl
theorem it10 : itoaS 10 = ⟨#[49, 48]⟩ := by unfold itoaS; rw [show (10 : Int) = ((10 : Nat) : Int) from rfl, itn, dd (10) (by decide), d1 _ (by decide)]; rfl
theorem it11 : itoaS 11 = ⟨#[49, 49]⟩ := by unfold itoaS; rw [show (11 : Int) = ((11 : Nat) : Int) from rfl, itn, dd (11) (by decide), d1 _ (by decide)]; rfl
theorem it40 : itoaS 40 = ⟨#[52, 48]⟩ := by unfold itoaS; rw [show (40 : Int) = ((40 : Nat) : Int) from rfl, itn, dd (40) (by decide), d1 _ (by decide)]; rfl
theorem it100 : itoaS 100 = ⟨#[49, 48, 48]⟩ := by unfold itoaS; rw [show (100 : Int) = ((100 : Nat) : Int) from rfl, itn, dd (100) (by decide), dd (100 / 10) (by decide), d1 _ (by decide)]; rfl
theorem it200 : itoaS 200 = ⟨#[50, 48, 48]⟩ := by unfold itoaS; rw [show (200 : Int) = ((200 : Nat) : Int) from rfl, itn, dd (200) (by decide), dd (200 / 10) (by decide), d1 _ (by decide)]; rfl
theorem it300 : itoaS 300 = ⟨#[51, 48, 48]⟩ := by unfold itoaS; rw [show (300 : Int) = ((300 : Nat) : Int) from rfl, itn, dd (300) (by decide), dd (300 / 10) (by decide), d1 _ (by decide)]; rfl
theorem it1155 : itoaS 1155 = ⟨#[49, 49, 53, 53]⟩ := by unfold itoaS; rw [show (1155 : Int) = ((1155 : Nat) : Int) from rfl, itn, dd (1155) (by decide), dd (1155 / 10) (by decide), dd (1155 / 10 / 10) (by decide), d1 _ (by decide)]; rfl
theorem sheetT_ex : sheetT exH = ⟨#[115, 104, 101, 101, 116, 32, 49, 32, 50, 32, 49, 48, 32, 49, 49, 32, 48, 32, 49, 48, 32, 49, 48, 48, 32, 49, 48, 32, 51, 48, 48, 47, 50, 48, 48, 47, 49, 49, 53, 53, 47, 52, 48, 47, 53]⟩ := by
  have h1 : joinedS SP (headN exH) = joinS [⟨#[49]⟩, ⟨#[50]⟩, ⟨#[49, 48]⟩, ⟨#[49, 49]⟩, ⟨#[48]⟩, ⟨#[49, 48]⟩, ⟨#[49, 48, 48]⟩, ⟨#[49, 48]⟩] SP := by
    show joinS [itoaS 1, itoaS 2, itoaS 10, itoaS 11, itoaS 0, itoaS 10, itoaS 100, itoaS 10] SP = _
    rw [it1, it2, it10, it11, it0, it100]
  have h2 : joinedS SL (kN ⟨300, 200, 1155, 40, 5⟩) = joinS [⟨#[51, 48, 48]⟩, ⟨#[50, 48, 48]⟩, ⟨#[49, 49, 53, 53]⟩, ⟨#[52, 48]⟩, ⟨#[53]⟩] SL := by
    show joinS [itoaS 300, itoaS 200, itoaS 1155, itoaS 40, itoaS 5] SL = _
    rw [it300, it200, it1155, it40, it5]
  show joinS [SHEETW, joinedS SP (headN exH), joinedS SL (kN ⟨300, 200, 1155, 40, 5⟩)] SP = _
  rw [h1, h2]
  rfl
theorem FSpecG.head {P : Program} {Γ : World → Prop} {f : FuncId} {x x' : AV} {l : List AV} {r : AV} {fr : Option (Nat × Nat × TypeId)} (hx : ∀ w M v, VR w M noV noG x' v → VR w M noV noG x v) (h : FSpecG P Γ f (x :: l) r fr) : FSpecG P Γ f (x' :: l) r fr := by
  intro w M vals hΓ hl hv hM
  refine h w M vals hΓ hl (fun i y v hy hv' => ?_) hM
  cases i with
  | zero => simp at hy; subst hy; exact hx _ _ _ (hv 0 x' v rfl hv')
  | succ i => exact hv (i + 1) y v (by simpa using hy) hv'
theorem nil_cell {w : World} {M : Nat → Option Nat} {v : Value} (h : VR w M noV noG (.sc (.slice none 0 0)) v) : VR w M noV noG (.sl []) v := by
  cases h; exact .sl0 _ _
theorem FSpec.nil3 {P : Program} {f : FuncId} {a b : AV} {l : List AV} {r : AV} {fr : Option (Nat × Nat × TypeId)} (h : FSpec P f (.agg [a, b, .sl []] :: l) r fr) : FSpec P f (.agg [a, b, .sc (.slice none 0 0)] :: l) r fr :=
  FSpecG.head (fun w M v hv => by
    cases hv with
    | agg cs vs hl h1 hh =>
      refine .agg _ vs hl h1 fun i c v hc hv => ?_
      match i, hc with
      | 0, hc => exact hh 0 c v hc hv
      | 1, hc => exact hh 1 c v hc hv
      | 2, hc => simp at hc; subst hc; exact nil_cell (hh 2 _ v rfl hv)) h

set_option maxRecDepth 20000 in
theorem sane_s  : FSpecG Tryd.prog TAB 12 [] (B true) (none) := by
  refine FSpecG.of_body tab_stable Tryd.func12 rfl (leB rfl) fun w0 M0 hG => ?_
  have hD := Drift_s S0 13 0
  have hT := Turn_s S0 7 13 0
  have hA := AddTest_s S0 ⟨13, 0, 3, 3⟩
  have hT2 := Turn_s S1 10 13 0
  have hE := Extend_s ⟨0, 2, []⟩ 0 [1] [0] [0, 1, 4]
  have hC := Core_s exS exH 0 10
  have hW := Water_s exS exH 0 10
  have hN := Density_s exS exH 0 10
  have hP := PrintSheet_s exH
  have hB := AddTest_s S0 ⟨12, 0, 6, 7⟩
  rw [if_pos (show askE S0 [13, 0] = 0 by rfl), show drS S0 13 0 = ⟨-6, 7⟩ by rfl] at hD
  rw [if_pos (show askE S0 [7, 13, 0] = 0 by rfl), show tnS S0 7 13 0 = ⟨-12, 12⟩ by rfl] at hT
  rw [if_pos (show addE S0 ⟨13, 0, 3, 3⟩ = 0 by rfl)] at hA
  rw [if_pos (show askE S1 [10, 13, 0] = 0 by rfl), show tnS S1 10 13 0 = ⟨2, 3⟩ by rfl] at hT2
  rw [if_pos (show givenE ⟨0, 2, []⟩ 0 [1] [0] = 0 by rfl), if_pos (show daysB [0, 1, 4] = true by rfl), if_pos (show pinB ⟨0, 2, []⟩ 0 [1] [0] = true by rfl), show extL ⟨0, 2, []⟩ 0 [1] [0] [0, 1, 4] = [2, 0, 6] by rfl] at hE
  rw [show corR exS exH 0 10 = ⟨1050, 1055⟩ by rfl, show watE exS exH 0 10 = 0 by rfl] at hC
  rw [show watR exS exH 0 10 = ⟨107, 146⟩ by rfl, show watE exS exH 0 10 = 0 by rfl] at hW
  rw [show denR exS exH 0 10 = ⟨356, 485⟩ by rfl, show denE exS exH 0 10 = 0 by rfl] at hN
  rw [if_pos (show sheetB exH = true by rfl), sheetT_ex] at hP
  rw [show addE S0 ⟨12, 0, 6, 7⟩ = 13 by rfl, if_neg (by decide)] at hB
  refine AWP.seq ?_
  refine AWP.region ?_
  refine AOps.call (o_assign _ rfl rfl) ?_
  refine AOps.nil ?_
  refine AWP.seq ?_
  refine AWP.region ?_
  refine AOps.call (o_build bu26 rfl rfl rfl) ?_
  refine AOps.call (o_lit Tryd.underlying22 Tryd.sizeOf26 Tryd.zeroValue26 rfl rfl rfl rfl rfl rfl rfl) ?_
  refine AOps.call (o_build bu24 rfl rfl rfl) ?_
  refine AOps.call (o_alloc ze24 rfl rfl) ?_
  refine AOps.cons (o_store _ _ rfl rfl Tryd.sizeOf24 rfl rfl rfl rfl rfl) ?_
  refine AOps.nil ?_
  refine AWP.seq ?_
  refine AWP.region ?_
  refine AOps.call (o_loadRef _ rfl rfl Tryd.sizeOf24 Tryd.isAgg24 rfl rfl rfl) ?_
  refine AOps.call (o_call (hD) Tryd.call22 rfl rfl) ?_
  refine AOps.call (o_move _ rfl rfl) ?_
  refine AOps.call (o_extract _ rfl rfl rfl rfl) ?_
  refine AOps.call (o_extract _ rfl rfl rfl rfl) ?_
  refine AOps.call (o_alloc ze40 rfl rfl) ?_
  refine AOps.cons (o_store _ _ rfl rfl Tryd.sizeOf40 rfl rfl rfl rfl rfl) ?_
  refine AOps.call (o_assign _ rfl rfl) ?_
  refine AOps.nil ?_
  refine AWP.seq ?_
  refine AWP.region ?_
  refine AOps.call (o_loadRef _ rfl rfl Tryd.sizeOf24 Tryd.isAgg24 rfl rfl rfl) ?_
  refine AOps.call (o_call (hT) Tryd.call24 rfl rfl) ?_
  refine AOps.call (o_move _ rfl rfl) ?_
  refine AOps.call (o_extract _ rfl rfl rfl rfl) ?_
  refine AOps.call (o_extract _ rfl rfl rfl rfl) ?_
  refine AOps.call (o_alloc ze40 rfl rfl) ?_
  refine AOps.cons (o_store _ _ rfl rfl Tryd.sizeOf40 rfl rfl rfl rfl rfl) ?_
  refine AOps.call (o_assign _ rfl rfl) ?_
  refine AOps.nil ?_
  refine AWP.seq ?_
  refine AWP.region ?_
  refine AOps.call (o_loadRef _ rfl rfl Tryd.sizeOf24 Tryd.isAgg24 rfl rfl rfl) ?_
  refine AOps.call (o_build bu26 rfl rfl rfl) ?_
  refine AOps.call (o_call (hA) Tryd.call15 rfl rfl) ?_
  refine AOps.call (o_move _ rfl rfl) ?_
  refine AOps.call (o_extract _ rfl rfl rfl rfl) ?_
  refine AOps.call (o_extract _ rfl rfl rfl rfl) ?_
  refine AOps.call (o_alloc ze24 rfl rfl) ?_
  refine AOps.cons (o_store _ _ rfl rfl Tryd.sizeOf24 rfl rfl rfl rfl rfl) ?_
  refine AOps.call (o_assign _ rfl rfl) ?_
  refine AOps.nil ?_
  refine AWP.seq ?_
  refine AWP.region ?_
  refine AOps.call (o_loadRef _ rfl rfl Tryd.sizeOf24 Tryd.isAgg24 rfl rfl rfl) ?_
  refine AOps.call (o_call (hT2) Tryd.call24 rfl rfl) ?_
  refine AOps.call (o_move _ rfl rfl) ?_
  refine AOps.call (o_extract _ rfl rfl rfl rfl) ?_
  refine AOps.call (o_extract _ rfl rfl rfl rfl) ?_
  refine AOps.call (o_alloc ze40 rfl rfl) ?_
  refine AOps.cons (o_store _ _ rfl rfl Tryd.sizeOf40 rfl rfl rfl rfl rfl) ?_
  refine AOps.call (o_assign _ rfl rfl) ?_
  refine AOps.nil ?_
  refine AWP.seq ?_
  refine AWP.region ?_
  refine AOps.call (o_build bu24 rfl rfl rfl) ?_
  refine AOps.call (o_lit Tryd.underlying45 Tryd.sizeOf3 Tryd.zeroValue3 rfl rfl rfl rfl rfl rfl rfl) ?_
  refine AOps.call (o_lit Tryd.underlying45 Tryd.sizeOf3 Tryd.zeroValue3 rfl rfl rfl rfl rfl rfl rfl) ?_
  refine AOps.call (o_lit Tryd.underlying45 Tryd.sizeOf3 Tryd.zeroValue3 rfl rfl rfl rfl rfl rfl rfl) ?_
  refine AOps.call (o_call (FSpec.nil3 hE) Tryd.call28 rfl rfl) ?_
  refine AOps.call (o_move _ rfl rfl) ?_
  refine AOps.call (o_extract _ rfl rfl rfl rfl) ?_
  refine AOps.call (o_extract _ rfl rfl rfl rfl) ?_
  refine AOps.call (o_extract _ rfl rfl rfl rfl) ?_
  refine AOps.call (o_assign _ rfl rfl) ?_
  refine AOps.call (o_assign _ rfl rfl) ?_
  refine AOps.call (o_assign _ rfl rfl) ?_
  refine AOps.nil ?_
  refine AWP.seq ?_
  refine AWP.region ?_
  refine AOps.call (o_call (example_s) Tryd.call63 rfl rfl) ?_
  refine AOps.call (o_call (sheet_s) Tryd.call64 rfl rfl) ?_
  refine AOps.call (o_call (hC) Tryd.call31 rfl rfl) ?_
  refine AOps.call (o_move _ rfl rfl) ?_
  refine AOps.call (o_extract _ rfl rfl rfl rfl) ?_
  refine AOps.call (o_extract _ rfl rfl rfl rfl) ?_
  refine AOps.call (o_alloc ze40 rfl rfl) ?_
  refine AOps.cons (o_store _ _ rfl rfl Tryd.sizeOf40 rfl rfl rfl rfl rfl) ?_
  refine AOps.call (o_assign _ rfl rfl) ?_
  refine AOps.nil ?_
  refine AWP.seq ?_
  refine AWP.region ?_
  refine AOps.call (o_call (example_s) Tryd.call63 rfl rfl) ?_
  refine AOps.call (o_call (sheet_s) Tryd.call64 rfl rfl) ?_
  refine AOps.call (o_call (hW) Tryd.call33 rfl rfl) ?_
  refine AOps.call (o_move _ rfl rfl) ?_
  refine AOps.call (o_extract _ rfl rfl rfl rfl) ?_
  refine AOps.call (o_extract _ rfl rfl rfl rfl) ?_
  refine AOps.call (o_alloc ze40 rfl rfl) ?_
  refine AOps.cons (o_store _ _ rfl rfl Tryd.sizeOf40 rfl rfl rfl rfl rfl) ?_
  refine AOps.call (o_assign _ rfl rfl) ?_
  refine AOps.nil ?_
  refine AWP.seq ?_
  refine AWP.region ?_
  refine AOps.call (o_call (example_s) Tryd.call63 rfl rfl) ?_
  refine AOps.call (o_call (sheet_s) Tryd.call64 rfl rfl) ?_
  refine AOps.call (o_call (hN) Tryd.call49 rfl rfl) ?_
  refine AOps.call (o_move _ rfl rfl) ?_
  refine AOps.call (o_extract _ rfl rfl rfl rfl) ?_
  refine AOps.call (o_extract _ rfl rfl rfl rfl) ?_
  refine AOps.call (o_alloc ze40 rfl rfl) ?_
  refine AOps.cons (o_store _ _ rfl rfl Tryd.sizeOf40 rfl rfl rfl rfl rfl) ?_
  refine AOps.call (o_assign _ rfl rfl) ?_
  refine AOps.nil ?_
  refine AWP.seq ?_
  refine AWP.region ?_
  refine AOps.call (o_call (sheet_s) Tryd.call64 rfl rfl) ?_
  refine AOps.call (o_callG hP hG Tryd.call65 rfl rfl) ?_
  refine AOps.call (o_move _ rfl rfl) ?_
  refine AOps.call (o_extract _ rfl rfl rfl rfl) ?_
  refine AOps.call (o_extract _ rfl rfl rfl rfl) ?_
  refine AOps.call (o_assign _ rfl rfl) ?_
  refine AOps.call (o_assign _ rfl rfl) ?_
  refine AOps.nil ?_
  refine AWP.seq ?_
  refine AWP.region ?_
  refine AOps.call (o_loadRef _ rfl rfl Tryd.sizeOf24 Tryd.isAgg24 rfl rfl rfl) ?_
  refine AOps.call (o_build bu26 rfl rfl rfl) ?_
  refine AOps.call (o_call (hB) Tryd.call15 rfl rfl) ?_
  refine AOps.call (o_move _ rfl rfl) ?_
  refine AOps.call (o_extract _ rfl rfl rfl rfl) ?_
  refine AOps.call (o_extract _ rfl rfl rfl rfl) ?_
  refine AOps.call (o_alloc ze24 rfl rfl) ?_
  refine AOps.cons (o_store _ _ rfl rfl Tryd.sizeOf24 rfl rfl rfl rfl rfl) ?_
  refine AOps.call (o_assign _ rfl rfl) ?_
  refine AOps.nil ?_
  refine AWP.seq ?_
  refine AWP.seq ?_
  refine AWP.region ?_
  refine AOps.call (o_move _ rfl rfl) ?_
  refine AOps.call (o_bin _ _ rfl rfl (fun _ => rfl) rfl) ?_
  refine AOps.call (o_move _ rfl rfl) ?_
  refine AOps.split rfl rfl rfl (fun h63 => ?_) (fun h63 => ?_)
  · skip
    refine AOps.go rfl rfl rfl h63 (o_move _ rfl rfl) ?_
    refine AOps.go rfl rfl rfl h63 (o_bin _ _ rfl rfl (fun _ => rfl) rfl) ?_
    refine AOps.call (o_pickF _ _ _ rfl h63 rfl rfl) ?_
    refine AOps.call (o_move _ rfl rfl) ?_
    refine AOps.split rfl rfl rfl (fun h65 => ?_) (fun h65 => ?_)
    · skip
      refine AOps.go rfl rfl rfl h65 (o_move _ rfl rfl) ?_
      refine AOps.go rfl rfl rfl h65 (o_bin _ _ rfl rfl (fun _ => rfl) rfl) ?_
      refine AOps.call (o_pickF _ _ _ rfl h65 rfl rfl) ?_
      refine AOps.call (o_move _ rfl rfl) ?_
      refine AOps.split rfl rfl rfl (fun h67 => ?_) (fun h67 => ?_)
      · skip
        refine AOps.go rfl rfl rfl h67 (o_move _ rfl rfl) ?_
        refine AOps.go rfl rfl rfl h67 (o_bin _ _ rfl rfl (fun _ => rfl) rfl) ?_
        refine AOps.call (o_pickF _ _ _ rfl h67 rfl rfl) ?_
        refine AOps.call (o_move _ rfl rfl) ?_
        refine AOps.split rfl rfl rfl (fun h69 => ?_) (fun h69 => ?_)
        · skip
          refine AOps.go rfl rfl rfl h69 (o_move _ rfl rfl) ?_
          refine AOps.go rfl rfl rfl h69 (o_bin _ _ rfl rfl (fun _ => rfl) rfl) ?_
          refine AOps.call (o_pickF _ _ _ rfl h69 rfl rfl) ?_
          refine AOps.call (o_move _ rfl rfl) ?_
          refine AOps.split rfl rfl rfl (fun h71 => ?_) (fun h71 => ?_)
          · skip
            refine AOps.go rfl rfl rfl h71 (o_move _ rfl rfl) ?_
            refine AOps.go rfl rfl rfl h71 (o_bin _ _ rfl rfl (fun _ => rfl) rfl) ?_
            refine AOps.call (o_pickF _ _ _ rfl h71 rfl rfl) ?_
            refine AOps.call (o_move _ rfl rfl) ?_
            refine AOps.split rfl rfl rfl (fun h73 => ?_) (fun h73 => ?_)
            · skip
              refine AOps.go rfl rfl rfl h73 (o_move _ rfl rfl) ?_
              refine AOps.go rfl rfl rfl h73 (o_bin _ _ rfl rfl (fun _ => rfl) rfl) ?_
              refine AOps.call (o_pickF _ _ _ rfl h73 rfl rfl) ?_
              refine AOps.call (o_move _ rfl rfl) ?_
              refine AOps.split rfl rfl rfl (fun h75 => ?_) (fun h75 => ?_)
              · skip
                refine AOps.go rfl rfl rfl h75 (o_move _ rfl rfl) ?_
                refine AOps.go rfl rfl rfl h75 (o_bin _ _ rfl rfl (fun _ => rfl) rfl) ?_
                refine AOps.call (o_pickF _ _ _ rfl h75 rfl rfl) ?_
                refine AOps.call (o_move _ rfl rfl) ?_
                refine AOps.split rfl rfl rfl (fun h77 => ?_) (fun h77 => ?_)
                · skip
                  refine AOps.go rfl rfl rfl h77 (o_move _ rfl rfl) ?_
                  refine AOps.go rfl rfl rfl h77 (o_bin _ _ rfl rfl (fun _ => rfl) rfl) ?_
                  refine AOps.call (o_pickF _ _ _ rfl h77 rfl rfl) ?_
                  refine AOps.call (o_move _ rfl rfl) ?_
                  refine AOps.split rfl rfl rfl (fun h79 => ?_) (fun h79 => ?_)
                  · skip
                    refine AOps.go rfl rfl rfl h79 (o_move _ rfl rfl) ?_
                    refine AOps.go rfl rfl rfl h79 (o_bin _ _ rfl rfl (fun _ => rfl) rfl) ?_
                    refine AOps.call (o_pickF _ _ _ rfl h79 rfl rfl) ?_
                    refine AOps.nil ?_
                    refine AWP.cond _ rfl (fun h81 => ?_) (fun h81 => ?_)
                    · skip
                      refine AWP.seq ?_
                      refine AWP.region ?_
                      refine AOps.call (o_assign _ rfl rfl) ?_
                      refine AOps.nil ?_
                      refine AWP.ret ?_
                      first
                      | exact postQ.ret1 Tryd.results12 rfl rfl
                      | (exfalso; contradiction)
                      | (refine postQ.ret1 Tryd.results12 rfl ?_; simp [AV.close, B]; done)
                      | (exfalso; simp at *; done)
                    · skip
                      refine AWP.skip ?_
                      refine AWP.seq ?_
                      refine AWP.seq ?_
                      refine AWP.region ?_
                      refine AOps.call (o_loadRef _ rfl rfl Tryd.sizeOf40 Tryd.isAgg40 rfl rfl rfl) ?_
                      refine AOps.call (o_build bu40 rfl rfl rfl) ?_
                      refine AOps.call (o_bin _ _ rfl rfl (spanNe _ _ _ _ _ _) rfl) ?_
                      refine AOps.call (o_move _ rfl rfl) ?_
                      refine AOps.split rfl rfl rfl (fun h85 => ?_) (fun h85 => ?_)
                      · skip
                        refine AOps.go rfl rfl rfl h85 (o_loadRef _ rfl rfl Tryd.sizeOf40 Tryd.isAgg40 rfl rfl rfl) ?_
                        refine AOps.go rfl rfl rfl h85 (o_build bu40 rfl rfl rfl) ?_
                        refine AOps.go rfl rfl rfl h85 (o_bin _ _ rfl rfl (spanNe _ _ _ _ _ _) rfl) ?_
                        refine AOps.call (o_pickF _ _ _ rfl h85 rfl rfl) ?_
                        refine AOps.call (o_move _ rfl rfl) ?_
                        refine AOps.split rfl rfl rfl (fun h89 => ?_) (fun h89 => ?_)
                        · skip
                          refine AOps.go rfl rfl rfl h89 (o_loadRef _ rfl rfl Tryd.sizeOf40 Tryd.isAgg40 rfl rfl rfl) ?_
                          refine AOps.go rfl rfl rfl h89 (o_build bu40 rfl rfl rfl) ?_
                          refine AOps.go rfl rfl rfl h89 (o_bin _ _ rfl rfl (spanNe _ _ _ _ _ _) rfl) ?_
                          refine AOps.call (o_pickF _ _ _ rfl h89 rfl rfl) ?_
                          refine AOps.call (o_move _ rfl rfl) ?_
                          refine AOps.split rfl rfl rfl (fun h93 => ?_) (fun h93 => ?_)
                          · skip
                            refine AOps.go rfl rfl rfl h93 (o_move _ rfl rfl) ?_
                            refine AOps.go rfl rfl rfl h93 (o_un _ rfl (fun _ => rfl) rfl) ?_
                            refine AOps.call (o_pickF _ _ _ rfl h93 rfl rfl) ?_
                            refine AOps.call (o_move _ rfl rfl) ?_
                            refine AOps.split rfl rfl rfl (fun h95 => ?_) (fun h95 => ?_)
                            · skip
                              refine AOps.go rfl rfl rfl h95 (o_move _ rfl rfl) ?_
                              refine AOps.go rfl rfl rfl h95 (o_lit Tryd.underlying45 Tryd.sizeOf3 Tryd.zeroValue3 rfl rfl rfl rfl rfl rfl rfl) ?_
                              refine AOps.go rfl rfl rfl h95 (o_call (Equal_s [2, 0, 6] [2, 0, 6] (leB rfl)) Tryd.call30 rfl rfl) ?_
                              refine AOps.go rfl rfl rfl h95 (o_un _ rfl (fun _ => rfl) rfl) ?_
                              refine AOps.call (o_pickF _ _ _ rfl h95 rfl rfl) ?_
                              refine AOps.nil ?_
                              refine AWP.cond _ rfl (fun h99 => ?_) (fun h99 => ?_)
                              · skip
                                refine AWP.seq ?_
                                refine AWP.region ?_
                                refine AOps.call (o_assign _ rfl rfl) ?_
                                refine AOps.nil ?_
                                refine AWP.ret ?_
                                first
                                | exact postQ.ret1 Tryd.results12 rfl rfl
                                | (exfalso; contradiction)
                                | (refine postQ.ret1 Tryd.results12 rfl ?_; simp [AV.close, B]; done)
                                | (exfalso; simp at *; done)
                              · skip
                                refine AWP.skip ?_
                                refine AWP.seq ?_
                                refine AWP.region ?_
                                refine AOps.call (o_loadRef _ rfl rfl Tryd.sizeOf40 Tryd.isAgg40 rfl rfl rfl) ?_
                                refine AOps.call (o_build bu40 rfl rfl rfl) ?_
                                refine AOps.call (o_bin _ _ rfl rfl (spanEq _ _ _ _ _ _) rfl) ?_
                                refine AOps.call (o_move _ rfl rfl) ?_
                                refine AOps.split rfl rfl rfl (fun h103 => ?_) (fun h103 => ?_)
                                · skip
                                  refine AOps.go rfl rfl rfl h103 (o_loadRef _ rfl rfl Tryd.sizeOf40 Tryd.isAgg40 rfl rfl rfl) ?_
                                  refine AOps.go rfl rfl rfl h103 (o_build bu40 rfl rfl rfl) ?_
                                  refine AOps.go rfl rfl rfl h103 (o_bin _ _ rfl rfl (spanEq _ _ _ _ _ _) rfl) ?_
                                  refine AOps.call (o_pickT _ _ _ rfl h103 rfl rfl) ?_
                                  refine AOps.call (o_move _ rfl rfl) ?_
                                  refine AOps.split rfl rfl rfl (fun h107 => ?_) (fun h107 => ?_)
                                  · skip
                                    refine AOps.go rfl rfl rfl h107 (o_loadRef _ rfl rfl Tryd.sizeOf40 Tryd.isAgg40 rfl rfl rfl) ?_
                                    refine AOps.go rfl rfl rfl h107 (o_build bu40 rfl rfl rfl) ?_
                                    refine AOps.go rfl rfl rfl h107 (o_bin _ _ rfl rfl (spanEq _ _ _ _ _ _) rfl) ?_
                                    refine AOps.call (o_pickT _ _ _ rfl h107 rfl rfl) ?_
                                    refine AOps.call (o_move _ rfl rfl) ?_
                                    refine AOps.split rfl rfl rfl (fun h111 => ?_) (fun h111 => ?_)
                                    · skip
                                      refine AOps.go rfl rfl rfl h111 (o_move _ rfl rfl) ?_
                                      refine AOps.go rfl rfl rfl h111 (o_bin _ _ rfl rfl (fun _ => rfl) rfl) ?_
                                      refine AOps.call (o_pickT _ _ _ rfl h111 rfl rfl) ?_
                                      refine AOps.call (o_assign _ rfl rfl) ?_
                                      refine AOps.nil ?_
                                      refine AWP.ret ?_
                                      first
                                      | exact postQ.ret1 Tryd.results12 rfl rfl
                                      | (exfalso; contradiction)
                                      | (refine postQ.ret1 Tryd.results12 rfl ?_; simp [AV.close, B]; done)
                                      | (exfalso; simp at *; done)
                                    · skip
                                      refine AOps.pass rfl rfl rfl h111 rfl ?_
                                      refine AOps.pass rfl rfl rfl h111 rfl ?_
                                      refine AOps.call (o_pickF _ _ _ rfl h111 rfl rfl) ?_
                                      refine AOps.call (o_assign _ rfl rfl) ?_
                                      refine AOps.nil ?_
                                      refine AWP.ret ?_
                                      first
                                      | exact postQ.ret1 Tryd.results12 rfl rfl
                                      | (exfalso; contradiction)
                                      | (refine postQ.ret1 Tryd.results12 rfl ?_; simp [AV.close, B]; done)
                                      | (exfalso; simp at *; done)
                                  · skip
                                    refine AOps.pass rfl rfl rfl h107 rfl ?_
                                    refine AOps.pass rfl rfl rfl h107 rfl ?_
                                    refine AOps.pass rfl rfl rfl h107 rfl ?_
                                    refine AOps.call (o_pickF _ _ _ rfl h107 rfl rfl) ?_
                                    refine AOps.call (o_move _ rfl rfl) ?_
                                    refine AOps.pass rfl rfl rfl rfl rfl ?_
                                    refine AOps.pass rfl rfl rfl rfl rfl ?_
                                    refine AOps.call (o_pickF _ _ _ rfl rfl rfl rfl) ?_
                                    refine AOps.call (o_assign _ rfl rfl) ?_
                                    refine AOps.nil ?_
                                    refine AWP.ret ?_
                                    first
                                    | exact postQ.ret1 Tryd.results12 rfl rfl
                                    | (exfalso; contradiction)
                                    | (refine postQ.ret1 Tryd.results12 rfl ?_; simp [AV.close, B]; done)
                                    | (exfalso; simp at *; done)
                                · skip
                                  refine AOps.pass rfl rfl rfl h103 rfl ?_
                                  refine AOps.pass rfl rfl rfl h103 rfl ?_
                                  refine AOps.pass rfl rfl rfl h103 rfl ?_
                                  refine AOps.call (o_pickF _ _ _ rfl h103 rfl rfl) ?_
                                  refine AOps.call (o_move _ rfl rfl) ?_
                                  refine AOps.pass rfl rfl rfl rfl rfl ?_
                                  refine AOps.pass rfl rfl rfl rfl rfl ?_
                                  refine AOps.pass rfl rfl rfl rfl rfl ?_
                                  refine AOps.call (o_pickF _ _ _ rfl rfl rfl rfl) ?_
                                  refine AOps.call (o_move _ rfl rfl) ?_
                                  refine AOps.pass rfl rfl rfl rfl rfl ?_
                                  refine AOps.pass rfl rfl rfl rfl rfl ?_
                                  refine AOps.call (o_pickF _ _ _ rfl rfl rfl rfl) ?_
                                  refine AOps.call (o_assign _ rfl rfl) ?_
                                  refine AOps.nil ?_
                                  refine AWP.ret ?_
                                  first
                                  | exact postQ.ret1 Tryd.results12 rfl rfl
                                  | (exfalso; contradiction)
                                  | (refine postQ.ret1 Tryd.results12 rfl ?_; simp [AV.close, B]; done)
                                  | (exfalso; simp at *; done)
                            · skip
                              refine AOps.pass rfl rfl rfl h95 rfl ?_
                              refine AOps.pass rfl rfl rfl h95 rfl ?_
                              refine AOps.pass rfl rfl rfl h95 rfl ?_
                              refine AOps.pass rfl rfl rfl h95 rfl ?_
                              refine AOps.call (o_pickT _ _ _ rfl h95 rfl rfl) ?_
                              refine AOps.nil ?_
                              refine AWP.condT rfl ?_
                              refine AWP.seq ?_
                              refine AWP.region ?_
                              refine AOps.call (o_assign _ rfl rfl) ?_
                              refine AOps.nil ?_
                              refine AWP.ret ?_
                              first
                              | exact postQ.ret1 Tryd.results12 rfl rfl
                              | (exfalso; contradiction)
                              | (refine postQ.ret1 Tryd.results12 rfl ?_; simp [AV.close, B]; done)
                              | (exfalso; simp at *; done)
                          · skip
                            refine AOps.pass rfl rfl rfl h93 rfl ?_
                            refine AOps.pass rfl rfl rfl h93 rfl ?_
                            refine AOps.call (o_pickT _ _ _ rfl h93 rfl rfl) ?_
                            refine AOps.call (o_move _ rfl rfl) ?_
                            refine AOps.pass rfl rfl rfl rfl rfl ?_
                            refine AOps.pass rfl rfl rfl rfl rfl ?_
                            refine AOps.pass rfl rfl rfl rfl rfl ?_
                            refine AOps.pass rfl rfl rfl rfl rfl ?_
                            refine AOps.call (o_pickT _ _ _ rfl rfl rfl rfl) ?_
                            refine AOps.nil ?_
                            refine AWP.condT rfl ?_
                            refine AWP.seq ?_
                            refine AWP.region ?_
                            refine AOps.call (o_assign _ rfl rfl) ?_
                            refine AOps.nil ?_
                            refine AWP.ret ?_
                            first
                            | exact postQ.ret1 Tryd.results12 rfl rfl
                            | (exfalso; contradiction)
                            | (refine postQ.ret1 Tryd.results12 rfl ?_; simp [AV.close, B]; done)
                            | (exfalso; simp at *; done)
                        · skip
                          refine AOps.pass rfl rfl rfl h89 rfl ?_
                          refine AOps.pass rfl rfl rfl h89 rfl ?_
                          refine AOps.pass rfl rfl rfl h89 rfl ?_
                          refine AOps.call (o_pickT _ _ _ rfl h89 rfl rfl) ?_
                          refine AOps.call (o_move _ rfl rfl) ?_
                          refine AOps.pass rfl rfl rfl rfl rfl ?_
                          refine AOps.pass rfl rfl rfl rfl rfl ?_
                          refine AOps.call (o_pickT _ _ _ rfl rfl rfl rfl) ?_
                          refine AOps.call (o_move _ rfl rfl) ?_
                          refine AOps.pass rfl rfl rfl rfl rfl ?_
                          refine AOps.pass rfl rfl rfl rfl rfl ?_
                          refine AOps.pass rfl rfl rfl rfl rfl ?_
                          refine AOps.pass rfl rfl rfl rfl rfl ?_
                          refine AOps.call (o_pickT _ _ _ rfl rfl rfl rfl) ?_
                          refine AOps.nil ?_
                          refine AWP.condT rfl ?_
                          refine AWP.seq ?_
                          refine AWP.region ?_
                          refine AOps.call (o_assign _ rfl rfl) ?_
                          refine AOps.nil ?_
                          refine AWP.ret ?_
                          first
                          | exact postQ.ret1 Tryd.results12 rfl rfl
                          | (exfalso; contradiction)
                          | (refine postQ.ret1 Tryd.results12 rfl ?_; simp [AV.close, B]; done)
                          | (exfalso; simp at *; done)
                      · skip
                        refine AOps.pass rfl rfl rfl h85 rfl ?_
                        refine AOps.pass rfl rfl rfl h85 rfl ?_
                        refine AOps.pass rfl rfl rfl h85 rfl ?_
                        refine AOps.call (o_pickT _ _ _ rfl h85 rfl rfl) ?_
                        refine AOps.call (o_move _ rfl rfl) ?_
                        refine AOps.pass rfl rfl rfl rfl rfl ?_
                        refine AOps.pass rfl rfl rfl rfl rfl ?_
                        refine AOps.pass rfl rfl rfl rfl rfl ?_
                        refine AOps.call (o_pickT _ _ _ rfl rfl rfl rfl) ?_
                        refine AOps.call (o_move _ rfl rfl) ?_
                        refine AOps.pass rfl rfl rfl rfl rfl ?_
                        refine AOps.pass rfl rfl rfl rfl rfl ?_
                        refine AOps.call (o_pickT _ _ _ rfl rfl rfl rfl) ?_
                        refine AOps.call (o_move _ rfl rfl) ?_
                        refine AOps.pass rfl rfl rfl rfl rfl ?_
                        refine AOps.pass rfl rfl rfl rfl rfl ?_
                        refine AOps.pass rfl rfl rfl rfl rfl ?_
                        refine AOps.pass rfl rfl rfl rfl rfl ?_
                        refine AOps.call (o_pickT _ _ _ rfl rfl rfl rfl) ?_
                        refine AOps.nil ?_
                        refine AWP.condT rfl ?_
                        refine AWP.seq ?_
                        refine AWP.region ?_
                        refine AOps.call (o_assign _ rfl rfl) ?_
                        refine AOps.nil ?_
                        refine AWP.ret ?_
                        first
                        | exact postQ.ret1 Tryd.results12 rfl rfl
                        | (exfalso; contradiction)
                        | (refine postQ.ret1 Tryd.results12 rfl ?_; simp [AV.close, B]; done)
                        | (exfalso; simp at *; done)
                  · skip
                    refine AOps.pass rfl rfl rfl h79 rfl ?_
                    refine AOps.pass rfl rfl rfl h79 rfl ?_
                    refine AOps.call (o_pickT _ _ _ rfl h79 rfl rfl) ?_
                    refine AOps.nil ?_
                    refine AWP.condT rfl ?_
                    refine AWP.seq ?_
                    refine AWP.region ?_
                    refine AOps.call (o_assign _ rfl rfl) ?_
                    refine AOps.nil ?_
                    refine AWP.ret ?_
                    first
                    | exact postQ.ret1 Tryd.results12 rfl rfl
                    | (exfalso; contradiction)
                    | (refine postQ.ret1 Tryd.results12 rfl ?_; simp [AV.close, B]; done)
                    | (exfalso; simp at *; done)
                · skip
                  refine AOps.pass rfl rfl rfl h77 rfl ?_
                  refine AOps.pass rfl rfl rfl h77 rfl ?_
                  refine AOps.call (o_pickT _ _ _ rfl h77 rfl rfl) ?_
                  refine AOps.call (o_move _ rfl rfl) ?_
                  refine AOps.pass rfl rfl rfl rfl rfl ?_
                  refine AOps.pass rfl rfl rfl rfl rfl ?_
                  refine AOps.call (o_pickT _ _ _ rfl rfl rfl rfl) ?_
                  refine AOps.nil ?_
                  refine AWP.condT rfl ?_
                  refine AWP.seq ?_
                  refine AWP.region ?_
                  refine AOps.call (o_assign _ rfl rfl) ?_
                  refine AOps.nil ?_
                  refine AWP.ret ?_
                  first
                  | exact postQ.ret1 Tryd.results12 rfl rfl
                  | (exfalso; contradiction)
                  | (refine postQ.ret1 Tryd.results12 rfl ?_; simp [AV.close, B]; done)
                  | (exfalso; simp at *; done)
              · skip
                refine AOps.pass rfl rfl rfl h75 rfl ?_
                refine AOps.pass rfl rfl rfl h75 rfl ?_
                refine AOps.call (o_pickT _ _ _ rfl h75 rfl rfl) ?_
                refine AOps.call (o_move _ rfl rfl) ?_
                refine AOps.pass rfl rfl rfl rfl rfl ?_
                refine AOps.pass rfl rfl rfl rfl rfl ?_
                refine AOps.call (o_pickT _ _ _ rfl rfl rfl rfl) ?_
                refine AOps.call (o_move _ rfl rfl) ?_
                refine AOps.pass rfl rfl rfl rfl rfl ?_
                refine AOps.pass rfl rfl rfl rfl rfl ?_
                refine AOps.call (o_pickT _ _ _ rfl rfl rfl rfl) ?_
                refine AOps.nil ?_
                refine AWP.condT rfl ?_
                refine AWP.seq ?_
                refine AWP.region ?_
                refine AOps.call (o_assign _ rfl rfl) ?_
                refine AOps.nil ?_
                refine AWP.ret ?_
                first
                | exact postQ.ret1 Tryd.results12 rfl rfl
                | (exfalso; contradiction)
                | (refine postQ.ret1 Tryd.results12 rfl ?_; simp [AV.close, B]; done)
                | (exfalso; simp at *; done)
            · skip
              refine AOps.pass rfl rfl rfl h73 rfl ?_
              refine AOps.pass rfl rfl rfl h73 rfl ?_
              refine AOps.call (o_pickT _ _ _ rfl h73 rfl rfl) ?_
              refine AOps.call (o_move _ rfl rfl) ?_
              refine AOps.pass rfl rfl rfl rfl rfl ?_
              refine AOps.pass rfl rfl rfl rfl rfl ?_
              refine AOps.call (o_pickT _ _ _ rfl rfl rfl rfl) ?_
              refine AOps.call (o_move _ rfl rfl) ?_
              refine AOps.pass rfl rfl rfl rfl rfl ?_
              refine AOps.pass rfl rfl rfl rfl rfl ?_
              refine AOps.call (o_pickT _ _ _ rfl rfl rfl rfl) ?_
              refine AOps.call (o_move _ rfl rfl) ?_
              refine AOps.pass rfl rfl rfl rfl rfl ?_
              refine AOps.pass rfl rfl rfl rfl rfl ?_
              refine AOps.call (o_pickT _ _ _ rfl rfl rfl rfl) ?_
              refine AOps.nil ?_
              refine AWP.condT rfl ?_
              refine AWP.seq ?_
              refine AWP.region ?_
              refine AOps.call (o_assign _ rfl rfl) ?_
              refine AOps.nil ?_
              refine AWP.ret ?_
              first
              | exact postQ.ret1 Tryd.results12 rfl rfl
              | (exfalso; contradiction)
              | (refine postQ.ret1 Tryd.results12 rfl ?_; simp [AV.close, B]; done)
              | (exfalso; simp at *; done)
          · skip
            refine AOps.pass rfl rfl rfl h71 rfl ?_
            refine AOps.pass rfl rfl rfl h71 rfl ?_
            refine AOps.call (o_pickT _ _ _ rfl h71 rfl rfl) ?_
            refine AOps.call (o_move _ rfl rfl) ?_
            refine AOps.pass rfl rfl rfl rfl rfl ?_
            refine AOps.pass rfl rfl rfl rfl rfl ?_
            refine AOps.call (o_pickT _ _ _ rfl rfl rfl rfl) ?_
            refine AOps.call (o_move _ rfl rfl) ?_
            refine AOps.pass rfl rfl rfl rfl rfl ?_
            refine AOps.pass rfl rfl rfl rfl rfl ?_
            refine AOps.call (o_pickT _ _ _ rfl rfl rfl rfl) ?_
            refine AOps.call (o_move _ rfl rfl) ?_
            refine AOps.pass rfl rfl rfl rfl rfl ?_
            refine AOps.pass rfl rfl rfl rfl rfl ?_
            refine AOps.call (o_pickT _ _ _ rfl rfl rfl rfl) ?_
            refine AOps.call (o_move _ rfl rfl) ?_
            refine AOps.pass rfl rfl rfl rfl rfl ?_
            refine AOps.pass rfl rfl rfl rfl rfl ?_
            refine AOps.call (o_pickT _ _ _ rfl rfl rfl rfl) ?_
            refine AOps.nil ?_
            refine AWP.condT rfl ?_
            refine AWP.seq ?_
            refine AWP.region ?_
            refine AOps.call (o_assign _ rfl rfl) ?_
            refine AOps.nil ?_
            refine AWP.ret ?_
            first
            | exact postQ.ret1 Tryd.results12 rfl rfl
            | (exfalso; contradiction)
            | (refine postQ.ret1 Tryd.results12 rfl ?_; simp [AV.close, B]; done)
            | (exfalso; simp at *; done)
        · skip
          refine AOps.pass rfl rfl rfl h69 rfl ?_
          refine AOps.pass rfl rfl rfl h69 rfl ?_
          refine AOps.call (o_pickT _ _ _ rfl h69 rfl rfl) ?_
          refine AOps.call (o_move _ rfl rfl) ?_
          refine AOps.pass rfl rfl rfl rfl rfl ?_
          refine AOps.pass rfl rfl rfl rfl rfl ?_
          refine AOps.call (o_pickT _ _ _ rfl rfl rfl rfl) ?_
          refine AOps.call (o_move _ rfl rfl) ?_
          refine AOps.pass rfl rfl rfl rfl rfl ?_
          refine AOps.pass rfl rfl rfl rfl rfl ?_
          refine AOps.call (o_pickT _ _ _ rfl rfl rfl rfl) ?_
          refine AOps.call (o_move _ rfl rfl) ?_
          refine AOps.pass rfl rfl rfl rfl rfl ?_
          refine AOps.pass rfl rfl rfl rfl rfl ?_
          refine AOps.call (o_pickT _ _ _ rfl rfl rfl rfl) ?_
          refine AOps.call (o_move _ rfl rfl) ?_
          refine AOps.pass rfl rfl rfl rfl rfl ?_
          refine AOps.pass rfl rfl rfl rfl rfl ?_
          refine AOps.call (o_pickT _ _ _ rfl rfl rfl rfl) ?_
          refine AOps.call (o_move _ rfl rfl) ?_
          refine AOps.pass rfl rfl rfl rfl rfl ?_
          refine AOps.pass rfl rfl rfl rfl rfl ?_
          refine AOps.call (o_pickT _ _ _ rfl rfl rfl rfl) ?_
          refine AOps.nil ?_
          refine AWP.condT rfl ?_
          refine AWP.seq ?_
          refine AWP.region ?_
          refine AOps.call (o_assign _ rfl rfl) ?_
          refine AOps.nil ?_
          refine AWP.ret ?_
          first
          | exact postQ.ret1 Tryd.results12 rfl rfl
          | (exfalso; contradiction)
          | (refine postQ.ret1 Tryd.results12 rfl ?_; simp [AV.close, B]; done)
          | (exfalso; simp at *; done)
      · skip
        refine AOps.pass rfl rfl rfl h67 rfl ?_
        refine AOps.pass rfl rfl rfl h67 rfl ?_
        refine AOps.call (o_pickT _ _ _ rfl h67 rfl rfl) ?_
        refine AOps.call (o_move _ rfl rfl) ?_
        refine AOps.pass rfl rfl rfl rfl rfl ?_
        refine AOps.pass rfl rfl rfl rfl rfl ?_
        refine AOps.call (o_pickT _ _ _ rfl rfl rfl rfl) ?_
        refine AOps.call (o_move _ rfl rfl) ?_
        refine AOps.pass rfl rfl rfl rfl rfl ?_
        refine AOps.pass rfl rfl rfl rfl rfl ?_
        refine AOps.call (o_pickT _ _ _ rfl rfl rfl rfl) ?_
        refine AOps.call (o_move _ rfl rfl) ?_
        refine AOps.pass rfl rfl rfl rfl rfl ?_
        refine AOps.pass rfl rfl rfl rfl rfl ?_
        refine AOps.call (o_pickT _ _ _ rfl rfl rfl rfl) ?_
        refine AOps.call (o_move _ rfl rfl) ?_
        refine AOps.pass rfl rfl rfl rfl rfl ?_
        refine AOps.pass rfl rfl rfl rfl rfl ?_
        refine AOps.call (o_pickT _ _ _ rfl rfl rfl rfl) ?_
        refine AOps.call (o_move _ rfl rfl) ?_
        refine AOps.pass rfl rfl rfl rfl rfl ?_
        refine AOps.pass rfl rfl rfl rfl rfl ?_
        refine AOps.call (o_pickT _ _ _ rfl rfl rfl rfl) ?_
        refine AOps.call (o_move _ rfl rfl) ?_
        refine AOps.pass rfl rfl rfl rfl rfl ?_
        refine AOps.pass rfl rfl rfl rfl rfl ?_
        refine AOps.call (o_pickT _ _ _ rfl rfl rfl rfl) ?_
        refine AOps.nil ?_
        refine AWP.condT rfl ?_
        refine AWP.seq ?_
        refine AWP.region ?_
        refine AOps.call (o_assign _ rfl rfl) ?_
        refine AOps.nil ?_
        refine AWP.ret ?_
        first
        | exact postQ.ret1 Tryd.results12 rfl rfl
        | (exfalso; contradiction)
        | (refine postQ.ret1 Tryd.results12 rfl ?_; simp [AV.close, B]; done)
        | (exfalso; simp at *; done)
    · skip
      refine AOps.pass rfl rfl rfl h65 rfl ?_
      refine AOps.pass rfl rfl rfl h65 rfl ?_
      refine AOps.call (o_pickT _ _ _ rfl h65 rfl rfl) ?_
      refine AOps.call (o_move _ rfl rfl) ?_
      refine AOps.pass rfl rfl rfl rfl rfl ?_
      refine AOps.pass rfl rfl rfl rfl rfl ?_
      refine AOps.call (o_pickT _ _ _ rfl rfl rfl rfl) ?_
      refine AOps.call (o_move _ rfl rfl) ?_
      refine AOps.pass rfl rfl rfl rfl rfl ?_
      refine AOps.pass rfl rfl rfl rfl rfl ?_
      refine AOps.call (o_pickT _ _ _ rfl rfl rfl rfl) ?_
      refine AOps.call (o_move _ rfl rfl) ?_
      refine AOps.pass rfl rfl rfl rfl rfl ?_
      refine AOps.pass rfl rfl rfl rfl rfl ?_
      refine AOps.call (o_pickT _ _ _ rfl rfl rfl rfl) ?_
      refine AOps.call (o_move _ rfl rfl) ?_
      refine AOps.pass rfl rfl rfl rfl rfl ?_
      refine AOps.pass rfl rfl rfl rfl rfl ?_
      refine AOps.call (o_pickT _ _ _ rfl rfl rfl rfl) ?_
      refine AOps.call (o_move _ rfl rfl) ?_
      refine AOps.pass rfl rfl rfl rfl rfl ?_
      refine AOps.pass rfl rfl rfl rfl rfl ?_
      refine AOps.call (o_pickT _ _ _ rfl rfl rfl rfl) ?_
      refine AOps.call (o_move _ rfl rfl) ?_
      refine AOps.pass rfl rfl rfl rfl rfl ?_
      refine AOps.pass rfl rfl rfl rfl rfl ?_
      refine AOps.call (o_pickT _ _ _ rfl rfl rfl rfl) ?_
      refine AOps.call (o_move _ rfl rfl) ?_
      refine AOps.pass rfl rfl rfl rfl rfl ?_
      refine AOps.pass rfl rfl rfl rfl rfl ?_
      refine AOps.call (o_pickT _ _ _ rfl rfl rfl rfl) ?_
      refine AOps.nil ?_
      refine AWP.condT rfl ?_
      refine AWP.seq ?_
      refine AWP.region ?_
      refine AOps.call (o_assign _ rfl rfl) ?_
      refine AOps.nil ?_
      refine AWP.ret ?_
      first
      | exact postQ.ret1 Tryd.results12 rfl rfl
      | (exfalso; contradiction)
      | (refine postQ.ret1 Tryd.results12 rfl ?_; simp [AV.close, B]; done)
      | (exfalso; simp at *; done)
  · skip
    refine AOps.pass rfl rfl rfl h63 rfl ?_
    refine AOps.pass rfl rfl rfl h63 rfl ?_
    refine AOps.call (o_pickT _ _ _ rfl h63 rfl rfl) ?_
    refine AOps.call (o_move _ rfl rfl) ?_
    refine AOps.pass rfl rfl rfl rfl rfl ?_
    refine AOps.pass rfl rfl rfl rfl rfl ?_
    refine AOps.call (o_pickT _ _ _ rfl rfl rfl rfl) ?_
    refine AOps.call (o_move _ rfl rfl) ?_
    refine AOps.pass rfl rfl rfl rfl rfl ?_
    refine AOps.pass rfl rfl rfl rfl rfl ?_
    refine AOps.call (o_pickT _ _ _ rfl rfl rfl rfl) ?_
    refine AOps.call (o_move _ rfl rfl) ?_
    refine AOps.pass rfl rfl rfl rfl rfl ?_
    refine AOps.pass rfl rfl rfl rfl rfl ?_
    refine AOps.call (o_pickT _ _ _ rfl rfl rfl rfl) ?_
    refine AOps.call (o_move _ rfl rfl) ?_
    refine AOps.pass rfl rfl rfl rfl rfl ?_
    refine AOps.pass rfl rfl rfl rfl rfl ?_
    refine AOps.call (o_pickT _ _ _ rfl rfl rfl rfl) ?_
    refine AOps.call (o_move _ rfl rfl) ?_
    refine AOps.pass rfl rfl rfl rfl rfl ?_
    refine AOps.pass rfl rfl rfl rfl rfl ?_
    refine AOps.call (o_pickT _ _ _ rfl rfl rfl rfl) ?_
    refine AOps.call (o_move _ rfl rfl) ?_
    refine AOps.pass rfl rfl rfl rfl rfl ?_
    refine AOps.pass rfl rfl rfl rfl rfl ?_
    refine AOps.call (o_pickT _ _ _ rfl rfl rfl rfl) ?_
    refine AOps.call (o_move _ rfl rfl) ?_
    refine AOps.pass rfl rfl rfl rfl rfl ?_
    refine AOps.pass rfl rfl rfl rfl rfl ?_
    refine AOps.call (o_pickT _ _ _ rfl rfl rfl rfl) ?_
    refine AOps.call (o_move _ rfl rfl) ?_
    refine AOps.pass rfl rfl rfl rfl rfl ?_
    refine AOps.pass rfl rfl rfl rfl rfl ?_
    refine AOps.call (o_pickT _ _ _ rfl rfl rfl rfl) ?_
    refine AOps.nil ?_
    refine AWP.condT rfl ?_
    refine AWP.seq ?_
    refine AWP.region ?_
    refine AOps.call (o_assign _ rfl rfl) ?_
    refine AOps.nil ?_
    refine AWP.ret ?_
    first
    | exact postQ.ret1 Tryd.results12 rfl rfl
    | (exfalso; contradiction)
    | (refine postQ.ret1 Tryd.results12 rfl ?_; simp [AV.close, B]; done)
    | (exfalso; simp at *; done)

end Go.Proofs.YtphoomnonenalaaDoor
