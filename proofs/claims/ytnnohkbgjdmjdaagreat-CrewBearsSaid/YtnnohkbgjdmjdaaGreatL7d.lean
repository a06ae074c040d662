import Derived.Test.YtnnohkbgjdmjdaaGreatL7c
set_option linter.unusedSimpArgs false
set_option linter.unusedVariables false
namespace Go.Proofs.YtnnohkbgjdmjdaaGreat
open Go.Ab

theorem Bears_no (s : Int) (hk : okS s = false) : FSpec Tryz.prog 11 [I s] (.tup [I 0, I 1]) none := by
  have := Bears_s s
  rw [hk] at this
  exact this
theorem Bears_yes (s : Int) (hk : okS s = true) : FSpec Tryz.prog 11 [I s] (.tup [I (bearsN s), I 0]) none := by
  have := Bears_s s
  rw [hk] at this
  exact this
theorem Breaks_yes (w s : Int) (hw : okW w = true) (hk : okS s = true) {b : Bool} (hb : decide (w > bearsN s) = b) : FSpec Tryz.prog 9 [I w, I s] (.tup [B b, I 0]) none := by
  have := Breaks_s w s
  rw [hk, hw, hb] at this
  exact this
theorem Breaks_no (w s : Int) (hw : okW w = false) : FSpec Tryz.prog 9 [I w, I s] (.tup [B false, I 1]) none := by
  have := Breaks_s w s
  rw [hw] at this
  exact this
def nxS (s : Int) : Int := if (if 0 > s then 0 else s) + 1 < 60 then (if 0 > s then 0 else s) + 1 else 60
theorem nxS_eq {s : Int} (h : okS s = true) : nxS s = if s + 1 < 60 then s + 1 else 60 := by
  have := okS_in h
  unfold nxS
  rw [if_neg (show ¬ 0 > s by omega)]
theorem nxS_in {s : Int} (h : okS s = true) : okS (nxS s) = true := by
  have := okS_in h
  rw [nxS_eq h]
  unfold okS
  split <;> simp <;> omega
theorem okW_b {s : Int} (h : okS s = true) : okW (bearsN s) = true := by
  have := bears_in h
  unfold okW; simp; omega
theorem okW_b1 {s : Int} (h : okS s = true) (h' : bearsN s < 65536) : okW (bearsN s + 1) = true := by
  have := bears_in h
  unfold okW; simp; omega
theorem not_okW {w : Int} (h : okW w = false) : w < 0 ∨ 65536 < w := by
  simp [okW] at h; omega
theorem not_okS {w : Int} (h : okS w = false) : w < 0 ∨ 60 < w := by
  simp [okS] at h; omega

set_option maxRecDepth 20000 in
theorem CrewBears_no (w s : Int) (hk : okS s = false) : FSpec Tryz.prog 4 [I w, I s] (B true) (none) := by
  refine FSpec.of_body Tryz.func4 rfl (leB rfl) fun w0 M0 => ?_
  have hd := not_okS hk
  refine AWP.seq ?_
  refine AWP.region ?_
  refine AOps.call (o_assign _ rfl rfl) ?_
  refine AOps.nil ?_
  refine AWP.seq ?_
  refine AWP.seq ?_
  refine AWP.region ?_
  refine AOps.call (o_call (sane_s) Tryz.call6 rfl rfl) ?_
  refine AOps.call (o_un _ rfl (fun _ => rfl) rfl) ?_
  refine AOps.nil ?_
  refine AWP.cond _ rfl (fun h3 => ?_) (fun h3 => ?_)
  · skip
    exfalso
    simp at h3
  · skip
    refine AWP.skip ?_
    refine AWP.seq ?_
    refine AWP.region ?_
    refine AOps.call (o_move _ rfl rfl) ?_
    refine AOps.call (o_call (Bears_no _ hk) Tryz.call11 rfl rfl) ?_
    refine AOps.call (o_move _ rfl rfl) ?_
    refine AOps.call (o_extract _ rfl rfl rfl rfl) ?_
    refine AOps.call (o_extract _ rfl rfl rfl rfl) ?_
    refine AOps.call (o_assign _ rfl rfl) ?_
    refine AOps.call (o_assign _ rfl rfl) ?_
    refine AOps.nil ?_
    refine AWP.seq ?_
    refine AWP.seq ?_
    refine AWP.region ?_
    refine AOps.call (o_move _ rfl rfl) ?_
    refine AOps.call (o_bin _ _ rfl rfl (fun _ => rfl) rfl) ?_
    refine AOps.nil ?_
    refine AWP.cond _ rfl (fun h9 => ?_) (fun h9 => ?_)
    · skip
      refine AWP.seq ?_
      refine AWP.region ?_
      refine AOps.call (o_move _ rfl rfl) ?_
      refine AOps.call (o_bin _ _ rfl rfl (fun _ => rfl) rfl) ?_
      refine AOps.call (o_move _ rfl rfl) ?_
      refine AOps.split rfl rfl rfl (fun h11 => ?_) (fun h11 => ?_)
      · skip
        refine AOps.go rfl rfl rfl h11 (o_move _ rfl rfl) ?_
        refine AOps.go rfl rfl rfl h11 (o_bin _ _ rfl rfl (fun _ => rfl) rfl) ?_
        refine AOps.call (o_pickT _ _ _ rfl h11 rfl rfl) ?_
        refine AOps.call (o_move _ rfl rfl) ?_
        refine AOps.split rfl rfl rfl (fun h13 => ?_) (fun h13 => ?_)
        · skip
          refine AOps.go rfl rfl rfl h13 (o_move _ rfl rfl) ?_
          refine AOps.go rfl rfl rfl h13 (o_bin _ _ rfl rfl (fun _ => rfl) rfl) ?_
          refine AOps.go rfl rfl rfl h13 (o_move _ rfl rfl) ?_
          refine AOps.split rfl rfl rfl (fun h16 => ?_) (fun h16 => ?_)
          · skip
            refine AOps.go rfl rfl rfl h16 (o_move _ rfl rfl) ?_
            refine AOps.go rfl rfl rfl h16 (o_bin _ _ rfl rfl (fun _ => rfl) rfl) ?_
            refine AOps.go rfl rfl rfl h13 (o_pickF _ _ _ rfl h16 rfl rfl) ?_
            refine AOps.call (o_pickT _ _ _ rfl h13 rfl rfl) ?_
            refine AOps.call (o_assign _ rfl rfl) ?_
            refine AOps.nil ?_
            refine AWP.ret ?_
            refine postQ.ret1 Tryz.results4 rfl ?_
            simp_all [AV.close, B]
            try (intros; omega)
          · skip
            refine AOps.pass rfl rfl rfl h16 rfl ?_
            refine AOps.pass rfl rfl rfl h16 rfl ?_
            refine AOps.go rfl rfl rfl h13 (o_pickT _ _ _ rfl h16 rfl rfl) ?_
            refine AOps.call (o_pickT _ _ _ rfl h13 rfl rfl) ?_
            refine AOps.call (o_assign _ rfl rfl) ?_
            refine AOps.nil ?_
            refine AWP.ret ?_
            refine postQ.ret1 Tryz.results4 rfl ?_
            simp_all [AV.close, B]
            try (intros; omega)
        · skip
          refine AOps.pass rfl rfl rfl h13 rfl ?_
          refine AOps.pass rfl rfl rfl h13 rfl ?_
          refine AOps.pass rfl rfl rfl h13 rfl ?_
          refine AOps.passU rfl rfl rfl rfl ?_
          refine AOps.passU rfl rfl rfl rfl ?_
          refine AOps.pass rfl rfl rfl h13 rfl ?_
          refine AOps.call (o_pickF _ _ _ rfl h13 rfl rfl) ?_
          refine AOps.call (o_assign _ rfl rfl) ?_
          refine AOps.nil ?_
          refine AWP.ret ?_
          refine postQ.ret1 Tryz.results4 rfl ?_
          simp_all [AV.close, B]
          try (intros; omega)
      · skip
        refine AOps.pass rfl rfl rfl h11 rfl ?_
        refine AOps.pass rfl rfl rfl h11 rfl ?_
        refine AOps.call (o_pickF _ _ _ rfl h11 rfl rfl) ?_
        refine AOps.call (o_move _ rfl rfl) ?_
        refine AOps.pass rfl rfl rfl rfl rfl ?_
        refine AOps.pass rfl rfl rfl rfl rfl ?_
        refine AOps.pass rfl rfl rfl rfl rfl ?_
        refine AOps.passU rfl rfl rfl rfl ?_
        refine AOps.passU rfl rfl rfl rfl ?_
        refine AOps.pass rfl rfl rfl rfl rfl ?_
        refine AOps.call (o_pickF _ _ _ rfl rfl rfl rfl) ?_
        refine AOps.call (o_assign _ rfl rfl) ?_
        refine AOps.nil ?_
        refine AWP.ret ?_
        refine postQ.ret1 Tryz.results4 rfl ?_
        simp_all [AV.close, B]
        try (intros; omega)
    · skip
      exfalso
      simp at h9

set_option maxRecDepth 20000 in
theorem CrewBears_w (w s : Int) (hk : okS s = true) (hw : okW w = false) : FSpec Tryz.prog 4 [I w, I s] (B true) (none) := by
  refine FSpec.of_body Tryz.func4 rfl (leB rfl) fun w0 M0 => ?_
  have hd := okS_in hk
  have hb := bears_in hk
  have hx : bearsN (nxS s) ≤ bearsN s := by rw [nxS_eq hk]; exact hb.2.2
  have hN := nxS_in hk
  have hv := not_okW hw
  refine AWP.seq ?_
  refine AWP.region ?_
  refine AOps.call (o_assign _ rfl rfl) ?_
  refine AOps.nil ?_
  refine AWP.seq ?_
  refine AWP.seq ?_
  refine AWP.region ?_
  refine AOps.call (o_call (sane_s) Tryz.call6 rfl rfl) ?_
  refine AOps.call (o_un _ rfl (fun _ => rfl) rfl) ?_
  refine AOps.nil ?_
  refine AWP.cond _ rfl (fun h3 => ?_) (fun h3 => ?_)
  · skip
    exfalso
    simp at h3
    
  · skip
    refine AWP.skip ?_
    refine AWP.seq ?_
    refine AWP.region ?_
    refine AOps.call (o_move _ rfl rfl) ?_
    refine AOps.call (o_call (Bears_yes _ hk) Tryz.call11 rfl rfl) ?_
    refine AOps.call (o_move _ rfl rfl) ?_
    refine AOps.call (o_extract _ rfl rfl rfl rfl) ?_
    refine AOps.call (o_extract _ rfl rfl rfl rfl) ?_
    refine AOps.call (o_assign _ rfl rfl) ?_
    refine AOps.call (o_assign _ rfl rfl) ?_
    refine AOps.nil ?_
    refine AWP.seq ?_
    refine AWP.seq ?_
    refine AWP.region ?_
    refine AOps.call (o_move _ rfl rfl) ?_
    refine AOps.call (o_bin _ _ rfl rfl (fun _ => rfl) rfl) ?_
    refine AOps.nil ?_
    refine AWP.cond _ rfl (fun h9 => ?_) (fun h9 => ?_)
    · skip
      exfalso
      simp at h9
      
    · skip
      refine AWP.skip ?_
      refine AWP.seq ?_
      refine AWP.region ?_
      refine AOps.call (o_move _ rfl rfl) ?_
      refine AOps.call (o_move _ rfl rfl) ?_
      refine AOps.call (o_call (Breaks_yes (bearsN s) s (okW_b hk) hk (b := false) (by simp)) Tryz.call9 rfl rfl) ?_
      refine AOps.call (o_move _ rfl rfl) ?_
      refine AOps.call (o_extract _ rfl rfl rfl rfl) ?_
      refine AOps.call (o_extract _ rfl rfl rfl rfl) ?_
      refine AOps.call (o_assign _ rfl rfl) ?_
      refine AOps.call (o_assign _ rfl rfl) ?_
      refine AOps.nil ?_
      refine AWP.seq ?_
      refine AWP.seq ?_
      refine AWP.region ?_
      refine AOps.call (o_move _ rfl rfl) ?_
      refine AOps.call (o_move _ rfl rfl) ?_
      refine AOps.split rfl rfl rfl (fun h14 => ?_) (fun h14 => ?_)
      · skip
        refine AOps.go rfl rfl rfl h14 (o_move _ rfl rfl) ?_
        refine AOps.go rfl rfl rfl h14 (o_bin _ _ rfl rfl (fun _ => rfl) rfl) ?_
        refine AOps.call (o_pickF _ _ _ rfl h14 rfl rfl) ?_
        refine AOps.call (o_move _ rfl rfl) ?_
        refine AOps.split rfl rfl rfl (fun h16 => ?_) (fun h16 => ?_)
        · skip
          refine AOps.go rfl rfl rfl h16 (o_move _ rfl rfl) ?_
          refine AOps.go rfl rfl rfl h16 (o_bin _ _ rfl rfl (fun _ => rfl) rfl) ?_
          refine AOps.call (o_pickF _ _ _ rfl h16 rfl rfl) ?_
          refine AOps.call (o_move _ rfl rfl) ?_
          refine AOps.split rfl rfl rfl (fun h18 => ?_) (fun h18 => ?_)
          · skip
            refine AOps.go rfl rfl rfl h18 (o_move _ rfl rfl) ?_
            refine AOps.go rfl rfl rfl h18 (o_bin _ _ rfl rfl (fun _ => rfl) rfl) ?_
            refine AOps.call (o_pickF _ _ _ rfl h18 rfl rfl) ?_
            refine AOps.nil ?_
            refine AWP.cond _ rfl (fun h20 => ?_) (fun h20 => ?_)
            · skip
              exfalso
              simp at h20
              omega
            · skip
              refine AWP.skip ?_
              refine AWP.seq ?_
              refine AWP.seq ?_
              refine AWP.region ?_
              refine AOps.call (o_move _ rfl rfl) ?_
              refine AOps.call (o_bin _ _ rfl rfl (fun _ => rfl) rfl) ?_
              refine AOps.nil ?_
              refine AWP.cond _ rfl (fun h22 => ?_) (fun h22 => ?_)
              · skip
                refine AWP.seq ?_
                refine AWP.region ?_
                refine AOps.call (o_move _ rfl rfl) ?_
                refine AOps.call (o_add _ _ rfl rfl ⟨by (try dsimp only); omega, by (try dsimp only); omega⟩ rfl) ?_
                refine AOps.call (o_move _ rfl rfl) ?_
                refine AOps.call (o_call (Breaks_yes (bearsN s + 1) s (okW_b1 hk (by simp_all)) hk (b := true) (by simp; omega)) Tryz.call9 rfl rfl) ?_
                refine AOps.call (o_move _ rfl rfl) ?_
                refine AOps.call (o_extract _ rfl rfl rfl rfl) ?_
                refine AOps.call (o_extract _ rfl rfl rfl rfl) ?_
                refine AOps.call (o_assign _ rfl rfl) ?_
                refine AOps.call (o_assign _ rfl rfl) ?_
                refine AOps.nil ?_
                refine AWP.seq ?_
                refine AWP.region ?_
                refine AOps.call (o_move _ rfl rfl) ?_
                refine AOps.call (o_un _ rfl (fun _ => rfl) rfl) ?_
                refine AOps.call (o_move _ rfl rfl) ?_
                refine AOps.split rfl rfl rfl (fun h29 => ?_) (fun h29 => ?_)
                · skip
                  refine AOps.go rfl rfl rfl h29 (o_move _ rfl rfl) ?_
                  refine AOps.go rfl rfl rfl h29 (o_bin _ _ rfl rfl (fun _ => rfl) rfl) ?_
                  refine AOps.call (o_pickF _ _ _ rfl h29 rfl rfl) ?_
                  refine AOps.nil ?_
                  refine AWP.cond _ rfl (fun h31 => ?_) (fun h31 => ?_)
                  · skip
                    exfalso
                    simp at h31
                    
                  · skip
                    refine AWP.skip ?_
                    refine AWP.seq ?_
                    refine AWP.region ?_
                    refine AOps.call (o_move _ rfl rfl) ?_
                    refine AOps.call (o_move _ rfl rfl) ?_
                    refine AOps.call (o_call (Breaks_no w s hw) Tryz.call9 rfl rfl) ?_
                    refine AOps.call (o_move _ rfl rfl) ?_
                    refine AOps.call (o_extract _ rfl rfl rfl rfl) ?_
                    refine AOps.call (o_extract _ rfl rfl rfl rfl) ?_
                    refine AOps.call (o_assign _ rfl rfl) ?_
                    refine AOps.call (o_assign _ rfl rfl) ?_
                    refine AOps.nil ?_
                    refine AWP.seq ?_
                    refine AWP.seq ?_
                    refine AWP.region ?_
                    refine AOps.call (o_move _ rfl rfl) ?_
                    refine AOps.call (o_bin _ _ rfl rfl (fun _ => rfl) rfl) ?_
                    refine AOps.nil ?_
                    refine AWP.cond _ rfl (fun h38 => ?_) (fun h38 => ?_)
                    · skip
                      refine AWP.seq ?_
                      refine AWP.region ?_
                      refine AOps.call (o_move _ rfl rfl) ?_
                      refine AOps.call (o_un _ rfl (fun _ => rfl) rfl) ?_
                      refine AOps.call (o_move _ rfl rfl) ?_
                      refine AOps.split rfl rfl rfl (fun h40 => ?_) (fun h40 => ?_)
                      · skip
                        refine AOps.go rfl rfl rfl h40 (o_move _ rfl rfl) ?_
                        refine AOps.go rfl rfl rfl h40 (o_bin _ _ rfl rfl (fun _ => rfl) rfl) ?_
                        refine AOps.go rfl rfl rfl h40 (o_move _ rfl rfl) ?_
                        refine AOps.split rfl rfl rfl (fun h43 => ?_) (fun h43 => ?_)
                        · skip
                          refine AOps.go rfl rfl rfl h43 (o_move _ rfl rfl) ?_
                          refine AOps.go rfl rfl rfl h43 (o_bin _ _ rfl rfl (fun _ => rfl) rfl) ?_
                          refine AOps.go rfl rfl rfl h40 (o_pickF _ _ _ rfl h43 rfl rfl) ?_
                          refine AOps.call (o_pickT _ _ _ rfl h40 rfl rfl) ?_
                          refine AOps.call (o_assign _ rfl rfl) ?_
                          refine AOps.nil ?_
                          refine AWP.ret ?_
                          refine postQ.ret1 Tryz.results4 rfl ?_
                          simp_all [AV.close, B]
                          try (intros; omega)
                        · skip
                          refine AOps.pass rfl rfl rfl h43 rfl ?_
                          refine AOps.pass rfl rfl rfl h43 rfl ?_
                          refine AOps.go rfl rfl rfl h40 (o_pickT _ _ _ rfl h43 rfl rfl) ?_
                          refine AOps.call (o_pickT _ _ _ rfl h40 rfl rfl) ?_
                          refine AOps.call (o_assign _ rfl rfl) ?_
                          refine AOps.nil ?_
                          refine AWP.ret ?_
                          refine postQ.ret1 Tryz.results4 rfl ?_
                          simp_all [AV.close, B]
                          try (intros; omega)
                      · skip
                        refine AOps.pass rfl rfl rfl h40 rfl ?_
                        refine AOps.pass rfl rfl rfl h40 rfl ?_
                        refine AOps.pass rfl rfl rfl h40 rfl ?_
                        refine AOps.passU rfl rfl rfl rfl ?_
                        refine AOps.passU rfl rfl rfl rfl ?_
                        refine AOps.pass rfl rfl rfl h40 rfl ?_
                        refine AOps.call (o_pickF _ _ _ rfl h40 rfl rfl) ?_
                        refine AOps.call (o_assign _ rfl rfl) ?_
                        refine AOps.nil ?_
                        refine AWP.ret ?_
                        refine postQ.ret1 Tryz.results4 rfl ?_
                        simp_all [AV.close, B]
                        try (intros; omega)
                    · skip
                      exfalso
                      simp at h38
                      
                · skip
                  refine AOps.pass rfl rfl rfl h29 rfl ?_
                  refine AOps.pass rfl rfl rfl h29 rfl ?_
                  refine AOps.call (o_pickT _ _ _ rfl h29 rfl rfl) ?_
                  refine AOps.nil ?_
                  refine AWP.condT rfl ?_
                  refine AWP.seq ?_
                  refine AWP.region ?_
                  refine AOps.call (o_assign _ rfl rfl) ?_
                  refine AOps.nil ?_
                  refine AWP.ret ?_
                  refine postQ.ret1 Tryz.results4 rfl ?_
                  simp_all [AV.close, B]
                  try (intros; omega)
              · skip
                refine AWP.skip ?_
                refine AWP.seq ?_
                refine AWP.region ?_
                refine AOps.call (o_move _ rfl rfl) ?_
                refine AOps.call (o_move _ rfl rfl) ?_
                refine AOps.call (o_call (Breaks_no w s hw) Tryz.call9 rfl rfl) ?_
                refine AOps.call (o_move _ rfl rfl) ?_
                refine AOps.call (o_extract _ rfl rfl rfl rfl) ?_
                refine AOps.call (o_extract _ rfl rfl rfl rfl) ?_
                refine AOps.call (o_assign _ rfl rfl) ?_
                refine AOps.call (o_assign _ rfl rfl) ?_
                refine AOps.nil ?_
                refine AWP.seq ?_
                refine AWP.seq ?_
                refine AWP.region ?_
                refine AOps.call (o_move _ rfl rfl) ?_
                refine AOps.call (o_bin _ _ rfl rfl (fun _ => rfl) rfl) ?_
                refine AOps.nil ?_
                refine AWP.cond _ rfl (fun h52 => ?_) (fun h52 => ?_)
                · skip
                  refine AWP.seq ?_
                  refine AWP.region ?_
                  refine AOps.call (o_move _ rfl rfl) ?_
                  refine AOps.call (o_un _ rfl (fun _ => rfl) rfl) ?_
                  refine AOps.call (o_move _ rfl rfl) ?_
                  refine AOps.split rfl rfl rfl (fun h54 => ?_) (fun h54 => ?_)
                  · skip
                    refine AOps.go rfl rfl rfl h54 (o_move _ rfl rfl) ?_
                    refine AOps.go rfl rfl rfl h54 (o_bin _ _ rfl rfl (fun _ => rfl) rfl) ?_
                    refine AOps.go rfl rfl rfl h54 (o_move _ rfl rfl) ?_
                    refine AOps.split rfl rfl rfl (fun h57 => ?_) (fun h57 => ?_)
                    · skip
                      refine AOps.go rfl rfl rfl h57 (o_move _ rfl rfl) ?_
                      refine AOps.go rfl rfl rfl h57 (o_bin _ _ rfl rfl (fun _ => rfl) rfl) ?_
                      refine AOps.go rfl rfl rfl h54 (o_pickF _ _ _ rfl h57 rfl rfl) ?_
                      refine AOps.call (o_pickT _ _ _ rfl h54 rfl rfl) ?_
                      refine AOps.call (o_assign _ rfl rfl) ?_
                      refine AOps.nil ?_
                      refine AWP.ret ?_
                      refine postQ.ret1 Tryz.results4 rfl ?_
                      simp_all [AV.close, B]
                      try (intros; omega)
                    · skip
                      refine AOps.pass rfl rfl rfl h57 rfl ?_
                      refine AOps.pass rfl rfl rfl h57 rfl ?_
                      refine AOps.go rfl rfl rfl h54 (o_pickT _ _ _ rfl h57 rfl rfl) ?_
                      refine AOps.call (o_pickT _ _ _ rfl h54 rfl rfl) ?_
                      refine AOps.call (o_assign _ rfl rfl) ?_
                      refine AOps.nil ?_
                      refine AWP.ret ?_
                      refine postQ.ret1 Tryz.results4 rfl ?_
                      simp_all [AV.close, B]
                      try (intros; omega)
                  · skip
                    refine AOps.pass rfl rfl rfl h54 rfl ?_
                    refine AOps.pass rfl rfl rfl h54 rfl ?_
                    refine AOps.pass rfl rfl rfl h54 rfl ?_
                    refine AOps.passU rfl rfl rfl rfl ?_
                    refine AOps.passU rfl rfl rfl rfl ?_
                    refine AOps.pass rfl rfl rfl h54 rfl ?_
                    refine AOps.call (o_pickF _ _ _ rfl h54 rfl rfl) ?_
                    refine AOps.call (o_assign _ rfl rfl) ?_
                    refine AOps.nil ?_
                    refine AWP.ret ?_
                    refine postQ.ret1 Tryz.results4 rfl ?_
                    simp_all [AV.close, B]
                    try (intros; omega)
                · skip
                  exfalso
                  simp at h52
                  
          · skip
            exfalso
            simp at h18
            omega
        · skip
          exfalso
          simp at h16
      · skip
        exfalso
        simp at h14

set_option maxRecDepth 20000 in
theorem CrewBears_y (w s : Int) (hk : okS s = true) (hw : okW w = true) : FSpec Tryz.prog 4 [I w, I s] (B true) (none) := by
  refine FSpec.of_body Tryz.func4 rfl (leB rfl) fun w0 M0 => ?_
  have hd := okS_in hk
  have hb := bears_in hk
  have hx : bearsN (nxS s) ≤ bearsN s := by rw [nxS_eq hk]; exact hb.2.2
  have hN := nxS_in hk
  have hv := okW_in hw
  refine AWP.seq ?_
  refine AWP.region ?_
  refine AOps.call (o_assign _ rfl rfl) ?_
  refine AOps.nil ?_
  refine AWP.seq ?_
  refine AWP.seq ?_
  refine AWP.region ?_
  refine AOps.call (o_call (sane_s) Tryz.call6 rfl rfl) ?_
  refine AOps.call (o_un _ rfl (fun _ => rfl) rfl) ?_
  refine AOps.nil ?_
  refine AWP.cond _ rfl (fun h3 => ?_) (fun h3 => ?_)
  · skip
    exfalso
    simp at h3
    
  · skip
    refine AWP.skip ?_
    refine AWP.seq ?_
    refine AWP.region ?_
    refine AOps.call (o_move _ rfl rfl) ?_
    refine AOps.call (o_call (Bears_yes _ hk) Tryz.call11 rfl rfl) ?_
    refine AOps.call (o_move _ rfl rfl) ?_
    refine AOps.call (o_extract _ rfl rfl rfl rfl) ?_
    refine AOps.call (o_extract _ rfl rfl rfl rfl) ?_
    refine AOps.call (o_assign _ rfl rfl) ?_
    refine AOps.call (o_assign _ rfl rfl) ?_
    refine AOps.nil ?_
    refine AWP.seq ?_
    refine AWP.seq ?_
    refine AWP.region ?_
    refine AOps.call (o_move _ rfl rfl) ?_
    refine AOps.call (o_bin _ _ rfl rfl (fun _ => rfl) rfl) ?_
    refine AOps.nil ?_
    refine AWP.cond _ rfl (fun h9 => ?_) (fun h9 => ?_)
    · skip
      exfalso
      simp at h9
      
    · skip
      refine AWP.skip ?_
      refine AWP.seq ?_
      refine AWP.region ?_
      refine AOps.call (o_move _ rfl rfl) ?_
      refine AOps.call (o_move _ rfl rfl) ?_
      refine AOps.call (o_call (Breaks_yes (bearsN s) s (okW_b hk) hk (b := false) (by simp)) Tryz.call9 rfl rfl) ?_
      refine AOps.call (o_move _ rfl rfl) ?_
      refine AOps.call (o_extract _ rfl rfl rfl rfl) ?_
      refine AOps.call (o_extract _ rfl rfl rfl rfl) ?_
      refine AOps.call (o_assign _ rfl rfl) ?_
      refine AOps.call (o_assign _ rfl rfl) ?_
      refine AOps.nil ?_
      refine AWP.seq ?_
      refine AWP.seq ?_
      refine AWP.region ?_
      refine AOps.call (o_move _ rfl rfl) ?_
      refine AOps.call (o_move _ rfl rfl) ?_
      refine AOps.split rfl rfl rfl (fun h14 => ?_) (fun h14 => ?_)
      · skip
        refine AOps.go rfl rfl rfl h14 (o_move _ rfl rfl) ?_
        refine AOps.go rfl rfl rfl h14 (o_bin _ _ rfl rfl (fun _ => rfl) rfl) ?_
        refine AOps.call (o_pickF _ _ _ rfl h14 rfl rfl) ?_
        refine AOps.call (o_move _ rfl rfl) ?_
        refine AOps.split rfl rfl rfl (fun h16 => ?_) (fun h16 => ?_)
        · skip
          refine AOps.go rfl rfl rfl h16 (o_move _ rfl rfl) ?_
          refine AOps.go rfl rfl rfl h16 (o_bin _ _ rfl rfl (fun _ => rfl) rfl) ?_
          refine AOps.call (o_pickF _ _ _ rfl h16 rfl rfl) ?_
          refine AOps.call (o_move _ rfl rfl) ?_
          refine AOps.split rfl rfl rfl (fun h18 => ?_) (fun h18 => ?_)
          · skip
            refine AOps.go rfl rfl rfl h18 (o_move _ rfl rfl) ?_
            refine AOps.go rfl rfl rfl h18 (o_bin _ _ rfl rfl (fun _ => rfl) rfl) ?_
            refine AOps.call (o_pickF _ _ _ rfl h18 rfl rfl) ?_
            refine AOps.nil ?_
            refine AWP.cond _ rfl (fun h20 => ?_) (fun h20 => ?_)
            · skip
              exfalso
              simp at h20
              omega
            · skip
              refine AWP.skip ?_
              refine AWP.seq ?_
              refine AWP.seq ?_
              refine AWP.region ?_
              refine AOps.call (o_move _ rfl rfl) ?_
              refine AOps.call (o_bin _ _ rfl rfl (fun _ => rfl) rfl) ?_
              refine AOps.nil ?_
              refine AWP.cond _ rfl (fun h22 => ?_) (fun h22 => ?_)
              · skip
                refine AWP.seq ?_
                refine AWP.region ?_
                refine AOps.call (o_move _ rfl rfl) ?_
                refine AOps.call (o_add _ _ rfl rfl ⟨by (try dsimp only); omega, by (try dsimp only); omega⟩ rfl) ?_
                refine AOps.call (o_move _ rfl rfl) ?_
                refine AOps.call (o_call (Breaks_yes (bearsN s + 1) s (okW_b1 hk (by simp_all)) hk (b := true) (by simp; omega)) Tryz.call9 rfl rfl) ?_
                refine AOps.call (o_move _ rfl rfl) ?_
                refine AOps.call (o_extract _ rfl rfl rfl rfl) ?_
                refine AOps.call (o_extract _ rfl rfl rfl rfl) ?_
                refine AOps.call (o_assign _ rfl rfl) ?_
                refine AOps.call (o_assign _ rfl rfl) ?_
                refine AOps.nil ?_
                refine AWP.seq ?_
                refine AWP.region ?_
                refine AOps.call (o_move _ rfl rfl) ?_
                refine AOps.call (o_un _ rfl (fun _ => rfl) rfl) ?_
                refine AOps.call (o_move _ rfl rfl) ?_
                refine AOps.split rfl rfl rfl (fun h29 => ?_) (fun h29 => ?_)
                · skip
                  refine AOps.go rfl rfl rfl h29 (o_move _ rfl rfl) ?_
                  refine AOps.go rfl rfl rfl h29 (o_bin _ _ rfl rfl (fun _ => rfl) rfl) ?_
                  refine AOps.call (o_pickF _ _ _ rfl h29 rfl rfl) ?_
                  refine AOps.nil ?_
                  refine AWP.cond _ rfl (fun h31 => ?_) (fun h31 => ?_)
                  · skip
                    exfalso
                    simp at h31
                    
                  · skip
                    refine AWP.skip ?_
                    refine AWP.seq ?_
                    refine AWP.region ?_
                    refine AOps.call (o_move _ rfl rfl) ?_
                    refine AOps.call (o_move _ rfl rfl) ?_
                    refine AOps.call (o_call (Breaks_yes w s hw hk rfl) Tryz.call9 rfl rfl) ?_
                    refine AOps.call (o_move _ rfl rfl) ?_
                    refine AOps.call (o_extract _ rfl rfl rfl rfl) ?_
                    refine AOps.call (o_extract _ rfl rfl rfl rfl) ?_
                    refine AOps.call (o_assign _ rfl rfl) ?_
                    refine AOps.call (o_assign _ rfl rfl) ?_
                    refine AOps.nil ?_
                    refine AWP.seq ?_
                    refine AWP.seq ?_
                    refine AWP.region ?_
                    refine AOps.call (o_move _ rfl rfl) ?_
                    refine AOps.call (o_bin _ _ rfl rfl (fun _ => rfl) rfl) ?_
                    refine AOps.nil ?_
                    refine AWP.cond _ rfl (fun h38 => ?_) (fun h38 => ?_)
                    · skip
                      exfalso
                      simp at h38
                      
                    · skip
                      refine AWP.skip ?_
                      refine AWP.seq ?_
                      refine AWP.region ?_
                      refine AOps.call (o_move _ rfl rfl) ?_
                      refine AOps.call (o_move _ rfl rfl) ?_
                      refine AOps.call (o_maxI _ _ rfl rfl rfl) ?_
                      refine AOps.call (o_add _ _ rfl rfl ⟨by (try dsimp only); omega, by (try dsimp only); omega⟩ rfl) ?_
                      refine AOps.call (o_minI _ _ rfl rfl rfl) ?_
                      refine AOps.call (o_call (Breaks_yes w (nxS s) hw hN rfl) Tryz.call9 rfl rfl) ?_
                      refine AOps.call (o_move _ rfl rfl) ?_
                      refine AOps.call (o_extract _ rfl rfl rfl rfl) ?_
                      refine AOps.call (o_extract _ rfl rfl rfl rfl) ?_
                      refine AOps.call (o_assign _ rfl rfl) ?_
                      refine AOps.call (o_assign _ rfl rfl) ?_
                      refine AOps.nil ?_
                      refine AWP.seq ?_
                      refine AWP.region ?_
                      refine AOps.call (o_move _ rfl rfl) ?_
                      refine AOps.call (o_move _ rfl rfl) ?_
                      refine AOps.call (o_move _ rfl rfl) ?_
                      refine AOps.call (o_bin _ _ rfl rfl (fun _ => rfl) rfl) ?_
                      refine AOps.call (o_bin _ _ rfl rfl (fun _ => rfl) rfl) ?_
                      refine AOps.call (o_move _ rfl rfl) ?_
                      refine AOps.split rfl rfl rfl (fun h50 => ?_) (fun h50 => ?_)
                      · skip
                        refine AOps.go rfl rfl rfl h50 (o_move _ rfl rfl) ?_
                        refine AOps.go rfl rfl rfl h50 (o_un _ rfl (fun _ => rfl) rfl) ?_
                        refine AOps.go rfl rfl rfl h50 (o_move _ rfl rfl) ?_
                        refine AOps.split rfl rfl rfl (fun h52 => ?_) (fun h52 => ?_)
                        · skip
                          refine AOps.go rfl rfl rfl h52 (o_move _ rfl rfl) ?_
                          refine AOps.go rfl rfl rfl h52 (o_move _ rfl rfl) ?_
                          refine AOps.split rfl rfl rfl (fun h53 => ?_) (fun h53 => ?_)
                          · skip
                            refine AOps.go rfl rfl rfl h53 (o_move _ rfl rfl) ?_
                            refine AOps.go rfl rfl rfl h53 (o_bin _ _ rfl rfl (fun _ => rfl) rfl) ?_
                            refine AOps.go rfl rfl rfl h52 (o_pickT _ _ _ rfl h53 rfl rfl) ?_
                            refine AOps.go rfl rfl rfl h50 (o_pickF _ _ _ rfl h52 rfl rfl) ?_
                            refine AOps.call (o_pickT _ _ _ rfl h50 rfl rfl) ?_
                            refine AOps.call (o_assign _ rfl rfl) ?_
                            refine AOps.nil ?_
                            refine AWP.ret ?_
                            refine postQ.ret1 Tryz.results4 rfl ?_
                            simp_all [AV.close, B]
                            try (intros; omega)
                          · skip
                            refine AOps.pass rfl rfl rfl h53 rfl ?_
                            refine AOps.pass rfl rfl rfl h53 rfl ?_
                            refine AOps.go rfl rfl rfl h52 (o_pickF _ _ _ rfl h53 rfl rfl) ?_
                            refine AOps.go rfl rfl rfl h50 (o_pickF _ _ _ rfl h52 rfl rfl) ?_
                            refine AOps.call (o_pickT _ _ _ rfl h50 rfl rfl) ?_
                            refine AOps.call (o_assign _ rfl rfl) ?_
                            refine AOps.nil ?_
                            refine AWP.ret ?_
                            refine postQ.ret1 Tryz.results4 rfl ?_
                            simp_all [AV.close, B]
                            try (intros; omega)
                        · skip
                          refine AOps.pass rfl rfl rfl h52 rfl ?_
                          refine AOps.pass rfl rfl rfl h52 rfl ?_
                          refine AOps.passU rfl rfl rfl rfl ?_
                          refine AOps.passU rfl rfl rfl rfl ?_
                          refine AOps.pass rfl rfl rfl h52 rfl ?_
                          refine AOps.go rfl rfl rfl h50 (o_pickT _ _ _ rfl h52 rfl rfl) ?_
                          refine AOps.call (o_pickT _ _ _ rfl h50 rfl rfl) ?_
                          refine AOps.call (o_assign _ rfl rfl) ?_
                          refine AOps.nil ?_
                          refine AWP.ret ?_
                          refine postQ.ret1 Tryz.results4 rfl ?_
                          simp_all [AV.close, B]
                          try (intros; omega)
                      · skip
                        refine AOps.pass rfl rfl rfl h50 rfl ?_
                        refine AOps.pass rfl rfl rfl h50 rfl ?_
                        refine AOps.pass rfl rfl rfl h50 rfl ?_
                        refine AOps.passU rfl rfl rfl rfl ?_
                        refine AOps.passU rfl rfl rfl rfl ?_
                        refine AOps.passU rfl rfl rfl rfl ?_
                        refine AOps.passU rfl rfl rfl rfl ?_
                        refine AOps.passU rfl rfl rfl rfl ?_
                        refine AOps.pass rfl rfl rfl h50 rfl ?_
                        refine AOps.call (o_pickF _ _ _ rfl h50 rfl rfl) ?_
                        refine AOps.call (o_assign _ rfl rfl) ?_
                        refine AOps.nil ?_
                        refine AWP.ret ?_
                        refine postQ.ret1 Tryz.results4 rfl ?_
                        simp_all [AV.close, B]
                        try (intros; omega)
                · skip
                  refine AOps.pass rfl rfl rfl h29 rfl ?_
                  refine AOps.pass rfl rfl rfl h29 rfl ?_
                  refine AOps.call (o_pickT _ _ _ rfl h29 rfl rfl) ?_
                  refine AOps.nil ?_
                  refine AWP.condT rfl ?_
                  refine AWP.seq ?_
                  refine AWP.region ?_
                  refine AOps.call (o_assign _ rfl rfl) ?_
                  refine AOps.nil ?_
                  refine AWP.ret ?_
                  refine postQ.ret1 Tryz.results4 rfl ?_
                  simp_all [AV.close, B]
                  try (intros; omega)
              · skip
                refine AWP.skip ?_
                refine AWP.seq ?_
                refine AWP.region ?_
                refine AOps.call (o_move _ rfl rfl) ?_
                refine AOps.call (o_move _ rfl rfl) ?_
                refine AOps.call (o_call (Breaks_yes w s hw hk rfl) Tryz.call9 rfl rfl) ?_
                refine AOps.call (o_move _ rfl rfl) ?_
                refine AOps.call (o_extract _ rfl rfl rfl rfl) ?_
                refine AOps.call (o_extract _ rfl rfl rfl rfl) ?_
                refine AOps.call (o_assign _ rfl rfl) ?_
                refine AOps.call (o_assign _ rfl rfl) ?_
                refine AOps.nil ?_
                refine AWP.seq ?_
                refine AWP.seq ?_
                refine AWP.region ?_
                refine AOps.call (o_move _ rfl rfl) ?_
                refine AOps.call (o_bin _ _ rfl rfl (fun _ => rfl) rfl) ?_
                refine AOps.nil ?_
                refine AWP.cond _ rfl (fun h61 => ?_) (fun h61 => ?_)
                · skip
                  exfalso
                  simp at h61
                  
                · skip
                  refine AWP.skip ?_
                  refine AWP.seq ?_
                  refine AWP.region ?_
                  refine AOps.call (o_move _ rfl rfl) ?_
                  refine AOps.call (o_move _ rfl rfl) ?_
                  refine AOps.call (o_maxI _ _ rfl rfl rfl) ?_
                  refine AOps.call (o_add _ _ rfl rfl ⟨by (try dsimp only); omega, by (try dsimp only); omega⟩ rfl) ?_
                  refine AOps.call (o_minI _ _ rfl rfl rfl) ?_
                  refine AOps.call (o_call (Breaks_yes w (nxS s) hw hN rfl) Tryz.call9 rfl rfl) ?_
                  refine AOps.call (o_move _ rfl rfl) ?_
                  refine AOps.call (o_extract _ rfl rfl rfl rfl) ?_
                  refine AOps.call (o_extract _ rfl rfl rfl rfl) ?_
                  refine AOps.call (o_assign _ rfl rfl) ?_
                  refine AOps.call (o_assign _ rfl rfl) ?_
                  refine AOps.nil ?_
                  refine AWP.seq ?_
                  refine AWP.region ?_
                  refine AOps.call (o_move _ rfl rfl) ?_
                  refine AOps.call (o_move _ rfl rfl) ?_
                  refine AOps.call (o_move _ rfl rfl) ?_
                  refine AOps.call (o_bin _ _ rfl rfl (fun _ => rfl) rfl) ?_
                  refine AOps.call (o_bin _ _ rfl rfl (fun _ => rfl) rfl) ?_
                  refine AOps.call (o_move _ rfl rfl) ?_
                  refine AOps.split rfl rfl rfl (fun h73 => ?_) (fun h73 => ?_)
                  · skip
                    refine AOps.go rfl rfl rfl h73 (o_move _ rfl rfl) ?_
                    refine AOps.go rfl rfl rfl h73 (o_un _ rfl (fun _ => rfl) rfl) ?_
                    refine AOps.go rfl rfl rfl h73 (o_move _ rfl rfl) ?_
                    refine AOps.split rfl rfl rfl (fun h75 => ?_) (fun h75 => ?_)
                    · skip
                      refine AOps.go rfl rfl rfl h75 (o_move _ rfl rfl) ?_
                      refine AOps.go rfl rfl rfl h75 (o_move _ rfl rfl) ?_
                      refine AOps.split rfl rfl rfl (fun h76 => ?_) (fun h76 => ?_)
                      · skip
                        refine AOps.go rfl rfl rfl h76 (o_move _ rfl rfl) ?_
                        refine AOps.go rfl rfl rfl h76 (o_bin _ _ rfl rfl (fun _ => rfl) rfl) ?_
                        refine AOps.go rfl rfl rfl h75 (o_pickT _ _ _ rfl h76 rfl rfl) ?_
                        refine AOps.go rfl rfl rfl h73 (o_pickF _ _ _ rfl h75 rfl rfl) ?_
                        refine AOps.call (o_pickT _ _ _ rfl h73 rfl rfl) ?_
                        refine AOps.call (o_assign _ rfl rfl) ?_
                        refine AOps.nil ?_
                        refine AWP.ret ?_
                        refine postQ.ret1 Tryz.results4 rfl ?_
                        simp_all [AV.close, B]
                        try (intros; omega)
                      · skip
                        refine AOps.pass rfl rfl rfl h76 rfl ?_
                        refine AOps.pass rfl rfl rfl h76 rfl ?_
                        refine AOps.go rfl rfl rfl h75 (o_pickF _ _ _ rfl h76 rfl rfl) ?_
                        refine AOps.go rfl rfl rfl h73 (o_pickF _ _ _ rfl h75 rfl rfl) ?_
                        refine AOps.call (o_pickT _ _ _ rfl h73 rfl rfl) ?_
                        refine AOps.call (o_assign _ rfl rfl) ?_
                        refine AOps.nil ?_
                        refine AWP.ret ?_
                        refine postQ.ret1 Tryz.results4 rfl ?_
                        simp_all [AV.close, B]
                        try (intros; omega)
                    · skip
                      refine AOps.pass rfl rfl rfl h75 rfl ?_
                      refine AOps.pass rfl rfl rfl h75 rfl ?_
                      refine AOps.passU rfl rfl rfl rfl ?_
                      refine AOps.passU rfl rfl rfl rfl ?_
                      refine AOps.pass rfl rfl rfl h75 rfl ?_
                      refine AOps.go rfl rfl rfl h73 (o_pickT _ _ _ rfl h75 rfl rfl) ?_
                      refine AOps.call (o_pickT _ _ _ rfl h73 rfl rfl) ?_
                      refine AOps.call (o_assign _ rfl rfl) ?_
                      refine AOps.nil ?_
                      refine AWP.ret ?_
                      refine postQ.ret1 Tryz.results4 rfl ?_
                      simp_all [AV.close, B]
                      try (intros; omega)
                  · skip
                    refine AOps.pass rfl rfl rfl h73 rfl ?_
                    refine AOps.pass rfl rfl rfl h73 rfl ?_
                    refine AOps.pass rfl rfl rfl h73 rfl ?_
                    refine AOps.passU rfl rfl rfl rfl ?_
                    refine AOps.passU rfl rfl rfl rfl ?_
                    refine AOps.passU rfl rfl rfl rfl ?_
                    refine AOps.passU rfl rfl rfl rfl ?_
                    refine AOps.passU rfl rfl rfl rfl ?_
                    refine AOps.pass rfl rfl rfl h73 rfl ?_
                    refine AOps.call (o_pickF _ _ _ rfl h73 rfl rfl) ?_
                    refine AOps.call (o_assign _ rfl rfl) ?_
                    refine AOps.nil ?_
                    refine AWP.ret ?_
                    refine postQ.ret1 Tryz.results4 rfl ?_
                    simp_all [AV.close, B]
                    try (intros; omega)
          · skip
            exfalso
            simp at h18
            omega
        · skip
          exfalso
          simp at h16
      · skip
        exfalso
        simp at h14

theorem CrewBears_s (w s : Int) : FSpec Tryz.prog 4 [I w, I s] (B true) none := by
  cases hk : okS s with
  | false => exact CrewBears_no w s hk
  | true =>
    cases hw : okW w with
    | false => exact CrewBears_w w s hk hw
    | true => exact CrewBears_y w s hk hw

end Go.Proofs.YtnnohkbgjdmjdaaGreat

