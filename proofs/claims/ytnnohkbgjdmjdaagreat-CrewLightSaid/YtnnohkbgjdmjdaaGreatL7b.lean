import Derived.Test.YtnnohkbgjdmjdaaGreatL7a
set_option linter.unusedSimpArgs false
set_option linter.unusedVariables false
namespace Go.Proofs.YtnnohkbgjdmjdaaGreat
open Go.Ab

theorem light_in (d : Int) : 480 ≤ lightN d ∧ lightN d ≤ 960 := by
  have hm : 0 ≤ d % 365 ∧ d % 365 < 365 := ⟨Int.emod_nonneg _ (by decide), Int.emod_lt_of_pos _ (by decide)⟩
  unfold lightN
  split <;> omega
theorem light_year (d : Int) : lightN (d + 365) = lightN d := by
  have : (d + 365) % 365 = d % 365 := by omega
  unfold lightN
  rw [this]
theorem light_next (d : Int) : (d % 365 < 182 → lightN d ≤ lightN (d + 1)) ∧ (¬ d % 365 < 182 → lightN (d + 1) ≤ lightN d) := by
  have hm : 0 ≤ d % 365 ∧ d % 365 < 365 := ⟨Int.emod_nonneg _ (by decide), Int.emod_lt_of_pos _ (by decide)⟩
  unfold lightN
  refine ⟨fun h => ?_, fun h => ?_⟩
  · rw [show (d + 1) % 365 = d % 365 + 1 by omega, if_pos (show d % 365 ≤ 182 by omega), if_pos (show d % 365 + 1 ≤ 182 by omega)]
    omega
  · by_cases h1 : d % 365 = 364
    · rw [show (d + 1) % 365 = 0 by omega, h1]; decide
    · rw [show (d + 1) % 365 = d % 365 + 1 by omega]
      by_cases h2 : d % 365 = 182
      · rw [h2]; decide
      · rw [if_neg (show ¬ d % 365 ≤ 182 by omega), if_neg (show ¬ d % 365 + 1 ≤ 182 by omega)]
        omega
theorem Light_no (d : Int) (hk : okDay d = false) : FSpec Tryz.prog 7 [I d] (.tup [I 0, I 1]) none := by
  have := Light_s d
  rw [hk] at this
  exact this
theorem Light_yes (d : Int) (hk : okDay d = true) : FSpec Tryz.prog 7 [I d] (.tup [I (lightN d), I 0]) none := by
  have := Light_s d
  rw [hk] at this
  exact this

set_option maxRecDepth 20000 in
theorem CrewLight_no (d : Int) (hk : okDay d = false) : FSpec Tryz.prog 5 [I d] (B true) (none) := by
  refine FSpec.of_body Tryz.func5 rfl (leB rfl) fun w0 M0 => ?_
  have hd : d < 0 ∨ 1048576 < d := by simp [okDay] at hk; omega
  refine AWP.seq ?_
  refine AWP.region ?_
  refine AOps.call (o_assign _ rfl rfl) ?_
  refine AOps.nil ?_
  refine AWP.seq ?_
  refine AWP.seq ?_
  refine AWP.region ?_
  refine AOps.call (o_call (sane_s) Tryz.call6 rfl rfl) ?_
  refine AOps.call (o_un _ rfl (fun _ => rfl) rfl) ?_
  refine AOps.nil ?_
  refine AWP.cond _ rfl (fun h3 => ?_) (fun h3 => ?_)
  · skip
    exfalso
    simp at h3
  · skip
    refine AWP.skip ?_
    refine AWP.seq ?_
    refine AWP.region ?_
    refine AOps.call (o_move _ rfl rfl) ?_
    refine AOps.call (o_call (Light_no _ hk) Tryz.call7 rfl rfl) ?_
    refine AOps.call (o_move _ rfl rfl) ?_
    refine AOps.call (o_extract _ rfl rfl rfl rfl) ?_
    refine AOps.call (o_extract _ rfl rfl rfl rfl) ?_
    refine AOps.call (o_assign _ rfl rfl) ?_
    refine AOps.call (o_assign _ rfl rfl) ?_
    refine AOps.nil ?_
    refine AWP.seq ?_
    refine AWP.seq ?_
    refine AWP.region ?_
    refine AOps.call (o_move _ rfl rfl) ?_
    refine AOps.call (o_bin _ _ rfl rfl (fun _ => rfl) rfl) ?_
    refine AOps.nil ?_
    refine AWP.cond _ rfl (fun h9 => ?_) (fun h9 => ?_)
    · skip
      refine AWP.seq ?_
      refine AWP.region ?_
      refine AOps.call (o_move _ rfl rfl) ?_
      refine AOps.call (o_bin _ _ rfl rfl (fun _ => rfl) rfl) ?_
      refine AOps.call (o_move _ rfl rfl) ?_
      refine AOps.split rfl rfl rfl (fun h11 => ?_) (fun h11 => ?_)
      · skip
        refine AOps.go rfl rfl rfl h11 (o_move _ rfl rfl) ?_
        refine AOps.go rfl rfl rfl h11 (o_bin _ _ rfl rfl (fun _ => rfl) rfl) ?_
        refine AOps.call (o_pickT _ _ _ rfl h11 rfl rfl) ?_
        refine AOps.call (o_move _ rfl rfl) ?_
        refine AOps.split rfl rfl rfl (fun h13 => ?_) (fun h13 => ?_)
        · skip
          refine AOps.go rfl rfl rfl h13 (o_move _ rfl rfl) ?_
          refine AOps.go rfl rfl rfl h13 (o_bin _ _ rfl rfl (fun _ => rfl) rfl) ?_
          refine AOps.go rfl rfl rfl h13 (o_move _ rfl rfl) ?_
          refine AOps.split rfl rfl rfl (fun h16 => ?_) (fun h16 => ?_)
          · skip
            refine AOps.go rfl rfl rfl h16 (o_move _ rfl rfl) ?_
            refine AOps.go rfl rfl rfl h16 (o_bin _ _ rfl rfl (fun _ => rfl) rfl) ?_
            refine AOps.go rfl rfl rfl h13 (o_pickF _ _ _ rfl h16 rfl rfl) ?_
            refine AOps.call (o_pickT _ _ _ rfl h13 rfl rfl) ?_
            refine AOps.call (o_assign _ rfl rfl) ?_
            refine AOps.nil ?_
            refine AWP.ret ?_
            refine postQ.ret1 Tryz.results5 rfl ?_
            simp_all [AV.close, B]
            try (intros; omega)
          · skip
            refine AOps.pass rfl rfl rfl h16 rfl ?_
            refine AOps.pass rfl rfl rfl h16 rfl ?_
            refine AOps.go rfl rfl rfl h13 (o_pickT _ _ _ rfl h16 rfl rfl) ?_
            refine AOps.call (o_pickT _ _ _ rfl h13 rfl rfl) ?_
            refine AOps.call (o_assign _ rfl rfl) ?_
            refine AOps.nil ?_
            refine AWP.ret ?_
            refine postQ.ret1 Tryz.results5 rfl ?_
            simp_all [AV.close, B]
            try (intros; omega)
        · skip
          refine AOps.pass rfl rfl rfl h13 rfl ?_
          refine AOps.pass rfl rfl rfl h13 rfl ?_
          refine AOps.pass rfl rfl rfl h13 rfl ?_
          refine AOps.passU rfl rfl rfl rfl ?_
          refine AOps.passU rfl rfl rfl rfl ?_
          refine AOps.pass rfl rfl rfl h13 rfl ?_
          refine AOps.call (o_pickF _ _ _ rfl h13 rfl rfl) ?_
          refine AOps.call (o_assign _ rfl rfl) ?_
          refine AOps.nil ?_
          refine AWP.ret ?_
          refine postQ.ret1 Tryz.results5 rfl ?_
          simp_all [AV.close, B]
          try (intros; omega)
      · skip
        refine AOps.pass rfl rfl rfl h11 rfl ?_
        refine AOps.pass rfl rfl rfl h11 rfl ?_
        refine AOps.call (o_pickF _ _ _ rfl h11 rfl rfl) ?_
        refine AOps.call (o_move _ rfl rfl) ?_
        refine AOps.pass rfl rfl rfl rfl rfl ?_
        refine AOps.pass rfl rfl rfl rfl rfl ?_
        refine AOps.pass rfl rfl rfl rfl rfl ?_
        refine AOps.passU rfl rfl rfl rfl ?_
        refine AOps.passU rfl rfl rfl rfl ?_
        refine AOps.pass rfl rfl rfl rfl rfl ?_
        refine AOps.call (o_pickF _ _ _ rfl rfl rfl rfl) ?_
        refine AOps.call (o_assign _ rfl rfl) ?_
        refine AOps.nil ?_
        refine AWP.ret ?_
        refine postQ.ret1 Tryz.results5 rfl ?_
        simp_all [AV.close, B]
        try (intros; omega)
    · skip
      exfalso
      simp at h9

set_option maxRecDepth 20000 in
theorem CrewLight_yes (d : Int) (hk : okDay d = true) : FSpec Tryz.prog 5 [I d] (B true) (none) := by
  refine FSpec.of_body Tryz.func5 rfl (leB rfl) fun w0 M0 => ?_
  have hd : 0 ≤ d ∧ d ≤ 1048576 := by simp [okDay] at hk; omega
  have hl := light_in d
  have hy := light_year d
  have hx := light_next d
  refine AWP.seq ?_
  refine AWP.region ?_
  refine AOps.call (o_assign _ rfl rfl) ?_
  refine AOps.nil ?_
  refine AWP.seq ?_
  refine AWP.seq ?_
  refine AWP.region ?_
  refine AOps.call (o_call (sane_s) Tryz.call6 rfl rfl) ?_
  refine AOps.call (o_un _ rfl (fun _ => rfl) rfl) ?_
  refine AOps.nil ?_
  refine AWP.cond _ rfl (fun h3 => ?_) (fun h3 => ?_)
  · skip
    exfalso
    simp at h3
  · skip
    refine AWP.skip ?_
    refine AWP.seq ?_
    refine AWP.region ?_
    refine AOps.call (o_move _ rfl rfl) ?_
    refine AOps.call (o_call (Light_yes d hk) Tryz.call7 rfl rfl) ?_
    refine AOps.call (o_move _ rfl rfl) ?_
    refine AOps.call (o_extract _ rfl rfl rfl rfl) ?_
    refine AOps.call (o_extract _ rfl rfl rfl rfl) ?_
    refine AOps.call (o_assign _ rfl rfl) ?_
    refine AOps.call (o_assign _ rfl rfl) ?_
    refine AOps.nil ?_
    refine AWP.seq ?_
    refine AWP.seq ?_
    refine AWP.region ?_
    refine AOps.call (o_move _ rfl rfl) ?_
    refine AOps.call (o_bin _ _ rfl rfl (fun _ => rfl) rfl) ?_
    refine AOps.nil ?_
    refine AWP.cond _ rfl (fun h9 => ?_) (fun h9 => ?_)
    · skip
      exfalso
      simp at h9
    · skip
      refine AWP.skip ?_
      refine AWP.seq ?_
      refine AWP.seq ?_
      refine AWP.region ?_
      refine AOps.call (o_move _ rfl rfl) ?_
      refine AOps.call (o_bin _ _ rfl rfl (fun _ => rfl) rfl) ?_
      refine AOps.call (o_move _ rfl rfl) ?_
      refine AOps.split rfl rfl rfl (fun h11 => ?_) (fun h11 => ?_)
      · skip
        refine AOps.go rfl rfl rfl h11 (o_move _ rfl rfl) ?_
        refine AOps.go rfl rfl rfl h11 (o_bin _ _ rfl rfl (fun _ => rfl) rfl) ?_
        refine AOps.call (o_pickF _ _ _ rfl h11 rfl rfl) ?_
        refine AOps.nil ?_
        refine AWP.cond _ rfl (fun h13 => ?_) (fun h13 => ?_)
        · skip
          exfalso
          simp at h13
          omega
        · skip
          refine AWP.skip ?_
          refine AWP.seq ?_
          refine AWP.seq ?_
          refine AWP.region ?_
          refine AOps.call (o_move _ rfl rfl) ?_
          refine AOps.call (o_add _ _ rfl rfl ⟨by (try dsimp only); omega, by (try dsimp only); omega⟩ rfl) ?_
          refine AOps.call (o_call (Light_s (d + 365)) Tryz.call7 rfl rfl) ?_
          refine AOps.call (o_move _ rfl rfl) ?_
          refine AOps.call (o_extract _ rfl rfl rfl rfl) ?_
          refine AOps.call (o_extract _ rfl rfl rfl rfl) ?_
          refine AOps.call (o_assign _ rfl rfl) ?_
          refine AOps.call (o_assign _ rfl rfl) ?_
          refine AOps.nil ?_
          refine AWP.seq ?_
          refine AWP.region ?_
          refine AOps.call (o_move _ rfl rfl) ?_
          refine AOps.call (o_bin _ _ rfl rfl (fun _ => rfl) rfl) ?_
          refine AOps.call (o_move _ rfl rfl) ?_
          refine AOps.split rfl rfl rfl (fun h20 => ?_) (fun h20 => ?_)
          · skip
            refine AOps.go rfl rfl rfl h20 (o_move _ rfl rfl) ?_
            refine AOps.go rfl rfl rfl h20 (o_move _ rfl rfl) ?_
            refine AOps.go rfl rfl rfl h20 (o_bin _ _ rfl rfl (fun _ => rfl) rfl) ?_
            refine AOps.call (o_pickT _ _ _ rfl h20 rfl rfl) ?_
            refine AOps.nil ?_
            refine AWP.cond _ rfl (fun h22 => ?_) (fun h22 => ?_)
            · skip
              refine AWP.seq ?_
              refine AWP.region ?_
              refine AOps.call (o_assign _ rfl rfl) ?_
              refine AOps.nil ?_
              refine AWP.ret ?_
              refine postQ.ret1 Tryz.results5 rfl ?_
              simp_all [AV.close, B]
              try (intros; omega)
              try (simp [okDay] at *; omega)
            · skip
              refine AWP.skip ?_
              refine AWP.seq ?_
              refine AWP.region ?_
              refine AOps.call (o_move _ rfl rfl) ?_
              refine AOps.call (o_add _ _ rfl rfl ⟨by (try dsimp only); omega, by (try dsimp only); omega⟩ rfl) ?_
              refine AOps.call (o_call (Light_s (d + 1)) Tryz.call7 rfl rfl) ?_
              refine AOps.call (o_move _ rfl rfl) ?_
              refine AOps.call (o_extract _ rfl rfl rfl rfl) ?_
              refine AOps.call (o_extract _ rfl rfl rfl rfl) ?_
              refine AOps.call (o_assign _ rfl rfl) ?_
              refine AOps.call (o_assign _ rfl rfl) ?_
              refine AOps.nil ?_
              refine AWP.seq ?_
              refine AWP.seq ?_
              refine AWP.region ?_
              refine AOps.call (o_move _ rfl rfl) ?_
              refine AOps.call (o_bin _ _ rfl rfl (fun _ => rfl) rfl) ?_
              refine AOps.nil ?_
              refine AWP.cond _ rfl (fun h29 => ?_) (fun h29 => ?_)
              · skip
                refine AWP.seq ?_
                refine AWP.region ?_
                refine AOps.call (o_move _ rfl rfl) ?_
                refine AOps.call (o_bin _ _ rfl rfl (fun _ => rfl) rfl) ?_
                refine AOps.call (o_assign _ rfl rfl) ?_
                refine AOps.nil ?_
                refine AWP.ret ?_
                refine postQ.ret1 Tryz.results5 rfl ?_
                simp_all [AV.close, B]
                try (intros; omega)
                try (simp [okDay] at *; omega)
              · skip
                refine AWP.skip ?_
                refine AWP.seq ?_
                refine AWP.seq ?_
                refine AWP.region ?_
                refine AOps.call (o_move _ rfl rfl) ?_
                refine AOps.call (o_rem _ _ rfl rfl ⟨by omega, by omega⟩ (by decide) rfl) ?_
                refine AOps.call (o_bin _ _ rfl rfl (fun _ => rfl) rfl) ?_
                refine AOps.nil ?_
                refine AWP.cond _ rfl (fun h35 => ?_) (fun h35 => ?_)
                · skip
                  refine AWP.seq ?_
                  refine AWP.region ?_
                  refine AOps.call (o_move _ rfl rfl) ?_
                  refine AOps.call (o_move _ rfl rfl) ?_
                  refine AOps.call (o_bin _ _ rfl rfl (fun _ => rfl) rfl) ?_
                  refine AOps.call (o_assign _ rfl rfl) ?_
                  refine AOps.nil ?_
                  refine AWP.ret ?_
                  refine postQ.ret1 Tryz.results5 rfl ?_
                  simp_all [AV.close, B]
                  try (intros; omega)
                  try (simp [okDay] at *; omega)
                · skip
                  refine AWP.skip ?_
                  refine AWP.seq ?_
                  refine AWP.region ?_
                  refine AOps.call (o_move _ rfl rfl) ?_
                  refine AOps.call (o_move _ rfl rfl) ?_
                  refine AOps.call (o_bin _ _ rfl rfl (fun _ => rfl) rfl) ?_
                  refine AOps.call (o_assign _ rfl rfl) ?_
                  refine AOps.nil ?_
                  refine AWP.ret ?_
                  refine postQ.ret1 Tryz.results5 rfl ?_
                  simp_all [AV.close, B]
                  try (intros; omega)
                  try (simp [okDay] at *; omega)
          · skip
            refine AOps.pass rfl rfl rfl h20 rfl ?_
            refine AOps.pass rfl rfl rfl h20 rfl ?_
            refine AOps.pass rfl rfl rfl h20 rfl ?_
            refine AOps.call (o_pickF _ _ _ rfl h20 rfl rfl) ?_
            refine AOps.nil ?_
            refine AWP.condF rfl ?_
            refine AWP.skip ?_
            refine AWP.seq ?_
            refine AWP.region ?_
            refine AOps.call (o_move _ rfl rfl) ?_
            refine AOps.call (o_add _ _ rfl rfl ⟨by (try dsimp only); omega, by (try dsimp only); omega⟩ rfl) ?_
            refine AOps.call (o_call (Light_s (d + 1)) Tryz.call7 rfl rfl) ?_
            refine AOps.call (o_move _ rfl rfl) ?_
            refine AOps.call (o_extract _ rfl rfl rfl rfl) ?_
            refine AOps.call (o_extract _ rfl rfl rfl rfl) ?_
            refine AOps.call (o_assign _ rfl rfl) ?_
            refine AOps.call (o_assign _ rfl rfl) ?_
            refine AOps.nil ?_
            refine AWP.seq ?_
            refine AWP.seq ?_
            refine AWP.region ?_
            refine AOps.call (o_move _ rfl rfl) ?_
            refine AOps.call (o_bin _ _ rfl rfl (fun _ => rfl) rfl) ?_
            refine AOps.nil ?_
            refine AWP.cond _ rfl (fun h44 => ?_) (fun h44 => ?_)
            · skip
              refine AWP.seq ?_
              refine AWP.region ?_
              refine AOps.call (o_move _ rfl rfl) ?_
              refine AOps.call (o_bin _ _ rfl rfl (fun _ => rfl) rfl) ?_
              refine AOps.call (o_assign _ rfl rfl) ?_
              refine AOps.nil ?_
              refine AWP.ret ?_
              refine postQ.ret1 Tryz.results5 rfl ?_
              simp_all [AV.close, B]
              try (intros; omega)
              try (simp [okDay] at *; omega)
            · skip
              refine AWP.skip ?_
              refine AWP.seq ?_
              refine AWP.seq ?_
              refine AWP.region ?_
              refine AOps.call (o_move _ rfl rfl) ?_
              refine AOps.call (o_rem _ _ rfl rfl ⟨by omega, by omega⟩ (by decide) rfl) ?_
              refine AOps.call (o_bin _ _ rfl rfl (fun _ => rfl) rfl) ?_
              refine AOps.nil ?_
              refine AWP.cond _ rfl (fun h50 => ?_) (fun h50 => ?_)
              · skip
                refine AWP.seq ?_
                refine AWP.region ?_
                refine AOps.call (o_move _ rfl rfl) ?_
                refine AOps.call (o_move _ rfl rfl) ?_
                refine AOps.call (o_bin _ _ rfl rfl (fun _ => rfl) rfl) ?_
                refine AOps.call (o_assign _ rfl rfl) ?_
                refine AOps.nil ?_
                refine AWP.ret ?_
                refine postQ.ret1 Tryz.results5 rfl ?_
                simp_all [AV.close, B]
                try (intros; omega)
                try (simp [okDay] at *; omega)
              · skip
                refine AWP.skip ?_
                refine AWP.seq ?_
                refine AWP.region ?_
                refine AOps.call (o_move _ rfl rfl) ?_
                refine AOps.call (o_move _ rfl rfl) ?_
                refine AOps.call (o_bin _ _ rfl rfl (fun _ => rfl) rfl) ?_
                refine AOps.call (o_assign _ rfl rfl) ?_
                refine AOps.nil ?_
                refine AWP.ret ?_
                refine postQ.ret1 Tryz.results5 rfl ?_
                simp_all [AV.close, B]
                try (intros; omega)
                try (simp [okDay] at *; omega)
      · skip
        refine AOps.pass rfl rfl rfl h11 rfl ?_
        refine AOps.pass rfl rfl rfl h11 rfl ?_
        refine AOps.call (o_pickT _ _ _ rfl h11 rfl rfl) ?_
        refine AOps.nil ?_
        refine AWP.condT rfl ?_
        refine AWP.seq ?_
        refine AWP.region ?_
        refine AOps.call (o_assign _ rfl rfl) ?_
        refine AOps.nil ?_
        refine AWP.ret ?_
        refine postQ.ret1 Tryz.results5 rfl ?_
        simp_all [AV.close, B]
        try (intros; omega)
        try (simp [okDay] at *; omega)

theorem CrewLight_s (d : Int) : FSpec Tryz.prog 5 [I d] (B true) none := by
  cases hk : okDay d with
  | true => exact CrewLight_yes d hk
  | false => exact CrewLight_no d hk

end Go.Proofs.YtnnohkbgjdmjdaaGreat

