/- Decode of both sides gives the same. -/
import Derived.Test.YtnpcmealdfapjaaDoorFH
set_option linter.unusedVariables false
set_option linter.unusedSimpArgs false
namespace Go.Ex
open Go.Proofs
theorem xor_pos' {N : Nat} (h : N ≤ 42) : ∀ i m, i < m → m < N → 0 < (ptsN N).getD i 0 ^^^ (ptsN N).getD m 0 := fun i m h1 h2 => xor_pos ((pts_ok h).2.2 i m (by omega) h2 (by omega))
theorem inF_of {s : List UInt8} (h : s.length < 10 ∨ 42 < s.length) : inI (Int.ofNat s.length) 10 42 = false := by
  cases hq : inI (Int.ofNat s.length) 10 42 with
  | false => rfl
  | true =>
    have := inI_iff.1 hq
    have h1 : (10 : Int) ≤ (s.length : Int) := this.1
    have h2 : (s.length : Int) ≤ 42 := this.2
    omega
theorem body_same {w : List UInt8} {W : List Nat} (h : bytesN w = W) : bodyN W = bodyS w := by
  subst h
  unfold bodyN bodyS
  rw [bytesN_len, show 0 + 4 * 1 = 4 from rfl]
  unfold bytesN
  rw [← List.map_drop, ← List.map_take, List.map_map]
  conv => rhs; rw [← List.map_id ((w.drop 4).take (w.length - 6 - 4))]
  refine List.map_congr_left fun a _ => ?_
  show UInt8.ofNat a.toNat = a
  exact UInt8.ofNat_toNat
theorem Decode_both (s : List UInt8) : ∃ (b0 b1 b2 b3 : Nat) (u : List UInt8) (m e : Nat), Pure1 eqs9.gs Tryd.prog 21 [.str s] (X.tup [.agg [N6 b0, N6 b1, N6 b2, N6 b3, .str u], N6 m, N6 e]) ∧ Pure1 eqs9.gs Tryd.prog 22 [.str s] (X.tup [.agg [N6 b0, N6 b1, N6 b2, N6 b3, .str u], N6 m, N6 e]) := by
  by_cases h1 : s.length < 10
  · exact ⟨0, 0, 0, 0, [], 0, 91, fun hh nn => (Decode0_x s (inF_of (.inl h1))).pure rfl rfl hh nn, RDecodeA_c s h1⟩
  by_cases h2 : 42 < s.length
  · exact ⟨0, 0, 0, 0, [], 0, 91, fun hh nn => (Decode0_x s (inF_of (.inr h2))).pure rfl rfl hh nn, RDecodeB_c s h2⟩
  have hs10 : 10 ≤ s.length := by omega
  have hs42 : s.length ≤ 42 := by omega
  have hd := xor_pos' hs42
  have hv := valS_len s
  have v8 := valS_8 s
  have hx := pts_ok hs42
  have hN := ptsN_len s.length
  have hzB : zB (vR s) 6 0 true = decide (valS s = z6) := by rw [valS_vR]; exact zB_z6 rfl
  cases hf : flawsS s with
  | none =>
    have hz : valS s ≠ z6 := fun e => by
      unfold flawsS flawsL at hf
      rw [if_pos e] at hf; cases hf
    have hw := (word_same hv v8 hx hN hz).1 hf
    rw [valS_vR] at hw
    rw [decide_eq_false hz] at hzB
    have cw : Pure1 eqs9.gs Tryd.prog 71 [.str s] (X.tup [.str [], BX false]) := fun hh nn => (wordN_x s hs42 (by omega) hd hzB hw).pure rfl rfl hh nn
    exact ⟨0, 0, 0, 0, [], 0, 91, fun hh nn => (Decode1_x s hs10 hs42 hf).pure rfl rfl hh nn, RDecodeN_c s hs10 hs42 cw⟩
  | some fl =>
    obtain ⟨hfo, hf2, hag, hk⟩ := flawsL_some hv v8 hx hN hf
    have key : ∃ w : List UInt8, Pure1 eqs9.gs Tryd.prog 71 [.str s] (X.tup [.str w, BX true]) ∧ bytesN w = wordN fl s := by
      by_cases hz : valS s = z6
      · have hfl : fl = [] := by
          rcases hk with ⟨h, _⟩ | ⟨h, _⟩ | ⟨h, _⟩
          · exact h
          · exact absurd hz h
          · exact absurd hz h
        rw [decide_eq_true hz] at hzB
        exact ⟨s, wordZ_c s hs42 (by omega) hd hzB, by rw [hfl]; rfl⟩
      · rw [decide_eq_false hz] at hzB
        cases hw : wordF (valS s) (ptsN s.length) s.length 0 with
        | none =>
          have := (word_same hv v8 hx hN hz).2 hw
          unfold flawsS at hf
          rw [this] at hf; cases hf
        | some fl' =>
          have hfo' : flOk s.length fl' ∧ fl'.length ≤ 2 ∧ Ag (valS s) (ptsN s.length) fl' := by
            rcases wordF_some v8 _ _ _ hw with ⟨p, g1, rfl, g2⟩ | ⟨p, a, q, b, g1, g2, g3, g4, rfl, g5⟩
            · exact ⟨flOk1 (by omega) (v8 0), by simp, g2⟩
            · exact ⟨flOk2 (by omega) g3 (by omega) g4, by simp, g5⟩
          rw [valS_vR] at hw
          refine ⟨putL s fl', fun hh nn => (wordT_x s hs42 (by omega) hd hzB fl' hw).pure rfl rfl hh nn, ?_⟩
          rw [putL_bytes fl' s hfo'.1]
          refine same_word (xs := ptsN s.length) (by rw [bytesN_len]; exact hx) (by rw [bytesN_len]; exact hfo'.1) (by rw [bytesN_len]; exact hfo) hfo'.2.1 hf2 fun j hj => ?_
          rw [hfo'.2.2 j hj, hag j hj]
    obtain ⟨w, cw, hb⟩ := key
    have hwl : w.length = s.length := by rw [← bytesN_len w, hb, wordN_len]
    have hat : ∀ q (hq : q < w.length), (wordN fl s).getD q 0 = w[q].toNat := fun q hq => by
      rw [← hb]; unfold bytesN
      rw [List.getD_eq_getElem?_getD, List.getElem?_map, List.getElem?_eq_getElem hq]; rfl
    have hbd : bodyN (wordN fl s) = bodyS w := body_same hb
    have hcnt := count (v := valS s) hwl hfo (show bytesN w = applyF fl (bytesN s) from hb) hk
    have T := DecodeT_x s hs10 hs42 fl hf hfo (by omega)
    have F := DecodeF_x s hs10 hs42 fl hf hfo (by omega)
    rw [hat 0 (by omega), hat 1 (by omega), hat 2 (by omega), hat 3 (by omega), hbd] at T F
    have T' := RDecodeT_x s w hs10 hs42 hwl cw w[0] w[1] w[2] w[3] (List.getElem?_eq_getElem _) (List.getElem?_eq_getElem _) (List.getElem?_eq_getElem _) (List.getElem?_eq_getElem _)
    have F' := RDecodeF_x s w hs10 hs42 hwl cw w[0] w[1] w[2] w[3] (List.getElem?_eq_getElem _) (List.getElem?_eq_getElem _) (List.getElem?_eq_getElem _) (List.getElem?_eq_getElem _)
    rw [hcnt] at T'
    cases hok : okF (Int.ofNat w[0].toNat) (Int.ofNat w[1].toNat) (Int.ofNat w[2].toNat) (Int.ofNat w[3].toNat) (bodyS w).length with
    | true => exact ⟨_, _, _, _, _, _, 0, fun hh nn => (T hok).pure rfl rfl hh nn, fun hh nn => (T' hok).pure rfl rfl hh nn⟩
    | false => exact ⟨0, 0, 0, 0, [], 0, 91, fun hh nn => (F hok).pure rfl rfl hh nn, fun hh nn => (F' hok).pure rfl rfl hh nn⟩
end Go.Ex

