/-
  THE CONTRACT of the reader's septets.
-/
import Derived.Test.YtbppibgkljjmaaaRd
namespace Go.Proofs.Ytbppibgkljjmaaa
open Go.RowKit
set_option linter.unusedVariables false
open Sept (sept)

set_option maxRecDepth 100000 in
set_option maxHeartbeats 2000000 in
theorem rsept_any (most : Nat) (L : List UInt8) (b : Nat) (e0 : Int) (w : World) (hm : most < 18446744073709551616) (hL : L.length ≤ 140737488355328) (hR : Rd w b (txt L) e0) :
    Calls Try.prog 52 #[.pointer (some ⟨b, 0, none⟩), .int .u64 (most : Int)] w fun e w' => e = .returned (.tuple #[.int .u64 ((rd most 0 0 L).1 : Int), .int .i64 ((rd most 0 0 L).2.1 : Int)]) ∧ Rd w' b (txt (rd most 0 0 L).2.2) e0 ∧ Off b w w' := by
  have hm0 : (0 : Int) ≤ (most : Int) := by omega
  have hm1 : (most : Int) ≤ 18446744073709551615 := by omega
  generalize hres : rd most 0 0 L = R
  have HR := Lib.hid hres
  clear hres
  go_enter Try.func52, Try.ntmps52
  go_wp2
  go_loopw [6, 7] (fun v i wr => ∃ (k n : Nat) (M : List UInt8), k ≤ 10 ∧ n < 2 ^ (7 * k) ∧ n ≤ most ∧ M.length ≤ L.length ∧ i = .int .i64 k ∧ v = .int .u64 (n : Int) ∧ rd most k n M = R ∧ Rd wr b (txt M) e0 ∧ Off b w wr) (fun _ i wr => 11 - (intOf i).toNat)
  case atStart => exact ⟨0, 0, L, by omega, by decide, Nat.zero_le _, Nat.le_refl _, rfl, rfl, HR.out, hR, Off.refl _ _⟩
  case round =>
    obtain ⟨k, n, M, hk, hn, hnm, hML, rfl, rfl, hrd, hR1, hO⟩ := hrel
    obtain ⟨c0, c1, f0, f1⟩ := hR1.cells
    have HRD := Lib.hid hrd
    clear hrd
    have hk0 : (0 : Int) ≤ (k : Int) := by omega
    have hk1 : (k : Int) ≤ 10 := by omega
    have hz : (txt M).size = M.length := txt_size M
    cases M with
    | nil =>
      have he : (txt []).toList.isEmpty = true := by rw [isEmpty_size, txt_size]; rfl
      have HRr : R = (0, 8, []) := by rw [← HRD.out]; rfl
      subst HRr
      clear hz
      go_wp2
      go_ret2
      exact ⟨rfl, hR1, hO⟩
    | cons x r =>
      have he : (txt (x :: r)).toList.isEmpty = false := by rw [isEmpty_size, txt_size]; simp
      have hi : (0 : Int) < ((txt (x :: r)).size : Int) := by rw [txt_size]; simp
      have hx := txt_tail x r
      have hX8 : x.toNat < 256 := x.toNat_lt
      obtain ⟨X, hX⟩ : ∃ X, x.toNat = X := ⟨_, rfl⟩
      have hg : ∀ h, ((txt (x :: r))[0]'h).toNat = X := fun _ => hX
      have HX := Lib.hid hX
      rw [hX] at hX8
      clear hX hz
      obtain ⟨v, hv⟩ : ∃ v, X % 128 = v := ⟨_, rfl⟩
      have hand : bits .and .u8 (X : Int) 127 = (v : Int) := by
        have := u8_and_nat X 127 hX8 (by omega)
        rw [show ((127 : Int)) = ((127 : Nat) : Int) from rfl, this, nat_mask7, hv]
      have hv8 : v < 128 := by omega
      have HV := Lib.hid hv
      clear hv
      have hwv : IntKind.u64.wrap (v : Int) = (v : Int) := by rw [IntKind.wrap_u64]; omega
      obtain ⟨P, hP⟩ : ∃ P, 2 ^ (7 * k) = P := ⟨_, rfl⟩
      have hPI : (2 : Int) ^ (7 * k) = (P : Int) := by rw [← hP]; simp
      have hP0 : 0 < P := by rw [← hP]; exact Nat.pow_pos (by omega)
      rw [hP] at hn
      have HP := Lib.hid hP
      clear hP
      have hstep := HRD.out
      rw [rd, HX.out, HV.out, HP.out] at hstep
      have HS := Lib.hid hstep
      clear hstep HRD
      have hR2 := hR1.set0 (txt r)
      have hO2 := hO.setCell 0 (.string (txt r))
      have hrl : r.length ≤ L.length := by simp at hML; omega
      by_cases hk10 : k = 10
      · have hkb : ((k : Int) == 10) = true := by simp; omega
        have hres := HS.out
        rw [if_pos hk10] at hres
        subst hres
        clear HS
        go_wp2
        go_ret2
        exact ⟨rfl, hR2, hO2⟩
      · have hkb : ((k : Int) == 10) = false := by simp; omega
        have hst := HS.out
        rw [if_neg hk10] at hst
        clear HS
        obtain ⟨q, hq⟩ : ∃ q, v * P % 18446744073709551616 = q := ⟨_, rfl⟩
        have hwq : IntKind.u64.wrap ((v : Int) * (P : Int)) = (q : Int) := by rw [IntKind.wrap_u64, ← hq]; omega
        by_cases hbig : 18446744073709551616 ≤ v * P
        · rw [if_pos hbig] at hst
          subst hst
          have ht : (((q : Int) / (P : Int)) != (v : Int)) = true := by
            have hlt : q / P < v := by
              rw [Nat.div_lt_iff_lt_mul hP0]; omega
            simp only [bne_iff_ne, ne_eq]
            rw [← Int.natCast_ediv]
            omega
          clear hq hbig
          go_wp2
          go_ret2
          exact ⟨rfl, hR2, hO2⟩
        · rw [if_neg hbig] at hst
          have hqv : q = v * P := by rw [← hq]; exact Nat.mod_eq_of_lt (by omega)
          have ht : (((q : Int) / (P : Int)) != (v : Int)) = false := by
            have hlt : q / P = v := by rw [hqv]; exact Nat.mul_div_cancel _ hP0
            simp only [bne_eq_false_iff_eq]
            rw [← Int.natCast_ediv]
            omega
          obtain ⟨N, hN⟩ : ∃ N, n + v * P = N := ⟨_, rfl⟩
          have hvP : v * P ≤ 127 * P := Nat.mul_le_mul_right P (by omega)
          have hN2 : N < 2 ^ (7 * (k + 1)) := by
            have e : (2 : Nat) ^ (7 * (k + 1)) = P * 128 := by rw [← HP.out, Nat.mul_add, Nat.pow_add]
            rw [e]; omega
          have hor : bits .or .u64 (n : Int) (q : Int) = (N : Int) := by
            rw [u64_or_nat n q (by omega) (by omega), Nat.or_comm, nat_join (7 * k) q n (by rw [HP.out, hqv]; exact Nat.mul_mod_left _ _) (by rw [HP.out]; exact hn)]
            omega
          rw [hN] at hst
          have HN2 := Lib.hid hN2
          have HST := Lib.hid hst
          clear hN2 hN hq hbig hvP hqv hst
          have hN0 : (0 : Int) ≤ (N : Int) := by omega
          have hX0 : (0 : Int) ≤ (X : Int) := by omega
          have hX9 : (X : Int) ≤ 255 := by omega
          by_cases hmo : most < N
          · have hres := HST.out
            rw [if_pos (.inl hmo)] at hres
            subst hres
            clear HST
            go_wp2
            go_ret2
            exact ⟨rfl, hR2, hO2⟩
          · have hmo' : (N : Int) ≤ (most : Int) := by omega
            by_cases hx0 : X = 0
            · have hxb : ((X : Int) == 0) = true := by simp [hx0]
              by_cases hkp : 0 < k
              · have hres := HST.out
                rw [if_pos (.inr ⟨hx0, hkp⟩)] at hres
                subst hres
                clear HST
                clear hx0
                have hkp' : (0 : Int) < (k : Int) := by omega
                go_wp2
                go_ret2
                exact ⟨rfl, hR2, hO2⟩
              · have hres := HST.out
                rw [if_neg (by omega), if_pos (by omega)] at hres
                subst hres
                clear HST
                have hkp' : (k : Int) ≤ 0 := by omega
                have hxl : (X : Int) < 128 := by omega
                clear hx0
                go_wp2
                go_ret2
                exact ⟨rfl, hR2, hO2⟩
            · have hxb : ((X : Int) == 0) = false := by simp [hx0]
              by_cases hxl : X < 128
              · have hres := HST.out
                rw [if_neg (by omega), if_pos hxl] at hres
                subst hres
                clear HST
                have hxl' : (X : Int) < 128 := by omega
                go_wp2
                go_ret2
                exact ⟨rfl, hR2, hO2⟩
              · have hres := HST.out
                rw [if_neg (by omega), if_neg hxl] at hres
                have HR9 := Lib.hid hres
                clear hres HST
                have hxl' : (128 : Int) ≤ (X : Int) := by omega
                go_wp2
                go_roundw
                case rel =>
                  go_light
                  exact ⟨k + 1, N, r, by omega, HN2.out, by omega, hrl, by go_num, rfl, HR9.out, hR2, hO2⟩
                case measure => simp [intOf]; omega
end Go.Proofs.Ytbppibgkljjmaaa
