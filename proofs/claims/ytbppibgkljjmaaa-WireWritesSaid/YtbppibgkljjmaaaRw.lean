/-
  CONTRACTS of the document's writers.
-/
import Derived.Test.YtbppibgkljjmaaaWr
namespace Go.Proofs.Ytbppibgkljjmaaa
open Go.RowKit
set_option linter.unusedVariables false
open Sept (sept)

theorem txt_append (a b : List UInt8) : txt (a ++ b) = txt a ++ txt b := by
  apply ByteArray.ext; simp [txt, ByteArray.data_append]

theorem one_byte_text (x : Int) (w : World) (h0 : 0 ≤ x) (h1 : x ≤ 255) : (convert 32 9 (.slice (some ⟨w.heap.size, 0, none⟩) 1 1)).run Try.prog (w.alloc (.cells #[.int .u8 x] 5)) = .ok (.string (txt [UInt8.ofNat x.toNat])) (w.alloc (.cells #[.int .u8 x] 5)) := by
  obtain ⟨m, rfl⟩ := Int.eq_ofNat_of_zero_le h0
  have hb := bytes_block w [UInt8.ofNat m] [] 5 (0, 0)
  have e : (cellsOf [UInt8.ofNat m] ++ []).toArray = #[Value.int .u8 (m : Int)] := by
    simp [cellsOf]; omega
  rw [e] at hb
  have := bytes_text (P := Try.prog) hb 32 9 5 1 1 rfl Try.underlying32 Try.underlying5 Try.underlying9
  simpa [txt] using this

set_option maxHeartbeats 1000000 in
theorem bytes_any (s : ByteArray) (n : Nat) (w : World) (hn : n < 18446744073709551616) (hs : s.size ≤ 140737488355700) :
    Calls Try.prog 35 #[.string s, .int .u64 (n : Int)] w fun e w' => e = .returned (.string (s ++ txt (sept n))) ∧ Below w.heap.size w w' := by
  have hn0 : (0 : Int) ≤ (n : Int) := by omega
  have hn1 : (n : Int) ≤ 18446744073709551615 := by omega
  have HB0 := Below.refl w.heap.size w
  go_enter Try.func35, Try.ntmps35
  go_wp2
  go_loopw [0, 1] (fun t v wr => ∃ k : Nat, k ≤ 9 ∧ t = .string (s ++ txt (Sept.row n k)) ∧ v = .int .u64 ((n / 128 ^ k : Nat) : Int) ∧ (∀ j, j < k → 128 ≤ n / 128 ^ j) ∧ Below w.heap.size w wr) (fun _ v _ => (intOf v).toNat)
  case atStart => exact ⟨0, by omega, by rw [show txt (Sept.row n 0) = ByteArray.empty from rfl, ByteArray.append_empty], by simp, fun j hj => by omega, HB0⟩
  case round =>
    obtain ⟨k, hk, rfl, rfl, hm, HB⟩ := hrel
    have hm' := Lib.hid hm
    clear hm
    have hle : n / 128 ^ k ≤ n := Nat.div_le_self _ _
    obtain ⟨m, hmv⟩ : ∃ m, n / 128 ^ k = m := ⟨_, rfl⟩
    have HM := Lib.hid hmv
    rw [hmv] at hle ⊢
    clear hmv
    have hm0 : (0 : Int) ≤ (m : Int) := by omega
    have hm1 : (m : Int) ≤ 18446744073709551615 := by omega
    have hk9 : (k : Int) ≤ 9 := by omega
    have hrow : (txt (Sept.row n k)).size ≤ 9 := by rw [txt_size, Sept.row_length]; omega
    by_cases hlt : 127 < m
    · have hob := fun wx => one_byte_text ((m : Int) % 128 + 128) wx (by omega) (by omega)
      rw [show ((m : Int) % 128 + 128).toNat = m % 128 + 128 by omega] at hob
      obtain ⟨B, eB⟩ : ∃ B, [UInt8.ofNat (m % 128 + 128)] = B := ⟨_, rfl⟩
      rw [eB] at hob
      have hz1 : (txt B).size ≤ 1 := by rw [txt_size, ← eB]; simp
      have EB := Lib.hid eB
      clear eB
      go_wp2
      go_roundw
      case rel =>
        go_light
        have hpow : n / 128 ^ (k + 1) = m / 128 := by rw [Nat.pow_succ, ← Nat.div_div_eq_div_mul, HM.out]
        have hk8 : k + 1 ≤ 9 := by
          by_cases e : k = 9
          · subst e
            have h9 := HM.out
            rw [Sept.pow9] at h9
            omega
          · omega
        refine ⟨k + 1, hk8, ?_, ?_, ?_, ?_⟩
        · rw [ByteArray.append_assoc, ← txt_append, ← EB.out]
          simp only [Sept.row, HM.out]
        · rw [hpow]; go_num
        · intro j hj
          by_cases e : j = k
          · rw [e, HM.out]; omega
          · exact hm'.out j (by omega)
        · exact HB.alloc HB.size _
      case measure => simp [intOf]; omega
    · have hob := fun wx => one_byte_text (m : Int) wx (by omega) (by omega)
      rw [show (m : Int).toNat = m by omega] at hob
      obtain ⟨B, eB⟩ : ∃ B, [UInt8.ofNat m] = B := ⟨_, rfl⟩
      rw [eB] at hob
      have hz1 : (txt B).size ≤ 1 := by rw [txt_size, ← eB]; simp
      have EB := Lib.hid eB
      clear eB
      go_wp2
      go_ret
      refine ⟨?_, HB.alloc HB.size _⟩
      go_light
      have e : s ++ txt (Sept.row n k) ++ txt B = s ++ txt (sept n) := by
        rw [ByteArray.append_assoc, ← txt_append, ← EB.out, Sept.sept_row n k (by rw [HM.out]; omega) hm'.out, HM.out]
      rw [← e]
      rfl

theorem bytes_int (s : ByteArray) (x : Int) (w : World) (h0 : 0 ≤ x) (h1 : x < 18446744073709551616) (hs : s.size ≤ 140737488355700) :
    Calls Try.prog 35 #[.string s, .int .u64 x] w fun e w' => e = .returned (.string (s ++ txt (sept x.toNat))) ∧ Below w.heap.size w w' := by
  obtain ⟨m, rfl⟩ := Int.eq_ofNat_of_zero_le h0
  exact bytes_any s m w (by omega) hs

theorem refInt_any (s : ByteArray) (x : Int) (w : World) (h0 : -9223372036854775808 ≤ x) (h1 : x ≤ 9223372036854775807) (hs : s.size ≤ 140737488355700) :
    Calls Try.prog 16 #[.string s, .int .i64 x] w fun e w' => e = .returned (.string (s ++ txt (sept (zig x)))) ∧ Below w.heap.size w w' := by
  by_cases hx : x < 0
  · go_enter Try.func16, Try.ntmps16
    go_wp2_with (fail)
    rw [show (2 * -(x + 1) + 1 : Int) = (zig x : Int) from by unfold zig; rw [if_neg (by omega)]; omega]
    refine (bytes_any _ _ _ (zig_lt x h0 h1) hs).mono ?_
    rintro e w' ⟨rfl, hb⟩
    go_wp2
    go_ret
    exact ⟨rfl, hb⟩
  · have hx' : 0 ≤ x := by omega
    go_enter Try.func16, Try.ntmps16
    go_wp2_with (fail)
    rw [show (2 * x : Int) = (zig x : Int) from by unfold zig; rw [if_pos hx']; omega]
    refine (bytes_any _ _ _ (zig_lt x h0 h1) hs).mono ?_
    rintro e w' ⟨rfl, hb⟩
    go_wp2
    go_ret
    exact ⟨rfl, hb⟩

theorem refText_any (s t : ByteArray) (w : World) (hs : s.size ≤ 140737488355328) (ht : t.size ≤ 140737488355328) :
    Calls Try.prog 18 #[.string s, .string t] w fun e w' => e = .returned (.string (s ++ txt (sept t.size) ++ t)) ∧ Below w.heap.size w w' := by
  have hsz := txt_sept_size t.size (by omega)
  go_enter Try.func18, Try.ntmps18
  go_wp2_with (first | (go_at_call 35; ((with_reducible refine (bytes_any _ _ _ (by omega) (by omega)).mono ?_); rintro e w' ⟨rfl, hb⟩)))
  go_ret
  exact ⟨rfl, hb⟩

theorem refNum_any (s : ByteArray) (n : Int) (w : World) (hs : s.size ≤ 140737488355328) :
    Calls Try.prog 12 #[.string s, .int .i64 n] w fun e w' => e = .returned (numVal s n) ∧ Below w.heap.size w w' := by
  by_cases hn : n < 0 ∨ 1099511627776 < n
  · unfold numVal
    rw [if_pos hn]
    rcases hn with hn | hn
    · go_enter Try.func12, Try.ntmps12
      go_wp2
      go_ret2
      exact ⟨rfl, Below.refl _ _⟩
    · have h0 : 0 ≤ n := by omega
      go_enter Try.func12, Try.ntmps12
      go_wp2
      go_ret2
      exact ⟨rfl, Below.refl _ _⟩
  · unfold numVal
    rw [if_neg hn]
    obtain ⟨m, rfl⟩ := Int.eq_ofNat_of_zero_le (show 0 ≤ n by omega)
    have hm : (m : Int) ≤ 1099511627776 := by omega
    have hm0 : (0 : Int) ≤ (m : Int) := by omega
    go_enter Try.func12, Try.ntmps12
    go_wp2_with (first | (go_at_call 35; ((with_reducible refine (bytes_any _ _ _ (by omega) (by omega)).mono ?_); rintro e w' ⟨rfl, hb⟩)))
    go_ret2
    exact ⟨rfl, hb⟩

theorem may_any (k N : Int) (T : ByteArray) (w : World) (hk0 : 0 ≤ k) (hk : k ≤ 255) :
    Calls Try.prog 37 #[.agg #[.int .u8 k, .int .i64 N, .string T]] w fun e w' => e = .returned (.bool (enc k N T)) ∧ Below w.heap.size w w' := by
  go_enter Try.func37, Try.ntmps37
  go_wp2
  all_goals (go_ret; refine ⟨ret_bool ?_, (Below.refl _ _).alloc (Nat.le_refl _) _⟩; go_light; have hcast : ((T.size : Int) ≤ 40) ↔ T.size ≤ 40 := by omega
             simp_all [enc, isEmpty_size])

set_option maxRecDepth 100000 in
set_option maxHeartbeats 2000000 in
theorem refValue_any (s : ByteArray) (k N : Int) (T : ByteArray) (w : World) (hs : s.size ≤ 140737488351232) (hk0 : 0 ≤ k) (hk : k ≤ 255) (hN0 : -9223372036854775808 ≤ N) (hN1 : N ≤ 9223372036854775807) (hT : T.size ≤ 140737488351232) :
    Calls Try.prog 14 #[.string s, .agg #[.int .u8 k, .int .i64 N, .string T]] w fun e w' => e = .returned (valVal s k N T) ∧ Below w.heap.size w w' := by
  by_cases he : enc k N T = true
  · have hv : valVal s k N T = .tuple #[.string (valTxt s k N T), .int .i64 0] := by unfold valVal; rw [if_pos he]
    rw [hv]
    have hkv : k = 0 ∨ k = 1 ∨ (k = 2 ∧ 0 ≤ N ∧ N ≤ 1) ∨ (k = 3 ∧ T.size ≤ 40) := by
      unfold enc at he
      split at he
      · exact .inl ‹_›
      · split at he
        · exact .inr (.inl ‹_›)
        · split at he
          · simp at he; exact .inr (.inr (.inl ⟨‹_›, by omega⟩))
          · split at he
            · simp at he; exact .inr (.inr (.inr ⟨‹_›, by omega⟩))
            · cases he
    have hc := fun wx => may_any k N T wx hk0 hk
    rw [he] at hc
    have z1 := txt_sept_size k.toNat (by omega)
    have HB := Below.refl w.heap.size w
    have z2 := txt_sept_size (zig N) (zig_lt N hN0 hN1)
    have z3 := txt_sept_size T.size (by omega)
    have z4 := txt_sept_size N.toNat (by omega)
    rcases hkv with rfl | rfl | ⟨rfl, n0, n1⟩ | ⟨rfl, h40⟩
    · have y1 : (txt (sept 0)).size ≤ 10 := z1
      clear z1
      go_enter Try.func14, Try.ntmps14
      go_wp2_with (first | (go_at_call 37; ((with_reducible refine (hc _).mono ?_); rintro e w' ⟨rfl, hb1⟩; obtain ⟨q1, q2⟩ := bcell hb1; replace HB := belowThenA HB hb1; have hz1 : w.heap.size < w'.heap.size := (by have := hb1.size; simp at this; omega); clear hb1)) | (go_at_call 35; ((with_reducible refine (bytes_int _ _ _ (by omega) (by omega) ?_).mono ?_); (first | omega | (simp [ByteArray.size_append]; omega)); rintro e w2 ⟨rfl, hb2⟩; obtain ⟨q3, q4⟩ := bcell hb2; replace HB := belowThen HB hb2; clear hb2)))
      go_ret2
      exact ⟨rfl, HB⟩
    · have y1 : (txt (sept 1)).size ≤ 10 := z1
      clear z1
      go_enter Try.func14, Try.ntmps14
      go_wp2_with (first | (go_at_call 37; ((with_reducible refine (hc _).mono ?_); rintro e w' ⟨rfl, hb1⟩; obtain ⟨q1, q2⟩ := bcell hb1; replace HB := belowThenA HB hb1; have hz1 : w.heap.size < w'.heap.size := (by have := hb1.size; simp at this; omega); clear hb1)) | (go_at_call 35; ((with_reducible refine (bytes_int _ _ _ (by omega) (by omega) ?_).mono ?_); (first | omega | (simp [ByteArray.size_append]; omega)); rintro e w2 ⟨rfl, hb2⟩; obtain ⟨q3, q4⟩ := bcell hb2; replace HB := belowThen HB hb2; clear hb2)) | (go_at_call 16; ((with_reducible refine (refInt_any _ _ _ hN0 hN1 ?_).mono ?_); (simp [ByteArray.size_append]; omega); rintro e w3 ⟨rfl, hb3⟩; replace HB := belowThen HB hb3; clear hb3)))
      go_ret2
      exact ⟨rfl, HB⟩
    · have y1 : (txt (sept 2)).size ≤ 10 := z1
      clear z1
      go_enter Try.func14, Try.ntmps14
      go_wp2_with (first | (go_at_call 37; ((with_reducible refine (hc _).mono ?_); rintro e w' ⟨rfl, hb1⟩; obtain ⟨q1, q2⟩ := bcell hb1; replace HB := belowThenA HB hb1; have hz1 : w.heap.size < w'.heap.size := (by have := hb1.size; simp at this; omega); clear hb1)) | (go_at_call 35; ((with_reducible refine (bytes_int _ _ _ (by omega) (by omega) ?_).mono ?_); (first | omega | (simp [ByteArray.size_append]; omega)); rintro e w2 ⟨rfl, hb2⟩; obtain ⟨q3, q4⟩ := bcell hb2; replace HB := belowThen HB hb2; clear hb2)))
      go_ret2
      exact ⟨rfl, HB⟩
    · have y1 : (txt (sept 3)).size ≤ 10 := z1
      clear z1
      go_enter Try.func14, Try.ntmps14
      go_wp2_with (first | (go_at_call 37; ((with_reducible refine (hc _).mono ?_); rintro e w' ⟨rfl, hb1⟩; obtain ⟨q1, q2⟩ := bcell hb1; replace HB := belowThenA HB hb1; have hz1 : w.heap.size < w'.heap.size := (by have := hb1.size; simp at this; omega); clear hb1)) | (go_at_call 35; ((with_reducible refine (bytes_int _ _ _ (by omega) (by omega) ?_).mono ?_); (first | omega | (simp [ByteArray.size_append]; omega)); rintro e w2 ⟨rfl, hb2⟩; obtain ⟨q3, q4⟩ := bcell hb2; replace HB := belowThen HB hb2; clear hb2)) | (go_at_call 18; ((with_reducible refine (refText_any _ _ _ ?_ (by omega)).mono ?_); (simp [ByteArray.size_append]; omega); rintro e w3 ⟨rfl, hb3⟩; replace HB := belowThen HB hb3; clear hb3)))
      go_ret2
      exact ⟨rfl, HB⟩
  · have hv : valVal s k N T = .tuple #[.string s, .int .i64 4] := by unfold valVal; rw [if_neg he]
    rw [hv]
    have hc := fun wx => may_any k N T wx hk0 hk
    rw [show enc k N T = false by simpa using he] at hc
    have HB := Below.refl w.heap.size w
    go_enter Try.func14, Try.ntmps14
    go_wp2_with (first | (go_at_call 37; ((with_reducible refine (hc _).mono ?_); rintro e w' ⟨rfl, hb1⟩; obtain ⟨q1, q2⟩ := bcell hb1; replace HB := belowThenA HB hb1; have hz1 : w.heap.size < w'.heap.size := (by have := hb1.size; simp at this; omega); clear hb1)))
    go_ret2
    exact ⟨rfl, HB⟩


end Go.Proofs.Ytbppibgkljjmaaa
