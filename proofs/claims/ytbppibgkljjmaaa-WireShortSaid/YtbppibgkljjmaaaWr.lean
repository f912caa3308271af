/-
  CONTRACTS of the writers of numbers, whole numbers, texts and values.
-/
import Derived.Test.YtbppibgkljjmaaaSw
namespace Go.Proofs.Ytbppibgkljjmaaa
open Go.RowKit
set_option linter.unusedVariables false
open Sept (sept)

/-- the number that stands for a whole number -/
def zig (x : Int) : Nat := if 0 ≤ x then (2 * x).toNat else (-2 * x - 1).toNat

theorem zig_lt (x : Int) (h0 : -9223372036854775808 ≤ x) (h1 : x ≤ 9223372036854775807) : zig x < 18446744073709551616 := by
  unfold zig; split <;> omega

/-- bytes as a text -/
def txt (l : List UInt8) : ByteArray := ⟨l.toArray⟩

theorem txt_size (l : List UInt8) : (txt l).size = l.length := size_of_list l

theorem septets_txt (n : Nat) (w : World) (hn : n < 18446744073709551616) :
    Calls Try.prog 34 #[.int .u64 (n : Int)] w fun e w' => e = .returned (.string (txt (sept n))) ∧ Below w.heap.size w w' := septets_any n w hn

theorem xor_neg (x : Int) (h0 : -9223372036854775808 ≤ x) (hx : x < 0) : bits .xor .u64 IntKind.u64.max (IntKind.u64.wrap (x % 18446744073709551616 * 2)) = (zig x : Int) := by
  have e1 : IntKind.u64.wrap (x % 18446744073709551616 * 2) = 2 * x + 18446744073709551616 - (if x = -9223372036854775808 then 0 else 0) := by
    rw [IntKind.wrap_u64]; simp; omega
  obtain ⟨m, hm⟩ : ∃ m : Nat, (m : Int) = 2 * x + 18446744073709551616 := ⟨(2 * x + 18446744073709551616).toNat, by omega⟩
  have e2 : IntKind.u64.wrap (x % 18446744073709551616 * 2) = (m : Int) := by rw [e1]; simp; omega
  have e3 : IntKind.u64.max = ((18446744073709551615 : Nat) : Int) := by decide
  rw [e2, e3, u64_xor_nat 18446744073709551615 m (by omega) (by omega)]
  have e4 : 18446744073709551615 ^^^ m = 18446744073709551615 - m := by
    have hx : BitVec.ofNat 64 m ^^^ BitVec.allOnes 64 = ~~~ BitVec.ofNat 64 m := BitVec.xor_allOnes
    have hy := congrArg BitVec.toNat hx
    rw [BitVec.toNat_xor, BitVec.toNat_not, BitVec.toNat_allOnes, BitVec.toNat_ofNat, Nat.mod_eq_of_lt (show m < 2 ^ 64 by omega)] at hy
    rw [Nat.xor_comm]
    omega
  rw [e4]
  unfold zig
  rw [if_neg (by omega)]
  omega

theorem shl_pos (x : Int) (hx : 0 ≤ x) (h1 : x ≤ 9223372036854775807) : 2 * x = (zig x : Int) := by
  unfold zig
  rw [if_pos hx]
  omega

theorem septets_int (x : Int) (w : World) (h0 : 0 ≤ x) (h1 : x < 18446744073709551616) :
    Calls Try.prog 34 #[.int .u64 x] w fun e w' => e = .returned (.string (txt (sept x.toNat))) ∧ Below w.heap.size w w' := by
  obtain ⟨m, rfl⟩ := Int.eq_ofNat_of_zero_le h0
  exact septets_any m w (by omega)

theorem int_any (s : ByteArray) (x : Int) (w : World) (h0 : -9223372036854775808 ≤ x) (h1 : x ≤ 9223372036854775807) (hs : s.size ≤ 140737488355328) :
    Calls Try.prog 15 #[.string s, .int .i64 x] w fun e w' => e = .returned (.string (s ++ txt (sept (zig x)))) ∧ Below w.heap.size w w' := by
  have hz := zig_lt x h0 h1
  have hl := Sept.sept_le10 (zig x) hz
  have hsz : (txt (sept (zig x))).size ≤ 10 := by rw [txt_size]; exact hl
  have hu := IntKind.wrap_u64 x
  by_cases hx : x < 0
  · go_enter Try.func15, Try.ntmps15
    go_wp2_with (fail)
    rw [xor_neg x h0 hx]
    refine (septets_txt _ _ hz).mono ?_
    rintro e w' ⟨rfl, hb⟩
    go_wp2
    go_ret
    exact ⟨rfl, hb⟩
  · have hx' : 0 ≤ x := by omega
    go_enter Try.func15, Try.ntmps15
    go_wp2_with (fail)
    rw [show x % 18446744073709551616 * 2 = (zig x : Int) from by rw [← shl_pos x hx' h1]; omega]
    refine (septets_txt _ _ hz).mono ?_
    rintro e w' ⟨rfl, hb⟩
    go_wp2
    go_ret
    exact ⟨rfl, hb⟩

theorem text_any (s t : ByteArray) (w : World) (hs : s.size ≤ 140737488355328) (ht : t.size ≤ 140737488355328) :
    Calls Try.prog 17 #[.string s, .string t] w fun e w' => e = .returned (.string (s ++ txt (sept t.size) ++ t)) ∧ Below w.heap.size w w' := by
  have hl := Sept.sept_le10 t.size (by omega)
  have hsz : (txt (sept t.size)).size ≤ 10 := by rw [txt_size]; exact hl
  go_enter Try.func17, Try.ntmps17
  go_wp2_with (first | (go_at_call 34; ((with_reducible refine (septets_txt _ _ (by omega)).mono ?_); rintro e w' ⟨rfl, hb⟩)))
  go_ret
  exact ⟨rfl, hb⟩

/-- a number, or it is refused -/
def numVal (s : ByteArray) (n : Int) : Value := if n < 0 ∨ 1099511627776 < n then .tuple #[.string s, .int .i64 1] else .tuple #[.string (s ++ txt (sept n.toNat)), .int .i64 0]

theorem num_any (s : ByteArray) (n : Int) (w : World) (hs : s.size ≤ 140737488355328) :
    Calls Try.prog 11 #[.string s, .int .i64 n] w fun e w' => e = .returned (numVal s n) ∧ Below w.heap.size w w' := by
  by_cases hn : n < 0 ∨ 1099511627776 < n
  · unfold numVal
    rw [if_pos hn]
    rcases hn with hn | hn
    · go_enter Try.func11, Try.ntmps11
      go_wp2
      go_ret2
      exact ⟨rfl, Below.refl _ _⟩
    · have h0 : 0 ≤ n := by omega
      go_enter Try.func11, Try.ntmps11
      go_wp2
      go_ret2
      exact ⟨rfl, Below.refl _ _⟩
  · unfold numVal
    rw [if_neg hn]
    obtain ⟨m, rfl⟩ := Int.eq_ofNat_of_zero_le (show 0 ≤ n by omega)
    have hm : (m : Int) ≤ 1099511627776 := by omega
    have hm0 : (0 : Int) ≤ (m : Int) := by omega
    have hl := Sept.sept_le10 m (by omega)
    have hsz : (txt (sept m)).size ≤ 10 := by rw [txt_size]; exact hl
    go_enter Try.func11, Try.ntmps11
    go_wp2_with (first | (go_at_call 34; ((with_reducible refine (septets_txt _ _ (by omega)).mono ?_); rintro e w' ⟨rfl, hb⟩)))
    go_ret2
    exact ⟨rfl, hb⟩

/-- may a value be told? -/
def enc (k N : Int) (T : ByteArray) : Bool :=
  if k = 0 then decide (N = 0) && decide (T.size = 0) else if k = 1 then decide (T.size = 0) else if k = 2 then decide (N = 0 ∨ N = 1) && decide (T.size = 0) else if k = 3 then decide (N = 0) && decide (T.size ≤ 40) else false

theorem encodable_any (k N : Int) (T : ByteArray) (w : World) (hk0 : 0 ≤ k) (hk : k ≤ 255) :
    Calls Try.prog 36 #[.agg #[.int .u8 k, .int .i64 N, .string T]] w fun e w' => e = .returned (.bool (enc k N T)) ∧ Below w.heap.size w w' := by
  go_enter Try.func36, Try.ntmps36
  go_wp2
  all_goals (go_ret; refine ⟨ret_bool ?_, (Below.refl _ _).alloc (Nat.le_refl _) _⟩; go_light; have hcast : ((T.size : Int) ≤ 40) ↔ T.size ≤ 40 := by omega
             simp_all [enc, isEmpty_size])

/-- a value's bytes behind s -/
def valTxt (s : ByteArray) (k N : Int) (T : ByteArray) : ByteArray :=
  if k = 1 then s ++ txt (sept k.toNat) ++ txt (sept (zig N)) else if k = 2 then s ++ txt (sept k.toNat) ++ txt (sept N.toNat) else if k = 3 then s ++ txt (sept k.toNat) ++ txt (sept T.size) ++ T else s ++ txt (sept k.toNat)

def valVal (s : ByteArray) (k N : Int) (T : ByteArray) : Value := if enc k N T then .tuple #[.string (valTxt s k N T), .int .i64 0] else .tuple #[.string s, .int .i64 4]

theorem txt_sept_size (n : Nat) (h : n < 18446744073709551616) : (txt (sept n)).size ≤ 10 := by rw [txt_size]; exact Sept.sept_le10 n h

set_option maxRecDepth 100000 in
set_option maxHeartbeats 2000000 in
theorem value_any (s : ByteArray) (k N : Int) (T : ByteArray) (w : World) (hs : s.size ≤ 140737488351232) (hk0 : 0 ≤ k) (hk : k ≤ 255) (hN0 : -9223372036854775808 ≤ N) (hN1 : N ≤ 9223372036854775807) (hT : T.size ≤ 140737488351232) :
    Calls Try.prog 13 #[.string s, .agg #[.int .u8 k, .int .i64 N, .string T]] w fun e w' => e = .returned (valVal s k N T) ∧ Below w.heap.size w w' := by
  by_cases he : enc k N T = true
  · have hv : valVal s k N T = .tuple #[.string (valTxt s k N T), .int .i64 0] := by unfold valVal; rw [if_pos he]
    rw [hv]
    have hkv : k = 0 ∨ k = 1 ∨ (k = 2 ∧ 0 ≤ N ∧ N ≤ 1) ∨ (k = 3 ∧ T.size ≤ 40) := by
      unfold enc at he
      split at he
      · exact .inl ‹_›
      · split at he
        · exact .inr (.inl ‹_›)
        · split at he
          · simp at he; exact .inr (.inr (.inl ⟨‹_›, by omega⟩))
          · split at he
            · simp at he; exact .inr (.inr (.inr ⟨‹_›, by omega⟩))
            · cases he
    have hc := fun wx => encodable_any k N T wx hk0 hk
    rw [he] at hc
    have z1 := txt_sept_size k.toNat (by omega)
    have HB := Below.refl w.heap.size w
    have z2 := txt_sept_size (zig N) (zig_lt N hN0 hN1)
    have z3 := txt_sept_size T.size (by omega)
    have z4 := txt_sept_size N.toNat (by omega)
    rcases hkv with rfl | rfl | ⟨rfl, n0, n1⟩ | ⟨rfl, h40⟩
    · have y1 : (txt (sept 0)).size ≤ 10 := z1
      clear z1
      go_enter Try.func13, Try.ntmps13
      go_wp2_with (first | (go_at_call 36; ((with_reducible refine (hc _).mono ?_); rintro e w' ⟨rfl, hb1⟩; obtain ⟨q1, q2⟩ := bcell hb1; replace HB := belowThenA HB hb1; have hz1 : w.heap.size < w'.heap.size := (by have := hb1.size; simp at this; omega); clear hb1)) | (go_at_call 34; ((with_reducible refine (septets_int _ _ (by omega) (by omega)).mono ?_); rintro e w2 ⟨rfl, hb2⟩; obtain ⟨q3, q4⟩ := bcell hb2; replace HB := belowThen HB hb2; clear hb2)))
      go_ret2
      exact ⟨rfl, HB⟩
    · have y1 : (txt (sept 1)).size ≤ 10 := z1
      clear z1
      go_enter Try.func13, Try.ntmps13
      go_wp2_with (first | (go_at_call 36; ((with_reducible refine (hc _).mono ?_); rintro e w' ⟨rfl, hb1⟩; obtain ⟨q1, q2⟩ := bcell hb1; replace HB := belowThenA HB hb1; have hz1 : w.heap.size < w'.heap.size := (by have := hb1.size; simp at this; omega); clear hb1)) | (go_at_call 34; ((with_reducible refine (septets_int _ _ (by omega) (by omega)).mono ?_); rintro e w2 ⟨rfl, hb2⟩; obtain ⟨q3, q4⟩ := bcell hb2; replace HB := belowThen HB hb2; clear hb2)) | (go_at_call 15; ((with_reducible refine (int_any _ _ _ hN0 hN1 ?_).mono ?_); (simp [ByteArray.size_append]; omega); rintro e w3 ⟨rfl, hb3⟩; replace HB := belowThen HB hb3; clear hb3)))
      go_ret2
      exact ⟨rfl, HB⟩
    · have y1 : (txt (sept 2)).size ≤ 10 := z1
      clear z1
      go_enter Try.func13, Try.ntmps13
      go_wp2_with (first | (go_at_call 36; ((with_reducible refine (hc _).mono ?_); rintro e w' ⟨rfl, hb1⟩; obtain ⟨q1, q2⟩ := bcell hb1; replace HB := belowThenA HB hb1; have hz1 : w.heap.size < w'.heap.size := (by have := hb1.size; simp at this; omega); clear hb1)) | (go_at_call 34; ((with_reducible refine (septets_int _ _ (by omega) (by omega)).mono ?_); rintro e w2 ⟨rfl, hb2⟩; obtain ⟨q3, q4⟩ := bcell hb2; replace HB := belowThen HB hb2; clear hb2)))
      go_ret2
      exact ⟨rfl, HB⟩
    · have y1 : (txt (sept 3)).size ≤ 10 := z1
      clear z1
      go_enter Try.func13, Try.ntmps13
      go_wp2_with (first | (go_at_call 36; ((with_reducible refine (hc _).mono ?_); rintro e w' ⟨rfl, hb1⟩; obtain ⟨q1, q2⟩ := bcell hb1; replace HB := belowThenA HB hb1; have hz1 : w.heap.size < w'.heap.size := (by have := hb1.size; simp at this; omega); clear hb1)) | (go_at_call 34; ((with_reducible refine (septets_int _ _ (by omega) (by omega)).mono ?_); rintro e w2 ⟨rfl, hb2⟩; obtain ⟨q3, q4⟩ := bcell hb2; replace HB := belowThen HB hb2; clear hb2)) | (go_at_call 17; ((with_reducible refine (text_any _ _ _ ?_ (by omega)).mono ?_); (simp [ByteArray.size_append]; omega); rintro e w3 ⟨rfl, hb3⟩; replace HB := belowThen HB hb3; clear hb3)))
      go_ret2
      exact ⟨rfl, HB⟩
  · have hv : valVal s k N T = .tuple #[.string s, .int .i64 4] := by unfold valVal; rw [if_neg he]
    rw [hv]
    have hc := fun wx => encodable_any k N T wx hk0 hk
    rw [show enc k N T = false by simpa using he] at hc
    have HB := Below.refl w.heap.size w
    go_enter Try.func13, Try.ntmps13
    go_wp2_with (first | (go_at_call 36; ((with_reducible refine (hc _).mono ?_); rintro e w' ⟨rfl, hb1⟩; obtain ⟨q1, q2⟩ := bcell hb1; replace HB := belowThenA HB hb1; have hz1 : w.heap.size < w'.heap.size := (by have := hb1.size; simp at this; omega); clear hb1)))
    go_ret2
    exact ⟨rfl, HB⟩

end Go.Proofs.Ytbppibgkljjmaaa
