/-
  CONTRACTS: number, integer, take, the reader's Num and Int.
-/
import Derived.Test.YtbppibgkljjmaaaRs
namespace Go.Proofs.Ytbppibgkljjmaaa
open Go.RowKit
set_option linter.unusedVariables false
open Sept (sept)

theorem rd_le (most : Nat) (M : List UInt8) : ∀ i n, (rd most i n M).1 ≤ most := by
  induction M with
  | nil => intro i n; simp [rd]
  | cons x r ih =>
    intro i n
    rw [rd]
    split
    · simp
    · split
      · simp
      · split
        · simp
        · split
          · simp; omega
          · exact ih _ _

theorem rd_err (most : Nat) (M : List UInt8) : ∀ i n, (rd most i n M).2.1 = 0 ∨ (rd most i n M).2.1 = 4 ∨ (rd most i n M).2.1 = 8 := by
  induction M with
  | nil => intro i n; simp [rd]
  | cons x r ih =>
    intro i n
    rw [rd]
    split
    · simp
    · split
      · simp
      · split
        · simp
        · split
          · simp
          · exact ih _ _

theorem rd_rest (most : Nat) (M : List UInt8) : ∀ i n, (rd most i n M).2.2.length ≤ M.length := by
  induction M with
  | nil => intro i n; simp [rd]
  | cons x r ih =>
    intro i n
    rw [rd]
    split
    · simp
    · split
      · simp
      · split
        · simp
        · split
          · simp
          · have := ih (i + 1) (n + x.toNat % 128 * 2 ^ (7 * i)); simp; omega

/-- a number up to MaxNumber -/
def rdN (L : List UInt8) : Nat × Nat × List UInt8 := rd 1099511627776 0 0 L

theorem number_any (L : List UInt8) (b : Nat) (e0 : Int) (w : World) (hL : L.length ≤ 140737488355328) (hR : Rd w b (txt L) e0) :
    Calls Try.prog 39 #[.pointer (some ⟨b, 0, none⟩)] w fun e w' => e = .returned (.tuple #[.int .i64 ((rdN L).1 : Int), .int .i64 ((rdN L).2.1 : Int)]) ∧ Rd w' b (txt (rdN L).2.2) e0 ∧ Off b w w' := by
  have hle := rd_le 1099511627776 L 0 0
  have hc := rsept_any 1099511627776 L b e0 w (by omega) hL hR
  change (rdN L).1 ≤ _ at hle
  change Calls _ _ _ _ (fun e w' => e = .returned (.tuple #[.int .u64 ((rdN L).1 : Int), .int .i64 ((rdN L).2.1 : Int)]) ∧ Rd w' b (txt (rdN L).2.2) e0 ∧ Off b w w') at hc
  generalize rdN L = R at hc hle ⊢
  have hle' : (R.1 : Int) ≤ 1099511627776 := by omega
  have hle0 : (0 : Int) ≤ (R.1 : Int) := by omega
  go_enter Try.func39, Try.ntmps39
  go_wp2_with (first | (go_at_call 52; refine hc.mono ?_; rintro e w' ⟨rfl, hR1, hO1⟩))
  go_ret2
  exact ⟨rfl, hR1, hO1⟩

/-! ### 'take', at each of its types -/

set_option maxHeartbeats 1000000 in
theorem takeInt_ok (v : Int) (b : Nat) (s s' : ByteArray) (w : World) (hR : Rd w b s 0)
    (hc : Calls Try.prog 39 #[.pointer (some ⟨b, 0, none⟩)] w fun e w' => e = .returned (.tuple #[.int .i64 v, .int .i64 0]) ∧ Rd w' b s' 0 ∧ Off b w w') :
    Calls Try.prog 38 #[.pointer (some ⟨b, 0, none⟩), .func (Fn.func 39) #[.pointer (some ⟨b, 0, none⟩)] #[]] w fun e w' => e = .returned (.tuple #[.int .i64 v, .int .i64 0]) ∧ Rd w' b s' 0 ∧ Off b w w' := by
  obtain ⟨c0, c1, f0, f1⟩ := hR.cells
  go_enter Try.func38, Try.ntmps38
  go_wp2_with (first | (go_at_call 39; refine hc.mono ?_; rintro e w' ⟨rfl, hR1, hO1⟩))
  go_ret2
  exact ⟨rfl, hR1, hO1⟩

set_option maxHeartbeats 1000000 in
theorem takeInt_err (v : Int) (er : Int) (her : er ≠ 0) (b : Nat) (s s' : ByteArray) (w : World) (hR : Rd w b s 0)
    (hc : Calls Try.prog 39 #[.pointer (some ⟨b, 0, none⟩)] w fun e w' => e = .returned (.tuple #[.int .i64 v, .int .i64 er]) ∧ Rd w' b s' 0 ∧ Off b w w') :
    Calls Try.prog 38 #[.pointer (some ⟨b, 0, none⟩), .func (Fn.func 39) #[.pointer (some ⟨b, 0, none⟩)] #[]] w fun e w' => e = .returned (.tuple #[.int .i64 0, .int .i64 er]) ∧ Rd w' b ByteArray.empty er ∧ Off b w w' := by
  obtain ⟨c0, c1, f0, f1⟩ := hR.cells
  have hb : (er != 0) = true := by simpa using her
  go_enter Try.func38, Try.ntmps38
  go_wp2_with (first | (go_at_call 39; refine hc.mono ?_; rintro e w1 ⟨rfl, hR1, hO1⟩; obtain ⟨d0, d1, g0, g1⟩ := hR1.cells))
  go_ret2
  exact ⟨rfl, (hR1.set0 _).set1 _, (hO1.setCell _ _).setCell _ _⟩

set_option maxHeartbeats 1000000 in
theorem takeInt_was (e0 : Int) (he0 : e0 ≠ 0) (b : Nat) (s : ByteArray) (w : World) (hR : Rd w b s e0) :
    Calls Try.prog 38 #[.pointer (some ⟨b, 0, none⟩), .func (Fn.func 39) #[.pointer (some ⟨b, 0, none⟩)] #[]] w fun e w' => e = .returned (.tuple #[.int .i64 0, .int .i64 e0]) ∧ Rd w' b s e0 ∧ Off b w w' := by
  obtain ⟨c0, c1, f0, f1⟩ := hR.cells
  have hb : (e0 != 0) = true := by simpa using he0
  have hO := Off.refl b w
  go_enter Try.func38, Try.ntmps38
  go_wp2_with fail
  go_quiet (fail)
  go_wp2
  go_ret2
  exact ⟨rfl, hR, ⟨hO.os, hO.tape, hO.output, hO.size, hO.block⟩⟩

set_option maxHeartbeats 1000000 in
theorem takeInt_nil (w : World) :
    Calls Try.prog 38 #[.pointer none, .func (Fn.func 39) #[.pointer none] #[]] w fun e w' => e = .returned (.tuple #[.int .i64 0, .int .i64 2]) ∧ w = w' := by
  go_enter Try.func38, Try.ntmps38
  go_wp2
  go_ret2
  exact ⟨rfl, rfl⟩

set_option maxHeartbeats 1000000 in
theorem takeInt64_ok (v : Int) (b : Nat) (s s' : ByteArray) (w : World) (hR : Rd w b s 0)
    (hc : Calls Try.prog 42 #[.pointer (some ⟨b, 0, none⟩)] w fun e w' => e = .returned (.tuple #[.int .i64 v, .int .i64 0]) ∧ Rd w' b s' 0 ∧ Off b w w') :
    Calls Try.prog 41 #[.pointer (some ⟨b, 0, none⟩), .func (Fn.func 42) #[.pointer (some ⟨b, 0, none⟩)] #[]] w fun e w' => e = .returned (.tuple #[.int .i64 v, .int .i64 0]) ∧ Rd w' b s' 0 ∧ Off b w w' := by
  obtain ⟨c0, c1, f0, f1⟩ := hR.cells
  go_enter Try.func41, Try.ntmps41
  go_wp2_with (first | (go_at_call 42; refine hc.mono ?_; rintro e w' ⟨rfl, hR1, hO1⟩))
  go_ret2
  exact ⟨rfl, hR1, hO1⟩

set_option maxHeartbeats 1000000 in
theorem takeInt64_err (v : Int) (er : Int) (her : er ≠ 0) (b : Nat) (s s' : ByteArray) (w : World) (hR : Rd w b s 0)
    (hc : Calls Try.prog 42 #[.pointer (some ⟨b, 0, none⟩)] w fun e w' => e = .returned (.tuple #[.int .i64 v, .int .i64 er]) ∧ Rd w' b s' 0 ∧ Off b w w') :
    Calls Try.prog 41 #[.pointer (some ⟨b, 0, none⟩), .func (Fn.func 42) #[.pointer (some ⟨b, 0, none⟩)] #[]] w fun e w' => e = .returned (.tuple #[.int .i64 0, .int .i64 er]) ∧ Rd w' b ByteArray.empty er ∧ Off b w w' := by
  obtain ⟨c0, c1, f0, f1⟩ := hR.cells
  have hb : (er != 0) = true := by simpa using her
  go_enter Try.func41, Try.ntmps41
  go_wp2_with (first | (go_at_call 42; refine hc.mono ?_; rintro e w1 ⟨rfl, hR1, hO1⟩; obtain ⟨d0, d1, g0, g1⟩ := hR1.cells))
  go_ret2
  exact ⟨rfl, (hR1.set0 _).set1 _, (hO1.setCell _ _).setCell _ _⟩

set_option maxHeartbeats 1000000 in
theorem takeInt64_was (e0 : Int) (he0 : e0 ≠ 0) (b : Nat) (s : ByteArray) (w : World) (hR : Rd w b s e0) :
    Calls Try.prog 41 #[.pointer (some ⟨b, 0, none⟩), .func (Fn.func 42) #[.pointer (some ⟨b, 0, none⟩)] #[]] w fun e w' => e = .returned (.tuple #[.int .i64 0, .int .i64 e0]) ∧ Rd w' b s e0 ∧ Off b w w' := by
  obtain ⟨c0, c1, f0, f1⟩ := hR.cells
  have hb : (e0 != 0) = true := by simpa using he0
  have hO := Off.refl b w
  go_enter Try.func41, Try.ntmps41
  go_wp2_with fail
  go_quiet (fail)
  go_wp2
  go_ret2
  exact ⟨rfl, hR, ⟨hO.os, hO.tape, hO.output, hO.size, hO.block⟩⟩

set_option maxHeartbeats 1000000 in
theorem takeInt64_nil (w : World) :
    Calls Try.prog 41 #[.pointer none, .func (Fn.func 42) #[.pointer none] #[]] w fun e w' => e = .returned (.tuple #[.int .i64 0, .int .i64 2]) ∧ w = w' := by
  go_enter Try.func41, Try.ntmps41
  go_wp2
  go_ret2
  exact ⟨rfl, rfl⟩

/-- the whole number that a number stands for -/
def uz (n : Nat) : Int := if n % 2 = 1 then -((n : Int) / 2) - 1 else (n : Int) / 2

/-- a whole number -/
def rdI (L : List UInt8) : Nat × Nat × List UInt8 := rd 18446744073709551615 0 0 L

theorem and_one (n : Nat) (h : n < 18446744073709551616) : bits .and .u64 (n : Int) 1 = ((n % 2 : Nat) : Int) := by
  have := u64_and_nat n 1 h (by omega)
  rw [show (1 : Int) = ((1 : Nat) : Int) from rfl, this, nat_mask1]

theorem not_half (n : Nat) (h : n < 9223372036854775808) : bits .xor .u64 IntKind.u64.max (n : Int) = ((18446744073709551615 - n : Nat) : Int) := by
  have e3 : IntKind.u64.max = ((18446744073709551615 : Nat) : Int) := by decide
  rw [e3, u64_xor_nat 18446744073709551615 n (by omega) (by omega)]
  have hx : BitVec.ofNat 64 n ^^^ BitVec.allOnes 64 = ~~~ BitVec.ofNat 64 n := BitVec.xor_allOnes
  have hy := congrArg BitVec.toNat hx
  rw [BitVec.toNat_xor, BitVec.toNat_not, BitVec.toNat_allOnes, BitVec.toNat_ofNat, Nat.mod_eq_of_lt (show n < 2 ^ 64 by omega), show (2 : Nat) ^ 64 - 1 = 18446744073709551615 from by decide] at hy
  rw [Nat.xor_comm, hy]

theorem not_half' (n : Nat) (h : n < 18446744073709551616) : wrap64 (bits .xor .u64 IntKind.u64.max ((n : Int) / 2)) = -((n : Int) / 2) - 1 := by
  have := not_half (n / 2) (by omega)
  rw [show ((n / 2 : Nat) : Int) = (n : Int) / 2 by omega] at this
  rw [this]
  unfold wrap64
  omega

set_option maxHeartbeats 1000000 in
theorem integer_any (L : List UInt8) (b : Nat) (e0 : Int) (w : World) (hL : L.length ≤ 140737488355328) (hR : Rd w b (txt L) e0) :
    Calls Try.prog 42 #[.pointer (some ⟨b, 0, none⟩)] w fun e w' => e = .returned (.tuple #[.int .i64 (uz (rdI L).1), .int .i64 ((rdI L).2.1 : Int)]) ∧ Rd w' b (txt (rdI L).2.2) e0 ∧ Off b w w' := by
  have hle := rd_le 18446744073709551615 L 0 0
  have hc := rsept_any 18446744073709551615 L b e0 w (by omega) hL hR
  change (rdI L).1 ≤ _ at hle
  change Calls _ _ _ _ (fun e w' => e = .returned (.tuple #[.int .u64 ((rdI L).1 : Int), .int .i64 ((rdI L).2.1 : Int)]) ∧ Rd w' b (txt (rdI L).2.2) e0 ∧ Off b w w') at hc
  generalize rdI L = R at hc hle ⊢
  obtain ⟨n, er, M⟩ := R
  simp only at hc hle ⊢
  have hle' : (n : Int) ≤ 18446744073709551615 := by omega
  have hle0 : (0 : Int) ≤ (n : Int) := by omega
  have ha := and_one n (by omega)
  have hn := not_half' n (by omega)
  have HN := Lib.hid hn
  clear hn
  by_cases ho : n % 2 = 1
  · have hu : uz n = -((n : Int) / 2) - 1 := by unfold uz; rw [if_pos ho]
    rw [hu]
    rw [ho] at ha
    clear hu ho
    go_enter Try.func42, Try.ntmps42
    go_wp2_with (first | (go_at_call 52; refine hc.mono ?_; rintro e w' ⟨rfl, hR1, hO1⟩))
    go_ret2
    refine ⟨?_, hR1, hO1⟩
    go_light
    rw [← HN.out]
    rfl
  · have ho' : n % 2 = 0 := by omega
    have hu : uz n = (n : Int) / 2 := by unfold uz; rw [if_neg ho]
    rw [hu]
    rw [ho'] at ha
    clear hu ho ho'
    go_enter Try.func42, Try.ntmps42
    go_wp2_with (first | (go_at_call 52; refine hc.mono ?_; rintro e w' ⟨rfl, hR1, hO1⟩))
    go_ret2
    exact ⟨rfl, hR1, hO1⟩

/-! ### the reader's own methods -/
theorem open_any (s : ByteArray) (w : World) :
    Calls Try.prog 19 #[.string s] w fun e w' => e = .returned (.pointer (some ⟨w.heap.size, 0, none⟩)) ∧ w' = w.alloc (.cells #[.string s, .int .i64 0] 68) := by
  go_enter Try.func19, Try.ntmps19
  go_wp2
  go_ret
  exact ⟨rfl, rfl⟩

theorem rd_new (s : ByteArray) (w : World) : Rd (w.alloc (.cells #[.string s, .int .i64 0] 68)) w.heap.size s 0 := by
  unfold Rd; show (w.heap.push _)[w.heap.size]? = _; simp

/-- what a method of the reader leaves -/
def left (R : Nat × Nat × List UInt8) : ByteArray := if R.2.1 = 0 then txt R.2.2 else ByteArray.empty

theorem numM_any (L : List UInt8) (b : Nat) (w : World) (hL : L.length ≤ 140737488355328) (hR : Rd w b (txt L) 0) :
    Calls Try.prog 20 #[.pointer (some ⟨b, 0, none⟩)] w fun e w' => e = .returned (.tuple #[.int .i64 (if (rdN L).2.1 = 0 then ((rdN L).1 : Int) else 0), .int .i64 ((rdN L).2.1 : Int)]) ∧ Rd w' b (left (rdN L)) ((rdN L).2.1 : Int) ∧ Off b w w' := by
  have hc := number_any L b 0 w hL hR
  generalize rdN L = R at hc ⊢
  obtain ⟨n, er, M⟩ := R
  simp only at hc ⊢
  by_cases he : er = 0
  · subst he
    have ht := takeInt_ok (n : Int) b (txt L) (txt M) w hR hc
    have e1 : left (n, 0, M) = txt M := by simp [left]
    rw [e1]
    go_enter Try.func20, Try.ntmps20
    go_wp2_with (first | (go_at_call 38; refine ht.mono ?_; rintro e w' ⟨rfl, hR1, hO1⟩))
    go_ret2
    exact ⟨rfl, hR1, hO1⟩
  · have he' : (er : Int) ≠ 0 := by omega
    have ht := takeInt_err (n : Int) (er : Int) he' b (txt L) (txt M) w hR hc
    have e1 : left (n, er, M) = ByteArray.empty := by simp [left, he]
    rw [e1, if_neg he]
    go_enter Try.func20, Try.ntmps20
    go_wp2_with (first | (go_at_call 38; refine ht.mono ?_; rintro e w' ⟨rfl, hR1, hO1⟩))
    go_ret2
    exact ⟨rfl, hR1, hO1⟩

theorem intM_any (L : List UInt8) (b : Nat) (w : World) (hL : L.length ≤ 140737488355328) (hR : Rd w b (txt L) 0) :
    Calls Try.prog 22 #[.pointer (some ⟨b, 0, none⟩)] w fun e w' => e = .returned (.tuple #[.int .i64 (if (rdI L).2.1 = 0 then uz (rdI L).1 else 0), .int .i64 ((rdI L).2.1 : Int)]) ∧ Rd w' b (left (rdI L)) ((rdI L).2.1 : Int) ∧ Off b w w' := by
  have hc := integer_any L b 0 w hL hR
  generalize rdI L = R at hc ⊢
  obtain ⟨n, er, M⟩ := R
  simp only at hc ⊢
  by_cases he : er = 0
  · subst he
    have ht := takeInt64_ok (uz n) b (txt L) (txt M) w hR hc
    have e1 : left (n, 0, M) = txt M := by simp [left]
    rw [e1]
    go_enter Try.func22, Try.ntmps22
    go_wp2_with (first | (go_at_call 41; refine ht.mono ?_; rintro e w' ⟨rfl, hR1, hO1⟩))
    go_ret2
    exact ⟨rfl, hR1, hO1⟩
  · have he' : (er : Int) ≠ 0 := by omega
    have ht := takeInt64_err (uz n) (er : Int) he' b (txt L) (txt M) w hR hc
    have e1 : left (n, er, M) = ByteArray.empty := by simp [left, he]
    rw [e1, if_neg he]
    go_enter Try.func22, Try.ntmps22
    go_wp2_with (first | (go_at_call 41; refine ht.mono ?_; rintro e w' ⟨rfl, hR1, hO1⟩))
    go_ret2
    exact ⟨rfl, hR1, hO1⟩

end Go.Proofs.Ytbppibgkljjmaaa
