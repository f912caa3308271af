/-
  PLAIN: a number as seven bits a byte, the lowest first; its row of bytes while it is made.
-/
import Derived.RowKit
namespace Go.Proofs.Ytbppibgkljjmaaa.Sept

/-- the bytes of a number -/
def sept (n : Nat) : List UInt8 :=
  if h : n < 128 then [UInt8.ofNat n] else UInt8.ofNat (n % 128 + 128) :: sept (n / 128)
termination_by n
decreasing_by omega

theorem sept_small (n : Nat) (h : n < 128) : sept n = [UInt8.ofNat n] := by rw [sept]; simp [h]
theorem sept_step (n : Nat) (h : 128 ≤ n) : sept n = UInt8.ofNat (n % 128 + 128) :: sept (n / 128) := by rw [sept]; simp [show ¬ n < 128 by omega]

/-- the first k bytes, while there are more -/
def row (n : Nat) : Nat → List UInt8
  | 0 => []
  | k + 1 => row n k ++ [UInt8.ofNat (n / 128 ^ k % 128 + 128)]

theorem row_length (n k : Nat) : (row n k).length = k := by
  induction k with
  | zero => rfl
  | succ k ih => simp [row, ih]

theorem row_shift (n k : Nat) : row n (k + 1) = UInt8.ofNat (n % 128 + 128) :: row (n / 128) k := by
  induction k with
  | zero => simp [row]
  | succ k ih =>
    have e : n / 128 / 128 ^ k = n / 128 ^ (k + 1) := by rw [Nat.div_div_eq_div_mul, Nat.pow_succ, Nat.mul_comm]
    rw [row, ih]
    simp only [row, List.cons_append, e]

/-- whatever way it is made: k bytes with more behind them, then the last one -/
theorem sept_row (n k : Nat) (hlast : n / 128 ^ k < 128) (hmore : ∀ j, j < k → 128 ≤ n / 128 ^ j) : sept n = row n k ++ [UInt8.ofNat (n / 128 ^ k)] := by
  induction k generalizing n with
  | zero => simpa [row] using sept_small n (by simpa using hlast)
  | succ k ih =>
    have h0 := hmore 0 (by omega)
    simp only [Nat.pow_zero, Nat.div_one] at h0
    have e : ∀ j, n / 128 / 128 ^ j = n / 128 ^ (j + 1) := fun j => by rw [Nat.div_div_eq_div_mul, Nat.pow_succ, Nat.mul_comm]
    rw [sept_step n h0, row_shift, ih (n / 128) (by rw [e]; exact hlast) (fun j hj => by rw [e]; exact hmore (j + 1) (by omega)), e]
    rfl

theorem sept_length_pos (n : Nat) : 0 < (sept n).length := by
  rw [sept]; split <;> simp

theorem sept_length (k n : Nat) (h : n < 128 ^ (k + 1)) : (sept n).length ≤ k + 1 := by
  induction k generalizing n with
  | zero => rw [sept_small n (by simpa using h)]; simp
  | succ k ih =>
    by_cases hn : n < 128
    · rw [sept_small n hn]; simp
    · rw [sept_step n (by omega)]
      have := ih (n / 128) (by rw [Nat.div_lt_iff_lt_mul (by omega)]; rw [Nat.pow_succ] at h; exact h)
      simp; omega

theorem sept_le10 (n : Nat) (h : n < 18446744073709551616) : (sept n).length ≤ 10 := by
  have e : (128 : Nat) ^ 10 = 1180591620717411303424 := by decide
  exact sept_length 9 n (by rw [e]; omega)

theorem pow9 : (128 : Nat) ^ 9 = 9223372036854775808 := by decide

end Go.Proofs.Ytbppibgkljjmaaa.Sept
