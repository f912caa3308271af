/-
  PLAIN: the checksum's fold over a list of bytes, on whole numbers; its bounds; its pieces.
-/
import Derived.RowKit
namespace Go.Proofs.Ytjffngcjdldkaaa.Adler

/-- one byte more -/
def stepA (a : Int) (c : UInt8) : Int := (a + (c.toNat : Int)) % 65521
def stepB (b a : Int) : Int := (b + a) % 65521

def fold : List UInt8 → Int × Int → Int × Int
  | [], p => p
  | c :: cs, p => fold cs (stepA p.1 c, stepB p.2 (stepA p.1 c))

theorem fold_append (l m : List UInt8) (p : Int × Int) : fold (l ++ m) p = fold m (fold l p) := by
  induction l generalizing p with
  | nil => rfl
  | cons c cs ih => simp only [List.cons_append, fold, ih]

theorem fold_snoc (l : List UInt8) (c : UInt8) (p : Int × Int) : fold (l ++ [c]) p = (stepA (fold l p).1 c, stepB (fold l p).2 (stepA (fold l p).1 c)) := by
  rw [fold_append]; rfl

theorem fold_bd (l : List UInt8) (p : Int × Int) (h1 : 0 ≤ p.1) (h2 : p.1 ≤ 65535) (h3 : 0 ≤ p.2) (h4 : p.2 ≤ 65535) :
    0 ≤ (fold l p).1 ∧ (fold l p).1 ≤ 65535 ∧ 0 ≤ (fold l p).2 ∧ (fold l p).2 ≤ 65535 := by
  induction l generalizing p with
  | nil => exact ⟨h1, h2, h3, h4⟩
  | cons c cs ih =>
    have hc : (0 : Int) ≤ c.toNat := Int.natCast_nonneg _
    apply ih <;> simp only [stepA, stepB] <;> omega

/-- the numbers that a sum has -/
def lo (x : Int) : Int := x % 65536
def hi (x : Int) : Int := x / 65536

/-- what a sum becomes by more -/
def add (x : Int) (l : List UInt8) : Int := (fold l (lo x, hi x)).2 * 65536 + (fold l (lo x, hi x)).1

theorem add_bd (x : Int) (l : List UInt8) (h0 : 0 ≤ x) (h1 : x ≤ 4294967295) : 0 ≤ add x l ∧ add x l ≤ 4294967295 := by
  have := fold_bd l (lo x, hi x) (by simp only [lo]; omega) (by simp only [lo]; omega) (by simp only [hi]; omega) (by simp only [hi]; omega)
  unfold add; omega

theorem lo_add (x : Int) (l : List UInt8) (h0 : 0 ≤ x) (h1 : x ≤ 4294967295) : lo (add x l) = (fold l (lo x, hi x)).1 := by
  have := fold_bd l (lo x, hi x) (by simp only [lo]; omega) (by simp only [lo]; omega) (by simp only [hi]; omega) (by simp only [hi]; omega)
  unfold add; generalize (fold l (lo x, hi x)) = p at *; simp only [lo]; omega

theorem hi_add (x : Int) (l : List UInt8) (h0 : 0 ≤ x) (h1 : x ≤ 4294967295) : hi (add x l) = (fold l (lo x, hi x)).2 := by
  have := fold_bd l (lo x, hi x) (by simp only [lo]; omega) (by simp only [lo]; omega) (by simp only [hi]; omega) (by simp only [hi]; omega)
  unfold add; generalize (fold l (lo x, hi x)) = p at *; simp only [hi]; omega

theorem add_append (x : Int) (l m : List UInt8) (h0 : 0 ≤ x) (h1 : x ≤ 4294967295) : add (add x l) m = add x (l ++ m) := by
  have e1 := lo_add x l h0 h1
  have e2 := hi_add x l h0 h1
  rw [add, e1, e2, add, fold_append]

theorem add_nil (x : Int) : add x [] = x := by
  unfold add fold; simp only [lo, hi]; omega

theorem take_snoc (s : ByteArray) (k : Nat) (h : k < s.size) : s.data.toList.take (k + 1) = s.data.toList.take k ++ [s[k]] := by
  rw [List.take_succ_eq_append_getElem (by simpa using h)]; rfl

theorem fold_take (s : ByteArray) (k : Nat) (h : k < s.size) (p : Int × Int) :
    fold (s.data.toList.take (k + 1)) p = (stepA (fold (s.data.toList.take k) p).1 s[k], stepB (fold (s.data.toList.take k) p).2 (stepA (fold (s.data.toList.take k) p).1 s[k])) := by
  rw [take_snoc s k h, fold_snoc]

/-- behind at least one byte, and from 1 on, both numbers are below the modulus -/
theorem fold_lim (l : List UInt8) (p : Int × Int) (h1 : 0 ≤ p.1) (h2 : p.1 ≤ 65520) (h3 : 0 ≤ p.2) (h4 : p.2 ≤ 65520) :
    0 ≤ (fold l p).1 ∧ (fold l p).1 ≤ 65520 ∧ 0 ≤ (fold l p).2 ∧ (fold l p).2 ≤ 65520 := by
  induction l generalizing p with
  | nil => exact ⟨h1, h2, h3, h4⟩
  | cons c cs ih =>
    have hc : (0 : Int) ≤ c.toNat := Int.natCast_nonneg _
    apply ih <;> simp only [stepA, stepB] <;> omega

theorem add_lim (l : List UInt8) : 0 ≤ lo (add 1 l) ∧ lo (add 1 l) ≤ 65520 ∧ 0 ≤ hi (add 1 l) ∧ hi (add 1 l) ≤ 65520 := by
  rw [lo_add 1 l (by omega) (by omega), hi_add 1 l (by omega) (by omega)]
  exact fold_lim l _ (by decide) (by decide) (by decide) (by decide)

/-- the bytes' sum -/
def total : List UInt8 → Int
  | [] => 0
  | c :: cs => (c.toNat : Int) + total cs

theorem total_append (l m : List UInt8) : total (l ++ m) = total l + total m := by
  induction l with
  | nil => simp [total]
  | cons c cs ih => simp only [List.cons_append, total, ih]; omega

theorem fold_fst (l : List UInt8) (p : Int × Int) (h1 : 0 ≤ p.1) (h2 : p.1 ≤ 65520) : (fold l p).1 = (p.1 + total l) % 65521 := by
  induction l generalizing p with
  | nil => simp only [fold, total]; omega
  | cons c cs ih =>
    have hc : (0 : Int) ≤ c.toNat := Int.natCast_nonneg _
    simp only [fold]
    rw [ih _ (by simp only [stepA]; omega) (by simp only [stepA]; omega)]
    simp only [stepA, total]
    omega

/-- the first number does not hang on the row of the bytes -/
theorem lo_turned (l : List UInt8) (k : Nat) : lo (add 1 (l.drop k ++ l.take k)) = lo (add 1 l) := by
  rw [lo_add 1 _ (by omega) (by omega), lo_add 1 _ (by omega) (by omega), fold_fst _ _ (by decide) (by decide), fold_fst _ _ (by decide) (by decide)]
  have e : total l = total (l.take k) + total (l.drop k) := by rw [← total_append, List.take_append_drop]
  rw [total_append, e, Int.add_comm (total (l.drop k))]

theorem fold_zeros (m : Nat) (p : Int × Int) (h1 : 0 ≤ p.1) (h2 : p.1 ≤ 65520) (h3 : 0 ≤ p.2) (h4 : p.2 ≤ 65520) :
    fold (List.replicate m 0) p = (p.1, (p.2 + m * p.1) % 65521) := by
  induction m generalizing p with
  | zero => simp only [List.replicate_zero, fold]; ext <;> simp; omega
  | succ m ih =>
    have e0 : stepA p.1 0 = p.1 := by simp [stepA]; omega
    simp only [List.replicate_succ, fold, e0]
    rw [ih (p.1, stepB p.2 p.1) h1 h2 (by show 0 ≤ (p.2 + p.1) % 65521; omega) (by show (p.2 + p.1) % 65521 ≤ 65520; omega)]
    simp only [stepB, Prod.mk.injEq, true_and]
    have e : ((m : Int) + 1) * p.1 = m * p.1 + p.1 := by rw [Int.add_mul]; omega
    have e' : ((m + 1 : Nat) : Int) = (m : Int) + 1 := by omega
    rw [e', e]
    generalize (m : Int) * p.1 = z
    omega

/-- bytes 0 behind others leave the first number as it is, and add it to the second, each -/
theorem add_zeros (l : List UInt8) (m : Nat) : lo (add 1 (l ++ List.replicate m 0)) = lo (add 1 l) ∧ hi (add 1 (l ++ List.replicate m 0)) = (hi (add 1 l) + m * lo (add 1 l)) % 65521 := by
  have b := add_lim l
  rw [lo_add 1 l (by omega) (by omega), hi_add 1 l (by omega) (by omega)] at b
  rw [lo_add 1 _ (by omega) (by omega), lo_add 1 _ (by omega) (by omega), hi_add 1 _ (by omega) (by omega), hi_add 1 _ (by omega) (by omega), fold_append, fold_zeros m _ b.1 b.2.1 b.2.2.1 b.2.2.2]
  exact ⟨rfl, rfl⟩

end Go.Proofs.Ytjffngcjdldkaaa.Adler
