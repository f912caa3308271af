/-
  PLAIN: what was written is read; without its last bytes, it is missed.
-/
import Derived.Test.YtbppibgkljjmaaaRv
import Derived.Test.YtbppibgkljjmaaaPre
namespace Go.Proofs.Ytbppibgkljjmaaa
open Go.RowKit
set_option linter.unusedVariables false
open Sept (sept)

theorem pow_lt_ten (i m most : Nat) (hm : most < 18446744073709551616) (h : m * 2 ^ (7 * i) ≤ most) (hp : 0 < m) : i < 10 := by
  rcases Nat.lt_or_ge i 10 with hi | hi
  · exact hi
  · exfalso
    have h1 : 2 ^ 70 ≤ 2 ^ (7 * i) := Nat.pow_le_pow_right (by omega) (by omega)
    have h2 : 1 * 2 ^ (7 * i) ≤ m * 2 ^ (7 * i) := Nat.mul_le_mul_right _ hp
    omega

theorem step_sum (n m i : Nat) : n + m % 128 * 2 ^ (7 * i) + m / 128 * 2 ^ (7 * (i + 1)) = n + m * 2 ^ (7 * i) := by
  have e : 2 ^ (7 * (i + 1)) = 128 * 2 ^ (7 * i) := by rw [Nat.mul_add, Nat.pow_add]; omega
  rw [e]
  have h : m / 128 * (128 * 2 ^ (7 * i)) = 128 * (m / 128) * 2 ^ (7 * i) := by rw [← Nat.mul_assoc, Nat.mul_comm (m / 128) 128]
  have := Nat.div_add_mod m 128
  rw [h, Nat.add_assoc, ← Nat.add_mul]
  congr 2
  omega

theorem rd_sept (most : Nat) (hm : most < 18446744073709551616) (M : List UInt8) (m : Nat) : ∀ i n, n + m * 2 ^ (7 * i) ≤ most → (i = 0 ∨ 0 < m) → rd most i n (sept m ++ M) = (n + m * 2 ^ (7 * i), 0, M) := by
  induction m using Nat.strongRecOn with
  | ind m ih =>
    intro i n hle hp
    have hi : i < 10 := by
      rcases hp with h | h
      · omega
      · exact pow_lt_ten i m most hm (by omega) h
    by_cases hs : m < 128
    · rw [Sept.sept_small m hs]
      have hb : (UInt8.ofNat m).toNat = m := by simp; omega
      have hmod : m % 128 = m := Nat.mod_eq_of_lt hs
      rw [List.singleton_append, rd, hb, hmod, if_neg (by omega), if_neg (by omega), if_neg (by omega), if_pos hs]
    · rw [Sept.sept_step m (by omega)]
      have hb : (UInt8.ofNat (m % 128 + 128)).toNat = m % 128 + 128 := by simp; omega
      have hmod : (m % 128 + 128) % 128 = m % 128 := by omega
      have hsum := step_sum n m i
      rw [List.cons_append, rd, hb, hmod, if_neg (by omega), if_neg (by omega), if_neg (by omega), if_neg (by omega), ih (m / 128) (by omega) (i + 1) _ (by omega) (Or.inr (by omega)), hsum]

theorem rd_sept_short (most : Nat) (hm : most < 18446744073709551616) (m : Nat) : ∀ i n k, k < (sept m).length → n + m * 2 ^ (7 * i) ≤ most → (i = 0 ∨ 0 < m) → rd most i n ((sept m).take k) = (0, 8, []) := by
  induction m using Nat.strongRecOn with
  | ind m ih =>
    intro i n k hk hle hp
    have hi : i < 10 := by
      rcases hp with h | h
      · omega
      · exact pow_lt_ten i m most hm (by omega) h
    cases k with
    | zero => rw [List.take_zero, rd]
    | succ k =>
      by_cases hs : m < 128
      · rw [Sept.sept_small m hs] at hk; simp at hk
      · rw [Sept.sept_step m (by omega)] at hk ⊢
        have hb : (UInt8.ofNat (m % 128 + 128)).toNat = m % 128 + 128 := by simp; omega
        have hmod : (m % 128 + 128) % 128 = m % 128 := by omega
        have hsum := step_sum n m i
        rw [List.take_succ_cons, rd, hb, hmod, if_neg (by omega), if_neg (by omega), if_neg (by omega), if_neg (by omega), ih (m / 128) (by omega) (i + 1) _ k (by simpa using hk) (by omega) (Or.inr (by omega))]

theorem rdN_sept (m : Nat) (M : List UInt8) (h : m ≤ 1099511627776) : rdN (sept m ++ M) = (m, 0, M) := by
  have := rd_sept 1099511627776 (by omega) M m 0 0 (by omega) (Or.inl rfl)
  simpa [rdN] using this
theorem rdI_sept (m : Nat) (M : List UInt8) (h : m < 18446744073709551616) : rdI (sept m ++ M) = (m, 0, M) := by
  have := rd_sept 18446744073709551615 (by omega) M m 0 0 (by omega) (Or.inl rfl)
  simpa [rdI] using this
theorem rdN_short (m k : Nat) (h : m ≤ 1099511627776) (hk : k < (sept m).length) : rdN ((sept m).take k) = (0, 8, []) :=
  rd_sept_short 1099511627776 (by omega) m 0 0 k hk (by omega) (Or.inl rfl)
theorem rdI_short (m k : Nat) (h : m < 18446744073709551616) (hk : k < (sept m).length) : rdI ((sept m).take k) = (0, 8, []) :=
  rd_sept_short 18446744073709551615 (by omega) m 0 0 k hk (by omega) (Or.inl rfl)

theorem rdT_short (most : Nat) (T : List UInt8) (k : Nat) (hm : T.length ≤ most) (hT : T.length ≤ 1099511627776) (hk : k < (sept T.length ++ T).length) : (rdT (most : Int) ((sept T.length ++ T).take k)).2.1 = 8 := by
  by_cases h : k < (sept T.length).length
  · rw [List.take_append_of_le_length (by omega)]
    unfold rdT
    rw [rdN_short _ k hT h]
    simp
  · obtain ⟨j, rfl⟩ : ∃ j, k = (sept T.length).length + j := ⟨k - (sept T.length).length, by omega⟩
    have hj : j < T.length := by simp at hk; omega
    rw [List.take_length_add_append]
    unfold rdT
    rw [rdN_sept _ _ hT]
    have h1 : ¬ ((most : Int) < (T.length : Int)) := by omega
    have h2 : (T.take j).length < T.length := by simp; omega
    simp only [ne_eq, not_true_eq_false, if_false, if_neg h1, if_pos h2]

theorem enc_bounds {k N : Int} {T : ByteArray} (h : enc k N T = true) : (k = 0 ∧ N = 0 ∧ T = ⟨#[]⟩) ∨ (k = 1 ∧ T = ⟨#[]⟩) ∨ (k = 2 ∧ 0 ≤ N ∧ N ≤ 1 ∧ T = ⟨#[]⟩) ∨ (k = 3 ∧ N = 0 ∧ T.size ≤ 40) := by
  have h' := h
  rcases enc_cases h with ⟨rfl, rfl, rfl⟩ | ⟨rfl, rfl⟩ | ⟨rfl, hn, rfl⟩ | ⟨rfl, rfl⟩
  · exact .inl ⟨rfl, rfl, rfl⟩
  · exact .inr (.inl ⟨rfl, rfl⟩)
  · unfold enc at h'
    simp at h'
    exact .inr (.inr (.inl ⟨rfl, hn, by omega, rfl⟩))
  · unfold enc at h'
    simp at h'
    exact .inr (.inr (.inr ⟨rfl, rfl, h'⟩))

theorem rdV_of (k : Nat) (hk : k ≤ 3) (Q : List UInt8) : rdV (sept k ++ Q) = if k = 1 then (1, uz (rdI Q).1, [], (rdI Q).2.1, (rdI Q).2.2)
    else if k = 2 then (2, ((rdN Q).1 : Int), [], if 1 < (rdN Q).1 then 4 else (rdN Q).2.1, (rdN Q).2.2)
    else if k = 3 then (3, 0, (rdT 40 Q).1, (rdT 40 Q).2.1, (rdT 40 Q).2.2) else (0, 0, [], 0, Q) := by
  unfold rdV
  rw [rdN_sept k Q (by omega)]
  simp only [ne_eq, not_true_eq_false, if_false, if_neg (show ¬ 3 < k by omega)]

theorem take_code (k : Nat) (hk : k ≤ 3) (P : List UInt8) (j : Nat) : (sept k ++ P).take (j + 1) = sept k ++ P.take j := by
  rw [Sept.sept_small k (by omega)]
  rfl

theorem rdV_short (k N : Int) (T : ByteArray) (j : Nat) (he : enc k N T = true) (hN0 : -9223372036854775808 ≤ N) (hN1 : N ≤ 9223372036854775807) (hj : j < (code k N T).length) : (rdV ((code k N T).take j)).2.2.2.1 = 8 := by
  cases j with
  | zero => rw [List.take_zero]; rfl
  | succ j =>
    unfold code at hj ⊢
    have l1 : ∀ k : Nat, k ≤ 3 → (sept k).length = 1 := fun k hk => by rw [Sept.sept_small k (by omega)]; rfl
    rcases enc_bounds he with ⟨rfl, rfl, rfl⟩ | ⟨rfl, rfl⟩ | ⟨rfl, hn, hn', rfl⟩ | ⟨rfl, rfl, ht⟩
    · have := l1 0 (by omega)
      simp [this] at hj
    · rw [if_pos rfl] at hj ⊢
      have := l1 1 (by omega)
      rw [show (1 : Int).toNat = 1 from rfl] at hj ⊢
      rw [take_code 1 (by omega), rdV_of 1 (by omega), if_pos rfl, rdI_short _ _ (zig_lt N hN0 hN1) (by rw [List.length_append, this] at hj; omega)]
    · rw [if_neg (by decide), if_pos rfl] at hj ⊢
      have := l1 2 (by omega)
      rw [show (2 : Int).toNat = 2 from rfl] at hj ⊢
      rw [take_code 2 (by omega), rdV_of 2 (by omega), if_neg (by omega), if_pos rfl, rdN_short _ _ (by omega) (by rw [List.length_append, this] at hj; omega)]
      rfl
    · rw [if_neg (by decide), if_neg (by decide), if_pos rfl] at hj ⊢
      have := l1 3 (by omega)
      rw [show (3 : Int).toNat = 3 from rfl] at hj ⊢
      rw [take_code 3 (by omega), rdV_of 3 (by omega), if_neg (by omega), if_neg (by omega), if_pos rfl]
      have hz := toList_size T
      have := rdT_short 40 T.data.toList j (by omega) (by omega) (by rw [List.length_append] at hj; rw [hz]; omega)
      rw [hz] at this
      exact this

end Go.Proofs.Ytbppibgkljjmaaa
