/-
  CONTRACTS of the writers: the program's 'septets' and the document's 'bytes'.
-/
import Derived.Test.YtbppibgkljjmaaaRows
import Derived.Test.YtbppibgkljjmaaaAid
import Derived.Test.YtbppibgkljjmaaaSept
namespace Go.Proofs.Ytbppibgkljjmaaa
open Go.RowKit
set_option linter.unusedVariables false
open Sept (sept)

/-- the array while it is filled -/
def filled (n k : Nat) : Array Value := (cellsOf (Sept.row n k) ++ List.replicate (10 - k) (Value.int .u8 0)).toArray

theorem filled_next (n k : Nat) (hk : k < 10) (x : Int) (hx : x = ((n / 128 ^ k % 128 + 128 : Nat) : Int)) : (filled n k).setIfInBounds k (.int .u8 x) = filled n (k + 1) := by
  have hl : (cellsOf (Sept.row n k)).length = k := by simp [cellsOf, Sept.row_length]
  have hc : cellsOf (Sept.row n (k + 1)) = cellsOf (Sept.row n k) ++ [.int .u8 x] := by
    simp only [cellsOf, Sept.row, List.map_append, List.map_cons, List.map_nil]
    rw [hx]
    simp only [UInt8.toNat_ofNat']
    have : n / 128 ^ k % 128 < 128 := Nat.mod_lt _ (by omega)
    congr 3
    omega
  have hr : List.replicate (10 - k) (Value.int .u8 0) = .int .u8 0 :: List.replicate (10 - (k + 1)) (Value.int .u8 0) := by
    rw [show 10 - k = (10 - (k + 1)) + 1 by omega, List.replicate_succ]
  unfold filled
  rw [hc, hr]
  apply Array.ext'
  simp only [Array.toList_setIfInBounds]
  rw [List.set_append_right _ _ (by omega), hl, Nat.sub_self]
  simp

/-- and at the last one -/
theorem filled_last (n k : Nat) (hk : k < 10) (x : Int) (hx : x = ((n / 128 ^ k : Nat) : Int)) (hl : n / 128 ^ k < 128) (hm : ∀ j, j < k → 128 ≤ n / 128 ^ j) :
    (filled n k).setIfInBounds k (.int .u8 x) = (cellsOf (sept n) ++ List.replicate (10 - (k + 1)) (Value.int .u8 0)).toArray := by
  have hlen : (cellsOf (Sept.row n k)).length = k := by simp [cellsOf, Sept.row_length]
  have hc : cellsOf (sept n) = cellsOf (Sept.row n k) ++ [.int .u8 x] := by
    rw [Sept.sept_row n k hl hm]
    simp only [cellsOf, List.map_append, List.map_cons, List.map_nil]
    rw [hx]
    simp only [UInt8.toNat_ofNat']
    congr 3
    rw [Nat.mod_eq_of_lt (by omega)]
  have hr : List.replicate (10 - k) (Value.int .u8 0) = .int .u8 0 :: List.replicate (10 - (k + 1)) (Value.int .u8 0) := by
    rw [show 10 - k = (10 - (k + 1)) + 1 by omega, List.replicate_succ]
  unfold filled
  rw [hc, hr]
  apply Array.ext'
  simp only [Array.toList_setIfInBounds]
  rw [List.set_append_right _ _ (by omega), hlen, Nat.sub_self]
  simp

theorem or128 (x : Int) (h0 : 0 ≤ x) (h1 : x < 256) : bits .or .u8 x 128 = x % 128 + 128 := by
  obtain ⟨m, rfl⟩ := Int.eq_ofNat_of_zero_le h0
  have := u8_or_nat m 128 (by omega) (by omega)
  rw [show ((128 : Int)) = ((128 : Nat) : Int) from rfl, this]
  have e : m ||| 128 = m % 128 + 128 := by
    have hd : m = m / 128 * 128 + m % 128 := by omega
    have h2 : m / 128 = 0 ∨ m / 128 = 1 := by omega
    rcases h2 with h2 | h2
    · rw [Nat.or_comm, nat_join 7 128 m (by omega) (by omega)]; omega
    · have e1 : m = 128 ||| (m % 128) := by rw [nat_join 7 128 (m % 128) (by omega) (by omega)]; omega
      rw [e1, Nat.or_assoc, Nat.or_comm (m % 128), ← Nat.or_assoc, Nat.or_self, nat_join 7 128 (m % 128) (by omega) (by omega)]
      omega
  rw [e]
  omega

theorem filled_cell (n k : Nat) (hk : k < 10) (w : World) : (w.alloc (.cells (filled n k) 81)).cell? ⟨w.heap.size, k, none⟩ = some (.int .u8 0) := by
  have hl : (cellsOf (Sept.row n k)).length = k := by simp [cellsOf, Sept.row_length]
  rw [World.cell?_alloc_mark w (filled n k) 81 (0, 0) k]
  unfold filled
  rw [List.getElem?_toArray, List.getElem?_append_right (by omega), hl, Nat.sub_self, show 10 - k = (10 - (k + 1)) + 1 by omega, List.replicate_succ]
  rfl

/-- 'b[:h]' of the array of ten bytes -/
theorem slice_arr (a : Addr) (h : Nat) (hh : h ≤ 10) (w : World) : (Instr.sliceAt 81 (.pointer (some a)) none (some (.int .i64 (h : Int))) none).run Try.prog w = .ok (.slice (some a) h 10) w := by
  have ht : Try.prog.underlying 81 = some (.array (Try.prog.arrayLen 81) (Try.prog.elem 81)) := by kernel_rfl
  have e10 : Try.prog.arrayLen 81 = 10 := by kernel_rfl
  have es : (sizeOf (Try.prog.elem 81)).run Try.prog w = Result.ok 1 w := by kernel_rfl
  rw [run_sliceAt_array_h w 81 a ht .i64 (h : Int) (by omega) (by rw [e10]; omega), es]
  simp [Result.andThen, slicedAt, e10, Addr.add]

theorem septets_any (n : Nat) (w : World) (hn : n < 18446744073709551616) :
    Calls Try.prog 34 #[.int .u64 (n : Int)] w fun e w' => e = .returned (.string ⟨(sept n).toArray⟩) ∧ Below w.heap.size w w' := by
  have HB := Below.refl w.heap.size w
  have hn0 : (0 : Int) ≤ (n : Int) := by omega
  have hn1 : (n : Int) ≤ 18446744073709551615 := by omega
  go_enter Try.func34, Try.ntmps34
  go_wp2
  go_loopw [0, 4] (fun v i wr => ∃ k : Nat, k ≤ 9 ∧ i = .int .i64 k ∧ v = .int .u64 ((n / 128 ^ k : Nat) : Int) ∧ (∀ j, j < k → 128 ≤ n / 128 ^ j) ∧ wr = w.alloc (.cells (filled n k) 81)) (fun _ i _ => 10 - (intOf i).toNat)
  case atStart => exact ⟨0, by omega, rfl, by simp, fun j hj => by omega, rfl⟩
  case round =>
    obtain ⟨k, hk, rfl, rfl, hm, rfl⟩ := hrel
    have hm' := Lib.hid hm
    clear hm
    have hle : n / 128 ^ k ≤ n := Nat.div_le_self _ _
    obtain ⟨m, hmv⟩ : ∃ m, n / 128 ^ k = m := ⟨_, rfl⟩
    have HM := Lib.hid hmv
    rw [hmv] at hle ⊢
    clear hmv
    have hm0 : (0 : Int) ≤ (m : Int) := by omega
    have hm1 : (m : Int) ≤ 18446744073709551615 := by omega
    have hk9 : (k : Int) ≤ 9 := by omega
    have hk0 : (0 : Int) ≤ (k : Int) := by omega
    have hcell := filled_cell n k (by omega) w
    have ho : bits .or .u8 ((m : Int) % 256) 128 = (m : Int) % 128 + 128 := by rw [or128 _ (by omega) (by omega)]; omega
    by_cases hlt : 127 < m
    · go_wp2
      go_roundw
      case rel =>
        go_light
        have hpow : n / 128 ^ (k + 1) = m / 128 := by rw [Nat.pow_succ, ← Nat.div_div_eq_div_mul, HM.out]
        have hk8 : k + 1 ≤ 9 := by
          by_cases e : k = 9
          · subst e
            have h9 := HM.out
            rw [Sept.pow9] at h9
            omega
          · omega
        refine ⟨k + 1, hk8, by go_num, ?_, ?_, ?_⟩
        · rw [hpow]; go_num
        · intro j hj
          by_cases e : j = k
          · rw [e, HM.out]; omega
          · exact hm'.out j (by omega)
        · rw [filled_next n k (by omega) _ (by rw [HM.out]; omega)]
      case measure => simp [intOf]; omega
    · have hsl := slice_arr ⟨w.heap.size, 0, none⟩ (k + 1) (by omega)
      have e1 : ((k + 1 : Nat) : Int) = (k : Int) + 1 := by omega
      rw [e1] at hsl
      have hsl := fun wx => hsl wx
      clear e1
      have hfl := filled_last n k (by omega) (m : Int) (by rw [HM.out]) (by rw [HM.out]; omega) hm'.out
      have hlen : (sept n).length = k + 1 := by rw [Sept.sept_row n k (by rw [HM.out]; omega) hm'.out]; simp [Sept.row_length]
      have htx := bytes_text (P := Try.prog) (bytes_block w (sept n) (List.replicate (10 - (k + 1)) (.int .u8 0)) 81 (0, 0)) 32 9 5 (k + 1) 10 hlen.symm Try.underlying32 Try.underlying5 Try.underlying9
      rw [← hfl] at htx
      clear hfl hlen
      go_wp2
      go_ret
      exact ⟨rfl, HB.alloc (Nat.le_refl _) _⟩
end Go.Proofs.Ytbppibgkljjmaaa
