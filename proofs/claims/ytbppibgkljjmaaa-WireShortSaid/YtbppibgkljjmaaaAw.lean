/-
  THE EXAMPLES ('awake').
-/
import Derived.Test.YtbppibgkljjmaaaTk
namespace Go.Proofs.Ytbppibgkljjmaaa
open Go.RowKit
set_option linter.unusedVariables false
open Sept (sept)

theorem int_at (x : Int) (t : ByteArray) (w : World) (h0 : -9223372036854775808 ≤ x) (h1 : x ≤ 9223372036854775807) (ht : txt (sept (zig x)) = t) :
    Calls Try.prog 15 #[.string ⟨#[]⟩, .int .i64 x] w fun e w' => e = .returned (.string t) ∧ Below w.heap.size w w' := by
  subst ht
  refine (int_any ⟨#[]⟩ x w h0 h1 (by decide)).mono ?_
  rintro e w' ⟨rfl, hb⟩
  exact ⟨by rw [show (⟨#[]⟩ : ByteArray) = ByteArray.empty from rfl, ByteArray.empty_append], hb⟩

theorem sept1 (n : Nat) (h : n < 128) (t : ByteArray) (ht : txt [UInt8.ofNat n] = t) : txt (sept n) = t := by rw [Sept.sept_small n h, ht]
theorem sept2 (n : Nat) (h : 128 ≤ n) (h2 : n / 128 < 128) (t : ByteArray) (ht : txt [UInt8.ofNat (n % 128 + 128), UInt8.ofNat (n / 128)] = t) : txt (sept n) = t := by rw [Sept.sept_step n h, Sept.sept_small _ h2, ht]

theorem ex0 : txt (sept (zig 0)) = ⟨#[0]⟩ := sept1 _ (by decide) _ rfl
theorem ex1 : txt (sept (zig (-1))) = ⟨#[1]⟩ := sept1 _ (by decide) _ rfl
theorem ex2 : txt (sept (zig 1)) = ⟨#[2]⟩ := sept1 _ (by decide) _ rfl
theorem ex3 : txt (sept (zig (-64))) = ⟨#[127]⟩ := sept1 _ (by decide) _ rfl
theorem ex4 : txt (sept (zig 64)) = ⟨#[128, 1]⟩ := sept2 _ (by decide) (by decide) _ rfl

theorem ex_num : numVal ⟨#[]⟩ 300 = .tuple #[.string ⟨#[172, 2]⟩, .int .i64 0] := by
  unfold numVal
  rw [if_neg (by decide), show txt (sept (300 : Int).toNat) = ⟨#[172, 2]⟩ from sept2 300 (by decide) (by decide) _ rfl]
  rfl
theorem ex_yes : valVal ⟨#[]⟩ 2 1 ⟨#[]⟩ = .tuple #[.string ⟨#[2, 1]⟩, .int .i64 0] := by
  unfold valVal
  rw [if_pos (by decide)]
  unfold valTxt
  rw [if_neg (by decide), if_pos rfl, show txt (sept (2 : Int).toNat) = ⟨#[2]⟩ from sept1 2 (by decide) _ rfl, show txt (sept (1 : Int).toNat) = ⟨#[1]⟩ from sept1 1 (by decide) _ rfl]
  rfl
theorem ex_a : valVal ⟨#[]⟩ 3 0 ⟨#[97]⟩ = .tuple #[.string ⟨#[3, 1, 97]⟩, .int .i64 0] := by
  unfold valVal
  rw [if_pos (by decide)]
  unfold valTxt
  rw [if_neg (by decide), if_neg (by decide), if_pos rfl, show txt (sept (3 : Int).toNat) = ⟨#[3]⟩ from sept1 3 (by decide) _ rfl, show txt (sept (⟨#[97]⟩ : ByteArray).size) = ⟨#[1]⟩ from sept1 1 (by decide) _ rfl]
  rfl
theorem ex_hi : (⟨#[]⟩ : ByteArray) ++ txt (sept (⟨#[104, 105]⟩ : ByteArray).size) ++ ⟨#[104, 105]⟩ = ⟨#[2, 104, 105]⟩ := by
  rw [show txt (sept (⟨#[104, 105]⟩ : ByteArray).size) = ⟨#[2]⟩ from sept1 2 (by decide) _ rfl]
  rfl

theorem off_below {w w' : World} {o : Obj} (h : Off w.heap.size (w.alloc o) w') : Below w.heap.size w w' := by
  have hz : (w.alloc o).heap.size = w.heap.size + 1 := by show (w.heap.push o).size = _; simp
  exact ⟨h.os, h.tape, h.output, by have := h.size; omega, fun k hk => (h.block k (by omega) (by omega)).trans (Below.heap_alloc w o k hk)⟩

theorem rdN_a : rdN [128, 0] = (0, 4, []) := by decide
theorem rdN_b : rdN [128] = (0, 8, []) := by decide

theorem num_a (w : World) : Calls Try.prog 20 #[.pointer (some ⟨w.heap.size, 0, none⟩)] (w.alloc (.cells #[.string ⟨#[128, 0]⟩, .int .i64 0] 68)) fun e w' => e = .returned (.tuple #[.int .i64 0, .int .i64 4]) ∧ Below w.heap.size w w' := by
  have h := numM_any [128, 0] w.heap.size _ (by decide) (rd_new ⟨#[128, 0]⟩ w)
  rw [rdN_a] at h
  refine h.mono ?_
  rintro e w' ⟨rfl, _, hO⟩
  exact ⟨rfl, off_below hO⟩

theorem num_b (w : World) : Calls Try.prog 20 #[.pointer (some ⟨w.heap.size, 0, none⟩)] (w.alloc (.cells #[.string ⟨#[128]⟩, .int .i64 0] 68)) fun e w' => e = .returned (.tuple #[.int .i64 0, .int .i64 8]) ∧ Below w.heap.size w w' := by
  have h := numM_any [128] w.heap.size _ (by decide) (rd_new ⟨#[128]⟩ w)
  rw [rdN_b] at h
  refine h.mono ?_
  rintro e w' ⟨rfl, _, hO⟩
  exact ⟨rfl, off_below hO⟩

set_option maxRecDepth 100000 in
set_option maxHeartbeats 4000000 in
theorem awake_any (w : World) :
    Calls Try.prog 10 #[] w fun e w' => e = .returned (.bool true) ∧ Below w.heap.size w w' := by
  have HB0 := Below.refl w.heap.size w
  go_enter Try.func10, Try.ntmps10
  go_wp2_with fail
  obtain ⟨w0, hw0⟩ : ∃ w0 : World, w0 = w.alloc (Obj.cells #[Value.int IntKind.i64 0, Value.string { data := #[0] }, Value.int IntKind.i64 (-1), Value.string { data := #[1] }, Value.int IntKind.i64 1, Value.string { data := #[2] }, Value.int IntKind.i64 (-64), Value.string { data := #[127] }, Value.int IntKind.i64 64, Value.string { data := #[128, 1] }] 62) := ⟨_, rfl⟩
  rw [← hw0]
  have HB : Below w.heap.size w w0 := by rw [hw0]; exact HB0.alloc (Nat.le_refl _) _
  have hcs : ∀ j, w0.cell? ⟨w.heap.size, j, none⟩ = #[Value.int IntKind.i64 0, Value.string { data := #[0] }, Value.int IntKind.i64 (-1), Value.string { data := #[1] }, Value.int IntKind.i64 1, Value.string { data := #[2] }, Value.int IntKind.i64 (-64), Value.string { data := #[127] }, Value.int IntKind.i64 64, Value.string { data := #[128, 1] }][j]? := by
    intro j; rw [hw0]; exact World.cell?_alloc_mark w _ 62 (0, 0) j
  have hsz : w.heap.size < w0.heap.size := by rw [hw0]; show _ < (w.heap.push _).size; simp
  clear hw0 HB0
  go_loopw [20] (fun i wr => ∃ k : Nat, k ≤ 5 ∧ i = .int .i64 k ∧ Below w0.heap.size w0 wr) (fun i wr => 5 - (intOf i).toNat)
  case atStart => exact ⟨0, by omega, rfl, Below.refl _ _⟩
  case round =>
    obtain ⟨k, hk, rfl, hb⟩ := hrel
    have hcr : ∀ j, wr.cell? ⟨w.heap.size, j, none⟩ = w0.cell? ⟨w.heap.size, j, none⟩ := fun j => hb.cell (p := ⟨w.heap.size, j, none⟩) hsz
    rcases (show k = 0 ∨ k = 1 ∨ k = 2 ∨ k = 3 ∨ k = 4 ∨ k = 5 by omega) with rfl | rfl | rfl | rfl | rfl | rfl
    · have d0 := (hcr 0).trans (hcs 0)
      have d1 := (hcr 1).trans (hcs 1)
      clear hcr hcs
      go_wp2_with fail
      go_region_with (first | (go_at_call 15; ((with_reducible refine (int_at 0 _ _ (by decide) (by decide) ex0).mono ?_); rintro e w1 ⟨rfl, hb1⟩; obtain ⟨q1, q2⟩ := bcell hb1; have hz1 : wr.heap.size < w1.heap.size := (by have := hb1.size; simp at this; omega); replace hb := belowThenAD hb hb1; clear hb1)))
      all_goals go_wp2_with fail
      all_goals go_roundw
      all_goals (first | (case rel => exact ⟨1, by omega, rfl, hb⟩) | (case measure => simp [intOf]))
    · have d0 := (hcr 2).trans (hcs 2)
      have d1 := (hcr 3).trans (hcs 3)
      clear hcr hcs
      go_wp2_with fail
      go_region_with (first | (go_at_call 15; ((with_reducible refine (int_at (-1) _ _ (by decide) (by decide) ex1).mono ?_); rintro e w1 ⟨rfl, hb1⟩; obtain ⟨q1, q2⟩ := bcell hb1; have hz1 : wr.heap.size < w1.heap.size := (by have := hb1.size; simp at this; omega); replace hb := belowThenAD hb hb1; clear hb1)))
      all_goals go_wp2_with fail
      all_goals go_roundw
      all_goals (first | (case rel => exact ⟨2, by omega, rfl, hb⟩) | (case measure => simp [intOf]))
    · have d0 := (hcr 4).trans (hcs 4)
      have d1 := (hcr 5).trans (hcs 5)
      clear hcr hcs
      go_wp2_with fail
      go_region_with (first | (go_at_call 15; ((with_reducible refine (int_at 1 _ _ (by decide) (by decide) ex2).mono ?_); rintro e w1 ⟨rfl, hb1⟩; obtain ⟨q1, q2⟩ := bcell hb1; have hz1 : wr.heap.size < w1.heap.size := (by have := hb1.size; simp at this; omega); replace hb := belowThenAD hb hb1; clear hb1)))
      all_goals go_wp2_with fail
      all_goals go_roundw
      all_goals (first | (case rel => exact ⟨3, by omega, rfl, hb⟩) | (case measure => simp [intOf]))
    · have d0 := (hcr 6).trans (hcs 6)
      have d1 := (hcr 7).trans (hcs 7)
      clear hcr hcs
      go_wp2_with fail
      go_region_with (first | (go_at_call 15; ((with_reducible refine (int_at (-64) _ _ (by decide) (by decide) ex3).mono ?_); rintro e w1 ⟨rfl, hb1⟩; obtain ⟨q1, q2⟩ := bcell hb1; have hz1 : wr.heap.size < w1.heap.size := (by have := hb1.size; simp at this; omega); replace hb := belowThenAD hb hb1; clear hb1)))
      all_goals go_wp2_with fail
      all_goals go_roundw
      all_goals (first | (case rel => exact ⟨4, by omega, rfl, hb⟩) | (case measure => simp [intOf]))
    · have d0 := (hcr 8).trans (hcs 8)
      have d1 := (hcr 9).trans (hcs 9)
      clear hcr hcs
      go_wp2_with fail
      go_region_with (first | (go_at_call 15; ((with_reducible refine (int_at 64 _ _ (by decide) (by decide) ex4).mono ?_); rintro e w1 ⟨rfl, hb1⟩; obtain ⟨q1, q2⟩ := bcell hb1; have hz1 : wr.heap.size < w1.heap.size := (by have := hb1.size; simp at this; omega); replace hb := belowThenAD hb hb1; clear hb1)))
      all_goals go_wp2_with fail
      all_goals go_roundw
      all_goals (first | (case rel => exact ⟨5, by omega, rfl, hb⟩) | (case measure => simp [intOf]))
    · clear hcr hcs
      have HB2 := belowThen HB hb
      go_wp2_with (first | (go_at_call 11; ((with_reducible refine (num_any _ _ _ (by decide)).mono ?_); rintro e w1 ⟨rfl, hb1⟩; replace HB2 := belowThen HB2 hb1; clear hb1; rw [ex_num])) | (go_at_call 13; ((with_reducible refine (value_any _ _ _ _ _ (by decide) (by decide) (by decide) (by decide) (by decide) (by decide)).mono ?_); rintro e w1 ⟨rfl, hb1⟩; replace HB2 := belowThen HB2 hb1; clear hb1; (first | rw [ex_yes] | rw [ex_a]))) | (go_at_call 19; ((with_reducible refine (open_any _ _).mono ?_); rintro e w1 ⟨rfl, rfl⟩)) | (go_at_call 20; ((with_reducible first | refine (num_a _).mono ?_ | refine (num_b _).mono ?_); rintro e w1 ⟨rfl, hb1⟩; replace HB2 := belowThen HB2 hb1; clear hb1)) | (go_at_call 17; ((with_reducible refine (text_any _ _ _ (by decide) (by decide)).mono ?_); rintro e w1 ⟨rfl, hb1⟩; replace HB2 := belowThen HB2 hb1; clear hb1; rw [ex_hi])))
      go_ret
      exact ⟨rfl, HB2⟩
end Go.Proofs.Ytbppibgkljjmaaa
