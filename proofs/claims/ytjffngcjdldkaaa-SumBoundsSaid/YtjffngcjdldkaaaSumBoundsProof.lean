/-
  SumBounds: for every text, every place and every number of zero bytes the law of package sum returns true: both numbers are 0 to 65520, the first one does not hang on the row of the bytes, zero bytes add the first to the second; nothing is written. No condition.
-/
import Derived.Test.YtjffngcjdldkaaaRows
import Derived.WalkKit
import Derived.ProofKit
import Derived.OpenShut
import Derived.ShutString
import Derived.Test.YtjffngcjdldkaaaFrame
import Derived.Test.YtjffngcjdldkaaaCalls
namespace Go.Proofs.Ytjffngcjdldkaaa.sumBounds
open Go.ChangeShapes Go.WideShapes Go.ChangeAt Go.RowKit
open Go.ChangeMaps (open_string shut_string)
set_option linter.unusedVariables false
open Adler (add lo hi fold)

set_option maxHeartbeats 4000000 in
set_option maxRecDepth 100000 in
theorem walk (a0 : ByteArray) (w0 : a0.size ≤ 140737488351232) (a1 : Int) (w1 : (Lit.int .i64 a1).wf = true) (a2 : Int) (w2 : (Lit.int .i64 a2).wf = true) (w : World) :
    Calls Try.prog 7 #[.string a0, .int .i64 a1, .int .i64 a2] w fun e w' => e = .returned (.bool true) ∧ Below w.heap.size w w' := by
  have hs0 : a0.size ≤ maxLen := by unfold maxLen; omega
  have HB := Below.refl w.heap.size w
  by_cases hl : 40000 < a0.size
  · go_enter Try.func7, Try.ntmps7
    go_wp2_with (first | (go_at_call 8; refine (works_any _).mono ?_; rintro e w' ⟨rfl, hb⟩; replace HB := belowThen HB hb; clear hb))
    go_ret
    exact ⟨rfl, HB⟩
  · obtain ⟨b1, b2, b3, b4⟩ := Adler.add_lim a0.data.toList
    obtain ⟨k, hk, ek⟩ := rem_place a1 a0.size (by omega)
    have hk' : (k : Int) ≤ a0.size := by omega
    have hk0 : (0 : Int) ≤ k := by omega
    have hm0 : 0 ≤ (IntKind.u64.wrap a2).tmod 500 ∧ (IntKind.u64.wrap a2).tmod 500 < 500 := by rw [IntKind.wrap_u64, tmod_of_emod]; omega
    obtain ⟨m, hm, em⟩ : ∃ m : Nat, m < 500 ∧ wrap64 ((IntKind.u64.wrap a2).tmod 500) = (m : Int) := ⟨((IntKind.u64.wrap a2).tmod 500).toNat, by omega, by rw [IntWalk.wrap64_in _ ⟨by omega, by omega⟩]; omega⟩
    clear hm0
    have hm1 : (m : Int) < 500 := by omega
    have hm2 : (0 : Int) ≤ m := by omega
    have hmk := zero_make m hm
    have htx := zero_text m
    have hs2 : (a0 ++ (⟨Array.replicate m 0⟩ : ByteArray)).size ≤ maxLen := by
      have hz : (⟨Array.replicate m 0⟩ : ByteArray).size = m := by show (Array.replicate m (0 : UInt8)).size = m; simp
      unfold maxLen; rw [ByteArray.size_append, hz]; omega
    have q1 : lo (add 1 (List.take (a0.size - k) (List.drop k a0.data.toList) ++ List.take k a0.data.toList)) = lo (add 1 a0.data.toList) := by
      rw [List.take_of_length_le (by simp), Adler.lo_turned]
    obtain ⟨q2, q3⟩ := Adler.add_zeros a0.data.toList m
    have q4 : 0 ≤ (m : Int) * lo (add 1 a0.data.toList) := Int.mul_nonneg hm2 b1
    have q5 : (m : Int) * lo (add 1 a0.data.toList) ≤ 500 * 65520 := Int.mul_le_mul (by omega) b2 b1 (by omega)
    have hs1 : (a0.extract k a0.size ++ a0.extract 0 k).size ≤ maxLen := by unfold maxLen; simp [ByteArray.size_append]; omega
    go_enter Try.func7, Try.ntmps7
    go_wp2_with (first | (go_at_call 8; refine (works_any _).mono ?_; rintro e w' ⟨rfl, hb⟩; replace HB := belowThen HB hb; clear hb) | (go_at_call 11; refine (sum_any _ _ (by first | assumption | decide)).mono ?_; rintro e w' ⟨rfl, hb⟩; replace HB := belowThen HB hb; clear hb) | (go_at_call 12; refine (both_sum _ _).mono ?_; rintro e w' ⟨rfl, rfl⟩))
    rw [ek]
    clear ek
    go_region_with (first | (go_at_call 11; ((with_reducible refine (sum_any _ _ hs1).mono ?_); rintro e w' ⟨rfl, hb⟩; replace HB := belowThenD HB hb; clear hb)) | (go_at_call 12; ((with_reducible refine (both_sum _ _).mono ?_); rintro e w' ⟨rfl, rfl⟩)))
    go_wp2_with (fail)
    rw [em]
    clear em
    go_wp2_with (first | (go_at_call 11; ((with_reducible refine (sum_any _ _ hs2).mono ?_); rintro e w' ⟨rfl, hb⟩; replace HB := belowThenA HB hb; clear hb)) | (go_at_call 12; ((with_reducible refine (both_sum _ _).mono ?_); rintro e w' ⟨rfl, rfl⟩)))
    go_ret
    exact ⟨rfl, HB⟩

set_option maxRecDepth 100000 in
theorem proved : Rows.SumBoundsSaid := by
  refine OpenClaim.holds_of_wide 7 Try.f7 rfl rfl rfl rfl rfl rfl rfl ⟨rfl, rfl, rfl, rfl, rfl⟩ rfl rfl rfl rfl rfl (by kernel_rfl) Try.func7 (by kernel_rfl)
    (of_decide_eq_true (by kernel_rfl)) (by unfold Func.isWrapper; first | (rw [if_pos (by decide +kernel)]; kernel_rfl) | (rw [if_neg (by decide +kernel)]; exact ⟨rfl, rfl⟩))
    (fun os started H enc _ => lawLifted (C := Try.checked) (F := Try.f7) (s := Rows.sumBoundsSpec) (conds := Rows.sumBoundsRow.domain) (by kernel_rfl) started (by kernel_rfl) Try.func7
      (ChangeSpec.witness6 (enc := enc) (C := Try.checked) false ⟨#[], #[.string ByteArray.empty, .int .i64 0, .int .i64 0], []⟩ 8 (by kernel_rfl) (by kernel_rfl) (by kernel_rfl) (by kernel_rfl))
      (by kernel_rfl) (by kernel_rfl) rfl Try.underlying4
      (fun ds hl => by match ds, hl with | [d0, d1, d2], _ => exact ⟨rfl, rfl, rfl⟩) rfl (fun W base args ds ps hval hA hcnd hsz => ?_))
  have hpar : Try.f7.params.toList = [9, 3, 3] := rfl
  rw [hpar] at hval hA hsz
  obtain ⟨v0, vs0, d0, ds0, p0, q0, hargs, rfl, rfl, h0, r0⟩ := trodAll_cons hA
  obtain ⟨v1, vs1, d1, ds1, p1, q1, rfl, rfl, rfl, h1, r1⟩ := trodAll_cons r0
  obtain ⟨v2, vs2, d2, ds2, p2, q2, rfl, rfl, rfl, h2, r2⟩ := trodAll_cons r1
  obtain ⟨rfl, rfl, rfl⟩ := trodAll_nil r2
  obtain rfl : args = #[v0, v1, v2] := by cases args; simp_all
  obtain ⟨a0, rfl, rfl, rfl, w0⟩ := open_string Try.underlying9 (hval 0 9 v0 rfl rfl) h0
  have s0 : a0.size ≤ 140737488351232 := by have := sized_string hsz (j := 0) rfl rfl; simpa [reachBytes] using this
  obtain ⟨a1, rfl, rfl, rfl, w1⟩ := open_int Try.underlying3 (hval 1 3 v1 rfl rfl) h1
  obtain ⟨a2, rfl, rfl, rfl, w2⟩ := open_int Try.underlying3 (hval 2 3 v2 rfl rfl) h2
  exact walk a0 s0 a1 w1 a2 w2 W
#print axioms proved
end Go.Proofs.Ytjffngcjdldkaaa.sumBounds
