/-
  SumPieces: for every two texts the law of package sum returns true: the sum of both, one behind the other, is the first one's sum continued by the second; nothing is written. No condition.
-/
import Derived.Test.YtjffngcjdldkaaaRows
import Derived.WalkKit
import Derived.ProofKit
import Derived.OpenShut
import Derived.ShutString
import Derived.Test.YtjffngcjdldkaaaFrame
import Derived.Test.YtjffngcjdldkaaaCalls
namespace Go.Proofs.Ytjffngcjdldkaaa.sumPieces
open Go.ChangeShapes Go.WideShapes Go.ChangeAt Go.RowKit
open Go.ChangeMaps (open_string shut_string)
set_option linter.unusedVariables false
open Adler (add lo hi fold)

set_option maxHeartbeats 4000000 in
set_option maxRecDepth 100000 in
theorem walk (a0 : ByteArray) (w0 : a0.size ≤ 140737488351232) (a1 : ByteArray) (w1 : a1.size ≤ 140737488351232) (w : World) :
    Calls Try.prog 5 #[.string a0, .string a1] w fun e w' => e = .returned (.bool true) ∧ Below w.heap.size w w' := by
  have hs0 : a0.size ≤ maxLen := by unfold maxLen; omega
  have hs1 : a1.size ≤ maxLen := by unfold maxLen; omega
  have HB := Below.refl w.heap.size w
  by_cases hl : 40000 < a0.size + a1.size
  · have hl' : (40000 : Int) < (a0.size : Int) + (a1.size : Int) := by omega
    go_enter Try.func5, Try.ntmps5
    go_wp2_with (first | (go_at_call 8; refine (works_any _).mono ?_; rintro e w' ⟨rfl, hb⟩; replace HB := belowThen HB hb; clear hb))
    go_ret
    exact ⟨rfl, HB⟩
  · have hl' : (a0.size : Int) + (a1.size : Int) ≤ 40000 := by omega
    have hs2 : (a0 ++ a1).size ≤ maxLen := by unfold maxLen; simp [ByteArray.size_append]; omega
    have hb0 := Adler.add_bd 1 a0.data.toList (by omega) (by omega)
    have e1 := Adler.add_append 1 a0.data.toList a1.data.toList (by omega) (by omega)
    have e2 : add (add 1 a0.data.toList) [] = add 1 a0.data.toList := Adler.add_nil _
    have e3 : (a0 ++ a1).data.toList = a0.data.toList ++ a1.data.toList := by simp
    go_enter Try.func5, Try.ntmps5
    go_wp2_with (first | (go_at_call 8; refine (works_any _).mono ?_; rintro e w' ⟨rfl, hb⟩; replace HB := belowThen HB hb; clear hb) | (go_at_call 11; refine (sum_any _ _ (by first | assumption | decide)).mono ?_; rintro e w' ⟨rfl, hb⟩; replace HB := belowThen HB hb; clear hb) | (go_at_call 10; refine (add_any _ _ _ hb0.1 hb0.2 (by first | assumption | decide)).mono ?_; rintro e w' ⟨rfl, hb⟩; replace HB := belowThen HB hb; clear hb))
    go_ret
    exact ⟨rfl, HB⟩

set_option maxRecDepth 100000 in
theorem proved : Rows.SumPiecesSaid := by
  refine OpenClaim.holds_of_wide 5 Try.f5 rfl rfl rfl rfl rfl rfl rfl ⟨rfl, rfl, rfl, rfl, rfl⟩ rfl rfl rfl rfl rfl (by kernel_rfl) Try.func5 (by kernel_rfl)
    (of_decide_eq_true (by kernel_rfl)) (by unfold Func.isWrapper; first | (rw [if_pos (by decide +kernel)]; kernel_rfl) | (rw [if_neg (by decide +kernel)]; exact ⟨rfl, rfl⟩))
    (fun os started H enc _ => lawLifted (C := Try.checked) (F := Try.f5) (s := Rows.sumPiecesSpec) (conds := Rows.sumPiecesRow.domain) (by kernel_rfl) started (by kernel_rfl) Try.func5
      (ChangeSpec.witness6 (enc := enc) (C := Try.checked) false ⟨#[], #[.string ByteArray.empty, .string ByteArray.empty], []⟩ 8 (by kernel_rfl) (by kernel_rfl) (by kernel_rfl) (by kernel_rfl))
      (by kernel_rfl) (by kernel_rfl) rfl Try.underlying4
      (fun ds hl => by match ds, hl with | [d0, d1], _ => exact ⟨rfl, rfl, rfl⟩) rfl (fun W base args ds ps hval hA hcnd hsz => ?_))
  have hpar : Try.f5.params.toList = [9, 9] := rfl
  rw [hpar] at hval hA hsz
  obtain ⟨v0, vs0, d0, ds0, p0, q0, hargs, rfl, rfl, h0, r0⟩ := trodAll_cons hA
  obtain ⟨v1, vs1, d1, ds1, p1, q1, rfl, rfl, rfl, h1, r1⟩ := trodAll_cons r0
  obtain ⟨rfl, rfl, rfl⟩ := trodAll_nil r1
  obtain rfl : args = #[v0, v1] := by cases args; simp_all
  obtain ⟨a0, rfl, rfl, rfl, w0⟩ := open_string Try.underlying9 (hval 0 9 v0 rfl rfl) h0
  have s0 : a0.size ≤ 140737488351232 := by have := sized_string hsz (j := 0) rfl rfl; simpa [reachBytes] using this
  obtain ⟨a1, rfl, rfl, rfl, w1⟩ := open_string Try.underlying9 (hval 1 9 v1 rfl rfl) h1
  have s1 : a1.size ≤ 140737488351232 := by have := sized_string hsz (j := 1) rfl rfl; simpa [reachBytes] using this
  exact walk a0 s0 a1 s1 W
#print axioms proved
end Go.Proofs.Ytjffngcjdldkaaa.sumPieces
