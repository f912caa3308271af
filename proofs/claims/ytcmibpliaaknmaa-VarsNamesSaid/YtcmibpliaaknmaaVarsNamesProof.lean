/-
  VarsNames holds: on every start the closed statement returns true, and nothing that was there is written. No condition. (The call is reckoned by the kernel, by an evaluator that is proved sound for the model.)
-/
import Derived.Test.YtcmibpliaaknmaaRows
import Derived.WalkKit
import Derived.ProofKit
import Derived.OpenShut
import Derived.ShutString
import Derived.Lib.SmallJoins
import Derived.Test.YtcmibpliaaknmaaFrame
import Derived.Test.YtcmibpliaaknmaaVarsP1
namespace Go.Proofs.Ytcmibpliaaknmaa.varsNames
open Go.ChangeShapes Go.WideShapes Go.ChangeAt Go.RowKit
open Go.ChangeMaps (open_string shut_string)
set_option linter.unusedVariables false

set_option maxHeartbeats 4000000 in
set_option maxRecDepth 100000 in
theorem walk  (w : World) :
    Calls Try.prog 4 #[] w fun e w' => e = .returned (.bool true) ∧ Below w.heap.size w w' := by
  exact Go.Proofs.Ytcmibpliaaknmaa.varsNames.walked w

set_option maxRecDepth 100000 in
theorem proved : Rows.VarsNamesSaid := by
  refine OpenClaim.holds_of_wide 4 Try.f4 rfl rfl rfl rfl rfl rfl rfl ⟨rfl, rfl, rfl, rfl, rfl⟩ rfl rfl rfl rfl rfl (by kernel_rfl) Try.func4 (by kernel_rfl)
    (of_decide_eq_true (by kernel_rfl)) (by unfold Func.isWrapper; first | (rw [if_pos (by decide +kernel)]; kernel_rfl) | (rw [if_neg (by decide +kernel)]; exact ⟨rfl, rfl⟩))
    (fun os started H enc _ => lawLifted (C := Try.checked) (F := Try.f4) (s := Rows.varsNamesSpec) (conds := Rows.varsNamesRow.domain) (by kernel_rfl) started (by kernel_rfl) Try.func4
      (ChangeSpec.witness6 (enc := enc) (C := Try.checked) false ⟨#[], #[], []⟩ 8 (by kernel_rfl) (by kernel_rfl) (by kernel_rfl) (by kernel_rfl))
      (by kernel_rfl) (by kernel_rfl) rfl Try.underlying4
      (fun ds hl => by match ds, hl with | [], _ => exact ⟨rfl, rfl, rfl⟩) rfl (fun W base args ds ps hval hA hcnd hsz => ?_))
  have hpar : Try.f4.params.toList = [] := rfl
  rw [hpar] at hval hA hsz
  obtain ⟨hargs, rfl, rfl⟩ := trodAll_nil hA
  obtain rfl : args = #[] := by cases args; simp_all
  exact walk  W
#print axioms proved
end Go.Proofs.Ytcmibpliaaknmaa.varsNames
