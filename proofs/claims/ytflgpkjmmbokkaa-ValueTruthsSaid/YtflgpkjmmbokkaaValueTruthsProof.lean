/-
  ValueTruths holds: whatever the two truths, the statement returns true, and nothing that was there is written. (Each of the four calls is reckoned by the kernel, by an evaluator that is proved sound for the model.)
-/
import Derived.Test.YtflgpkjmmbokkaaRows
import Derived.WalkKit
import Derived.ProofKit
import Derived.OpenShut
import Derived.ShutString
import Derived.Lib.SmallJoins
import Derived.Test.YtflgpkjmmbokkaaFrame
import Derived.Test.YtflgpkjmmbokkaaValueTruthsE
namespace Go.Proofs.Ytflgpkjmmbokkaa.valueTruths
open Go.ChangeShapes Go.WideShapes Go.ChangeAt Go.RowKit
open Go.ChangeMaps (open_string shut_string)
set_option linter.unusedVariables false
open Go.Proofs.Ytflgpkjmmbokkaa.Ev
set_option maxHeartbeats 4000000 in
set_option maxRecDepth 100000 in
theorem walk (a0 : Bool) (a1 : Bool) (w : World) :
    Calls Try.prog 3 #[.bool a0, .bool a1] w fun e w' => e = .returned (.bool true) ∧ Below w.heap.size w w' := by
  have k (p q : Bool) (h : extAt Try.prog 100000 St.none ⟨3, [.bool p, .bool q], .bool true⟩ = true) :
      Calls Try.prog 3 #[.bool p, .bool q] w fun e w' => e = .returned (.bool true) ∧ Below w.heap.size w w' := by
    refine (calls_ext (ext_of h) w ⟨_, Rel.none w⟩ #[.bool p, .bool q] (by simp [RVs, RV])).mono ?_
    rintro e w' ⟨z, rfl, hz, hb⟩
    simp only [RV] at hz
    subst hz
    exact ⟨rfl, hb⟩
  cases a0 <;> cases a1
  · exact k _ _ e00
  · exact k _ _ e01
  · exact k _ _ e10
  · exact k _ _ e11

set_option maxRecDepth 100000 in
theorem proved : Rows.ValueTruthsSaid := by
  refine OpenClaim.holds_of_wide 3 Try.f3 rfl rfl rfl rfl rfl rfl rfl ⟨rfl, rfl, rfl, rfl, rfl⟩ rfl rfl rfl rfl rfl (by kernel_rfl) Try.func3 (by kernel_rfl)
    (of_decide_eq_true (by kernel_rfl)) (by unfold Func.isWrapper; first | (rw [if_pos (by decide +kernel)]; kernel_rfl) | (rw [if_neg (by decide +kernel)]; exact ⟨rfl, rfl⟩))
    (fun os started H enc _ => lawLifted (C := Try.checked) (F := Try.f3) (s := Rows.valueTruthsSpec) (conds := Rows.valueTruthsRow.domain) (by kernel_rfl) started (by kernel_rfl) Try.func3
      (ChangeSpec.witness6 (enc := enc) (C := Try.checked) false ⟨#[], #[.bool false, .bool false], []⟩ 8 (by kernel_rfl) (by kernel_rfl) (by kernel_rfl) (by kernel_rfl))
      (by kernel_rfl) (by kernel_rfl) rfl Try.underlying4
      (fun ds hl => by match ds, hl with | [d0, d1], _ => exact ⟨rfl, rfl, rfl⟩) rfl (fun W base args ds ps hval hA hcnd hsz => ?_))
  have hpar : Try.f3.params.toList = [4, 4] := rfl
  rw [hpar] at hval hA hsz
  obtain ⟨v0, vs0, d0, ds0, p0, q0, hargs, rfl, rfl, h0, r0⟩ := trodAll_cons hA
  obtain ⟨v1, vs1, d1, ds1, p1, q1, rfl, rfl, rfl, h1, r1⟩ := trodAll_cons r0
  obtain ⟨rfl, rfl, rfl⟩ := trodAll_nil r1
  obtain rfl : args = #[v0, v1] := by cases args; simp_all
  obtain ⟨a0, rfl, rfl, rfl⟩ := open_bool Try.underlying4 (hval 0 4 v0 rfl rfl) h0
  obtain ⟨a1, rfl, rfl, rfl⟩ := open_bool Try.underlying4 (hval 1 4 v1 rfl rfl) h1
  exact walk a0 a1 W
#print axioms proved
end Go.Proofs.Ytflgpkjmmbokkaa.valueTruths
