/-
  ValueTruths: the four calls, reckoned by the kernel.
-/
import Derived.Test.YtflgpkjmmbokkaaEd
import Derived.Test.YtflgpkjmmbokkaaRows
set_option linter.unusedVariables false
set_option maxRecDepth 100000
noncomputable section
namespace Go.Proofs.Ytflgpkjmmbokkaa.valueTruths
open Go Go.RowKit Go.Proofs.Ytflgpkjmmbokkaa.Ev
theorem e00 : extAt Try.prog 100000 St.none ⟨3, [.bool false, .bool false], .bool true⟩ = true := by kernel_rfl
theorem e01 : extAt Try.prog 100000 St.none ⟨3, [.bool false, .bool true], .bool true⟩ = true := by kernel_rfl
theorem e10 : extAt Try.prog 100000 St.none ⟨3, [.bool true, .bool false], .bool true⟩ = true := by kernel_rfl
theorem e11 : extAt Try.prog 100000 St.none ⟨3, [.bool true, .bool true], .bool true⟩ = true := by kernel_rfl
end Go.Proofs.Ytflgpkjmmbokkaa.valueTruths
