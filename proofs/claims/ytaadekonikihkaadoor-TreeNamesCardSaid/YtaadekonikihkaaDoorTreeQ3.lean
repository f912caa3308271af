/-
  TreeNames: the run of the closed statement, in parts: where it is behind each part, and that it comes there. (Reckoned by the kernel.)
-/
import Derived.Test.YtaadekonikihkaaDoorTreeP4
set_option linter.unusedVariables false
set_option maxRecDepth 100000
noncomputable section
namespace Go.Proofs.YtaadekonikihkaaDoor.treeNames
open Go Go.RowKit Go.Proofs.YtaadekonikihkaaDoor.Ev
theorem p16 : partOk Tryd.prog exts many 100000 deep 14 c15 c16 = true := by kernel_rfl
theorem p17 : partOk Tryd.prog exts many 100000 deep 14 c16 c17 = true := by kernel_rfl
theorem p18 : partOk Tryd.prog exts many 100000 deep 14 c17 c18 = true := by kernel_rfl
theorem p19 : partOk Tryd.prog exts many 100000 deep 14 c18 c19 = true := by kernel_rfl
theorem p20 : partOk Tryd.prog exts many 100000 deep 14 c19 c20 = true := by kernel_rfl
theorem p21 : partOk Tryd.prog exts many 100000 deep 14 c20 c21 = true := by kernel_rfl
theorem p22 : partOk Tryd.prog exts many 100000 deep 14 c21 c22 = true := by kernel_rfl
end Go.Proofs.YtaadekonikihkaaDoor.treeNames
