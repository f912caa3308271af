/-
  TreeNames: the run of the closed statement, in parts: where it is behind each part, and that it comes there. (Reckoned by the kernel.)
-/
import Derived.Test.YtaadekonikihkaaDoorTreeP4
set_option linter.unusedVariables false
set_option maxRecDepth 100000
noncomputable section
namespace Go.Proofs.YtaadekonikihkaaDoor.treeNames
open Go Go.RowKit Go.Proofs.YtaadekonikihkaaDoor.Ev
theorem p38 : partOk Tryd.prog exts many 100000 deep 12 c37 c38 = true := by kernel_rfl
theorem p39 : partOk Tryd.prog exts many 100000 deep 12 c38 c39 = true := by kernel_rfl
theorem p40 : partOk Tryd.prog exts many 100000 deep 12 c39 c40 = true := by kernel_rfl
theorem p41 : partOk Tryd.prog exts many 100000 deep 12 c40 c41 = true := by kernel_rfl
theorem p42 : partOk Tryd.prog exts many 100000 deep 12 c41 c42 = true := by kernel_rfl
theorem p43 : partOk Tryd.prog exts many 100000 deep 12 c42 c43 = true := by kernel_rfl
theorem p44 : partOk Tryd.prog exts many 100000 deep 12 c43 c44 = true := by kernel_rfl
theorem p45 : partOk Tryd.prog exts many 100000 deep 12 c44 c45 = true := by kernel_rfl
end Go.Proofs.YtaadekonikihkaaDoor.treeNames
