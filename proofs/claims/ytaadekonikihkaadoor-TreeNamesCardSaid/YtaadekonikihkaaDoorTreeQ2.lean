/-
  TreeNames: the run of the closed statement, in parts: where it is behind each part, and that it comes there. (Reckoned by the kernel.)
-/
import Derived.Test.YtaadekonikihkaaDoorTreeP4
set_option linter.unusedVariables false
set_option maxRecDepth 100000
noncomputable section
namespace Go.Proofs.YtaadekonikihkaaDoor.treeNames
open Go Go.RowKit Go.Proofs.YtaadekonikihkaaDoor.Ev
theorem p8 : partOk Tryd.prog exts many 100000 deep 14 c7 c8 = true := by kernel_rfl
theorem p9 : partOk Tryd.prog exts many 100000 deep 14 c8 c9 = true := by kernel_rfl
theorem p10 : partOk Tryd.prog exts many 100000 deep 14 c9 c10 = true := by kernel_rfl
theorem p11 : partOk Tryd.prog exts many 100000 deep 14 c10 c11 = true := by kernel_rfl
theorem p12 : partOk Tryd.prog exts many 100000 deep 14 c11 c12 = true := by kernel_rfl
theorem p13 : partOk Tryd.prog exts many 100000 deep 14 c12 c13 = true := by kernel_rfl
theorem p14 : partOk Tryd.prog exts many 100000 deep 14 c13 c14 = true := by kernel_rfl
theorem p15 : partOk Tryd.prog exts many 100000 deep 14 c14 c15 = true := by kernel_rfl
end Go.Proofs.YtaadekonikihkaaDoor.treeNames
