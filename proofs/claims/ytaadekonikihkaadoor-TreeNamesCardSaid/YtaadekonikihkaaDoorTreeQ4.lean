/-
  TreeNames: the run of the closed statement, in parts: where it is behind each part, and that it comes there. (Reckoned by the kernel.)
-/
import Derived.Test.YtaadekonikihkaaDoorTreeP4
set_option linter.unusedVariables false
set_option maxRecDepth 100000
noncomputable section
namespace Go.Proofs.YtaadekonikihkaaDoor.treeNames
open Go Go.RowKit Go.Proofs.YtaadekonikihkaaDoor.Ev
theorem p23 : partOk Tryd.prog exts many 100000 deep 14 c22 c23 = true := by kernel_rfl
theorem p24 : partOk Tryd.prog exts many 100000 deep 14 c23 c24 = true := by kernel_rfl
theorem p25 : partOk Tryd.prog exts many 100000 deep 14 c24 c25 = true := by kernel_rfl
theorem p26 : partOk Tryd.prog exts many 100000 deep 14 c25 c26 = true := by kernel_rfl
theorem p27 : partOk Tryd.prog exts many 100000 deep 14 c26 c27 = true := by kernel_rfl
theorem p28 : partOk Tryd.prog exts many 100000 deep 14 c27 c28 = true := by kernel_rfl
theorem p29 : partOk Tryd.prog exts many 100000 deep 39 c28 c29 = true := by kernel_rfl
theorem p30 : partOk Tryd.prog exts many 100000 deep 1 c29 c30 = true := by kernel_rfl
end Go.Proofs.YtaadekonikihkaaDoor.treeNames
