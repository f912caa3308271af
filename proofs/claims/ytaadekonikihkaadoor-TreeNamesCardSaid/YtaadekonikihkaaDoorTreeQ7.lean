/-
  TreeNames: the run of the closed statement, in parts: where it is behind each part, and that it comes there. (Reckoned by the kernel.)
-/
import Derived.Test.YtaadekonikihkaaDoorTreeP4
set_option linter.unusedVariables false
set_option maxRecDepth 100000
noncomputable section
namespace Go.Proofs.YtaadekonikihkaaDoor.treeNames
open Go Go.RowKit Go.Proofs.YtaadekonikihkaaDoor.Ev
theorem p46 : partOk Tryd.prog exts many 100000 deep 12 c45 c46 = true := by kernel_rfl
theorem p47 : partOk Tryd.prog exts many 100000 deep 12 c46 c47 = true := by kernel_rfl
theorem p48 : partOk Tryd.prog exts many 100000 deep 12 c47 c48 = true := by kernel_rfl
theorem p49 : partOk Tryd.prog exts many 100000 deep 12 c48 c49 = true := by kernel_rfl
theorem p50 : partOk Tryd.prog exts many 100000 deep 12 c49 c50 = true := by kernel_rfl
theorem p51 : partOk Tryd.prog exts many 100000 deep 12 c50 c51 = true := by kernel_rfl
theorem p52 : partOk Tryd.prog exts many 100000 deep 12 c51 c52 = true := by kernel_rfl
end Go.Proofs.YtaadekonikihkaaDoor.treeNames
