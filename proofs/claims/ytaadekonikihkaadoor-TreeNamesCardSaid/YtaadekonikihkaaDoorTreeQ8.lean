/-
  TreeNames: the run of the closed statement, in parts: where it is behind each part, and that it comes there. (Reckoned by the kernel.)
-/
import Derived.Test.YtaadekonikihkaaDoorTreeP4
set_option linter.unusedVariables false
set_option maxRecDepth 100000
noncomputable section
namespace Go.Proofs.YtaadekonikihkaaDoor.treeNames
open Go Go.RowKit Go.Proofs.YtaadekonikihkaaDoor.Ev
theorem p53 : partOk Tryd.prog exts many 100000 deep 12 c52 c53 = true := by kernel_rfl
theorem p54 : partOk Tryd.prog exts many 100000 deep 12 c53 c54 = true := by kernel_rfl
theorem p55 : partOk Tryd.prog exts many 100000 deep 12 c54 c55 = true := by kernel_rfl
theorem p56 : partOk Tryd.prog exts many 100000 deep 12 c55 c56 = true := by kernel_rfl
theorem p57 : partOk Tryd.prog exts many 100000 deep 24 c56 c57 = true := by kernel_rfl
theorem p58 : partOk Tryd.prog exts many 100000 deep 24 c57 c58 = true := by kernel_rfl
theorem p59 : partOk Tryd.prog exts many 100000 deep 91 c58 c59 = true := by kernel_rfl
theorem last : lastOk Tryd.prog exts many 100000 deep 85 c59 4 true = true := by kernel_rfl
end Go.Proofs.YtaadekonikihkaaDoor.treeNames
