/-
  TreeNames: the run of the closed statement, in parts: where it is behind each part, and that it comes there. (Reckoned by the kernel.)
-/
import Derived.Test.YtaadekonikihkaaDoorTreeP4
set_option linter.unusedVariables false
set_option maxRecDepth 100000
noncomputable section
namespace Go.Proofs.YtaadekonikihkaaDoor.treeNames
open Go Go.RowKit Go.Proofs.YtaadekonikihkaaDoor.Ev
theorem p31 : partOk Tryd.prog exts many 100000 deep 53 c30 c31 = true := by kernel_rfl
theorem p32 : partOk Tryd.prog exts many 100000 deep 1 c31 c32 = true := by kernel_rfl
theorem p33 : partOk Tryd.prog exts many 100000 deep 58 c32 c33 = true := by kernel_rfl
theorem p34 : partOk Tryd.prog exts many 100000 deep 12 c33 c34 = true := by kernel_rfl
theorem p35 : partOk Tryd.prog exts many 100000 deep 12 c34 c35 = true := by kernel_rfl
theorem p36 : partOk Tryd.prog exts many 100000 deep 12 c35 c36 = true := by kernel_rfl
theorem p37 : partOk Tryd.prog exts many 100000 deep 12 c36 c37 = true := by kernel_rfl
end Go.Proofs.YtaadekonikihkaaDoor.treeNames
