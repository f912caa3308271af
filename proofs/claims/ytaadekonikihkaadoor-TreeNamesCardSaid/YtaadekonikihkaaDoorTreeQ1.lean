/-
  TreeNames: the run of the closed statement, in parts: where it is behind each part, and that it comes there. (Reckoned by the kernel.)
-/
import Derived.Test.YtaadekonikihkaaDoorTreeP4
set_option linter.unusedVariables false
set_option maxRecDepth 100000
noncomputable section
namespace Go.Proofs.YtaadekonikihkaaDoor.treeNames
open Go Go.RowKit Go.Proofs.YtaadekonikihkaaDoor.Ev
theorem p1 : partOk Tryd.prog exts many 100000 deep 56 (startC Tryd.prog 4 s0) c1 = true := by kernel_rfl
theorem p2 : partOk Tryd.prog exts many 100000 deep 46 c1 c2 = true := by kernel_rfl
theorem p3 : partOk Tryd.prog exts many 100000 deep 28 c2 c3 = true := by kernel_rfl
theorem p4 : partOk Tryd.prog exts many 100000 deep 14 c3 c4 = true := by kernel_rfl
theorem p5 : partOk Tryd.prog exts many 100000 deep 14 c4 c5 = true := by kernel_rfl
theorem p6 : partOk Tryd.prog exts many 100000 deep 14 c5 c6 = true := by kernel_rfl
theorem p7 : partOk Tryd.prog exts many 100000 deep 14 c6 c7 = true := by kernel_rfl
end Go.Proofs.YtaadekonikihkaaDoor.treeNames
