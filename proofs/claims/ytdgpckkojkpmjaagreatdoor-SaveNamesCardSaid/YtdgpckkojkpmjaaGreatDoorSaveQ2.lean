/-
  SaveNames: the run of the closed statement, in parts: where it is behind each part, and that it comes there. (Reckoned by the kernel.)
-/
import Derived.Test.YtdgpckkojkpmjaaGreatDoorSaveP1
set_option linter.unusedVariables false
set_option maxRecDepth 100000
noncomputable section
namespace Go.Proofs.YtdgpckkojkpmjaaGreatDoor.saveNames
open Go Go.RowKit Go.Proofs.YtdgpckkojkpmjaaGreatDoor.Ev
theorem p1 : partOk Tryz.prog exts many 100000 deep 177 (startC Tryz.prog 3 s0) c1 = true := by kernel_rfl
end Go.Proofs.YtdgpckkojkpmjaaGreatDoor.saveNames
