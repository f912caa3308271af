/-
  GateNames: the run of the closed statement, in parts: where it is behind each part, and that it comes there. (Reckoned by the kernel.)
-/
import Derived.Test.YtcmibpliaaknmaaGreatDoorGateP1
set_option linter.unusedVariables false
set_option maxRecDepth 100000
noncomputable section
namespace Go.Proofs.YtcmibpliaaknmaaGreatDoor.gateNames
open Go Go.RowKit Go.Proofs.YtcmibpliaaknmaaGreatDoor.Ev
theorem last : lastOk Tryz.prog exts many 100000 deep 7 c3 8 true = true := by kernel_rfl
end Go.Proofs.YtcmibpliaaknmaaGreatDoor.gateNames
