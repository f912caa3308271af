/-
  StoreNames: the run of the closed statement, in parts: where it is behind each part, and that it comes there. (Reckoned by the kernel.)
-/
import Derived.Test.YtaadekonikihkaaGreatDoorStoreP1
set_option linter.unusedVariables false
set_option maxRecDepth 100000
noncomputable section
namespace Go.Proofs.YtaadekonikihkaaGreatDoor.storeNames
open Go Go.RowKit Go.Proofs.YtaadekonikihkaaGreatDoor.Ev
theorem p4 : partOk Tryz.prog exts many 100000 deep 1 c3 c4 = true := by kernel_rfl
theorem p5 : partOk Tryz.prog exts many 100000 deep 131 c4 c5 = true := by kernel_rfl
theorem p6 : partOk Tryz.prog exts many 100000 deep 1 c5 c6 = true := by kernel_rfl
end Go.Proofs.YtaadekonikihkaaGreatDoor.storeNames
