/-
  StoreNames: the run of the closed statement, in parts: where it is behind each part, and that it comes there. (Reckoned by the kernel.)
-/
import Derived.Test.YtaadekonikihkaaGreatDoorStoreP1
set_option linter.unusedVariables false
set_option maxRecDepth 100000
noncomputable section
namespace Go.Proofs.YtaadekonikihkaaGreatDoor.storeNames
open Go Go.RowKit Go.Proofs.YtaadekonikihkaaGreatDoor.Ev
theorem p7 : partOk Tryz.prog exts many 100000 deep 93 c6 c7 = true := by kernel_rfl
theorem p8 : partOk Tryz.prog exts many 100000 deep 1 c7 c8 = true := by kernel_rfl
theorem p9 : partOk Tryz.prog exts many 100000 deep 98 c8 c9 = true := by kernel_rfl
end Go.Proofs.YtaadekonikihkaaGreatDoor.storeNames
