/-
  StoreNames: the run of the closed statement, in parts: where it is behind each part, and that it comes there. (Reckoned by the kernel.)
-/
import Derived.Test.YtaadekonikihkaaGreatDoorStoreP1
set_option linter.unusedVariables false
set_option maxRecDepth 100000
noncomputable section
namespace Go.Proofs.YtaadekonikihkaaGreatDoor.storeNames
open Go Go.RowKit Go.Proofs.YtaadekonikihkaaGreatDoor.Ev
theorem p10 : partOk Tryz.prog exts many 100000 deep 1 c9 c10 = true := by kernel_rfl
theorem p11 : partOk Tryz.prog exts many 100000 deep 55 c10 c11 = true := by kernel_rfl
theorem p12 : partOk Tryz.prog exts many 100000 deep 1 c11 c12 = true := by kernel_rfl
theorem last : lastOk Tryz.prog exts many 100000 deep 16 c12 3 true = true := by kernel_rfl
end Go.Proofs.YtaadekonikihkaaGreatDoor.storeNames
