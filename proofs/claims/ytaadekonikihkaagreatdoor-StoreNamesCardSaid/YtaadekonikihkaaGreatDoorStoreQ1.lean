/-
  StoreNames: the run of the closed statement, in parts: where it is behind each part, and that it comes there. (Reckoned by the kernel.)
-/
import Derived.Test.YtaadekonikihkaaGreatDoorStoreP1
set_option linter.unusedVariables false
set_option maxRecDepth 100000
noncomputable section
namespace Go.Proofs.YtaadekonikihkaaGreatDoor.storeNames
open Go Go.RowKit Go.Proofs.YtaadekonikihkaaGreatDoor.Ev
theorem p1 : partOk Tryz.prog exts many 100000 deep 304 (startC Tryz.prog 3 s0) c1 = true := by kernel_rfl
theorem p2 : partOk Tryz.prog exts many 100000 deep 1 c1 c2 = true := by kernel_rfl
theorem p3 : partOk Tryz.prog exts many 100000 deep 365 c2 c3 = true := by kernel_rfl
end Go.Proofs.YtaadekonikihkaaGreatDoor.storeNames
