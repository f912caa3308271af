import Derived.Test.YtcmibpliaaknmaaGreatDoorParseP4
set_option maxRecDepth 100000
noncomputable section
namespace Go.Proofs.YtcmibpliaaknmaaGreatDoor.parseNames
open Go Go.RowKit Go.Proofs.YtcmibpliaaknmaaGreatDoor.Ev
theorem p6 : partOk Tryz.prog exts many 100000 deep 49 c5 c6 = true := by kernel_rfl
theorem p7 : partOk Tryz.prog exts many 100000 deep 49 c6 c7 = true := by kernel_rfl
theorem p8 : partOk Tryz.prog exts many 100000 deep 98 c7 c8 = true := by kernel_rfl
theorem p9 : partOk Tryz.prog exts many 100000 deep 81 c8 c9 = true := by kernel_rfl
theorem p10 : partOk Tryz.prog exts many 100000 deep 66 c9 c10 = true := by kernel_rfl
end Go.Proofs.YtcmibpliaaknmaaGreatDoor.parseNames
