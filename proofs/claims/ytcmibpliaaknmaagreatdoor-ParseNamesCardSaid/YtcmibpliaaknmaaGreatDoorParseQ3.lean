import Derived.Test.YtcmibpliaaknmaaGreatDoorParseP4
set_option maxRecDepth 100000
noncomputable section
namespace Go.Proofs.YtcmibpliaaknmaaGreatDoor.parseNames
open Go Go.RowKit Go.Proofs.YtcmibpliaaknmaaGreatDoor.Ev
theorem p11 : partOk Tryz.prog exts many 100000 deep 49 c10 c11 = true := by kernel_rfl
theorem p12 : partOk Tryz.prog exts many 100000 deep 147 c11 c12 = true := by kernel_rfl
theorem p13 : partOk Tryz.prog exts many 100000 deep 81 c12 c13 = true := by kernel_rfl
theorem p14 : partOk Tryz.prog exts many 100000 deep 148 c13 c14 = true := by kernel_rfl
theorem p15 : partOk Tryz.prog exts many 100000 deep 70 c14 c15 = true := by kernel_rfl
end Go.Proofs.YtcmibpliaaknmaaGreatDoor.parseNames
