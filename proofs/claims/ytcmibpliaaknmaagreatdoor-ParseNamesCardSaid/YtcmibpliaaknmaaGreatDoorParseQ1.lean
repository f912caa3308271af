import Derived.Test.YtcmibpliaaknmaaGreatDoorParseP4
set_option maxRecDepth 100000
noncomputable section
namespace Go.Proofs.YtcmibpliaaknmaaGreatDoor.parseNames
open Go Go.RowKit Go.Proofs.YtcmibpliaaknmaaGreatDoor.Ev
theorem p1 : partOk Tryz.prog exts many 100000 deep 11 (startC Tryz.prog 3 s0) c1 = true := by kernel_rfl
theorem p2 : partOk Tryz.prog exts many 100000 deep 1 c1 c2 = true := by kernel_rfl
theorem p3 : partOk Tryz.prog exts many 100000 deep 107 c2 c3 = true := by kernel_rfl
theorem p4 : partOk Tryz.prog exts many 100000 deep 49 c3 c4 = true := by kernel_rfl
theorem p5 : partOk Tryz.prog exts many 100000 deep 49 c4 c5 = true := by kernel_rfl
end Go.Proofs.YtcmibpliaaknmaaGreatDoor.parseNames
