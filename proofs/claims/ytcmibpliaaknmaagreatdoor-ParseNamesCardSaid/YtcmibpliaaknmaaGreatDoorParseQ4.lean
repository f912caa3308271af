import Derived.Test.YtcmibpliaaknmaaGreatDoorParseP4
set_option maxRecDepth 100000
noncomputable section
namespace Go.Proofs.YtcmibpliaaknmaaGreatDoor.parseNames
open Go Go.RowKit Go.Proofs.YtcmibpliaaknmaaGreatDoor.Ev
theorem p16 : partOk Tryz.prog exts many 100000 deep 56 c15 c16 = true := by kernel_rfl
theorem p17 : partOk Tryz.prog exts many 100000 deep 73 c16 c17 = true := by kernel_rfl
theorem p18 : partOk Tryz.prog exts many 100000 deep 4 c17 c18 = true := by kernel_rfl
theorem p19 : partOk Tryz.prog exts many 100000 deep 226 c18 c19 = true := by kernel_rfl
theorem last : lastOk Tryz.prog exts many 100000 deep 29 c19 3 true = true := by kernel_rfl
end Go.Proofs.YtcmibpliaaknmaaGreatDoor.parseNames
