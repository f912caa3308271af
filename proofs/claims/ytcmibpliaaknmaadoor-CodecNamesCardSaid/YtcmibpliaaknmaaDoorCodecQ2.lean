/-
  CodecNames: the run of the closed statement, in parts: where it is behind each part, and that it comes there. (Reckoned by the kernel.)
-/
import Derived.Test.YtcmibpliaaknmaaDoorCodecP1
set_option linter.unusedVariables false
set_option maxRecDepth 100000
noncomputable section
namespace Go.Proofs.YtcmibpliaaknmaaDoor.codecNames
open Go Go.RowKit Go.Proofs.YtcmibpliaaknmaaDoor.Ev
theorem p5 : partOk Tryd.prog exts many 100000 deep 74 c4 c5 = true := by kernel_rfl
theorem p6 : partOk Tryd.prog exts many 100000 deep 58 c5 c6 = true := by kernel_rfl
theorem p7 : partOk Tryd.prog exts many 100000 deep 45 c6 c7 = true := by kernel_rfl
theorem p8 : partOk Tryd.prog exts many 100000 deep 32 c7 c8 = true := by kernel_rfl
theorem p9 : partOk Tryd.prog exts many 100000 deep 31 c8 c9 = true := by kernel_rfl
end Go.Proofs.YtcmibpliaaknmaaDoor.codecNames
