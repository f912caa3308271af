/-
  CodecNames: the run of the closed statement, in parts: where it is behind each part, and that it comes there. (Reckoned by the kernel.)
-/
import Derived.Test.YtcmibpliaaknmaaDoorCodecP1
set_option linter.unusedVariables false
set_option maxRecDepth 100000
noncomputable section
namespace Go.Proofs.YtcmibpliaaknmaaDoor.codecNames
open Go Go.RowKit Go.Proofs.YtcmibpliaaknmaaDoor.Ev
theorem p10 : partOk Tryd.prog exts many 100000 deep 30 c9 c10 = true := by kernel_rfl
theorem p11 : partOk Tryd.prog exts many 100000 deep 29 c10 c11 = true := by kernel_rfl
theorem p12 : partOk Tryd.prog exts many 100000 deep 28 c11 c12 = true := by kernel_rfl
theorem p13 : partOk Tryd.prog exts many 100000 deep 18 c12 c13 = true := by kernel_rfl
theorem p14 : partOk Tryd.prog exts many 100000 deep 27 c13 c14 = true := by kernel_rfl
end Go.Proofs.YtcmibpliaaknmaaDoor.codecNames
