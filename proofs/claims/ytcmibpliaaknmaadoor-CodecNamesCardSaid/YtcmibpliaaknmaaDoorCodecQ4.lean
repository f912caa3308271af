/-
  CodecNames: the run of the closed statement, in parts: where it is behind each part, and that it comes there. (Reckoned by the kernel.)
-/
import Derived.Test.YtcmibpliaaknmaaDoorCodecP1
set_option linter.unusedVariables false
set_option maxRecDepth 100000
noncomputable section
namespace Go.Proofs.YtcmibpliaaknmaaDoor.codecNames
open Go Go.RowKit Go.Proofs.YtcmibpliaaknmaaDoor.Ev
theorem p15 : partOk Tryd.prog exts many 100000 deep 17 c14 c15 = true := by kernel_rfl
theorem p16 : partOk Tryd.prog exts many 100000 deep 28 c15 c16 = true := by kernel_rfl
theorem p17 : partOk Tryd.prog exts many 100000 deep 15 c16 c17 = true := by kernel_rfl
theorem p18 : partOk Tryd.prog exts many 100000 deep 685 c17 c18 = true := by kernel_rfl
theorem last : lastOk Tryd.prog exts many 100000 deep 304 c18 4 true = true := by kernel_rfl
end Go.Proofs.YtcmibpliaaknmaaDoor.codecNames
