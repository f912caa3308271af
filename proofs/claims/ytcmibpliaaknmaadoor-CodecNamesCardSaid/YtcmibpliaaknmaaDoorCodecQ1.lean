/-
  CodecNames: the run of the closed statement, in parts: where it is behind each part, and that it comes there. (Reckoned by the kernel.)
-/
import Derived.Test.YtcmibpliaaknmaaDoorCodecP1
set_option linter.unusedVariables false
set_option maxRecDepth 100000
noncomputable section
namespace Go.Proofs.YtcmibpliaaknmaaDoor.codecNames
open Go Go.RowKit Go.Proofs.YtcmibpliaaknmaaDoor.Ev
theorem p1 : partOk Tryd.prog exts many 100000 deep 276 (startC Tryd.prog 4 s0) c1 = true := by kernel_rfl
theorem p2 : partOk Tryd.prog exts many 100000 deep 195 c1 c2 = true := by kernel_rfl
theorem p3 : partOk Tryd.prog exts many 100000 deep 330 c2 c3 = true := by kernel_rfl
theorem p4 : partOk Tryd.prog exts many 100000 deep 192 c3 c4 = true := by kernel_rfl
end Go.Proofs.YtcmibpliaaknmaaDoor.codecNames
