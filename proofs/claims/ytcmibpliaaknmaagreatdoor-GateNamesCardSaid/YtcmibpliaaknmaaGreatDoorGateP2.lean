/-
  GateNames: the run of the closed statement, in parts: where it is behind each part, and that it comes there. (Reckoned by the kernel.)
-/
import Derived.Test.YtcmibpliaaknmaaGreatDoorGateP1
import Derived.Test.YtcmibpliaaknmaaGreatDoorGateQ1
import Derived.Test.YtcmibpliaaknmaaGreatDoorGateQ2
import Derived.Test.YtcmibpliaaknmaaGreatDoorGateQ3
import Derived.Test.YtcmibpliaaknmaaGreatDoorGateQ4
set_option linter.unusedVariables false
set_option maxRecDepth 100000
noncomputable section
namespace Go.Proofs.YtcmibpliaaknmaaGreatDoor.gateNames
open Go Go.RowKit Go.Proofs.YtcmibpliaaknmaaGreatDoor.Ev
theorem g1 : Goes Tryz.prog s0 (startC Tryz.prog 8 s0) c1 := goes_of exts_ok p1 rfl
theorem g2 : Goes Tryz.prog s0 c1 c2 := goes_of exts_ok p2 rfl
theorem g3 : Goes Tryz.prog s0 c2 c3 := goes_of exts_ok p3 rfl
theorem walked (W : World) (hL : laidMet Tryz.prog Rows.gateNamesRow.laid W) : Calls Tryz.prog 8 #[] W fun e w' => e = .returned (.bool true) ∧ Below W.heap.size W w' :=
  calls_parts exts_ok (by kernel_rfl) ((g1.trans g2).trans g3) last W (laidSt_ok s0_some W hL)
end Go.Proofs.YtcmibpliaaknmaaGreatDoor.gateNames
