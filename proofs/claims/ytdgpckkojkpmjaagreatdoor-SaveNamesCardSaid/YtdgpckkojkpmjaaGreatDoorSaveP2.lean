/-
  SaveNames: the run of the closed statement, in parts: where it is behind each part, and that it comes there. (Reckoned by the kernel.)
-/
import Derived.Test.YtdgpckkojkpmjaaGreatDoorSaveP1
import Derived.Test.YtdgpckkojkpmjaaGreatDoorSaveQ2
import Derived.Test.YtdgpckkojkpmjaaGreatDoorSaveQ3
import Derived.Test.YtdgpckkojkpmjaaGreatDoorSaveQ4
set_option linter.unusedVariables false
set_option maxRecDepth 100000
noncomputable section
namespace Go.Proofs.YtdgpckkojkpmjaaGreatDoor.saveNames
open Go Go.RowKit Go.Proofs.YtdgpckkojkpmjaaGreatDoor.Ev
theorem g1 : Goes Tryz.prog s0 (startC Tryz.prog 3 s0) c1 := goes_of exts_ok p1 rfl
theorem g2 : Goes Tryz.prog s0 c1 c2 := goes_of exts_ok p2 rfl
theorem walked (W : World) (hL : laidMet Tryz.prog Rows.saveNamesRow.laid W) : Calls Tryz.prog 3 #[] W fun e w' => e = .returned (.bool true) ∧ Below W.heap.size W w' :=
  calls_parts exts_ok (by kernel_rfl) (g1.trans g2) last W (laidSt_ok s0_some W hL)
end Go.Proofs.YtdgpckkojkpmjaaGreatDoor.saveNames
