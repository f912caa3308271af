/-
  The world in which the package-level tables lie as the program's own initialisers lay them: what a witness asks of it. (Reckoned by the kernel.)
-/
import Derived.Test.YtdgpckkojkpmjaaGreatDoorRows
import Derived.ProofKit
import Derived.OpenShut
import Derived.Deep.DeepHandedRow
import Derived.Lib.LaidTab
import Derived.LaidMore
import Derived.Deep.DeepWitnessRowRef
import Derived.Test.YtdgpckkojkpmjaaGreatDoorEc
set_option linter.unusedVariables false
namespace Go.Proofs.YtdgpckkojkpmjaaGreatDoor.Base
open Go Go.RowKit
set_option maxRecDepth 100000
theorem own : ownKnob Tryz.prog.godebug = none := by kernel_rfl
noncomputable def laidWorld (os : Os) : World := Go.Proofs.YtdgpckkojkpmjaaGreatDoor.Ev.laidIn Tryz.prog Rows.saveNamesRow.laid (World.doorLaid Tryz.prog 29 os)
theorem fit_os (os : Os) : (laidWorld os).os = os := by kernel_rfl
theorem fit_vars (os : Os) : ((laidWorld os).forCall (fun _ _ => 0) ⟨#[], #[], []⟩).variablesRefB Tryz.prog = true := by kernel_rfl
theorem fit_rest (os : Os) : (((laidWorld os).forCall (fun _ _ => 0) ⟨#[], #[], []⟩).heap.toList.drop Tryz.prog.globals.size).take ((begin Tryz.prog (fun _ _ => 0) default).world.heap.size - Tryz.prog.globals.size) =
    (begin Tryz.prog (fun _ _ => 0) default).world.heap.toList.drop Tryz.prog.globals.size := by kernel_rfl
end Go.Proofs.YtdgpckkojkpmjaaGreatDoor.Base
