/-
  The world in which the package-level tables lie as the program's own initialisers lay them: what a witness asks of it. (Reckoned by the kernel.)
-/
import Derived.Test.YthnldpbkjegfaaaDoorRows
import Derived.ProofKit
import Derived.OpenShut
import Derived.Deep.DeepHandedRow
import Derived.Lib.LaidTab
import Derived.LaidMore
import Derived.Deep.DeepWitnessRowRef
import Derived.Test.YthnldpbkjegfaaaDoorSu
set_option linter.unusedVariables false
namespace Go.Proofs.YthnldpbkjegfaaaDoor.Base
open Go Go.RowKit
set_option maxRecDepth 100000
theorem own : ownKnob Tryd.prog.godebug = none := by kernel_rfl
noncomputable def laidWorld (os : Os) : World := Go.Proofs.YthnldpbkjegfaaaDoor.Sv.laidIn Tryd.prog Rows.valueMayRow.laid (World.doorLaid Tryd.prog 24 os)
theorem fit_os (os : Os) : (laidWorld os).os = os := by kernel_rfl
theorem fit_vars (os : Os) (args : Array Value) : ((laidWorld os).forCall (fun _ _ => 0) ⟨#[], args, []⟩).variablesRefB Tryd.prog = true := by kernel_rfl
theorem fit_rest (os : Os) (args : Array Value) : (((laidWorld os).forCall (fun _ _ => 0) ⟨#[], args, []⟩).heap.toList.drop Tryd.prog.globals.size).take ((begin Tryd.prog (fun _ _ => 0) default).world.heap.size - Tryd.prog.globals.size) =
    (begin Tryd.prog (fun _ _ => 0) default).world.heap.toList.drop Tryd.prog.globals.size := by kernel_rfl
end Go.Proofs.YthnldpbkjegfaaaDoor.Base
