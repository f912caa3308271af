/-
  EnterNames: the run of the closed statement, in parts: where it is behind each part, and that it comes there. (Reckoned by the kernel.)
-/
import Derived.Test.YtbdokcbmmkdfdaaGreatDoorEd
import Derived.Test.YtbdokcbmmkdfdaaGreatDoorRows
set_option linter.unusedVariables false
set_option maxRecDepth 100000
noncomputable section
namespace Go.Proofs.YtbdokcbmmkdfdaaGreatDoor.enterNames
open Go Go.RowKit Go.Proofs.YtbdokcbmmkdfdaaGreatDoor.Ev
def s0 : St := (laidSt Tryz.prog 8 Rows.enterNamesRow.laid).getD St.none
theorem s0_some : laidSt Tryz.prog 8 Rows.enterNamesRow.laid = some s0 := by kernel_rfl
abbrev gl : Tri (Tri V) := s0.glob
def exts : List Ext := []
theorem exts_ok : ExtOk Tryz.prog s0 exts := trivial
def deep : List FuncId := []
def many : List FuncId := [43, 87]
theorem last : lastOk Tryz.prog exts many 100000 deep 46 (startC Tryz.prog 3 s0) 3 true = true := by kernel_rfl
theorem walked (W : World) (hL : laidMet Tryz.prog Rows.enterNamesRow.laid W) : Calls Tryz.prog 3 #[] W fun e w' => e = .returned (.bool true) ∧ Below W.heap.size W w' :=
  calls_parts exts_ok (by kernel_rfl) (Goes.refl _ _ _) last W (laidSt_ok s0_some W hL)
end Go.Proofs.YtbdokcbmmkdfdaaGreatDoor.enterNames
