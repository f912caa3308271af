/-
  awake: the run of the closed statement, in parts: where it is behind each part, and that it comes there. (Reckoned by the kernel.)
-/
import Derived.Test.YtepkbpdldghjnaaEd
import Derived.Test.YtepkbpdldghjnaaRows
set_option linter.unusedVariables false
set_option maxRecDepth 100000
noncomputable section
namespace Go.Proofs.Ytepkbpdldghjnaa.awake
open Go Go.RowKit Go.Proofs.Ytepkbpdldghjnaa.Ev
def s0 : St := St.none
abbrev gl : Tri (Tri V) := s0.glob
def exts : List Ext := []
theorem exts_ok : ExtOk Try.prog s0 exts := trivial
def deep : List FuncId := []
def many : List FuncId := []
theorem last : lastOk Try.prog exts many 100000 deep 10 (startC Try.prog 5 s0) 5 true = true := by kernel_rfl
theorem walked (W : World) : Calls Try.prog 5 #[] W fun e w' => e = .returned (.bool true) ∧ Below W.heap.size W w' :=
  calls_parts exts_ok (by kernel_rfl) (Goes.refl _ _ _) last W ⟨_, Rel.none W⟩
end Go.Proofs.Ytepkbpdldghjnaa.awake
