/-
  StoreNames: the run of the closed statement, in parts: where it is behind each part, and that it comes there. (Reckoned by the kernel.)
-/
import Derived.Test.YtaadekonikihkaaGreatDoorStoreP1
import Derived.Test.YtaadekonikihkaaGreatDoorStoreQ1
import Derived.Test.YtaadekonikihkaaGreatDoorStoreQ2
import Derived.Test.YtaadekonikihkaaGreatDoorStoreQ3
import Derived.Test.YtaadekonikihkaaGreatDoorStoreQ4
set_option linter.unusedVariables false
set_option maxRecDepth 100000
noncomputable section
namespace Go.Proofs.YtaadekonikihkaaGreatDoor.storeNames
open Go Go.RowKit Go.Proofs.YtaadekonikihkaaGreatDoor.Ev
theorem g1 : Goes Tryz.prog s0 (startC Tryz.prog 3 s0) c1 := goes_of exts_ok p1 rfl
theorem g2 : Goes Tryz.prog s0 c1 c2 := goes_of exts_ok p2 rfl
theorem g3 : Goes Tryz.prog s0 c2 c3 := goes_of exts_ok p3 rfl
theorem g4 : Goes Tryz.prog s0 c3 c4 := goes_of exts_ok p4 rfl
theorem g5 : Goes Tryz.prog s0 c4 c5 := goes_of exts_ok p5 rfl
theorem g6 : Goes Tryz.prog s0 c5 c6 := goes_of exts_ok p6 rfl
theorem g7 : Goes Tryz.prog s0 c6 c7 := goes_of exts_ok p7 rfl
theorem g8 : Goes Tryz.prog s0 c7 c8 := goes_of exts_ok p8 rfl
theorem g9 : Goes Tryz.prog s0 c8 c9 := goes_of exts_ok p9 rfl
theorem g10 : Goes Tryz.prog s0 c9 c10 := goes_of exts_ok p10 rfl
theorem g11 : Goes Tryz.prog s0 c10 c11 := goes_of exts_ok p11 rfl
theorem g12 : Goes Tryz.prog s0 c11 c12 := goes_of exts_ok p12 rfl
theorem walked (W : World) (hL : laidMet Tryz.prog Rows.storeNamesRow.laid W) : Calls Tryz.prog 3 #[] W fun e w' => e = .returned (.bool true) ∧ Below W.heap.size W w' :=
  calls_parts exts_ok (by kernel_rfl) (((((((((((g1.trans g2).trans g3).trans g4).trans g5).trans g6).trans g7).trans g8).trans g9).trans g10).trans g11).trans g12) last W (laidSt_ok s0_some W hL)
end Go.Proofs.YtaadekonikihkaaGreatDoor.storeNames
