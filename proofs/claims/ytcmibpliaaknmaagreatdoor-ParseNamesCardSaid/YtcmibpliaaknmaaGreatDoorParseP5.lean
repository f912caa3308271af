import Derived.Test.YtcmibpliaaknmaaGreatDoorParseP4
import Derived.Test.YtcmibpliaaknmaaGreatDoorParseQ1
import Derived.Test.YtcmibpliaaknmaaGreatDoorParseQ2
import Derived.Test.YtcmibpliaaknmaaGreatDoorParseQ3
import Derived.Test.YtcmibpliaaknmaaGreatDoorParseQ4
set_option maxRecDepth 100000
noncomputable section
namespace Go.Proofs.YtcmibpliaaknmaaGreatDoor.parseNames
open Go Go.RowKit Go.Proofs.YtcmibpliaaknmaaGreatDoor.Ev
theorem g1 : Goes Tryz.prog s0 (startC Tryz.prog 3 s0) c1 := goes_of exts_ok p1 rfl
theorem g2 : Goes Tryz.prog s0 c1 c2 := goes_of exts_ok p2 rfl
theorem g3 : Goes Tryz.prog s0 c2 c3 := goes_of exts_ok p3 rfl
theorem g4 : Goes Tryz.prog s0 c3 c4 := goes_of exts_ok p4 rfl
theorem g5 : Goes Tryz.prog s0 c4 c5 := goes_of exts_ok p5 rfl
theorem g6 : Goes Tryz.prog s0 c5 c6 := goes_of exts_ok p6 rfl
theorem g7 : Goes Tryz.prog s0 c6 c7 := goes_of exts_ok p7 rfl
theorem g8 : Goes Tryz.prog s0 c7 c8 := goes_of exts_ok p8 rfl
theorem g9 : Goes Tryz.prog s0 c8 c9 := goes_of exts_ok p9 rfl
theorem g10 : Goes Tryz.prog s0 c9 c10 := goes_of exts_ok p10 rfl
theorem g11 : Goes Tryz.prog s0 c10 c11 := goes_of exts_ok p11 rfl
theorem g12 : Goes Tryz.prog s0 c11 c12 := goes_of exts_ok p12 rfl
theorem g13 : Goes Tryz.prog s0 c12 c13 := goes_of exts_ok p13 rfl
theorem g14 : Goes Tryz.prog s0 c13 c14 := goes_of exts_ok p14 rfl
theorem g15 : Goes Tryz.prog s0 c14 c15 := goes_of exts_ok p15 rfl
theorem g16 : Goes Tryz.prog s0 c15 c16 := goes_of exts_ok p16 rfl
theorem g17 : Goes Tryz.prog s0 c16 c17 := goes_of exts_ok p17 rfl
theorem g18 : Goes Tryz.prog s0 c17 c18 := goes_of exts_ok p18 rfl
theorem g19 : Goes Tryz.prog s0 c18 c19 := goes_of exts_ok p19 rfl
theorem walked (W : World) (hL : laidMet Tryz.prog Rows.parseNamesRow.laid W) : Calls Tryz.prog 3 #[] W fun e w' => e = .returned (.bool true) ∧ Below W.heap.size W w' :=
  calls_parts exts_ok (by kernel_rfl) ((((((((((((((((((g1.trans g2).trans g3).trans g4).trans g5).trans g6).trans g7).trans g8).trans g9).trans g10).trans g11).trans g12).trans g13).trans g14).trans g15).trans g16).trans g17).trans g18).trans g19) last W (laidSt_ok s0_some W hL)
end Go.Proofs.YtcmibpliaaknmaaGreatDoor.parseNames
