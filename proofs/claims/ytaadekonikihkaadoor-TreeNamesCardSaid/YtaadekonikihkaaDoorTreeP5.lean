/-
  TreeNames: the run of the closed statement, in parts: where it is behind each part, and that it comes there. (Reckoned by the kernel.)
-/
import Derived.Test.YtaadekonikihkaaDoorTreeP4
import Derived.Test.YtaadekonikihkaaDoorTreeQ1
import Derived.Test.YtaadekonikihkaaDoorTreeQ2
import Derived.Test.YtaadekonikihkaaDoorTreeQ3
import Derived.Test.YtaadekonikihkaaDoorTreeQ4
import Derived.Test.YtaadekonikihkaaDoorTreeQ5
import Derived.Test.YtaadekonikihkaaDoorTreeQ6
import Derived.Test.YtaadekonikihkaaDoorTreeQ7
import Derived.Test.YtaadekonikihkaaDoorTreeQ8
set_option linter.unusedVariables false
set_option maxRecDepth 100000
noncomputable section
namespace Go.Proofs.YtaadekonikihkaaDoor.treeNames
open Go Go.RowKit Go.Proofs.YtaadekonikihkaaDoor.Ev
theorem g1 : Goes Tryd.prog s0 (startC Tryd.prog 4 s0) c1 := goes_of exts_ok p1 rfl
theorem g2 : Goes Tryd.prog s0 c1 c2 := goes_of exts_ok p2 rfl
theorem g3 : Goes Tryd.prog s0 c2 c3 := goes_of exts_ok p3 rfl
theorem g4 : Goes Tryd.prog s0 c3 c4 := goes_of exts_ok p4 rfl
theorem g5 : Goes Tryd.prog s0 c4 c5 := goes_of exts_ok p5 rfl
theorem g6 : Goes Tryd.prog s0 c5 c6 := goes_of exts_ok p6 rfl
theorem g7 : Goes Tryd.prog s0 c6 c7 := goes_of exts_ok p7 rfl
theorem g8 : Goes Tryd.prog s0 c7 c8 := goes_of exts_ok p8 rfl
theorem g9 : Goes Tryd.prog s0 c8 c9 := goes_of exts_ok p9 rfl
theorem g10 : Goes Tryd.prog s0 c9 c10 := goes_of exts_ok p10 rfl
theorem g11 : Goes Tryd.prog s0 c10 c11 := goes_of exts_ok p11 rfl
theorem g12 : Goes Tryd.prog s0 c11 c12 := goes_of exts_ok p12 rfl
theorem g13 : Goes Tryd.prog s0 c12 c13 := goes_of exts_ok p13 rfl
theorem g14 : Goes Tryd.prog s0 c13 c14 := goes_of exts_ok p14 rfl
theorem g15 : Goes Tryd.prog s0 c14 c15 := goes_of exts_ok p15 rfl
theorem g16 : Goes Tryd.prog s0 c15 c16 := goes_of exts_ok p16 rfl
theorem g17 : Goes Tryd.prog s0 c16 c17 := goes_of exts_ok p17 rfl
theorem g18 : Goes Tryd.prog s0 c17 c18 := goes_of exts_ok p18 rfl
theorem g19 : Goes Tryd.prog s0 c18 c19 := goes_of exts_ok p19 rfl
theorem g20 : Goes Tryd.prog s0 c19 c20 := goes_of exts_ok p20 rfl
theorem g21 : Goes Tryd.prog s0 c20 c21 := goes_of exts_ok p21 rfl
theorem g22 : Goes Tryd.prog s0 c21 c22 := goes_of exts_ok p22 rfl
theorem g23 : Goes Tryd.prog s0 c22 c23 := goes_of exts_ok p23 rfl
theorem g24 : Goes Tryd.prog s0 c23 c24 := goes_of exts_ok p24 rfl
theorem g25 : Goes Tryd.prog s0 c24 c25 := goes_of exts_ok p25 rfl
theorem g26 : Goes Tryd.prog s0 c25 c26 := goes_of exts_ok p26 rfl
theorem g27 : Goes Tryd.prog s0 c26 c27 := goes_of exts_ok p27 rfl
theorem g28 : Goes Tryd.prog s0 c27 c28 := goes_of exts_ok p28 rfl
theorem g29 : Goes Tryd.prog s0 c28 c29 := goes_of exts_ok p29 rfl
theorem g30 : Goes Tryd.prog s0 c29 c30 := goes_of exts_ok p30 rfl
theorem g31 : Goes Tryd.prog s0 c30 c31 := goes_of exts_ok p31 rfl
theorem g32 : Goes Tryd.prog s0 c31 c32 := goes_of exts_ok p32 rfl
theorem g33 : Goes Tryd.prog s0 c32 c33 := goes_of exts_ok p33 rfl
theorem g34 : Goes Tryd.prog s0 c33 c34 := goes_of exts_ok p34 rfl
theorem g35 : Goes Tryd.prog s0 c34 c35 := goes_of exts_ok p35 rfl
theorem g36 : Goes Tryd.prog s0 c35 c36 := goes_of exts_ok p36 rfl
theorem g37 : Goes Tryd.prog s0 c36 c37 := goes_of exts_ok p37 rfl
theorem g38 : Goes Tryd.prog s0 c37 c38 := goes_of exts_ok p38 rfl
theorem g39 : Goes Tryd.prog s0 c38 c39 := goes_of exts_ok p39 rfl
theorem g40 : Goes Tryd.prog s0 c39 c40 := goes_of exts_ok p40 rfl
theorem g41 : Goes Tryd.prog s0 c40 c41 := goes_of exts_ok p41 rfl
theorem g42 : Goes Tryd.prog s0 c41 c42 := goes_of exts_ok p42 rfl
theorem g43 : Goes Tryd.prog s0 c42 c43 := goes_of exts_ok p43 rfl
theorem g44 : Goes Tryd.prog s0 c43 c44 := goes_of exts_ok p44 rfl
theorem g45 : Goes Tryd.prog s0 c44 c45 := goes_of exts_ok p45 rfl
theorem g46 : Goes Tryd.prog s0 c45 c46 := goes_of exts_ok p46 rfl
theorem g47 : Goes Tryd.prog s0 c46 c47 := goes_of exts_ok p47 rfl
theorem g48 : Goes Tryd.prog s0 c47 c48 := goes_of exts_ok p48 rfl
theorem g49 : Goes Tryd.prog s0 c48 c49 := goes_of exts_ok p49 rfl
theorem g50 : Goes Tryd.prog s0 c49 c50 := goes_of exts_ok p50 rfl
theorem g51 : Goes Tryd.prog s0 c50 c51 := goes_of exts_ok p51 rfl
theorem g52 : Goes Tryd.prog s0 c51 c52 := goes_of exts_ok p52 rfl
theorem g53 : Goes Tryd.prog s0 c52 c53 := goes_of exts_ok p53 rfl
theorem g54 : Goes Tryd.prog s0 c53 c54 := goes_of exts_ok p54 rfl
theorem g55 : Goes Tryd.prog s0 c54 c55 := goes_of exts_ok p55 rfl
theorem g56 : Goes Tryd.prog s0 c55 c56 := goes_of exts_ok p56 rfl
theorem g57 : Goes Tryd.prog s0 c56 c57 := goes_of exts_ok p57 rfl
theorem g58 : Goes Tryd.prog s0 c57 c58 := goes_of exts_ok p58 rfl
theorem g59 : Goes Tryd.prog s0 c58 c59 := goes_of exts_ok p59 rfl
theorem walked (W : World) (hL : laidMet Tryd.prog Rows.treeNamesRow.laid W) : Calls Tryd.prog 4 #[] W fun e w' => e = .returned (.bool true) ∧ Below W.heap.size W w' :=
  calls_parts exts_ok (by kernel_rfl) ((((((((((((((((((((((((((((((((((((((((((((((((((((((((((g1.trans g2).trans g3).trans g4).trans g5).trans g6).trans g7).trans g8).trans g9).trans g10).trans g11).trans g12).trans g13).trans g14).trans g15).trans g16).trans g17).trans g18).trans g19).trans g20).trans g21).trans g22).trans g23).trans g24).trans g25).trans g26).trans g27).trans g28).trans g29).trans g30).trans g31).trans g32).trans g33).trans g34).trans g35).trans g36).trans g37).trans g38).trans g39).trans g40).trans g41).trans g42).trans g43).trans g44).trans g45).trans g46).trans g47).trans g48).trans g49).trans g50).trans g51).trans g52).trans g53).trans g54).trans g55).trans g56).trans g57).trans g58).trans g59) last W (laidSt_ok s0_some W hL)
end Go.Proofs.YtaadekonikihkaaDoor.treeNames
