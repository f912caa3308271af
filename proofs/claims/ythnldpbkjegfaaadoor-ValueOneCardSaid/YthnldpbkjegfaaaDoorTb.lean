/-
  The package-level tables that the rows list, as the reckoner knows them. (They lie so in every world that the rows speak of.)
-/
import Derived.Test.YthnldpbkjegfaaaDoorRows
import Derived.Test.YthnldpbkjegfaaaDoorSu
import Derived.Lib.LaidTab
import Derived.Lib.AppendIntMem
import Derived.Stop.LaidErr
set_option linter.unusedVariables false
noncomputable section
namespace Go.Proofs.YthnldpbkjegfaaaDoor
open Go Go.RowKit
noncomputable def tab0 : Sv.St := match Sv.laidSt Tryd.prog 8 Rows.valueMayRow.laid with
  | some s => s
  | none => Sv.St.none
theorem tab0_some : Sv.laidSt Tryd.prog 8 Rows.valueMayRow.laid = some tab0 := by kernel_rfl
/-- of flat tables alone -/
noncomputable def tabG : Sv.Tri (Sv.Tri Sv.V) := tab0.glob
theorem tab0_flat : tab0 = { next := 0, mem := .nil, glob := tabG } := by kernel_rfl
theorem tab_ok (W : World) (hL : laidMet Tryd.prog Rows.valueMayRow.laid W) : Sv.Tab tab0 W := Sv.laidSt_ok tab0_some W hL
/-- what the tables are for strconv -/
noncomputable def tabS : Sv.St := { next := 0, mem := .nil, glob := tabG, ok := fun w => Lib.TabIs Tryd.prog w "internal/strconv.uint64pow10" .u64 Lib.pow10Tab }
theorem tabS_ok (W : World) (hL : laidMet Tryd.prog Rows.valueMayRow.laid W) : Sv.Tab tabS W :=
  Sv.Tab.more (s0 := { next := 0, mem := .nil, glob := tabG }) (tab0_flat ▸ tab_ok W hL) _ (Lib.tabBelow_of_tabIs (Lib.tabIs_of_head (rest := []) (g := 0) (t := 63) (e := 56) (n := 20) (by kernel_rfl) (by kernel_rfl) (by kernel_rfl) (by kernel_rfl) (by kernel_rfl) (by kernel_rfl) (laidMet.tail (laidMet.tail hL))))
end Go.Proofs.YthnldpbkjegfaaaDoor
