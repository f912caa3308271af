/-
  BitsNames: the run of the closed statement, in parts: where it is behind each part, and that it comes there. (Reckoned by the kernel.)
-/
import Derived.Test.YtaadekonikihkaaDoorEd
import Derived.Test.YtaadekonikihkaaDoorRows
set_option linter.unusedVariables false
set_option maxRecDepth 100000
noncomputable section
namespace Go.Proofs.YtaadekonikihkaaDoor.bitsNames
open Go Go.RowKit Go.Proofs.YtaadekonikihkaaDoor.Ev
def s0 : St := (laidSt Tryd.prog 8 Rows.bitsNamesRow.laid).getD St.none
theorem s0_some : laidSt Tryd.prog 8 Rows.bitsNamesRow.laid = some s0 := by kernel_rfl
abbrev gl : Tri (Tri V) := s0.glob
theorem ext0k : extAt Tryd.prog 100000 s0 ⟨10, [.int .i64 (.negSucc 9223372036854775807)], .agg [.int .u64 (.ofNat 0), .int .u64 (.ofNat 0), .int .u64 (.ofNat 0), .int .u64 (.ofNat 0), .int .u64 (.ofNat 0), .int .u64 (.ofNat 0), .int .u64 (.ofNat 0), .int .u64 (.ofNat 0), .int .u64 (.ofNat 0), .int .u64 (.ofNat 0), .int .u64 (.ofNat 0), .int .u64 (.ofNat 0), .int .u64 (.ofNat 0), .int .u64 (.ofNat 0), .int .u64 (.ofNat 0), .int .u64 (.ofNat 0)]⟩ = true := by kernel_rfl
theorem ext0 : Ext.ok Tryd.prog s0 ⟨10, [.int .i64 (.negSucc 9223372036854775807)], .agg [.int .u64 (.ofNat 0), .int .u64 (.ofNat 0), .int .u64 (.ofNat 0), .int .u64 (.ofNat 0), .int .u64 (.ofNat 0), .int .u64 (.ofNat 0), .int .u64 (.ofNat 0), .int .u64 (.ofNat 0), .int .u64 (.ofNat 0), .int .u64 (.ofNat 0), .int .u64 (.ofNat 0), .int .u64 (.ofNat 0), .int .u64 (.ofNat 0), .int .u64 (.ofNat 0), .int .u64 (.ofNat 0), .int .u64 (.ofNat 0)]⟩ := ext_of ext0k
theorem ext4k : extAt Tryd.prog 100000 s0 ⟨11, [.agg [.int .u64 (.ofNat 0), .int .u64 (.ofNat 0), .int .u64 (.ofNat 0), .int .u64 (.ofNat 0), .int .u64 (.ofNat 0), .int .u64 (.ofNat 0), .int .u64 (.ofNat 0), .int .u64 (.ofNat 0), .int .u64 (.ofNat 0), .int .u64 (.ofNat 0), .int .u64 (.ofNat 0), .int .u64 (.ofNat 0), .int .u64 (.ofNat 0), .int .u64 (.ofNat 0), .int .u64 (.ofNat 0), .int .u64 (.ofNat 0)]], .int .i64 (.ofNat 0)⟩ = true := by kernel_rfl
theorem ext4 : Ext.ok Tryd.prog s0 ⟨11, [.agg [.int .u64 (.ofNat 0), .int .u64 (.ofNat 0), .int .u64 (.ofNat 0), .int .u64 (.ofNat 0), .int .u64 (.ofNat 0), .int .u64 (.ofNat 0), .int .u64 (.ofNat 0), .int .u64 (.ofNat 0), .int .u64 (.ofNat 0), .int .u64 (.ofNat 0), .int .u64 (.ofNat 0), .int .u64 (.ofNat 0), .int .u64 (.ofNat 0), .int .u64 (.ofNat 0), .int .u64 (.ofNat 0), .int .u64 (.ofNat 0)]], .int .i64 (.ofNat 0)⟩ := ext_of ext4k
theorem ext5k : extAt Tryd.prog 100000 s0 ⟨11, [.agg [.int .u64 (.ofNat 18446744073709551615), .int .u64 (.ofNat 18446744073709551615), .int .u64 (.ofNat 18446744073709551615), .int .u64 (.ofNat 18446744073709551615), .int .u64 (.ofNat 18446744073709551615), .int .u64 (.ofNat 18446744073709551615), .int .u64 (.ofNat 18446744073709551615), .int .u64 (.ofNat 18446744073709551615), .int .u64 (.ofNat 18446744073709551615), .int .u64 (.ofNat 18446744073709551615), .int .u64 (.ofNat 18446744073709551615), .int .u64 (.ofNat 18446744073709551615), .int .u64 (.ofNat 18446744073709551615), .int .u64 (.ofNat 18446744073709551615), .int .u64 (.ofNat 18446744073709551615), .int .u64 (.ofNat 18446744073709551615)]], .int .i64 (.ofNat 1024)⟩ = true := by kernel_rfl
theorem ext5 : Ext.ok Tryd.prog s0 ⟨11, [.agg [.int .u64 (.ofNat 18446744073709551615), .int .u64 (.ofNat 18446744073709551615), .int .u64 (.ofNat 18446744073709551615), .int .u64 (.ofNat 18446744073709551615), .int .u64 (.ofNat 18446744073709551615), .int .u64 (.ofNat 18446744073709551615), .int .u64 (.ofNat 18446744073709551615), .int .u64 (.ofNat 18446744073709551615), .int .u64 (.ofNat 18446744073709551615), .int .u64 (.ofNat 18446744073709551615), .int .u64 (.ofNat 18446744073709551615), .int .u64 (.ofNat 18446744073709551615), .int .u64 (.ofNat 18446744073709551615), .int .u64 (.ofNat 18446744073709551615), .int .u64 (.ofNat 18446744073709551615), .int .u64 (.ofNat 18446744073709551615)]], .int .i64 (.ofNat 1024)⟩ := ext_of ext5k
theorem ext6k : extAt Tryd.prog 100000 s0 ⟨12, [.agg [.int .u64 (.ofNat 9223372036854775809), .int .u64 (.ofNat 2), .int .u64 (.ofNat 0), .int .u64 (.ofNat 0), .int .u64 (.ofNat 0), .int .u64 (.ofNat 0), .int .u64 (.ofNat 0), .int .u64 (.ofNat 0), .int .u64 (.ofNat 0), .int .u64 (.ofNat 0), .int .u64 (.ofNat 0), .int .u64 (.ofNat 0), .int .u64 (.ofNat 0), .int .u64 (.ofNat 0), .int .u64 (.ofNat 0), .int .u64 (.ofNat 9223372036854775808)], .int .i64 (.negSucc 9223372036854775807)], .bool false⟩ = true := by kernel_rfl
theorem ext6 : Ext.ok Tryd.prog s0 ⟨12, [.agg [.int .u64 (.ofNat 9223372036854775809), .int .u64 (.ofNat 2), .int .u64 (.ofNat 0), .int .u64 (.ofNat 0), .int .u64 (.ofNat 0), .int .u64 (.ofNat 0), .int .u64 (.ofNat 0), .int .u64 (.ofNat 0), .int .u64 (.ofNat 0), .int .u64 (.ofNat 0), .int .u64 (.ofNat 0), .int .u64 (.ofNat 0), .int .u64 (.ofNat 0), .int .u64 (.ofNat 0), .int .u64 (.ofNat 0), .int .u64 (.ofNat 9223372036854775808)], .int .i64 (.negSucc 9223372036854775807)], .bool false⟩ := ext_of ext6k
theorem ext7k : extAt Tryd.prog 100000 s0 ⟨12, [.agg [.int .u64 (.ofNat 9223372036854775809), .int .u64 (.ofNat 2), .int .u64 (.ofNat 0), .int .u64 (.ofNat 0), .int .u64 (.ofNat 0), .int .u64 (.ofNat 0), .int .u64 (.ofNat 0), .int .u64 (.ofNat 0), .int .u64 (.ofNat 0), .int .u64 (.ofNat 0), .int .u64 (.ofNat 0), .int .u64 (.ofNat 0), .int .u64 (.ofNat 0), .int .u64 (.ofNat 0), .int .u64 (.ofNat 0), .int .u64 (.ofNat 9223372036854775808)], .int .i64 (.ofNat 9223372036854775807)], .bool false⟩ = true := by kernel_rfl
theorem ext7 : Ext.ok Tryd.prog s0 ⟨12, [.agg [.int .u64 (.ofNat 9223372036854775809), .int .u64 (.ofNat 2), .int .u64 (.ofNat 0), .int .u64 (.ofNat 0), .int .u64 (.ofNat 0), .int .u64 (.ofNat 0), .int .u64 (.ofNat 0), .int .u64 (.ofNat 0), .int .u64 (.ofNat 0), .int .u64 (.ofNat 0), .int .u64 (.ofNat 0), .int .u64 (.ofNat 0), .int .u64 (.ofNat 0), .int .u64 (.ofNat 0), .int .u64 (.ofNat 0), .int .u64 (.ofNat 9223372036854775808)], .int .i64 (.ofNat 9223372036854775807)], .bool false⟩ := ext_of ext7k
theorem ext8k : extAt Tryd.prog 100000 s0 ⟨13, [.agg [.int .u64 (.ofNat 9223372036854775809), .int .u64 (.ofNat 2), .int .u64 (.ofNat 0), .int .u64 (.ofNat 0), .int .u64 (.ofNat 0), .int .u64 (.ofNat 0), .int .u64 (.ofNat 0), .int .u64 (.ofNat 0), .int .u64 (.ofNat 0), .int .u64 (.ofNat 0), .int .u64 (.ofNat 0), .int .u64 (.ofNat 0), .int .u64 (.ofNat 0), .int .u64 (.ofNat 0), .int .u64 (.ofNat 0), .int .u64 (.ofNat 9223372036854775808)], .int .i64 (.ofNat 1024)], .agg [.int .u64 (.ofNat 9223372036854775809), .int .u64 (.ofNat 2), .int .u64 (.ofNat 0), .int .u64 (.ofNat 0), .int .u64 (.ofNat 0), .int .u64 (.ofNat 0), .int .u64 (.ofNat 0), .int .u64 (.ofNat 0), .int .u64 (.ofNat 0), .int .u64 (.ofNat 0), .int .u64 (.ofNat 0), .int .u64 (.ofNat 0), .int .u64 (.ofNat 0), .int .u64 (.ofNat 0), .int .u64 (.ofNat 0), .int .u64 (.ofNat 9223372036854775808)]⟩ = true := by kernel_rfl
theorem ext8 : Ext.ok Tryd.prog s0 ⟨13, [.agg [.int .u64 (.ofNat 9223372036854775809), .int .u64 (.ofNat 2), .int .u64 (.ofNat 0), .int .u64 (.ofNat 0), .int .u64 (.ofNat 0), .int .u64 (.ofNat 0), .int .u64 (.ofNat 0), .int .u64 (.ofNat 0), .int .u64 (.ofNat 0), .int .u64 (.ofNat 0), .int .u64 (.ofNat 0), .int .u64 (.ofNat 0), .int .u64 (.ofNat 0), .int .u64 (.ofNat 0), .int .u64 (.ofNat 0), .int .u64 (.ofNat 9223372036854775808)], .int .i64 (.ofNat 1024)], .agg [.int .u64 (.ofNat 9223372036854775809), .int .u64 (.ofNat 2), .int .u64 (.ofNat 0), .int .u64 (.ofNat 0), .int .u64 (.ofNat 0), .int .u64 (.ofNat 0), .int .u64 (.ofNat 0), .int .u64 (.ofNat 0), .int .u64 (.ofNat 0), .int .u64 (.ofNat 0), .int .u64 (.ofNat 0), .int .u64 (.ofNat 0), .int .u64 (.ofNat 0), .int .u64 (.ofNat 0), .int .u64 (.ofNat 0), .int .u64 (.ofNat 9223372036854775808)]⟩ := ext_of ext8k
theorem ext9k : extAt Tryd.prog 100000 s0 ⟨13, [.agg [.int .u64 (.ofNat 9223372036854775809), .int .u64 (.ofNat 2), .int .u64 (.ofNat 0), .int .u64 (.ofNat 0), .int .u64 (.ofNat 0), .int .u64 (.ofNat 0), .int .u64 (.ofNat 0), .int .u64 (.ofNat 0), .int .u64 (.ofNat 0), .int .u64 (.ofNat 0), .int .u64 (.ofNat 0), .int .u64 (.ofNat 0), .int .u64 (.ofNat 0), .int .u64 (.ofNat 0), .int .u64 (.ofNat 0), .int .u64 (.ofNat 9223372036854775808)], .int .i64 (.ofNat 63)], .agg [.int .u64 (.ofNat 9223372036854775809), .int .u64 (.ofNat 2), .int .u64 (.ofNat 0), .int .u64 (.ofNat 0), .int .u64 (.ofNat 0), .int .u64 (.ofNat 0), .int .u64 (.ofNat 0), .int .u64 (.ofNat 0), .int .u64 (.ofNat 0), .int .u64 (.ofNat 0), .int .u64 (.ofNat 0), .int .u64 (.ofNat 0), .int .u64 (.ofNat 0), .int .u64 (.ofNat 0), .int .u64 (.ofNat 0), .int .u64 (.ofNat 9223372036854775808)]⟩ = true := by kernel_rfl
theorem ext9 : Ext.ok Tryd.prog s0 ⟨13, [.agg [.int .u64 (.ofNat 9223372036854775809), .int .u64 (.ofNat 2), .int .u64 (.ofNat 0), .int .u64 (.ofNat 0), .int .u64 (.ofNat 0), .int .u64 (.ofNat 0), .int .u64 (.ofNat 0), .int .u64 (.ofNat 0), .int .u64 (.ofNat 0), .int .u64 (.ofNat 0), .int .u64 (.ofNat 0), .int .u64 (.ofNat 0), .int .u64 (.ofNat 0), .int .u64 (.ofNat 0), .int .u64 (.ofNat 0), .int .u64 (.ofNat 9223372036854775808)], .int .i64 (.ofNat 63)], .agg [.int .u64 (.ofNat 9223372036854775809), .int .u64 (.ofNat 2), .int .u64 (.ofNat 0), .int .u64 (.ofNat 0), .int .u64 (.ofNat 0), .int .u64 (.ofNat 0), .int .u64 (.ofNat 0), .int .u64 (.ofNat 0), .int .u64 (.ofNat 0), .int .u64 (.ofNat 0), .int .u64 (.ofNat 0), .int .u64 (.ofNat 0), .int .u64 (.ofNat 0), .int .u64 (.ofNat 0), .int .u64 (.ofNat 0), .int .u64 (.ofNat 9223372036854775808)]⟩ := ext_of ext9k
theorem ext10k : extAt Tryd.prog 100000 s0 ⟨14, [.agg [.int .u64 (.ofNat 9223372036854775809), .int .u64 (.ofNat 2), .int .u64 (.ofNat 0), .int .u64 (.ofNat 0), .int .u64 (.ofNat 0), .int .u64 (.ofNat 0), .int .u64 (.ofNat 0), .int .u64 (.ofNat 0), .int .u64 (.ofNat 0), .int .u64 (.ofNat 0), .int .u64 (.ofNat 0), .int .u64 (.ofNat 0), .int .u64 (.ofNat 0), .int .u64 (.ofNat 0), .int .u64 (.ofNat 0), .int .u64 (.ofNat 9223372036854775808)], .int .i64 (.negSucc 0)], .agg [.int .u64 (.ofNat 9223372036854775809), .int .u64 (.ofNat 2), .int .u64 (.ofNat 0), .int .u64 (.ofNat 0), .int .u64 (.ofNat 0), .int .u64 (.ofNat 0), .int .u64 (.ofNat 0), .int .u64 (.ofNat 0), .int .u64 (.ofNat 0), .int .u64 (.ofNat 0), .int .u64 (.ofNat 0), .int .u64 (.ofNat 0), .int .u64 (.ofNat 0), .int .u64 (.ofNat 0), .int .u64 (.ofNat 0), .int .u64 (.ofNat 9223372036854775808)]⟩ = true := by kernel_rfl
theorem ext10 : Ext.ok Tryd.prog s0 ⟨14, [.agg [.int .u64 (.ofNat 9223372036854775809), .int .u64 (.ofNat 2), .int .u64 (.ofNat 0), .int .u64 (.ofNat 0), .int .u64 (.ofNat 0), .int .u64 (.ofNat 0), .int .u64 (.ofNat 0), .int .u64 (.ofNat 0), .int .u64 (.ofNat 0), .int .u64 (.ofNat 0), .int .u64 (.ofNat 0), .int .u64 (.ofNat 0), .int .u64 (.ofNat 0), .int .u64 (.ofNat 0), .int .u64 (.ofNat 0), .int .u64 (.ofNat 9223372036854775808)], .int .i64 (.negSucc 0)], .agg [.int .u64 (.ofNat 9223372036854775809), .int .u64 (.ofNat 2), .int .u64 (.ofNat 0), .int .u64 (.ofNat 0), .int .u64 (.ofNat 0), .int .u64 (.ofNat 0), .int .u64 (.ofNat 0), .int .u64 (.ofNat 0), .int .u64 (.ofNat 0), .int .u64 (.ofNat 0), .int .u64 (.ofNat 0), .int .u64 (.ofNat 0), .int .u64 (.ofNat 0), .int .u64 (.ofNat 0), .int .u64 (.ofNat 0), .int .u64 (.ofNat 9223372036854775808)]⟩ := ext_of ext10k
def ext1d : List FuncId := []
def t189 : Tri V := .node (.node .nil (some (.int .i64 (.ofNat 42))) .nil) (some (.int .i64 (.ofNat 1024))) .nil
def t191 : Tri V := .node (.node .nil (some (.ptr 1 0)) .nil) (some (.int .i64 (.ofNat 42))) .nil
def t192 : Tri V := .node t189 (some (.ptr 1 0)) t191
def t194 : Tri V := .node (.node .nil (some (.int .u64 (.ofNat 4398046511104))) .nil) (some (.bool true)) .nil
def t195 : Tri V := .node t194 none (.node .nil (some (.ptr 1 0)) .nil)
def t196 : Tri V := .node t192 none t195
def t197 : Tri V := .node (.node .nil (some (.int .i64 (.ofNat 42))) .nil) (some (.int .i64 (.ofNat 43))) .nil
def t199 : Tri V := .node (.node .nil (some (.int .i64 (.ofNat 43))) .nil) (some (.int .i64 (.ofNat 0))) .nil
def t15 : Tri V := .node (.node .nil (some (.int .u64 (.ofNat 0))) .nil) (some (.int .u64 (.ofNat 0))) .nil
def t16 : Tri V := .node t15 (some (.int .u64 (.ofNat 0))) (.node .nil (some (.int .u64 (.ofNat 0))) .nil)
def t17 : Tri V := .node (.node .nil (some (.int .u64 (.ofNat 0))) .nil) (some (.int .u64 (.ofNat 0))) (.node .nil (some (.int .u64 (.ofNat 0))) .nil)
def t18 : Tri V := .node t16 (some (.int .u64 (.ofNat 0))) t17
def t19 : Tri V := .node t17 (some (.int .u64 (.ofNat 0))) t17
def t207 : Tri V := .node t18 (some (.int .u64 (.ofNat 8796093022207))) t19
def t208 : Tri O := .node .nil (some (.row 16 t207 false true [])) .nil
def t20 : Tri V := .node t18 (some (.int .u64 (.ofNat 0))) t19
def t209 : Tri O := .node t208 (some (.row 16 t20 false true [])) .nil
def x1c1 : Cf :=
  ([⟨10, [.rgt, .inn, .lft, .rgt, .rgt, .inn, .inn, .rgt, .lft, .rgt, .rgt], none, ⟨22, (.node t196 none (.node (.node t197 (some (.int .i64 (.ofNat 43))) t199) (some (.ptr 0 0)) (.node (.node (.node .nil (some (.int .u64 (.ofNat 8796093022207))) .nil) (some (.int .i64 (.ofNat 43))) .nil) none (.node .nil (some (.int .u64 (.ofNat 4398046511103))) .nil)))), [], none⟩⟩],
  ⟨2, t209, gl⟩)
theorem x1p1 : partOk Tryd.prog [] [] 100000 ext1d 491 (startA Tryd.prog 10 [.int .i64 (.ofNat 1024)] s0) x1c1 = true := by kernel_rfl
theorem x1g1 : Goes Tryd.prog s0 (startA Tryd.prog 10 [.int .i64 (.ofNat 1024)] s0) x1c1 := goes_of (E := []) (N := []) trivial x1p1 rfl
def t211 : Tri V := .node (.node .nil (some (.int .i64 (.ofNat 88))) .nil) (some (.int .i64 (.ofNat 1024))) .nil
def t213 : Tri V := .node (.node .nil (some (.ptr 1 1)) .nil) (some (.int .i64 (.ofNat 88))) .nil
def t214 : Tri V := .node t211 (some (.ptr 1 0)) t213
def t216 : Tri V := .node (.node .nil (some (.int .u64 (.ofNat 16777216))) .nil) (some (.bool true)) .nil
def t217 : Tri V := .node t216 none (.node .nil (some (.ptr 1 1)) .nil)
def t218 : Tri V := .node t214 none t217
def t220 : Tri V := .node (.node .nil (some (.int .i64 (.ofNat 24))) .nil) (some (.int .i64 (.ofNat 89))) .nil
def t222 : Tri V := .node (.node .nil (some (.int .i64 (.ofNat 89))) .nil) (some (.int .i64 (.ofNat 1))) .nil
def t223 : Tri V := .node t220 (some (.int .i64 (.ofNat 89))) t222
def t225 : Tri V := .node (.node .nil (some (.int .u64 (.ofNat 33554431))) .nil) (some (.int .i64 (.ofNat 89))) .nil
def t227 : Tri V := .node t225 none (.node .nil (some (.int .u64 (.ofNat 16777215))) .nil)
def t228 : Tri V := .node t223 (some (.ptr 0 0)) t227
def t229 : Tri V := .node t218 none t228
def t230 : Tri V := .node t16 (some (.int .u64 (.ofNat 33554431))) t17
def t231 : Tri V := .node t230 (some (.int .u64 (.ofNat 18446744073709551615))) t19
def t232 : Tri O := .node .nil (some (.row 16 t231 false true [])) .nil
def t233 : Tri O := .node t232 (some (.row 16 t20 false true [])) .nil
def x1c2 : Cf :=
  ([⟨10, [.rgt, .inn, .lft, .rgt, .rgt, .inn, .inn, .rgt, .lft, .rgt, .rgt], none, ⟨22, t229, [], none⟩⟩],
  ⟨2, t233, gl⟩)
theorem x1p2 : partOk Tryd.prog [] [] 100000 ext1d 506 x1c1 x1c2 = true := by kernel_rfl
theorem x1g2 : Goes Tryd.prog s0 x1c1 x1c2 := goes_of (E := []) (N := []) trivial x1p2 rfl
def t235 : Tri V := .node (.node .nil (some (.int .i64 (.ofNat 134))) .nil) (some (.int .i64 (.ofNat 1024))) .nil
def t237 : Tri V := .node (.node .nil (some (.ptr 1 2)) .nil) (some (.int .i64 (.ofNat 134))) .nil
def t238 : Tri V := .node t235 (some (.ptr 1 0)) t237
def t240 : Tri V := .node (.node .nil (some (.int .u64 (.ofNat 64))) .nil) (some (.bool true)) .nil
def t241 : Tri V := .node t240 none (.node .nil (some (.ptr 1 2)) .nil)
def t242 : Tri V := .node t238 none t241
def t244 : Tri V := .node (.node .nil (some (.int .i64 (.ofNat 6))) .nil) (some (.int .i64 (.ofNat 135))) .nil
def t246 : Tri V := .node (.node .nil (some (.int .i64 (.ofNat 135))) .nil) (some (.int .i64 (.ofNat 2))) .nil
def t247 : Tri V := .node t244 (some (.int .i64 (.ofNat 135))) t246
def t249 : Tri V := .node (.node .nil (some (.int .u64 (.ofNat 127))) .nil) (some (.int .i64 (.ofNat 135))) .nil
def t251 : Tri V := .node t249 none (.node .nil (some (.int .u64 (.ofNat 63))) .nil)
def t252 : Tri V := .node t247 (some (.ptr 0 0)) t251
def t253 : Tri V := .node t242 none t252
def t254 : Tri V := .node t16 (some (.int .u64 (.ofNat 18446744073709551615))) t17
def t255 : Tri V := .node t17 (some (.int .u64 (.ofNat 127))) t17
def t256 : Tri V := .node t254 (some (.int .u64 (.ofNat 18446744073709551615))) t255
def t257 : Tri O := .node .nil (some (.row 16 t256 false true [])) .nil
def t258 : Tri O := .node t257 (some (.row 16 t20 false true [])) .nil
def x1c3 : Cf :=
  ([⟨10, [.rgt, .inn, .lft, .rgt, .rgt, .inn, .inn, .rgt, .lft, .rgt, .rgt], none, ⟨22, t253, [], none⟩⟩],
  ⟨2, t258, gl⟩)
theorem x1p3 : partOk Tryd.prog [] [] 100000 ext1d 506 x1c2 x1c3 = true := by kernel_rfl
theorem x1g3 : Goes Tryd.prog s0 x1c2 x1c3 := goes_of (E := []) (N := []) trivial x1p3 rfl
def t260 : Tri V := .node (.node .nil (some (.int .i64 (.ofNat 180))) .nil) (some (.int .i64 (.ofNat 1024))) .nil
def t261 : Tri V := .node (.node .nil (some (.ptr 1 2)) .nil) (some (.int .i64 (.ofNat 180))) .nil
def t262 : Tri V := .node t260 (some (.ptr 1 0)) t261
def t263 : Tri V := .node .nil (some (.int .u64 (.ofNat 4503599627370496))) .nil
def t264 : Tri V := .node t263 (some (.bool true)) .nil
def t265 : Tri V := .node t264 none (.node .nil (some (.ptr 1 2)) .nil)
def t266 : Tri V := .node t262 none t265
def t268 : Tri V := .node (.node .nil (some (.int .i64 (.ofNat 52))) .nil) (some (.int .i64 (.ofNat 181))) .nil
def t270 : Tri V := .node (.node .nil (some (.int .i64 (.ofNat 181))) .nil) (some (.int .i64 (.ofNat 2))) .nil
def t271 : Tri V := .node t268 (some (.int .i64 (.ofNat 181))) t270
def t272 : Tri V := .node .nil (some (.int .u64 (.ofNat 9007199254740991))) .nil
def t273 : Tri V := .node t272 (some (.int .i64 (.ofNat 181))) .nil
def t274 : Tri V := .node .nil (some (.int .u64 (.ofNat 4503599627370495))) .nil
def t275 : Tri V := .node t273 none t274
def t276 : Tri V := .node t271 (some (.ptr 0 0)) t275
def t277 : Tri V := .node t266 none t276
def t278 : Tri V := .node t17 (some (.int .u64 (.ofNat 9007199254740991))) t17
def t279 : Tri V := .node t254 (some (.int .u64 (.ofNat 18446744073709551615))) t278
def t280 : Tri O := .node .nil (some (.row 16 t279 false true [])) .nil
def t281 : Tri O := .node t280 (some (.row 16 t20 false true [])) .nil
def x1c4 : Cf :=
  ([⟨10, [.rgt, .inn, .lft, .rgt, .rgt, .inn, .inn, .rgt, .lft, .rgt, .rgt], none, ⟨22, t277, [], none⟩⟩],
  ⟨2, t281, gl⟩)
theorem x1p4 : partOk Tryd.prog [] [] 100000 ext1d 506 x1c3 x1c4 = true := by kernel_rfl
theorem x1g4 : Goes Tryd.prog s0 x1c3 x1c4 := goes_of (E := []) (N := []) trivial x1p4 rfl
def t304 : Tri V := .node t17 (some (.int .u64 (.ofNat 18446744073709551615))) t17
def x1c5 : Cf :=
  ([⟨10, [.lft, .inn, .inn, .rgt, .lft, .rgt, .rgt], none, ⟨22, (.node (.node (.node (.node (.node .nil (some (.int .i64 (.ofNat 227))) .nil) (some (.int .i64 (.ofNat 1024))) .nil) (some (.ptr 1 0)) (.node (.node .nil (some (.ptr 1 3)) .nil) (some (.int .i64 (.ofNat 227))) .nil)) none (.node (.node (.node .nil (some (.int .u64 (.ofNat 34359738368))) .nil) (some (.bool true)) .nil) none (.node .nil (some (.ptr 1 3)) .nil))) none (.node (.node (.node (.node .nil (some (.int .i64 (.ofNat 35))) .nil) (some (.int .i64 (.ofNat 228))) .nil) (some (.int .i64 (.ofNat 227))) (.node (.node .nil (some (.int .i64 (.ofNat 228))) .nil) (some (.int .i64 (.ofNat 3))) .nil)) (some (.ptr 0 0)) (.node (.node (.node .nil (some (.int .u64 (.ofNat 68719476735))) .nil) (some (.int .i64 (.ofNat 227))) .nil) none (.node .nil (some (.int .u64 (.ofNat 34359738367))) .nil)))), [], none⟩⟩],
  ⟨2, (.node (.node .nil (some (.row 16 (.node (.node (.node t15 (some (.int .u64 (.ofNat 68719476735))) (.node .nil (some (.int .u64 (.ofNat 0))) .nil)) (some (.int .u64 (.ofNat 18446744073709551615))) t17) (some (.int .u64 (.ofNat 18446744073709551615))) t304) false true [])) .nil) (some (.row 16 t20 false true [])) .nil), gl⟩)
theorem x1p5 : partOk Tryd.prog [] [] 100000 ext1d 509 x1c4 x1c5 = true := by kernel_rfl
theorem x1g5 : Goes Tryd.prog s0 x1c4 x1c5 := goes_of (E := []) (N := []) trivial x1p5 rfl
def t122 : Tri V := .node (.node .nil (some (.int .u64 (.ofNat 131072))) .nil) (some (.bool true)) .nil
def t323 : Tri V := .node t15 (some (.int .u64 (.ofNat 18446744073709551615))) (.node .nil (some (.int .u64 (.ofNat 0))) .nil)
def t324 : Tri V := .node t323 (some (.int .u64 (.ofNat 18446744073709551615))) t17
def x1c6 : Cf :=
  ([⟨10, [.rgt, .inn, .lft, .rgt, .rgt, .inn, .inn, .rgt, .lft, .rgt, .rgt], none, ⟨22, (.node (.node (.node (.node (.node .nil (some (.int .i64 (.ofNat 273))) .nil) (some (.int .i64 (.ofNat 1024))) .nil) (some (.ptr 1 0)) (.node (.node .nil (some (.ptr 1 4)) .nil) (some (.int .i64 (.ofNat 273))) .nil)) none (.node t122 none (.node .nil (some (.ptr 1 4)) .nil))) none (.node (.node (.node (.node .nil (some (.int .i64 (.ofNat 17))) .nil) (some (.int .i64 (.ofNat 274))) .nil) (some (.int .i64 (.ofNat 274))) (.node (.node .nil (some (.int .i64 (.ofNat 274))) .nil) (some (.int .i64 (.ofNat 4))) .nil)) (some (.ptr 0 0)) (.node (.node (.node .nil (some (.int .u64 (.ofNat 262143))) .nil) (some (.int .i64 (.ofNat 274))) .nil) none (.node .nil (some (.int .u64 (.ofNat 131071))) .nil)))), [], none⟩⟩],
  ⟨2, (.node (.node .nil (some (.row 16 (.node t324 (some (.int .u64 (.ofNat 18446744073709551615))) (.node (.node (.node .nil (some (.int .u64 (.ofNat 0))) .nil) (some (.int .u64 (.ofNat 262143))) (.node .nil (some (.int .u64 (.ofNat 0))) .nil)) (some (.int .u64 (.ofNat 18446744073709551615))) t17)) false true [])) .nil) (some (.row 16 t20 false true [])) .nil), gl⟩)
theorem x1p6 : partOk Tryd.prog [] [] 100000 ext1d 514 x1c5 x1c6 = true := by kernel_rfl
theorem x1g6 : Goes Tryd.prog s0 x1c5 x1c6 := goes_of (E := []) (N := []) trivial x1p6 rfl
def t175 : Tri V := .node .nil (some (.int .u64 (.ofNat 9223372036854775808))) .nil
def t342 : Tri V := .node .nil (some (.int .u64 (.ofNat 18446744073709551615))) .nil
def t344 : Tri V := .node .nil (some (.int .u64 (.ofNat 9223372036854775807))) .nil
def t348 : Tri V := .node (.node .nil (some (.int .u64 (.ofNat 0))) .nil) (some (.int .u64 (.ofNat 18446744073709551615))) (.node .nil (some (.int .u64 (.ofNat 0))) .nil)
def t349 : Tri V := .node t348 (some (.int .u64 (.ofNat 18446744073709551615))) t17
def x1c7 : Cf :=
  ([⟨10, [.rgt, .inn, .lft, .rgt, .rgt, .inn, .inn, .rgt, .lft, .rgt, .rgt], none, ⟨22, (.node (.node (.node (.node (.node .nil (some (.int .i64 (.ofNat 319))) .nil) (some (.int .i64 (.ofNat 1024))) .nil) (some (.ptr 1 0)) (.node (.node .nil (some (.ptr 1 4)) .nil) (some (.int .i64 (.ofNat 319))) .nil)) none (.node (.node t175 (some (.bool true)) .nil) none (.node .nil (some (.ptr 1 4)) .nil))) none (.node (.node (.node (.node .nil (some (.int .i64 (.ofNat 63))) .nil) (some (.int .i64 (.ofNat 320))) .nil) (some (.int .i64 (.ofNat 320))) (.node (.node .nil (some (.int .i64 (.ofNat 320))) .nil) (some (.int .i64 (.ofNat 4))) .nil)) (some (.ptr 0 0)) (.node (.node t342 (some (.int .i64 (.ofNat 320))) .nil) none t344))), [], none⟩⟩],
  ⟨2, (.node (.node .nil (some (.row 16 (.node t324 (some (.int .u64 (.ofNat 18446744073709551615))) t349) false true [])) .nil) (some (.row 16 t20 false true [])) .nil), gl⟩)
theorem x1p7 : partOk Tryd.prog [] [] 100000 ext1d 506 x1c6 x1c7 = true := by kernel_rfl
theorem x1g7 : Goes Tryd.prog s0 x1c6 x1c7 := goes_of (E := []) (N := []) trivial x1p7 rfl
def t354 : Tri V := .node (.node .nil (some (.int .i64 (.ofNat 365))) .nil) (some (.int .i64 (.ofNat 1024))) .nil
def t356 : Tri V := .node (.node .nil (some (.ptr 1 5)) .nil) (some (.int .i64 (.ofNat 365))) .nil
def t357 : Tri V := .node t354 (some (.ptr 1 0)) t356
def t358 : Tri V := .node .nil (some (.int .u64 (.ofNat 35184372088832))) .nil
def t359 : Tri V := .node t358 (some (.bool true)) .nil
def t360 : Tri V := .node t359 none (.node .nil (some (.ptr 1 5)) .nil)
def t361 : Tri V := .node t357 none t360
def t363 : Tri V := .node (.node .nil (some (.int .i64 (.ofNat 45))) .nil) (some (.int .i64 (.ofNat 366))) .nil
def t365 : Tri V := .node (.node .nil (some (.int .i64 (.ofNat 366))) .nil) (some (.int .i64 (.ofNat 5))) .nil
def t367 : Tri V := .node .nil (some (.int .u64 (.ofNat 70368744177663))) .nil
def t369 : Tri V := .node .nil (some (.int .u64 (.ofNat 35184372088831))) .nil
def t373 : Tri V := .node (.node .nil (some (.int .u64 (.ofNat 0))) .nil) (some (.int .u64 (.ofNat 70368744177663))) (.node .nil (some (.int .u64 (.ofNat 0))) .nil)
def t374 : Tri V := .node t323 (some (.int .u64 (.ofNat 18446744073709551615))) t373
def t375 : Tri V := .node t374 (some (.int .u64 (.ofNat 18446744073709551615))) t349
def t376 : Tri O := .node .nil (some (.row 16 t375 false true [])) .nil
def t377 : Tri O := .node t376 (some (.row 16 t20 false true [])) .nil
def x1c8 : Cf :=
  ([⟨10, [.rgt, .inn, .lft, .rgt, .rgt, .inn, .inn, .rgt, .lft, .rgt, .rgt], none, ⟨22, (.node t361 none (.node (.node t363 (some (.int .i64 (.ofNat 366))) t365) (some (.ptr 0 0)) (.node (.node t367 (some (.int .i64 (.ofNat 366))) .nil) none t369))), [], none⟩⟩],
  ⟨2, t377, gl⟩)
theorem x1p8 : partOk Tryd.prog [] [] 100000 ext1d 506 x1c7 x1c8 = true := by kernel_rfl
theorem x1g8 : Goes Tryd.prog s0 x1c7 x1c8 := goes_of (E := []) (N := []) trivial x1p8 rfl
def t40 : Tri V := .node (.node .nil (some (.int .u64 (.ofNat 268435456))) .nil) (some (.bool true)) .nil
def t386 : Tri V := .node (.node .nil (some (.int .i64 (.ofNat 412))) .nil) (some (.int .i64 (.ofNat 6))) .nil
def t392 : Tri V := .node t323 (some (.int .u64 (.ofNat 18446744073709551615))) t348
def x1c9 : Cf :=
  ([⟨10, [.rgt, .rgt, .rgt, .inn, .inn, .rgt, .lft, .rgt, .rgt], none, ⟨22, (.node (.node (.node (.node (.node .nil (some (.int .i64 (.ofNat 412))) .nil) (some (.int .i64 (.ofNat 1024))) .nil) (some (.ptr 1 0)) (.node (.node .nil (some (.ptr 1 6)) .nil) (some (.int .i64 (.ofNat 412))) .nil)) none (.node t40 none (.node .nil (some (.ptr 1 6)) .nil))) none (.node (.node (.node (.node .nil (some (.int .i64 (.ofNat 28))) .nil) (some (.int .i64 (.ofNat 412))) .nil) (some (.int .i64 (.ofNat 412))) t386) (some (.ptr 0 0)) (.node (.node (.node .nil (some (.int .u64 (.ofNat 536870911))) .nil) (some (.int .i64 (.ofNat 412))) .nil) none (.node .nil (some (.int .u64 (.ofNat 268435455))) .nil)))), [], none⟩⟩],
  ⟨2, (.node (.node .nil (some (.row 16 (.node t392 (some (.int .u64 (.ofNat 18446744073709551615))) (.node t348 (some (.int .u64 (.ofNat 18446744073709551615))) (.node (.node .nil (some (.int .u64 (.ofNat 0))) .nil) (some (.int .u64 (.ofNat 536870911))) (.node .nil (some (.int .u64 (.ofNat 0))) .nil)))) false true [])) .nil) (some (.row 16 t20 false true [])) .nil), gl⟩)
theorem x1p9 : partOk Tryd.prog [] [] 100000 ext1d 507 x1c8 x1c9 = true := by kernel_rfl
theorem x1g9 : Goes Tryd.prog s0 x1c8 x1c9 := goes_of (E := []) (N := []) trivial x1p9 rfl
def t421 : Tri V := .node t348 (some (.int .u64 (.ofNat 18446744073709551615))) t348
def x1c10 : Cf :=
  ([⟨10, [.rgt, .inn, .lft, .rgt, .rgt, .inn, .inn, .rgt, .lft, .rgt, .rgt], none, ⟨22, (.node (.node (.node (.node (.node .nil (some (.int .i64 (.ofNat 458))) .nil) (some (.int .i64 (.ofNat 1024))) .nil) (some (.ptr 1 0)) (.node (.node .nil (some (.ptr 1 7)) .nil) (some (.int .i64 (.ofNat 458))) .nil)) none (.node (.node (.node .nil (some (.int .u64 (.ofNat 1024))) .nil) (some (.bool true)) .nil) none (.node .nil (some (.ptr 1 7)) .nil))) none (.node (.node (.node (.node .nil (some (.int .i64 (.ofNat 10))) .nil) (some (.int .i64 (.ofNat 459))) .nil) (some (.int .i64 (.ofNat 459))) (.node (.node .nil (some (.int .i64 (.ofNat 459))) .nil) (some (.int .i64 (.ofNat 7))) .nil)) (some (.ptr 0 0)) (.node (.node (.node .nil (some (.int .u64 (.ofNat 2047))) .nil) (some (.int .i64 (.ofNat 459))) .nil) none (.node .nil (some (.int .u64 (.ofNat 1023))) .nil)))), [], none⟩⟩],
  ⟨2, (.node (.node .nil (some (.row 16 (.node (.node (.node (.node (.node .nil (some (.int .u64 (.ofNat 0))) .nil) (some (.int .u64 (.ofNat 2047))) .nil) (some (.int .u64 (.ofNat 18446744073709551615))) (.node .nil (some (.int .u64 (.ofNat 0))) .nil)) (some (.int .u64 (.ofNat 18446744073709551615))) t348) (some (.int .u64 (.ofNat 18446744073709551615))) t421) false true [])) .nil) (some (.row 16 t20 false true [])) .nil), gl⟩)
theorem x1p10 : partOk Tryd.prog [] [] 100000 ext1d 516 x1c9 x1c10 = true := by kernel_rfl
theorem x1g10 : Goes Tryd.prog s0 x1c9 x1c10 := goes_of (E := []) (N := []) trivial x1p10 rfl
def t439 : Tri V := .node .nil (some (.int .u64 (.ofNat 144115188075855871))) .nil
def x1c11 : Cf :=
  ([⟨10, [.rgt, .rgt, .rgt, .inn, .inn, .rgt, .lft, .rgt, .rgt], none, ⟨22, (.node (.node (.node (.node (.node .nil (some (.int .i64 (.ofNat 505))) .nil) (some (.int .i64 (.ofNat 1024))) .nil) (some (.ptr 1 0)) (.node (.node .nil (some (.ptr 1 7)) .nil) (some (.int .i64 (.ofNat 505))) .nil)) none (.node (.node (.node .nil (some (.int .u64 (.ofNat 144115188075855872))) .nil) (some (.bool true)) .nil) none (.node .nil (some (.ptr 1 7)) .nil))) none (.node (.node (.node (.node .nil (some (.int .i64 (.ofNat 57))) .nil) (some (.int .i64 (.ofNat 505))) .nil) (some (.int .i64 (.ofNat 505))) (.node (.node .nil (some (.int .i64 (.ofNat 505))) .nil) (some (.int .i64 (.ofNat 7))) .nil)) (some (.ptr 0 0)) (.node (.node (.node .nil (some (.int .u64 (.ofNat 288230376151711743))) .nil) (some (.int .i64 (.ofNat 505))) .nil) none t439))), [], none⟩⟩],
  ⟨2, (.node (.node .nil (some (.row 16 (.node (.node (.node (.node (.node .nil (some (.int .u64 (.ofNat 0))) .nil) (some (.int .u64 (.ofNat 288230376151711743))) .nil) (some (.int .u64 (.ofNat 18446744073709551615))) (.node .nil (some (.int .u64 (.ofNat 0))) .nil)) (some (.int .u64 (.ofNat 18446744073709551615))) t348) (some (.int .u64 (.ofNat 18446744073709551615))) t421) false true [])) .nil) (some (.row 16 t20 false true [])) .nil), gl⟩)
theorem x1p11 : partOk Tryd.prog [] [] 100000 ext1d 507 x1c10 x1c11 = true := by kernel_rfl
theorem x1g11 : Goes Tryd.prog s0 x1c10 x1c11 := goes_of (E := []) (N := []) trivial x1p11 rfl
def t467 : Tri V := .node (.node .nil (some (.int .u64 (.ofNat 0))) .nil) (some (.int .u64 (.ofNat 18446744073709551615))) .nil
def t468 : Tri V := .node t467 (some (.int .u64 (.ofNat 18446744073709551615))) (.node .nil (some (.int .u64 (.ofNat 0))) .nil)
def t469 : Tri V := .node t468 (some (.int .u64 (.ofNat 18446744073709551615))) t348
def x1c12 : Cf :=
  ([⟨10, [.rgt, .inn, .lft, .rgt, .rgt, .inn, .inn, .rgt, .lft, .rgt, .rgt], none, ⟨22, (.node (.node (.node (.node (.node .nil (some (.int .i64 (.ofNat 551))) .nil) (some (.int .i64 (.ofNat 1024))) .nil) (some (.ptr 1 0)) (.node (.node .nil (some (.ptr 1 8)) .nil) (some (.int .i64 (.ofNat 551))) .nil)) none (.node (.node (.node .nil (some (.int .u64 (.ofNat 549755813888))) .nil) (some (.bool true)) .nil) none (.node .nil (some (.ptr 1 8)) .nil))) none (.node (.node (.node (.node .nil (some (.int .i64 (.ofNat 39))) .nil) (some (.int .i64 (.ofNat 552))) .nil) (some (.int .i64 (.ofNat 552))) (.node (.node .nil (some (.int .i64 (.ofNat 552))) .nil) (some (.int .i64 (.ofNat 8))) .nil)) (some (.ptr 0 0)) (.node (.node (.node .nil (some (.int .u64 (.ofNat 1099511627775))) .nil) (some (.int .i64 (.ofNat 552))) .nil) none (.node .nil (some (.int .u64 (.ofNat 549755813887))) .nil)))), [], none⟩⟩],
  ⟨2, (.node (.node .nil (some (.row 16 (.node t469 (some (.int .u64 (.ofNat 18446744073709551615))) (.node (.node (.node .nil (some (.int .u64 (.ofNat 1099511627775))) .nil) (some (.int .u64 (.ofNat 18446744073709551615))) (.node .nil (some (.int .u64 (.ofNat 0))) .nil)) (some (.int .u64 (.ofNat 18446744073709551615))) t348)) false true [])) .nil) (some (.row 16 t20 false true [])) .nil), gl⟩)
theorem x1p12 : partOk Tryd.prog [] [] 100000 ext1d 516 x1c11 x1c12 = true := by kernel_rfl
theorem x1g12 : Goes Tryd.prog s0 x1c11 x1c12 := goes_of (E := []) (N := []) trivial x1p12 rfl
def t497 : Tri V := .node t342 (some (.int .u64 (.ofNat 18446744073709551615))) (.node .nil (some (.int .u64 (.ofNat 0))) .nil)
def t498 : Tri V := .node t497 (some (.int .u64 (.ofNat 18446744073709551615))) t348
def x1c13 : Cf :=
  ([⟨10, [.rgt, .inn, .lft, .rgt, .rgt, .inn, .inn, .rgt, .lft, .rgt, .rgt], none, ⟨22, (.node (.node (.node (.node (.node .nil (some (.int .i64 (.ofNat 597))) .nil) (some (.int .i64 (.ofNat 1024))) .nil) (some (.ptr 1 0)) (.node (.node .nil (some (.ptr 1 9)) .nil) (some (.int .i64 (.ofNat 597))) .nil)) none (.node (.node (.node .nil (some (.int .u64 (.ofNat 2097152))) .nil) (some (.bool true)) .nil) none (.node .nil (some (.ptr 1 9)) .nil))) none (.node (.node (.node (.node .nil (some (.int .i64 (.ofNat 21))) .nil) (some (.int .i64 (.ofNat 598))) .nil) (some (.int .i64 (.ofNat 598))) (.node (.node .nil (some (.int .i64 (.ofNat 598))) .nil) (some (.int .i64 (.ofNat 9))) .nil)) (some (.ptr 0 0)) (.node (.node (.node .nil (some (.int .u64 (.ofNat 4194303))) .nil) (some (.int .i64 (.ofNat 598))) .nil) none (.node .nil (some (.int .u64 (.ofNat 2097151))) .nil)))), [], none⟩⟩],
  ⟨2, (.node (.node .nil (some (.row 16 (.node (.node t468 (some (.int .u64 (.ofNat 18446744073709551615))) (.node (.node .nil (some (.int .u64 (.ofNat 4194303))) .nil) (some (.int .u64 (.ofNat 18446744073709551615))) (.node .nil (some (.int .u64 (.ofNat 0))) .nil))) (some (.int .u64 (.ofNat 18446744073709551615))) t498) false true [])) .nil) (some (.row 16 t20 false true [])) .nil), gl⟩)
theorem x1p13 : partOk Tryd.prog [] [] 100000 ext1d 506 x1c12 x1c13 = true := by kernel_rfl
theorem x1g13 : Goes Tryd.prog s0 x1c12 x1c13 := goes_of (E := []) (N := []) trivial x1p13 rfl
def t503 : Tri V := .node (.node .nil (some (.int .i64 (.ofNat 643))) .nil) (some (.int .i64 (.ofNat 1024))) .nil
def t505 : Tri V := .node (.node .nil (some (.ptr 1 10)) .nil) (some (.int .i64 (.ofNat 643))) .nil
def t506 : Tri V := .node t503 (some (.ptr 1 0)) t505
def t508 : Tri V := .node (.node .nil (some (.int .u64 (.ofNat 8))) .nil) (some (.bool true)) .nil
def t509 : Tri V := .node t508 none (.node .nil (some (.ptr 1 10)) .nil)
def t510 : Tri V := .node t506 none t509
def t521 : Tri V := .node t468 (some (.int .u64 (.ofNat 18446744073709551615))) t497
def t522 : Tri V := .node (.node .nil (some (.int .u64 (.ofNat 15))) .nil) (some (.int .u64 (.ofNat 18446744073709551615))) (.node .nil (some (.int .u64 (.ofNat 0))) .nil)
def t523 : Tri V := .node t497 (some (.int .u64 (.ofNat 18446744073709551615))) t522
def t524 : Tri V := .node t521 (some (.int .u64 (.ofNat 18446744073709551615))) t523
def t525 : Tri O := .node .nil (some (.row 16 t524 false true [])) .nil
def t526 : Tri O := .node t525 (some (.row 16 t20 false true [])) .nil
def x1c14 : Cf :=
  ([⟨10, [.rgt, .inn, .lft, .rgt, .rgt, .inn, .inn, .rgt, .lft, .rgt, .rgt], none, ⟨22, (.node t510 none (.node (.node (.node (.node .nil (some (.int .i64 (.ofNat 3))) .nil) (some (.int .i64 (.ofNat 644))) .nil) (some (.int .i64 (.ofNat 644))) (.node (.node .nil (some (.int .i64 (.ofNat 644))) .nil) (some (.int .i64 (.ofNat 10))) .nil)) (some (.ptr 0 0)) (.node (.node (.node .nil (some (.int .u64 (.ofNat 15))) .nil) (some (.int .i64 (.ofNat 644))) .nil) none (.node .nil (some (.int .u64 (.ofNat 7))) .nil)))), [], none⟩⟩],
  ⟨2, t526, gl⟩)
theorem x1p14 : partOk Tryd.prog [] [] 100000 ext1d 506 x1c13 x1c14 = true := by kernel_rfl
theorem x1g14 : Goes Tryd.prog s0 x1c13 x1c14 := goes_of (E := []) (N := []) trivial x1p14 rfl
def t531 : Tri V := .node .nil (some (.int .u64 (.ofNat 562949953421312))) .nil
def t532 : Tri V := .node t531 (some (.bool true)) .nil
def t540 : Tri V := .node .nil (some (.int .u64 (.ofNat 1125899906842623))) .nil
def t542 : Tri V := .node .nil (some (.int .u64 (.ofNat 562949953421311))) .nil
def x1c15 : Cf :=
  ([⟨10, [.rgt, .inn, .lft, .rgt, .rgt, .inn, .inn, .rgt, .lft, .rgt, .rgt], none, ⟨22, (.node (.node (.node (.node (.node .nil (some (.int .i64 (.ofNat 689))) .nil) (some (.int .i64 (.ofNat 1024))) .nil) (some (.ptr 1 0)) (.node (.node .nil (some (.ptr 1 10)) .nil) (some (.int .i64 (.ofNat 689))) .nil)) none (.node t532 none (.node .nil (some (.ptr 1 10)) .nil))) none (.node (.node (.node (.node .nil (some (.int .i64 (.ofNat 49))) .nil) (some (.int .i64 (.ofNat 690))) .nil) (some (.int .i64 (.ofNat 690))) (.node (.node .nil (some (.int .i64 (.ofNat 690))) .nil) (some (.int .i64 (.ofNat 10))) .nil)) (some (.ptr 0 0)) (.node (.node t540 (some (.int .i64 (.ofNat 690))) .nil) none t542))), [], none⟩⟩],
  ⟨2, (.node (.node .nil (some (.row 16 (.node t521 (some (.int .u64 (.ofNat 18446744073709551615))) (.node t497 (some (.int .u64 (.ofNat 18446744073709551615))) (.node t540 (some (.int .u64 (.ofNat 18446744073709551615))) (.node .nil (some (.int .u64 (.ofNat 0))) .nil)))) false true [])) .nil) (some (.row 16 t20 false true [])) .nil), gl⟩)
theorem x1p15 : partOk Tryd.prog [] [] 100000 ext1d 506 x1c14 x1c15 = true := by kernel_rfl
theorem x1g15 : Goes Tryd.prog s0 x1c14 x1c15 := goes_of (E := []) (N := []) trivial x1p15 rfl
def t557 : Tri V := .node (.node .nil (some (.int .u64 (.ofNat 4294967296))) .nil) (some (.bool true)) .nil
def t563 : Tri V := .node (.node .nil (some (.int .i64 (.ofNat 737))) .nil) (some (.int .i64 (.ofNat 11))) .nil
def t573 : Tri V := .node t497 (some (.int .u64 (.ofNat 18446744073709551615))) t497
def x1c16 : Cf :=
  ([⟨10, [.rgt, .inn, .lft, .rgt, .rgt, .inn, .inn, .rgt, .lft, .rgt, .rgt], none, ⟨22, (.node (.node (.node (.node (.node .nil (some (.int .i64 (.ofNat 736))) .nil) (some (.int .i64 (.ofNat 1024))) .nil) (some (.ptr 1 0)) (.node (.node .nil (some (.ptr 1 11)) .nil) (some (.int .i64 (.ofNat 736))) .nil)) none (.node t557 none (.node .nil (some (.ptr 1 11)) .nil))) none (.node (.node (.node (.node .nil (some (.int .i64 (.ofNat 32))) .nil) (some (.int .i64 (.ofNat 737))) .nil) (some (.int .i64 (.ofNat 737))) t563) (some (.ptr 0 0)) (.node (.node (.node .nil (some (.int .u64 (.ofNat 8589934591))) .nil) (some (.int .i64 (.ofNat 737))) .nil) none (.node .nil (some (.int .u64 (.ofNat 4294967295))) .nil)))), [], none⟩⟩],
  ⟨2, (.node (.node .nil (some (.row 16 (.node (.node (.node t467 (some (.int .u64 (.ofNat 18446744073709551615))) (.node .nil (some (.int .u64 (.ofNat 8589934591))) .nil)) (some (.int .u64 (.ofNat 18446744073709551615))) t497) (some (.int .u64 (.ofNat 18446744073709551615))) t573) false true [])) .nil) (some (.row 16 t20 false true [])) .nil), gl⟩)
theorem x1p16 : partOk Tryd.prog [] [] 100000 ext1d 517 x1c15 x1c16 = true := by kernel_rfl
theorem x1g16 : Goes Tryd.prog s0 x1c15 x1c16 := goes_of (E := []) (N := []) trivial x1p16 rfl
def t578 : Tri V := .node (.node .nil (some (.int .i64 (.ofNat 783))) .nil) (some (.int .i64 (.ofNat 1024))) .nil
def t580 : Tri V := .node (.node .nil (some (.ptr 1 12)) .nil) (some (.int .i64 (.ofNat 783))) .nil
def t581 : Tri V := .node t578 (some (.ptr 1 0)) t580
def t583 : Tri V := .node (.node .nil (some (.int .u64 (.ofNat 32768))) .nil) (some (.bool true)) .nil
def t584 : Tri V := .node t583 none (.node .nil (some (.ptr 1 12)) .nil)
def t585 : Tri V := .node t581 none t584
def t596 : Tri V := .node t467 (some (.int .u64 (.ofNat 18446744073709551615))) t342
def t597 : Tri V := .node t596 (some (.int .u64 (.ofNat 18446744073709551615))) t497
def t598 : Tri V := .node t342 (some (.int .u64 (.ofNat 18446744073709551615))) (.node .nil (some (.int .u64 (.ofNat 65535))) .nil)
def t599 : Tri V := .node t598 (some (.int .u64 (.ofNat 18446744073709551615))) t497
def t600 : Tri V := .node t597 (some (.int .u64 (.ofNat 18446744073709551615))) t599
def t601 : Tri O := .node .nil (some (.row 16 t600 false true [])) .nil
def t602 : Tri O := .node t601 (some (.row 16 t20 false true [])) .nil
def x1c17 : Cf :=
  ([⟨10, [.rgt, .rgt, .rgt, .inn, .inn, .rgt, .lft, .rgt, .rgt], none, ⟨22, (.node t585 none (.node (.node (.node (.node .nil (some (.int .i64 (.ofNat 15))) .nil) (some (.int .i64 (.ofNat 783))) .nil) (some (.int .i64 (.ofNat 783))) (.node (.node .nil (some (.int .i64 (.ofNat 783))) .nil) (some (.int .i64 (.ofNat 12))) .nil)) (some (.ptr 0 0)) (.node (.node (.node .nil (some (.int .u64 (.ofNat 65535))) .nil) (some (.int .i64 (.ofNat 783))) .nil) none (.node .nil (some (.int .u64 (.ofNat 32767))) .nil)))), [], none⟩⟩],
  ⟨2, t602, gl⟩)
theorem x1p17 : partOk Tryd.prog [] [] 100000 ext1d 507 x1c16 x1c17 = true := by kernel_rfl
theorem x1g17 : Goes Tryd.prog s0 x1c16 x1c17 := goes_of (E := []) (N := []) trivial x1p17 rfl
def t604 : Tri V := .node (.node .nil (some (.int .i64 (.ofNat 830))) .nil) (some (.int .i64 (.ofNat 1024))) .nil
def t605 : Tri V := .node (.node .nil (some (.ptr 1 12)) .nil) (some (.int .i64 (.ofNat 830))) .nil
def t606 : Tri V := .node t604 (some (.ptr 1 0)) t605
def t607 : Tri V := .node .nil (some (.int .u64 (.ofNat 4611686018427387904))) .nil
def t608 : Tri V := .node t607 (some (.bool true)) .nil
def t609 : Tri V := .node t608 none (.node .nil (some (.ptr 1 12)) .nil)
def t610 : Tri V := .node t606 none t609
def t611 : Tri V := .node (.node .nil (some (.int .i64 (.ofNat 62))) .nil) (some (.int .i64 (.ofNat 830))) .nil
def t612 : Tri V := .node (.node .nil (some (.int .i64 (.ofNat 830))) .nil) (some (.int .i64 (.ofNat 12))) .nil
def t613 : Tri V := .node t611 (some (.int .i64 (.ofNat 830))) t612
def t614 : Tri V := .node t344 (some (.int .i64 (.ofNat 830))) .nil
def t158 : Tri V := .node .nil (some (.int .u64 (.ofNat 4611686018427387903))) .nil
def t615 : Tri V := .node t614 none t158
def t616 : Tri V := .node t613 (some (.ptr 0 0)) t615
def t617 : Tri V := .node t610 none t616
def t618 : Tri V := .node t342 (some (.int .u64 (.ofNat 18446744073709551615))) t344
def t619 : Tri V := .node t618 (some (.int .u64 (.ofNat 18446744073709551615))) t497
def t620 : Tri V := .node t597 (some (.int .u64 (.ofNat 18446744073709551615))) t619
def t621 : Tri O := .node .nil (some (.row 16 t620 false true [])) .nil
def t622 : Tri O := .node t621 (some (.row 16 t20 false true [])) .nil
def x1c18 : Cf :=
  ([⟨10, [.rgt, .rgt, .rgt, .inn, .inn, .rgt, .lft, .rgt, .rgt], none, ⟨22, t617, [], none⟩⟩],
  ⟨2, t622, gl⟩)
theorem x1p18 : partOk Tryd.prog [] [] 100000 ext1d 517 x1c17 x1c18 = true := by kernel_rfl
theorem x1g18 : Goes Tryd.prog s0 x1c17 x1c18 := goes_of (E := []) (N := []) trivial x1p18 rfl
def t624 : Tri V := .node (.node .nil (some (.int .i64 (.ofNat 877))) .nil) (some (.int .i64 (.ofNat 1024))) .nil
def t626 : Tri V := .node (.node .nil (some (.ptr 1 13)) .nil) (some (.int .i64 (.ofNat 877))) .nil
def t627 : Tri V := .node t624 (some (.ptr 1 0)) t626
def t628 : Tri V := .node t359 none (.node .nil (some (.ptr 1 13)) .nil)
def t629 : Tri V := .node t627 none t628
def t633 : Tri V := .node t367 (some (.int .i64 (.ofNat 877))) .nil
def t634 : Tri V := .node t633 none t369
def t637 : Tri V := .node t342 (some (.int .u64 (.ofNat 18446744073709551615))) t367
def t638 : Tri V := .node t596 (some (.int .u64 (.ofNat 18446744073709551615))) t637
def t639 : Tri V := .node t342 (some (.int .u64 (.ofNat 18446744073709551615))) t342
def t640 : Tri V := .node t639 (some (.int .u64 (.ofNat 18446744073709551615))) t497
def t641 : Tri V := .node t638 (some (.int .u64 (.ofNat 18446744073709551615))) t640
def t642 : Tri O := .node .nil (some (.row 16 t641 false true [])) .nil
def t643 : Tri O := .node t642 (some (.row 16 t20 false true [])) .nil
def x1c19 : Cf :=
  ([⟨10, [.rgt, .rgt, .rgt, .inn, .inn, .rgt, .lft, .rgt, .rgt], none, ⟨22, (.node t629 none (.node (.node (.node (.node .nil (some (.int .i64 (.ofNat 45))) .nil) (some (.int .i64 (.ofNat 877))) .nil) (some (.int .i64 (.ofNat 877))) (.node (.node .nil (some (.int .i64 (.ofNat 877))) .nil) (some (.int .i64 (.ofNat 13))) .nil)) (some (.ptr 0 0)) t634)), [], none⟩⟩],
  ⟨2, t643, gl⟩)
theorem x1p19 : partOk Tryd.prog [] [] 100000 ext1d 517 x1c18 x1c19 = true := by kernel_rfl
theorem x1g19 : Goes Tryd.prog s0 x1c18 x1c19 := goes_of (E := []) (N := []) trivial x1p19 rfl
def t645 : Tri V := .node (.node .nil (some (.int .i64 (.ofNat 923))) .nil) (some (.int .i64 (.ofNat 1024))) .nil
def t647 : Tri V := .node (.node .nil (some (.ptr 1 14)) .nil) (some (.int .i64 (.ofNat 923))) .nil
def t648 : Tri V := .node t645 (some (.ptr 1 0)) t647
def t650 : Tri V := .node (.node .nil (some (.int .u64 (.ofNat 134217728))) .nil) (some (.bool true)) .nil
def t651 : Tri V := .node t650 none (.node .nil (some (.ptr 1 14)) .nil)
def t652 : Tri V := .node t648 none t651
def t654 : Tri V := .node (.node .nil (some (.int .i64 (.ofNat 27))) .nil) (some (.int .i64 (.ofNat 924))) .nil
def t656 : Tri V := .node (.node .nil (some (.int .i64 (.ofNat 924))) .nil) (some (.int .i64 (.ofNat 14))) .nil
def t657 : Tri V := .node t654 (some (.int .i64 (.ofNat 924))) t656
def t658 : Tri V := .node (.node .nil (some (.int .u64 (.ofNat 268435455))) .nil) (some (.int .i64 (.ofNat 924))) .nil
def t660 : Tri V := .node t658 none (.node .nil (some (.int .u64 (.ofNat 134217727))) .nil)
def t661 : Tri V := .node t657 (some (.ptr 0 0)) t660
def t662 : Tri V := .node t652 none t661
def t663 : Tri V := .node t596 (some (.int .u64 (.ofNat 18446744073709551615))) t639
def t664 : Tri V := .node t342 (some (.int .u64 (.ofNat 18446744073709551615))) (.node .nil (some (.int .u64 (.ofNat 268435455))) .nil)
def t665 : Tri V := .node t639 (some (.int .u64 (.ofNat 18446744073709551615))) t664
def t666 : Tri V := .node t663 (some (.int .u64 (.ofNat 18446744073709551615))) t665
def t667 : Tri O := .node .nil (some (.row 16 t666 false true [])) .nil
def t668 : Tri O := .node t667 (some (.row 16 t20 false true [])) .nil
def x1c20 : Cf :=
  ([⟨10, [.rgt, .inn, .lft, .rgt, .rgt, .inn, .inn, .rgt, .lft, .rgt, .rgt], none, ⟨22, t662, [], none⟩⟩],
  ⟨2, t668, gl⟩)
theorem x1p20 : partOk Tryd.prog [] [] 100000 ext1d 516 x1c19 x1c20 = true := by kernel_rfl
theorem x1g20 : Goes Tryd.prog s0 x1c19 x1c20 := goes_of (E := []) (N := []) trivial x1p20 rfl
def t670 : Tri V := .node (.node .nil (some (.int .i64 (.ofNat 969))) .nil) (some (.int .i64 (.ofNat 1024))) .nil
def t672 : Tri V := .node (.node .nil (some (.ptr 1 15)) .nil) (some (.int .i64 (.ofNat 969))) .nil
def t673 : Tri V := .node t670 (some (.ptr 1 0)) t672
def t675 : Tri V := .node (.node .nil (some (.int .u64 (.ofNat 512))) .nil) (some (.bool true)) .nil
def t676 : Tri V := .node t675 none (.node .nil (some (.ptr 1 15)) .nil)
def t677 : Tri V := .node t673 none t676
def t678 : Tri V := .node (.node .nil (some (.int .i64 (.ofNat 9))) .nil) (some (.int .i64 (.ofNat 970))) .nil
def t680 : Tri V := .node (.node .nil (some (.int .i64 (.ofNat 970))) .nil) (some (.int .i64 (.ofNat 15))) .nil
def t681 : Tri V := .node t678 (some (.int .i64 (.ofNat 970))) t680
def t682 : Tri V := .node (.node .nil (some (.int .u64 (.ofNat 1023))) .nil) (some (.int .i64 (.ofNat 970))) .nil
def t684 : Tri V := .node t682 none (.node .nil (some (.int .u64 (.ofNat 511))) .nil)
def t685 : Tri V := .node t681 (some (.ptr 0 0)) t684
def t686 : Tri V := .node t677 none t685
def t687 : Tri V := .node (.node .nil (some (.int .u64 (.ofNat 1023))) .nil) (some (.int .u64 (.ofNat 18446744073709551615))) .nil
def t688 : Tri V := .node t687 (some (.int .u64 (.ofNat 18446744073709551615))) t342
def t689 : Tri V := .node t688 (some (.int .u64 (.ofNat 18446744073709551615))) t639
def t690 : Tri V := .node t639 (some (.int .u64 (.ofNat 18446744073709551615))) t639
def t691 : Tri V := .node t689 (some (.int .u64 (.ofNat 18446744073709551615))) t690
def t692 : Tri O := .node .nil (some (.row 16 t691 false true [])) .nil
def t693 : Tri O := .node t692 (some (.row 16 t20 false true [])) .nil
def x1c21 : Cf :=
  ([⟨10, [.rgt, .inn, .lft, .rgt, .rgt, .inn, .inn, .rgt, .lft, .rgt, .rgt], none, ⟨22, t686, [], none⟩⟩],
  ⟨2, t693, gl⟩)
theorem x1p21 : partOk Tryd.prog [] [] 100000 ext1d 506 x1c20 x1c21 = true := by kernel_rfl
theorem x1g21 : Goes Tryd.prog s0 x1c20 x1c21 := goes_of (E := []) (N := []) trivial x1p21 rfl
def t698 : Tri V := .node .nil (some (.int .u64 (.ofNat 72057594037927936))) .nil
def t699 : Tri V := .node t698 (some (.bool true)) .nil
def t708 : Tri V := .node .nil (some (.int .u64 (.ofNat 72057594037927935))) .nil
def x1c22 : Cf :=
  ([⟨10, [.rgt, .rgt, .inn, .inn, .rgt, .lft, .rgt, .rgt], none, ⟨22, (.node (.node (.node (.node (.node .nil (some (.int .i64 (.ofNat 1016))) .nil) (some (.int .i64 (.ofNat 1024))) .nil) (some (.ptr 1 0)) (.node (.node .nil (some (.ptr 1 15)) .nil) (some (.int .i64 (.ofNat 1016))) .nil)) none (.node t699 none (.node .nil (some (.ptr 1 15)) .nil))) none (.node (.node (.node (.node .nil (some (.int .i64 (.ofNat 56))) .nil) (some (.int .i64 (.ofNat 1017))) .nil) (some (.int .i64 (.ofNat 1016))) (.node (.node .nil (some (.int .i64 (.ofNat 1017))) .nil) (some (.int .i64 (.ofNat 15))) .nil)) (some (.ptr 0 0)) (.node (.node t439 (some (.int .i64 (.ofNat 1016))) .nil) none t708))), [], none⟩⟩],
  ⟨2, (.node (.node .nil (some (.row 16 (.node (.node (.node (.node t439 (some (.int .u64 (.ofNat 18446744073709551615))) .nil) (some (.int .u64 (.ofNat 18446744073709551615))) t342) (some (.int .u64 (.ofNat 18446744073709551615))) t639) (some (.int .u64 (.ofNat 18446744073709551615))) t690) false true [])) .nil) (some (.row 16 t20 false true [])) .nil), gl⟩)
theorem x1p22 : partOk Tryd.prog [] [] 100000 ext1d 513 x1c21 x1c22 = true := by kernel_rfl
theorem x1g22 : Goes Tryd.prog s0 x1c21 x1c22 := goes_of (E := []) (N := []) trivial x1p22 rfl
theorem x1last : lastV Tryd.prog [] [] 100000 ext1d 79 x1c22 10 (.agg [.int .u64 (.ofNat 18446744073709551615), .int .u64 (.ofNat 18446744073709551615), .int .u64 (.ofNat 18446744073709551615), .int .u64 (.ofNat 18446744073709551615), .int .u64 (.ofNat 18446744073709551615), .int .u64 (.ofNat 18446744073709551615), .int .u64 (.ofNat 18446744073709551615), .int .u64 (.ofNat 18446744073709551615), .int .u64 (.ofNat 18446744073709551615), .int .u64 (.ofNat 18446744073709551615), .int .u64 (.ofNat 18446744073709551615), .int .u64 (.ofNat 18446744073709551615), .int .u64 (.ofNat 18446744073709551615), .int .u64 (.ofNat 18446744073709551615), .int .u64 (.ofNat 18446744073709551615), .int .u64 (.ofNat 18446744073709551615)]) = true := by kernel_rfl
theorem ext1 : Ext.ok Tryd.prog s0 ⟨10, [.int .i64 (.ofNat 1024)], .agg [.int .u64 (.ofNat 18446744073709551615), .int .u64 (.ofNat 18446744073709551615), .int .u64 (.ofNat 18446744073709551615), .int .u64 (.ofNat 18446744073709551615), .int .u64 (.ofNat 18446744073709551615), .int .u64 (.ofNat 18446744073709551615), .int .u64 (.ofNat 18446744073709551615), .int .u64 (.ofNat 18446744073709551615), .int .u64 (.ofNat 18446744073709551615), .int .u64 (.ofNat 18446744073709551615), .int .u64 (.ofNat 18446744073709551615), .int .u64 (.ofNat 18446744073709551615), .int .u64 (.ofNat 18446744073709551615), .int .u64 (.ofNat 18446744073709551615), .int .u64 (.ofNat 18446744073709551615), .int .u64 (.ofNat 18446744073709551615)]⟩ := ext_parts (E := []) (N := []) trivial (by kernel_rfl) (by kernel_rfl) (by kernel_rfl) (((((((((((((((((((((x1g1.trans x1g2).trans x1g3).trans x1g4).trans x1g5).trans x1g6).trans x1g7).trans x1g8).trans x1g9).trans x1g10).trans x1g11).trans x1g12).trans x1g13).trans x1g14).trans x1g15).trans x1g16).trans x1g17).trans x1g18).trans x1g19).trans x1g20).trans x1g21).trans x1g22) x1last
def ext2d : List FuncId := []
def x2c1 : Cf :=
  ([⟨10, [.lft, .inn, .lft, .rgt, .rgt, .inn, .inn, .rgt, .lft, .rgt, .rgt], none, ⟨22, (.node t196 none (.node (.node t197 (some (.int .i64 (.ofNat 42))) t199) (some (.ptr 0 0)) (.node (.node (.node .nil (some (.int .u64 (.ofNat 8796093022207))) .nil) (some (.int .i64 (.ofNat 42))) .nil) none (.node .nil (some (.int .u64 (.ofNat 4398046511103))) .nil)))), [], none⟩⟩],
  ⟨2, t209, gl⟩)
theorem x2p1 : partOk Tryd.prog [] [] 100000 ext2d 490 (startA Tryd.prog 10 [.int .i64 (.ofNat 4611686018427387904)] s0) x2c1 = true := by kernel_rfl
theorem x2g1 : Goes Tryd.prog s0 (startA Tryd.prog 10 [.int .i64 (.ofNat 4611686018427387904)] s0) x2c1 := goes_of (E := []) (N := []) trivial x2p1 rfl
def x2c2 : Cf :=
  ([⟨10, [.rgt, .inn, .lft, .rgt, .rgt, .inn, .inn, .rgt, .lft, .rgt, .rgt], none, ⟨22, t229, [], none⟩⟩],
  ⟨2, t233, gl⟩)
theorem x2p2 : partOk Tryd.prog [] [] 100000 ext2d 507 x2c1 x2c2 = true := by kernel_rfl
theorem x2g2 : Goes Tryd.prog s0 x2c1 x2c2 := goes_of (E := []) (N := []) trivial x2p2 rfl
def x2c3 : Cf :=
  ([⟨10, [.rgt, .inn, .lft, .rgt, .rgt, .inn, .inn, .rgt, .lft, .rgt, .rgt], none, ⟨22, t253, [], none⟩⟩],
  ⟨2, t258, gl⟩)
theorem x2p3 : partOk Tryd.prog [] [] 100000 ext2d 506 x2c2 x2c3 = true := by kernel_rfl
theorem x2g3 : Goes Tryd.prog s0 x2c2 x2c3 := goes_of (E := []) (N := []) trivial x2p3 rfl
def x2c4 : Cf :=
  ([⟨10, [.rgt, .inn, .lft, .rgt, .rgt, .inn, .inn, .rgt, .lft, .rgt, .rgt], none, ⟨22, t277, [], none⟩⟩],
  ⟨2, t281, gl⟩)
theorem x2p4 : partOk Tryd.prog [] [] 100000 ext2d 506 x2c3 x2c4 = true := by kernel_rfl
theorem x2g4 : Goes Tryd.prog s0 x2c3 x2c4 := goes_of (E := []) (N := []) trivial x2p4 rfl
def x2c5 : Cf :=
  ([⟨10, [.rgt, .inn, .lft, .rgt, .rgt, .inn, .inn, .rgt, .lft, .rgt, .rgt], none, ⟨22, (.node (.node (.node (.node (.node .nil (some (.int .i64 (.ofNat 226))) .nil) (some (.int .i64 (.ofNat 1024))) .nil) (some (.ptr 1 0)) (.node (.node .nil (some (.ptr 1 3)) .nil) (some (.int .i64 (.ofNat 226))) .nil)) none (.node (.node (.node .nil (some (.int .u64 (.ofNat 17179869184))) .nil) (some (.bool true)) .nil) none (.node .nil (some (.ptr 1 3)) .nil))) none (.node (.node (.node (.node .nil (some (.int .i64 (.ofNat 34))) .nil) (some (.int .i64 (.ofNat 227))) .nil) (some (.int .i64 (.ofNat 227))) (.node (.node .nil (some (.int .i64 (.ofNat 227))) .nil) (some (.int .i64 (.ofNat 3))) .nil)) (some (.ptr 0 0)) (.node (.node (.node .nil (some (.int .u64 (.ofNat 34359738367))) .nil) (some (.int .i64 (.ofNat 227))) .nil) none (.node .nil (some (.int .u64 (.ofNat 17179869183))) .nil)))), [], none⟩⟩],
  ⟨2, (.node (.node .nil (some (.row 16 (.node (.node (.node t15 (some (.int .u64 (.ofNat 34359738367))) (.node .nil (some (.int .u64 (.ofNat 0))) .nil)) (some (.int .u64 (.ofNat 18446744073709551615))) t17) (some (.int .u64 (.ofNat 18446744073709551615))) t304) false true [])) .nil) (some (.row 16 t20 false true [])) .nil), gl⟩)
theorem x2p5 : partOk Tryd.prog [] [] 100000 ext2d 506 x2c4 x2c5 = true := by kernel_rfl
theorem x2g5 : Goes Tryd.prog s0 x2c4 x2c5 := goes_of (E := []) (N := []) trivial x2p5 rfl
def x2c6 : Cf :=
  ([⟨10, [.rgt, .inn, .lft, .rgt, .rgt, .inn, .inn, .rgt, .lft, .rgt, .rgt], none, ⟨22, (.node (.node (.node (.node (.node .nil (some (.int .i64 (.ofNat 272))) .nil) (some (.int .i64 (.ofNat 1024))) .nil) (some (.ptr 1 0)) (.node (.node .nil (some (.ptr 1 4)) .nil) (some (.int .i64 (.ofNat 272))) .nil)) none (.node (.node (.node .nil (some (.int .u64 (.ofNat 65536))) .nil) (some (.bool true)) .nil) none (.node .nil (some (.ptr 1 4)) .nil))) none (.node (.node (.node (.node .nil (some (.int .i64 (.ofNat 16))) .nil) (some (.int .i64 (.ofNat 273))) .nil) (some (.int .i64 (.ofNat 273))) (.node (.node .nil (some (.int .i64 (.ofNat 273))) .nil) (some (.int .i64 (.ofNat 4))) .nil)) (some (.ptr 0 0)) (.node (.node (.node .nil (some (.int .u64 (.ofNat 131071))) .nil) (some (.int .i64 (.ofNat 273))) .nil) none (.node .nil (some (.int .u64 (.ofNat 65535))) .nil)))), [], none⟩⟩],
  ⟨2, (.node (.node .nil (some (.row 16 (.node t324 (some (.int .u64 (.ofNat 18446744073709551615))) (.node (.node (.node .nil (some (.int .u64 (.ofNat 0))) .nil) (some (.int .u64 (.ofNat 131071))) (.node .nil (some (.int .u64 (.ofNat 0))) .nil)) (some (.int .u64 (.ofNat 18446744073709551615))) t17)) false true [])) .nil) (some (.row 16 t20 false true [])) .nil), gl⟩)
theorem x2p6 : partOk Tryd.prog [] [] 100000 ext2d 506 x2c5 x2c6 = true := by kernel_rfl
theorem x2g6 : Goes Tryd.prog s0 x2c5 x2c6 := goes_of (E := []) (N := []) trivial x2p6 rfl
def x2c7 : Cf :=
  ([⟨10, [.rgt, .inn, .lft, .rgt, .rgt, .inn, .inn, .rgt, .lft, .rgt, .rgt], none, ⟨22, (.node (.node (.node (.node (.node .nil (some (.int .i64 (.ofNat 318))) .nil) (some (.int .i64 (.ofNat 1024))) .nil) (some (.ptr 1 0)) (.node (.node .nil (some (.ptr 1 4)) .nil) (some (.int .i64 (.ofNat 318))) .nil)) none (.node t608 none (.node .nil (some (.ptr 1 4)) .nil))) none (.node (.node (.node (.node .nil (some (.int .i64 (.ofNat 62))) .nil) (some (.int .i64 (.ofNat 319))) .nil) (some (.int .i64 (.ofNat 319))) (.node (.node .nil (some (.int .i64 (.ofNat 319))) .nil) (some (.int .i64 (.ofNat 4))) .nil)) (some (.ptr 0 0)) (.node (.node t344 (some (.int .i64 (.ofNat 319))) .nil) none t158))), [], none⟩⟩],
  ⟨2, (.node (.node .nil (some (.row 16 (.node t324 (some (.int .u64 (.ofNat 18446744073709551615))) (.node (.node (.node .nil (some (.int .u64 (.ofNat 0))) .nil) (some (.int .u64 (.ofNat 9223372036854775807))) (.node .nil (some (.int .u64 (.ofNat 0))) .nil)) (some (.int .u64 (.ofNat 18446744073709551615))) t17)) false true [])) .nil) (some (.row 16 t20 false true [])) .nil), gl⟩)
theorem x2p7 : partOk Tryd.prog [] [] 100000 ext2d 506 x2c6 x2c7 = true := by kernel_rfl
theorem x2g7 : Goes Tryd.prog s0 x2c6 x2c7 := goes_of (E := []) (N := []) trivial x2p7 rfl
def x2c8 : Cf :=
  ([⟨10, [.lft, .inn, .inn, .rgt, .lft, .rgt, .rgt], none, ⟨22, (.node t361 none (.node (.node t363 (some (.int .i64 (.ofNat 365))) t365) (some (.ptr 0 0)) (.node (.node t367 (some (.int .i64 (.ofNat 365))) .nil) none t369))), [], none⟩⟩],
  ⟨2, t377, gl⟩)
theorem x2p8 : partOk Tryd.prog [] [] 100000 ext2d 509 x2c7 x2c8 = true := by kernel_rfl
theorem x2g8 : Goes Tryd.prog s0 x2c7 x2c8 := goes_of (E := []) (N := []) trivial x2p8 rfl
def x2c9 : Cf :=
  ([⟨10, [.rgt, .inn, .lft, .rgt, .rgt, .inn, .inn, .rgt, .lft, .rgt, .rgt], none, ⟨22, (.node (.node (.node (.node (.node .nil (some (.int .i64 (.ofNat 411))) .nil) (some (.int .i64 (.ofNat 1024))) .nil) (some (.ptr 1 0)) (.node (.node .nil (some (.ptr 1 6)) .nil) (some (.int .i64 (.ofNat 411))) .nil)) none (.node t650 none (.node .nil (some (.ptr 1 6)) .nil))) none (.node (.node (.node (.node .nil (some (.int .i64 (.ofNat 27))) .nil) (some (.int .i64 (.ofNat 412))) .nil) (some (.int .i64 (.ofNat 412))) t386) (some (.ptr 0 0)) (.node (.node (.node .nil (some (.int .u64 (.ofNat 268435455))) .nil) (some (.int .i64 (.ofNat 412))) .nil) none (.node .nil (some (.int .u64 (.ofNat 134217727))) .nil)))), [], none⟩⟩],
  ⟨2, (.node (.node .nil (some (.row 16 (.node t392 (some (.int .u64 (.ofNat 18446744073709551615))) (.node t348 (some (.int .u64 (.ofNat 18446744073709551615))) (.node (.node .nil (some (.int .u64 (.ofNat 0))) .nil) (some (.int .u64 (.ofNat 268435455))) (.node .nil (some (.int .u64 (.ofNat 0))) .nil)))) false true [])) .nil) (some (.row 16 t20 false true [])) .nil), gl⟩)
theorem x2p9 : partOk Tryd.prog [] [] 100000 ext2d 514 x2c8 x2c9 = true := by kernel_rfl
theorem x2g9 : Goes Tryd.prog s0 x2c8 x2c9 := goes_of (E := []) (N := []) trivial x2p9 rfl
def x2c10 : Cf :=
  ([⟨10, [.rgt, .inn, .lft, .rgt, .rgt, .inn, .inn, .rgt, .lft, .rgt, .rgt], none, ⟨22, (.node (.node (.node (.node (.node .nil (some (.int .i64 (.ofNat 457))) .nil) (some (.int .i64 (.ofNat 1024))) .nil) (some (.ptr 1 0)) (.node (.node .nil (some (.ptr 1 7)) .nil) (some (.int .i64 (.ofNat 457))) .nil)) none (.node t675 none (.node .nil (some (.ptr 1 7)) .nil))) none (.node (.node (.node (.node .nil (some (.int .i64 (.ofNat 9))) .nil) (some (.int .i64 (.ofNat 458))) .nil) (some (.int .i64 (.ofNat 458))) (.node (.node .nil (some (.int .i64 (.ofNat 458))) .nil) (some (.int .i64 (.ofNat 7))) .nil)) (some (.ptr 0 0)) (.node (.node (.node .nil (some (.int .u64 (.ofNat 1023))) .nil) (some (.int .i64 (.ofNat 458))) .nil) none (.node .nil (some (.int .u64 (.ofNat 511))) .nil)))), [], none⟩⟩],
  ⟨2, (.node (.node .nil (some (.row 16 (.node (.node (.node (.node (.node .nil (some (.int .u64 (.ofNat 0))) .nil) (some (.int .u64 (.ofNat 1023))) .nil) (some (.int .u64 (.ofNat 18446744073709551615))) (.node .nil (some (.int .u64 (.ofNat 0))) .nil)) (some (.int .u64 (.ofNat 18446744073709551615))) t348) (some (.int .u64 (.ofNat 18446744073709551615))) t421) false true [])) .nil) (some (.row 16 t20 false true [])) .nil), gl⟩)
theorem x2p10 : partOk Tryd.prog [] [] 100000 ext2d 506 x2c9 x2c10 = true := by kernel_rfl
theorem x2g10 : Goes Tryd.prog s0 x2c9 x2c10 := goes_of (E := []) (N := []) trivial x2p10 rfl
def t829 : Tri V := .node .nil (some (.int .u64 (.ofNat 36028797018963968))) .nil
def t830 : Tri V := .node t829 (some (.bool true)) .nil
def t839 : Tri V := .node .nil (some (.int .u64 (.ofNat 36028797018963967))) .nil
def x2c11 : Cf :=
  ([⟨10, [.rgt, .inn, .lft, .rgt, .rgt, .inn, .inn, .rgt, .lft, .rgt, .rgt], none, ⟨22, (.node (.node (.node (.node (.node .nil (some (.int .i64 (.ofNat 503))) .nil) (some (.int .i64 (.ofNat 1024))) .nil) (some (.ptr 1 0)) (.node (.node .nil (some (.ptr 1 7)) .nil) (some (.int .i64 (.ofNat 503))) .nil)) none (.node t830 none (.node .nil (some (.ptr 1 7)) .nil))) none (.node (.node (.node (.node .nil (some (.int .i64 (.ofNat 55))) .nil) (some (.int .i64 (.ofNat 504))) .nil) (some (.int .i64 (.ofNat 504))) (.node (.node .nil (some (.int .i64 (.ofNat 504))) .nil) (some (.int .i64 (.ofNat 7))) .nil)) (some (.ptr 0 0)) (.node (.node t708 (some (.int .i64 (.ofNat 504))) .nil) none t839))), [], none⟩⟩],
  ⟨2, (.node (.node .nil (some (.row 16 (.node (.node (.node (.node (.node .nil (some (.int .u64 (.ofNat 0))) .nil) (some (.int .u64 (.ofNat 72057594037927935))) .nil) (some (.int .u64 (.ofNat 18446744073709551615))) (.node .nil (some (.int .u64 (.ofNat 0))) .nil)) (some (.int .u64 (.ofNat 18446744073709551615))) t348) (some (.int .u64 (.ofNat 18446744073709551615))) t421) false true [])) .nil) (some (.row 16 t20 false true [])) .nil), gl⟩)
theorem x2p11 : partOk Tryd.prog [] [] 100000 ext2d 506 x2c10 x2c11 = true := by kernel_rfl
theorem x2g11 : Goes Tryd.prog s0 x2c10 x2c11 := goes_of (E := []) (N := []) trivial x2p11 rfl
def t89 : Tri V := .node (.node .nil (some (.int .u64 (.ofNat 274877906944))) .nil) (some (.bool true)) .nil
def x2c12 : Cf :=
  ([⟨10, [.lft, .rgt, .inn, .inn, .rgt, .lft, .rgt, .rgt], none, ⟨22, (.node (.node (.node (.node (.node .nil (some (.int .i64 (.ofNat 550))) .nil) (some (.int .i64 (.ofNat 1024))) .nil) (some (.ptr 1 0)) (.node (.node .nil (some (.ptr 1 8)) .nil) (some (.int .i64 (.ofNat 550))) .nil)) none (.node t89 none (.node .nil (some (.ptr 1 8)) .nil))) none (.node (.node (.node (.node .nil (some (.int .i64 (.ofNat 38))) .nil) (some (.int .i64 (.ofNat 551))) .nil) (some (.int .i64 (.ofNat 550))) (.node (.node .nil (some (.int .i64 (.ofNat 551))) .nil) (some (.int .i64 (.ofNat 8))) .nil)) (some (.ptr 0 0)) (.node (.node (.node .nil (some (.int .u64 (.ofNat 549755813887))) .nil) (some (.int .i64 (.ofNat 550))) .nil) none (.node .nil (some (.int .u64 (.ofNat 274877906943))) .nil)))), [], none⟩⟩],
  ⟨2, (.node (.node .nil (some (.row 16 (.node t469 (some (.int .u64 (.ofNat 18446744073709551615))) (.node (.node (.node .nil (some (.int .u64 (.ofNat 549755813887))) .nil) (some (.int .u64 (.ofNat 18446744073709551615))) (.node .nil (some (.int .u64 (.ofNat 0))) .nil)) (some (.int .u64 (.ofNat 18446744073709551615))) t348)) false true [])) .nil) (some (.row 16 t20 false true [])) .nil), gl⟩)
theorem x2p12 : partOk Tryd.prog [] [] 100000 ext2d 511 x2c11 x2c12 = true := by kernel_rfl
theorem x2g12 : Goes Tryd.prog s0 x2c11 x2c12 := goes_of (E := []) (N := []) trivial x2p12 rfl
def x2c13 : Cf :=
  ([⟨10, [.rgt, .inn, .lft, .rgt, .rgt, .inn, .inn, .rgt, .lft, .rgt, .rgt], none, ⟨22, (.node (.node (.node (.node (.node .nil (some (.int .i64 (.ofNat 596))) .nil) (some (.int .i64 (.ofNat 1024))) .nil) (some (.ptr 1 0)) (.node (.node .nil (some (.ptr 1 9)) .nil) (some (.int .i64 (.ofNat 596))) .nil)) none (.node (.node (.node .nil (some (.int .u64 (.ofNat 1048576))) .nil) (some (.bool true)) .nil) none (.node .nil (some (.ptr 1 9)) .nil))) none (.node (.node (.node (.node .nil (some (.int .i64 (.ofNat 20))) .nil) (some (.int .i64 (.ofNat 597))) .nil) (some (.int .i64 (.ofNat 597))) (.node (.node .nil (some (.int .i64 (.ofNat 597))) .nil) (some (.int .i64 (.ofNat 9))) .nil)) (some (.ptr 0 0)) (.node (.node (.node .nil (some (.int .u64 (.ofNat 2097151))) .nil) (some (.int .i64 (.ofNat 597))) .nil) none (.node .nil (some (.int .u64 (.ofNat 1048575))) .nil)))), [], none⟩⟩],
  ⟨2, (.node (.node .nil (some (.row 16 (.node (.node t468 (some (.int .u64 (.ofNat 18446744073709551615))) (.node (.node .nil (some (.int .u64 (.ofNat 2097151))) .nil) (some (.int .u64 (.ofNat 18446744073709551615))) (.node .nil (some (.int .u64 (.ofNat 0))) .nil))) (some (.int .u64 (.ofNat 18446744073709551615))) t498) false true [])) .nil) (some (.row 16 t20 false true [])) .nil), gl⟩)
theorem x2p13 : partOk Tryd.prog [] [] 100000 ext2d 512 x2c12 x2c13 = true := by kernel_rfl
theorem x2g13 : Goes Tryd.prog s0 x2c12 x2c13 := goes_of (E := []) (N := []) trivial x2p13 rfl
def x2c14 : Cf :=
  ([⟨10, [.rgt, .rgt, .rgt, .inn, .inn, .rgt, .lft, .rgt, .rgt], none, ⟨22, (.node t510 none (.node (.node (.node (.node .nil (some (.int .i64 (.ofNat 3))) .nil) (some (.int .i64 (.ofNat 643))) .nil) (some (.int .i64 (.ofNat 643))) (.node (.node .nil (some (.int .i64 (.ofNat 643))) .nil) (some (.int .i64 (.ofNat 10))) .nil)) (some (.ptr 0 0)) (.node (.node (.node .nil (some (.int .u64 (.ofNat 15))) .nil) (some (.int .i64 (.ofNat 643))) .nil) none (.node .nil (some (.int .u64 (.ofNat 7))) .nil)))), [], none⟩⟩],
  ⟨2, t526, gl⟩)
theorem x2p14 : partOk Tryd.prog [] [] 100000 ext2d 507 x2c13 x2c14 = true := by kernel_rfl
theorem x2g14 : Goes Tryd.prog s0 x2c13 x2c14 := goes_of (E := []) (N := []) trivial x2p14 rfl
def t908 : Tri V := .node .nil (some (.int .u64 (.ofNat 2251799813685247))) .nil
def x2c15 : Cf :=
  ([⟨10, [.lft, .inn, .lft, .rgt, .rgt, .inn, .inn, .rgt, .lft, .rgt, .rgt], none, ⟨22, (.node (.node (.node (.node (.node .nil (some (.int .i64 (.ofNat 690))) .nil) (some (.int .i64 (.ofNat 1024))) .nil) (some (.ptr 1 0)) (.node (.node .nil (some (.ptr 1 10)) .nil) (some (.int .i64 (.ofNat 690))) .nil)) none (.node (.node (.node .nil (some (.int .u64 (.ofNat 1125899906842624))) .nil) (some (.bool true)) .nil) none (.node .nil (some (.ptr 1 10)) .nil))) none (.node (.node (.node (.node .nil (some (.int .i64 (.ofNat 50))) .nil) (some (.int .i64 (.ofNat 691))) .nil) (some (.int .i64 (.ofNat 690))) (.node (.node .nil (some (.int .i64 (.ofNat 691))) .nil) (some (.int .i64 (.ofNat 10))) .nil)) (some (.ptr 0 0)) (.node (.node t908 (some (.int .i64 (.ofNat 690))) .nil) none t540))), [], none⟩⟩],
  ⟨2, (.node (.node .nil (some (.row 16 (.node t521 (some (.int .u64 (.ofNat 18446744073709551615))) (.node t497 (some (.int .u64 (.ofNat 18446744073709551615))) (.node t908 (some (.int .u64 (.ofNat 18446744073709551615))) (.node .nil (some (.int .u64 (.ofNat 0))) .nil)))) false true [])) .nil) (some (.row 16 t20 false true [])) .nil), gl⟩)
theorem x2p15 : partOk Tryd.prog [] [] 100000 ext2d 526 x2c14 x2c15 = true := by kernel_rfl
theorem x2g15 : Goes Tryd.prog s0 x2c14 x2c15 := goes_of (E := []) (N := []) trivial x2p15 rfl
def x2c16 : Cf :=
  ([⟨10, [.rgt, .rgt, .rgt, .inn, .inn, .rgt, .lft, .rgt, .rgt], none, ⟨22, (.node (.node (.node (.node (.node .nil (some (.int .i64 (.ofNat 737))) .nil) (some (.int .i64 (.ofNat 1024))) .nil) (some (.ptr 1 0)) (.node (.node .nil (some (.ptr 1 11)) .nil) (some (.int .i64 (.ofNat 737))) .nil)) none (.node (.node (.node .nil (some (.int .u64 (.ofNat 8589934592))) .nil) (some (.bool true)) .nil) none (.node .nil (some (.ptr 1 11)) .nil))) none (.node (.node (.node (.node .nil (some (.int .i64 (.ofNat 33))) .nil) (some (.int .i64 (.ofNat 737))) .nil) (some (.int .i64 (.ofNat 737))) t563) (some (.ptr 0 0)) (.node (.node (.node .nil (some (.int .u64 (.ofNat 17179869183))) .nil) (some (.int .i64 (.ofNat 737))) .nil) none (.node .nil (some (.int .u64 (.ofNat 8589934591))) .nil)))), [], none⟩⟩],
  ⟨2, (.node (.node .nil (some (.row 16 (.node (.node (.node t467 (some (.int .u64 (.ofNat 18446744073709551615))) (.node .nil (some (.int .u64 (.ofNat 17179869183))) .nil)) (some (.int .u64 (.ofNat 18446744073709551615))) t497) (some (.int .u64 (.ofNat 18446744073709551615))) t573) false true [])) .nil) (some (.row 16 t20 false true [])) .nil), gl⟩)
theorem x2p16 : partOk Tryd.prog [] [] 100000 ext2d 508 x2c15 x2c16 = true := by kernel_rfl
theorem x2g16 : Goes Tryd.prog s0 x2c15 x2c16 := goes_of (E := []) (N := []) trivial x2p16 rfl
def x2c17 : Cf :=
  ([⟨10, [.rgt, .inn, .lft, .rgt, .rgt, .inn, .inn, .rgt, .lft, .rgt, .rgt], none, ⟨22, (.node t585 none (.node (.node (.node (.node .nil (some (.int .i64 (.ofNat 15))) .nil) (some (.int .i64 (.ofNat 784))) .nil) (some (.int .i64 (.ofNat 784))) (.node (.node .nil (some (.int .i64 (.ofNat 784))) .nil) (some (.int .i64 (.ofNat 12))) .nil)) (some (.ptr 0 0)) (.node (.node (.node .nil (some (.int .u64 (.ofNat 65535))) .nil) (some (.int .i64 (.ofNat 784))) .nil) none (.node .nil (some (.int .u64 (.ofNat 32767))) .nil)))), [], none⟩⟩],
  ⟨2, t602, gl⟩)
theorem x2p17 : partOk Tryd.prog [] [] 100000 ext2d 516 x2c16 x2c17 = true := by kernel_rfl
theorem x2g17 : Goes Tryd.prog s0 x2c16 x2c17 := goes_of (E := []) (N := []) trivial x2p17 rfl
def x2c18 : Cf :=
  ([⟨10, [.rgt, .rgt, .rgt, .inn, .inn, .rgt, .lft, .rgt, .rgt], none, ⟨22, t617, [], none⟩⟩],
  ⟨2, t622, gl⟩)
theorem x2p18 : partOk Tryd.prog [] [] 100000 ext2d 507 x2c17 x2c18 = true := by kernel_rfl
theorem x2g18 : Goes Tryd.prog s0 x2c17 x2c18 := goes_of (E := []) (N := []) trivial x2p18 rfl
def x2c19 : Cf :=
  ([⟨10, [.lft, .inn, .lft, .rgt, .rgt, .inn, .inn, .rgt, .lft, .rgt, .rgt], none, ⟨22, (.node t629 none (.node (.node (.node (.node .nil (some (.int .i64 (.ofNat 45))) .nil) (some (.int .i64 (.ofNat 878))) .nil) (some (.int .i64 (.ofNat 877))) (.node (.node .nil (some (.int .i64 (.ofNat 878))) .nil) (some (.int .i64 (.ofNat 13))) .nil)) (some (.ptr 0 0)) t634)), [], none⟩⟩],
  ⟨2, t643, gl⟩)
theorem x2p19 : partOk Tryd.prog [] [] 100000 ext2d 526 x2c18 x2c19 = true := by kernel_rfl
theorem x2g19 : Goes Tryd.prog s0 x2c18 x2c19 := goes_of (E := []) (N := []) trivial x2p19 rfl
def x2c20 : Cf :=
  ([⟨10, [.rgt, .inn, .lft, .rgt, .rgt, .inn, .inn, .rgt, .lft, .rgt, .rgt], none, ⟨22, t662, [], none⟩⟩],
  ⟨2, t668, gl⟩)
theorem x2p20 : partOk Tryd.prog [] [] 100000 ext2d 507 x2c19 x2c20 = true := by kernel_rfl
theorem x2g20 : Goes Tryd.prog s0 x2c19 x2c20 := goes_of (E := []) (N := []) trivial x2p20 rfl
def x2c21 : Cf :=
  ([⟨10, [.rgt, .inn, .lft, .rgt, .rgt, .inn, .inn, .rgt, .lft, .rgt, .rgt], none, ⟨22, t686, [], none⟩⟩],
  ⟨2, t693, gl⟩)
theorem x2p21 : partOk Tryd.prog [] [] 100000 ext2d 506 x2c20 x2c21 = true := by kernel_rfl
theorem x2g21 : Goes Tryd.prog s0 x2c20 x2c21 := goes_of (E := []) (N := []) trivial x2p21 rfl
def x2c22 : Cf :=
  ([⟨10, [.rgt, .inn, .lft, .rgt, .rgt, .inn, .inn, .rgt, .lft, .rgt, .rgt], none, ⟨22, (.node (.node (.node (.node (.node .nil (some (.int .i64 (.ofNat 1015))) .nil) (some (.int .i64 (.ofNat 1024))) .nil) (some (.ptr 1 0)) (.node (.node .nil (some (.ptr 1 15)) .nil) (some (.int .i64 (.ofNat 1015))) .nil)) none (.node t830 none (.node .nil (some (.ptr 1 15)) .nil))) none (.node (.node (.node (.node .nil (some (.int .i64 (.ofNat 55))) .nil) (some (.int .i64 (.ofNat 1016))) .nil) (some (.int .i64 (.ofNat 1016))) (.node (.node .nil (some (.int .i64 (.ofNat 1016))) .nil) (some (.int .i64 (.ofNat 15))) .nil)) (some (.ptr 0 0)) (.node (.node t708 (some (.int .i64 (.ofNat 1016))) .nil) none t839))), [], none⟩⟩],
  ⟨2, (.node (.node .nil (some (.row 16 (.node (.node (.node (.node t708 (some (.int .u64 (.ofNat 18446744073709551615))) .nil) (some (.int .u64 (.ofNat 18446744073709551615))) t342) (some (.int .u64 (.ofNat 18446744073709551615))) t639) (some (.int .u64 (.ofNat 18446744073709551615))) t690) false true [])) .nil) (some (.row 16 t20 false true [])) .nil), gl⟩)
theorem x2p22 : partOk Tryd.prog [] [] 100000 ext2d 506 x2c21 x2c22 = true := by kernel_rfl
theorem x2g22 : Goes Tryd.prog s0 x2c21 x2c22 := goes_of (E := []) (N := []) trivial x2p22 rfl
theorem x2last : lastV Tryd.prog [] [] 100000 ext2d 86 x2c22 10 (.agg [.int .u64 (.ofNat 18446744073709551615), .int .u64 (.ofNat 18446744073709551615), .int .u64 (.ofNat 18446744073709551615), .int .u64 (.ofNat 18446744073709551615), .int .u64 (.ofNat 18446744073709551615), .int .u64 (.ofNat 18446744073709551615), .int .u64 (.ofNat 18446744073709551615), .int .u64 (.ofNat 18446744073709551615), .int .u64 (.ofNat 18446744073709551615), .int .u64 (.ofNat 18446744073709551615), .int .u64 (.ofNat 18446744073709551615), .int .u64 (.ofNat 18446744073709551615), .int .u64 (.ofNat 18446744073709551615), .int .u64 (.ofNat 18446744073709551615), .int .u64 (.ofNat 18446744073709551615), .int .u64 (.ofNat 18446744073709551615)]) = true := by kernel_rfl
theorem ext2 : Ext.ok Tryd.prog s0 ⟨10, [.int .i64 (.ofNat 4611686018427387904)], .agg [.int .u64 (.ofNat 18446744073709551615), .int .u64 (.ofNat 18446744073709551615), .int .u64 (.ofNat 18446744073709551615), .int .u64 (.ofNat 18446744073709551615), .int .u64 (.ofNat 18446744073709551615), .int .u64 (.ofNat 18446744073709551615), .int .u64 (.ofNat 18446744073709551615), .int .u64 (.ofNat 18446744073709551615), .int .u64 (.ofNat 18446744073709551615), .int .u64 (.ofNat 18446744073709551615), .int .u64 (.ofNat 18446744073709551615), .int .u64 (.ofNat 18446744073709551615), .int .u64 (.ofNat 18446744073709551615), .int .u64 (.ofNat 18446744073709551615), .int .u64 (.ofNat 18446744073709551615), .int .u64 (.ofNat 18446744073709551615)]⟩ := ext_parts (E := []) (N := []) trivial (by kernel_rfl) (by kernel_rfl) (by kernel_rfl) (((((((((((((((((((((x2g1.trans x2g2).trans x2g3).trans x2g4).trans x2g5).trans x2g6).trans x2g7).trans x2g8).trans x2g9).trans x2g10).trans x2g11).trans x2g12).trans x2g13).trans x2g14).trans x2g15).trans x2g16).trans x2g17).trans x2g18).trans x2g19).trans x2g20).trans x2g21).trans x2g22) x2last
def ext3d : List FuncId := []
def t974 : Tri V := .node .nil (some (.int .u64 (.ofNat 17592186044416))) .nil
def t975 : Tri V := .node t974 (some (.bool true)) .nil
def t982 : Tri V := .node .nil (some (.int .u64 (.ofNat 17592186044415))) .nil
def x3c1 : Cf :=
  ([⟨10, [.rgt, .inn, .lft, .rgt, .rgt, .inn, .inn, .rgt, .lft, .rgt, .rgt], none, ⟨22, (.node (.node (.node (.node (.node .nil (some (.int .i64 (.ofNat 44))) .nil) (some (.int .i64 (.ofNat 1024))) .nil) (some (.ptr 1 0)) (.node (.node .nil (some (.ptr 1 0)) .nil) (some (.int .i64 (.ofNat 44))) .nil)) none (.node t975 none (.node .nil (some (.ptr 1 0)) .nil))) none (.node (.node (.node (.node .nil (some (.int .i64 (.ofNat 44))) .nil) (some (.int .i64 (.ofNat 45))) .nil) (some (.int .i64 (.ofNat 45))) (.node (.node .nil (some (.int .i64 (.ofNat 45))) .nil) (some (.int .i64 (.ofNat 0))) .nil)) (some (.ptr 0 0)) (.node (.node t369 (some (.int .i64 (.ofNat 45))) .nil) none t982))), [], none⟩⟩],
  ⟨2, (.node (.node .nil (some (.row 16 (.node t18 (some (.int .u64 (.ofNat 35184372088831))) t19) false true [])) .nil) (some (.row 16 t20 false true [])) .nil), gl⟩)
theorem x3p1 : partOk Tryd.prog [] [] 100000 ext3d 513 (startA Tryd.prog 10 [.int .i64 (.ofNat 9223372036854775807)] s0) x3c1 = true := by kernel_rfl
theorem x3g1 : Goes Tryd.prog s0 (startA Tryd.prog 10 [.int .i64 (.ofNat 9223372036854775807)] s0) x3c1 := goes_of (E := []) (N := []) trivial x3p1 rfl
def x3c2 : Cf :=
  ([⟨10, [.rgt, .inn, .lft, .rgt, .rgt, .inn, .inn, .rgt, .lft, .rgt, .rgt], none, ⟨22, (.node (.node (.node (.node (.node .nil (some (.int .i64 (.ofNat 92))) .nil) (some (.int .i64 (.ofNat 1024))) .nil) (some (.ptr 1 0)) (.node (.node .nil (some (.ptr 1 1)) .nil) (some (.int .i64 (.ofNat 92))) .nil)) none (.node t40 none (.node .nil (some (.ptr 1 1)) .nil))) none (.node (.node (.node (.node .nil (some (.int .i64 (.ofNat 28))) .nil) (some (.int .i64 (.ofNat 93))) .nil) (some (.int .i64 (.ofNat 93))) (.node (.node .nil (some (.int .i64 (.ofNat 93))) .nil) (some (.int .i64 (.ofNat 1))) .nil)) (some (.ptr 0 0)) (.node (.node (.node .nil (some (.int .u64 (.ofNat 536870911))) .nil) (some (.int .i64 (.ofNat 93))) .nil) none (.node .nil (some (.int .u64 (.ofNat 268435455))) .nil)))), [], none⟩⟩],
  ⟨2, (.node (.node .nil (some (.row 16 (.node (.node t16 (some (.int .u64 (.ofNat 536870911))) t17) (some (.int .u64 (.ofNat 18446744073709551615))) t19) false true [])) .nil) (some (.row 16 t20 false true [])) .nil), gl⟩)
theorem x3p2 : partOk Tryd.prog [] [] 100000 ext3d 528 x3c1 x3c2 = true := by kernel_rfl
theorem x3g2 : Goes Tryd.prog s0 x3c1 x3c2 := goes_of (E := []) (N := []) trivial x3p2 rfl
def x3c3 : Cf :=
  ([⟨10, [.rgt, .rgt, .rgt, .inn, .inn, .rgt, .lft, .rgt, .rgt], none, ⟨22, (.node (.node (.node (.node (.node .nil (some (.int .i64 (.ofNat 140))) .nil) (some (.int .i64 (.ofNat 1024))) .nil) (some (.ptr 1 0)) (.node (.node .nil (some (.ptr 1 2)) .nil) (some (.int .i64 (.ofNat 140))) .nil)) none (.node (.node (.node .nil (some (.int .u64 (.ofNat 4096))) .nil) (some (.bool true)) .nil) none (.node .nil (some (.ptr 1 2)) .nil))) none (.node (.node (.node (.node .nil (some (.int .i64 (.ofNat 12))) .nil) (some (.int .i64 (.ofNat 140))) .nil) (some (.int .i64 (.ofNat 140))) (.node (.node .nil (some (.int .i64 (.ofNat 140))) .nil) (some (.int .i64 (.ofNat 2))) .nil)) (some (.ptr 0 0)) (.node (.node (.node .nil (some (.int .u64 (.ofNat 8191))) .nil) (some (.int .i64 (.ofNat 140))) .nil) none (.node .nil (some (.int .u64 (.ofNat 4095))) .nil)))), [], none⟩⟩],
  ⟨2, (.node (.node .nil (some (.row 16 (.node t254 (some (.int .u64 (.ofNat 18446744073709551615))) (.node t17 (some (.int .u64 (.ofNat 8191))) t17)) false true [])) .nil) (some (.row 16 t20 false true [])) .nil), gl⟩)
theorem x3p3 : partOk Tryd.prog [] [] 100000 ext3d 518 x3c2 x3c3 = true := by kernel_rfl
theorem x3g3 : Goes Tryd.prog s0 x3c2 x3c3 := goes_of (E := []) (N := []) trivial x3p3 rfl
def x3c4 : Cf :=
  ([⟨10, [.rgt, .inn, .lft, .rgt, .rgt, .inn, .inn, .rgt, .lft, .rgt, .rgt], none, ⟨22, (.node (.node (.node (.node (.node .nil (some (.int .i64 (.ofNat 187))) .nil) (some (.int .i64 (.ofNat 1024))) .nil) (some (.ptr 1 0)) (.node (.node .nil (some (.ptr 1 2)) .nil) (some (.int .i64 (.ofNat 187))) .nil)) none (.node (.node (.node .nil (some (.int .u64 (.ofNat 576460752303423488))) .nil) (some (.bool true)) .nil) none (.node .nil (some (.ptr 1 2)) .nil))) none (.node (.node (.node (.node .nil (some (.int .i64 (.ofNat 59))) .nil) (some (.int .i64 (.ofNat 188))) .nil) (some (.int .i64 (.ofNat 188))) (.node (.node .nil (some (.int .i64 (.ofNat 188))) .nil) (some (.int .i64 (.ofNat 2))) .nil)) (some (.ptr 0 0)) (.node (.node (.node .nil (some (.int .u64 (.ofNat 1152921504606846975))) .nil) (some (.int .i64 (.ofNat 188))) .nil) none (.node .nil (some (.int .u64 (.ofNat 576460752303423487))) .nil)))), [], none⟩⟩],
  ⟨2, (.node (.node .nil (some (.row 16 (.node t254 (some (.int .u64 (.ofNat 18446744073709551615))) (.node t17 (some (.int .u64 (.ofNat 1152921504606846975))) t17)) false true [])) .nil) (some (.row 16 t20 false true [])) .nil), gl⟩)
theorem x3p4 : partOk Tryd.prog [] [] 100000 ext3d 527 x3c3 x3c4 = true := by kernel_rfl
theorem x3g4 : Goes Tryd.prog s0 x3c3 x3c4 := goes_of (E := []) (N := []) trivial x3p4 rfl
def x3c5 : Cf :=
  ([⟨10, [.rgt, .inn, .lft, .rgt, .rgt, .inn, .inn, .rgt, .lft, .rgt, .rgt], none, ⟨22, (.node (.node (.node (.node (.node .nil (some (.int .i64 (.ofNat 234))) .nil) (some (.int .i64 (.ofNat 1024))) .nil) (some (.ptr 1 0)) (.node (.node .nil (some (.ptr 1 3)) .nil) (some (.int .i64 (.ofNat 234))) .nil)) none (.node t194 none (.node .nil (some (.ptr 1 3)) .nil))) none (.node (.node (.node (.node .nil (some (.int .i64 (.ofNat 42))) .nil) (some (.int .i64 (.ofNat 235))) .nil) (some (.int .i64 (.ofNat 235))) (.node (.node .nil (some (.int .i64 (.ofNat 235))) .nil) (some (.int .i64 (.ofNat 3))) .nil)) (some (.ptr 0 0)) (.node (.node (.node .nil (some (.int .u64 (.ofNat 8796093022207))) .nil) (some (.int .i64 (.ofNat 235))) .nil) none (.node .nil (some (.int .u64 (.ofNat 4398046511103))) .nil)))), [], none⟩⟩],
  ⟨2, (.node (.node .nil (some (.row 16 (.node (.node (.node t15 (some (.int .u64 (.ofNat 8796093022207))) (.node .nil (some (.int .u64 (.ofNat 0))) .nil)) (some (.int .u64 (.ofNat 18446744073709551615))) t17) (some (.int .u64 (.ofNat 18446744073709551615))) t304) false true [])) .nil) (some (.row 16 t20 false true [])) .nil), gl⟩)
theorem x3p5 : partOk Tryd.prog [] [] 100000 ext3d 517 x3c4 x3c5 = true := by kernel_rfl
theorem x3g5 : Goes Tryd.prog s0 x3c4 x3c5 := goes_of (E := []) (N := []) trivial x3p5 rfl
def t1076 : Tri V := .node (.node .nil (some (.int .u64 (.ofNat 67108864))) .nil) (some (.bool true)) .nil
def x3c6 : Cf :=
  ([⟨10, [.rgt, .rgt, .rgt, .inn, .inn, .rgt, .lft, .rgt, .rgt], none, ⟨22, (.node (.node (.node (.node (.node .nil (some (.int .i64 (.ofNat 282))) .nil) (some (.int .i64 (.ofNat 1024))) .nil) (some (.ptr 1 0)) (.node (.node .nil (some (.ptr 1 4)) .nil) (some (.int .i64 (.ofNat 282))) .nil)) none (.node t1076 none (.node .nil (some (.ptr 1 4)) .nil))) none (.node (.node (.node (.node .nil (some (.int .i64 (.ofNat 26))) .nil) (some (.int .i64 (.ofNat 282))) .nil) (some (.int .i64 (.ofNat 282))) (.node (.node .nil (some (.int .i64 (.ofNat 282))) .nil) (some (.int .i64 (.ofNat 4))) .nil)) (some (.ptr 0 0)) (.node (.node (.node .nil (some (.int .u64 (.ofNat 134217727))) .nil) (some (.int .i64 (.ofNat 282))) .nil) none (.node .nil (some (.int .u64 (.ofNat 67108863))) .nil)))), [], none⟩⟩],
  ⟨2, (.node (.node .nil (some (.row 16 (.node t324 (some (.int .u64 (.ofNat 18446744073709551615))) (.node (.node (.node .nil (some (.int .u64 (.ofNat 0))) .nil) (some (.int .u64 (.ofNat 134217727))) (.node .nil (some (.int .u64 (.ofNat 0))) .nil)) (some (.int .u64 (.ofNat 18446744073709551615))) t17)) false true [])) .nil) (some (.row 16 t20 false true [])) .nil), gl⟩)
theorem x3p6 : partOk Tryd.prog [] [] 100000 ext3d 518 x3c5 x3c6 = true := by kernel_rfl
theorem x3g6 : Goes Tryd.prog s0 x3c5 x3c6 := goes_of (E := []) (N := []) trivial x3p6 rfl
def x3c7 : Cf :=
  ([⟨10, [.rgt, .inn, .lft, .rgt, .rgt, .inn, .inn, .rgt, .lft, .rgt, .rgt], none, ⟨22, (.node (.node (.node (.node (.node .nil (some (.int .i64 (.ofNat 329))) .nil) (some (.int .i64 (.ofNat 1024))) .nil) (some (.ptr 1 0)) (.node (.node .nil (some (.ptr 1 5)) .nil) (some (.int .i64 (.ofNat 329))) .nil)) none (.node t675 none (.node .nil (some (.ptr 1 5)) .nil))) none (.node (.node (.node (.node .nil (some (.int .i64 (.ofNat 9))) .nil) (some (.int .i64 (.ofNat 330))) .nil) (some (.int .i64 (.ofNat 330))) (.node (.node .nil (some (.int .i64 (.ofNat 330))) .nil) (some (.int .i64 (.ofNat 5))) .nil)) (some (.ptr 0 0)) (.node (.node (.node .nil (some (.int .u64 (.ofNat 1023))) .nil) (some (.int .i64 (.ofNat 330))) .nil) none (.node .nil (some (.int .u64 (.ofNat 511))) .nil)))), [], none⟩⟩],
  ⟨2, (.node (.node .nil (some (.row 16 (.node (.node t323 (some (.int .u64 (.ofNat 18446744073709551615))) (.node (.node .nil (some (.int .u64 (.ofNat 0))) .nil) (some (.int .u64 (.ofNat 1023))) (.node .nil (some (.int .u64 (.ofNat 0))) .nil))) (some (.int .u64 (.ofNat 18446744073709551615))) t349) false true [])) .nil) (some (.row 16 t20 false true [])) .nil), gl⟩)
theorem x3p7 : partOk Tryd.prog [] [] 100000 ext3d 527 x3c6 x3c7 = true := by kernel_rfl
theorem x3g7 : Goes Tryd.prog s0 x3c6 x3c7 := goes_of (E := []) (N := []) trivial x3p7 rfl
def x3c8 : Cf :=
  ([⟨10, [.rgt, .inn, .lft, .rgt, .rgt, .inn, .inn, .rgt, .lft, .rgt, .rgt], none, ⟨22, (.node (.node (.node (.node (.node .nil (some (.int .i64 (.ofNat 376))) .nil) (some (.int .i64 (.ofNat 1024))) .nil) (some (.ptr 1 0)) (.node (.node .nil (some (.ptr 1 5)) .nil) (some (.int .i64 (.ofNat 376))) .nil)) none (.node t699 none (.node .nil (some (.ptr 1 5)) .nil))) none (.node (.node (.node (.node .nil (some (.int .i64 (.ofNat 56))) .nil) (some (.int .i64 (.ofNat 377))) .nil) (some (.int .i64 (.ofNat 377))) (.node (.node .nil (some (.int .i64 (.ofNat 377))) .nil) (some (.int .i64 (.ofNat 5))) .nil)) (some (.ptr 0 0)) (.node (.node t439 (some (.int .i64 (.ofNat 377))) .nil) none t708))), [], none⟩⟩],
  ⟨2, (.node (.node .nil (some (.row 16 (.node (.node t323 (some (.int .u64 (.ofNat 18446744073709551615))) (.node (.node .nil (some (.int .u64 (.ofNat 0))) .nil) (some (.int .u64 (.ofNat 144115188075855871))) (.node .nil (some (.int .u64 (.ofNat 0))) .nil))) (some (.int .u64 (.ofNat 18446744073709551615))) t349) false true [])) .nil) (some (.row 16 t20 false true [])) .nil), gl⟩)
theorem x3p8 : partOk Tryd.prog [] [] 100000 ext3d 517 x3c7 x3c8 = true := by kernel_rfl
theorem x3g8 : Goes Tryd.prog s0 x3c7 x3c8 := goes_of (E := []) (N := []) trivial x3p8 rfl
def x3c9 : Cf :=
  ([⟨10, [.rgt, .inn, .lft, .rgt, .rgt, .inn, .inn, .rgt, .lft, .rgt, .rgt], none, ⟨22, (.node (.node (.node (.node (.node .nil (some (.int .i64 (.ofNat 424))) .nil) (some (.int .i64 (.ofNat 1024))) .nil) (some (.ptr 1 0)) (.node (.node .nil (some (.ptr 1 6)) .nil) (some (.int .i64 (.ofNat 424))) .nil)) none (.node (.node (.node .nil (some (.int .u64 (.ofNat 1099511627776))) .nil) (some (.bool true)) .nil) none (.node .nil (some (.ptr 1 6)) .nil))) none (.node (.node (.node (.node .nil (some (.int .i64 (.ofNat 40))) .nil) (some (.int .i64 (.ofNat 425))) .nil) (some (.int .i64 (.ofNat 425))) (.node (.node .nil (some (.int .i64 (.ofNat 425))) .nil) (some (.int .i64 (.ofNat 6))) .nil)) (some (.ptr 0 0)) (.node (.node (.node .nil (some (.int .u64 (.ofNat 2199023255551))) .nil) (some (.int .i64 (.ofNat 425))) .nil) none (.node .nil (some (.int .u64 (.ofNat 1099511627775))) .nil)))), [], none⟩⟩],
  ⟨2, (.node (.node .nil (some (.row 16 (.node t392 (some (.int .u64 (.ofNat 18446744073709551615))) (.node t348 (some (.int .u64 (.ofNat 18446744073709551615))) (.node (.node .nil (some (.int .u64 (.ofNat 0))) .nil) (some (.int .u64 (.ofNat 2199023255551))) (.node .nil (some (.int .u64 (.ofNat 0))) .nil)))) false true [])) .nil) (some (.row 16 t20 false true [])) .nil), gl⟩)
theorem x3p9 : partOk Tryd.prog [] [] 100000 ext3d 528 x3c8 x3c9 = true := by kernel_rfl
theorem x3g9 : Goes Tryd.prog s0 x3c8 x3c9 := goes_of (E := []) (N := []) trivial x3p9 rfl
def x3c10 : Cf :=
  ([⟨10, [.rgt, .inn, .lft, .rgt, .rgt, .inn, .inn, .rgt, .lft, .rgt, .rgt], none, ⟨22, (.node (.node (.node (.node (.node .nil (some (.int .i64 (.ofNat 472))) .nil) (some (.int .i64 (.ofNat 1024))) .nil) (some (.ptr 1 0)) (.node (.node .nil (some (.ptr 1 7)) .nil) (some (.int .i64 (.ofNat 472))) .nil)) none (.node t216 none (.node .nil (some (.ptr 1 7)) .nil))) none (.node (.node (.node (.node .nil (some (.int .i64 (.ofNat 24))) .nil) (some (.int .i64 (.ofNat 473))) .nil) (some (.int .i64 (.ofNat 473))) (.node (.node .nil (some (.int .i64 (.ofNat 473))) .nil) (some (.int .i64 (.ofNat 7))) .nil)) (some (.ptr 0 0)) (.node (.node (.node .nil (some (.int .u64 (.ofNat 33554431))) .nil) (some (.int .i64 (.ofNat 473))) .nil) none (.node .nil (some (.int .u64 (.ofNat 16777215))) .nil)))), [], none⟩⟩],
  ⟨2, (.node (.node .nil (some (.row 16 (.node (.node (.node (.node (.node .nil (some (.int .u64 (.ofNat 0))) .nil) (some (.int .u64 (.ofNat 33554431))) .nil) (some (.int .u64 (.ofNat 18446744073709551615))) (.node .nil (some (.int .u64 (.ofNat 0))) .nil)) (some (.int .u64 (.ofNat 18446744073709551615))) t348) (some (.int .u64 (.ofNat 18446744073709551615))) t421) false true [])) .nil) (some (.row 16 t20 false true [])) .nil), gl⟩)
theorem x3p10 : partOk Tryd.prog [] [] 100000 ext3d 528 x3c9 x3c10 = true := by kernel_rfl
theorem x3g10 : Goes Tryd.prog s0 x3c9 x3c10 := goes_of (E := []) (N := []) trivial x3p10 rfl
def x3c11 : Cf :=
  ([⟨10, [.rgt, .inn, .lft, .rgt, .rgt, .inn, .inn, .rgt, .lft, .rgt, .rgt], none, ⟨22, (.node (.node (.node (.node (.node .nil (some (.int .i64 (.ofNat 519))) .nil) (some (.int .i64 (.ofNat 1024))) .nil) (some (.ptr 1 0)) (.node (.node .nil (some (.ptr 1 8)) .nil) (some (.int .i64 (.ofNat 519))) .nil)) none (.node (.node (.node .nil (some (.int .u64 (.ofNat 128))) .nil) (some (.bool true)) .nil) none (.node .nil (some (.ptr 1 8)) .nil))) none (.node (.node (.node (.node .nil (some (.int .i64 (.ofNat 7))) .nil) (some (.int .i64 (.ofNat 520))) .nil) (some (.int .i64 (.ofNat 520))) (.node (.node .nil (some (.int .i64 (.ofNat 520))) .nil) (some (.int .i64 (.ofNat 8))) .nil)) (some (.ptr 0 0)) (.node (.node (.node .nil (some (.int .u64 (.ofNat 255))) .nil) (some (.int .i64 (.ofNat 520))) .nil) none (.node .nil (some (.int .u64 (.ofNat 127))) .nil)))), [], none⟩⟩],
  ⟨2, (.node (.node .nil (some (.row 16 (.node t469 (some (.int .u64 (.ofNat 18446744073709551615))) (.node (.node (.node .nil (some (.int .u64 (.ofNat 255))) .nil) (some (.int .u64 (.ofNat 18446744073709551615))) (.node .nil (some (.int .u64 (.ofNat 0))) .nil)) (some (.int .u64 (.ofNat 18446744073709551615))) t348)) false true [])) .nil) (some (.row 16 t20 false true [])) .nil), gl⟩)
theorem x3p11 : partOk Tryd.prog [] [] 100000 ext3d 517 x3c10 x3c11 = true := by kernel_rfl
theorem x3g11 : Goes Tryd.prog s0 x3c10 x3c11 := goes_of (E := []) (N := []) trivial x3p11 rfl
def x3c12 : Cf :=
  ([⟨10, [.rgt, .inn, .lft, .rgt, .rgt, .inn, .inn, .rgt, .lft, .rgt, .rgt], none, ⟨22, (.node (.node (.node (.node (.node .nil (some (.int .i64 (.ofNat 566))) .nil) (some (.int .i64 (.ofNat 1024))) .nil) (some (.ptr 1 0)) (.node (.node .nil (some (.ptr 1 8)) .nil) (some (.int .i64 (.ofNat 566))) .nil)) none (.node (.node (.node .nil (some (.int .u64 (.ofNat 18014398509481984))) .nil) (some (.bool true)) .nil) none (.node .nil (some (.ptr 1 8)) .nil))) none (.node (.node (.node (.node .nil (some (.int .i64 (.ofNat 54))) .nil) (some (.int .i64 (.ofNat 567))) .nil) (some (.int .i64 (.ofNat 567))) (.node (.node .nil (some (.int .i64 (.ofNat 567))) .nil) (some (.int .i64 (.ofNat 8))) .nil)) (some (.ptr 0 0)) (.node (.node t839 (some (.int .i64 (.ofNat 567))) .nil) none (.node .nil (some (.int .u64 (.ofNat 18014398509481983))) .nil)))), [], none⟩⟩],
  ⟨2, (.node (.node .nil (some (.row 16 (.node t469 (some (.int .u64 (.ofNat 18446744073709551615))) (.node (.node t839 (some (.int .u64 (.ofNat 18446744073709551615))) (.node .nil (some (.int .u64 (.ofNat 0))) .nil)) (some (.int .u64 (.ofNat 18446744073709551615))) t348)) false true [])) .nil) (some (.row 16 t20 false true [])) .nil), gl⟩)
theorem x3p12 : partOk Tryd.prog [] [] 100000 ext3d 517 x3c11 x3c12 = true := by kernel_rfl
theorem x3g12 : Goes Tryd.prog s0 x3c11 x3c12 := goes_of (E := []) (N := []) trivial x3p12 rfl
def x3c13 : Cf :=
  ([⟨10, [.lft, .inn, .lft, .rgt, .rgt, .inn, .inn, .rgt, .lft, .rgt, .rgt], none, ⟨22, (.node (.node (.node (.node (.node .nil (some (.int .i64 (.ofNat 613))) .nil) (some (.int .i64 (.ofNat 1024))) .nil) (some (.ptr 1 0)) (.node (.node .nil (some (.ptr 1 9)) .nil) (some (.int .i64 (.ofNat 613))) .nil)) none (.node (.node (.node .nil (some (.int .u64 (.ofNat 137438953472))) .nil) (some (.bool true)) .nil) none (.node .nil (some (.ptr 1 9)) .nil))) none (.node (.node (.node (.node .nil (some (.int .i64 (.ofNat 37))) .nil) (some (.int .i64 (.ofNat 614))) .nil) (some (.int .i64 (.ofNat 613))) (.node (.node .nil (some (.int .i64 (.ofNat 614))) .nil) (some (.int .i64 (.ofNat 9))) .nil)) (some (.ptr 0 0)) (.node (.node (.node .nil (some (.int .u64 (.ofNat 274877906943))) .nil) (some (.int .i64 (.ofNat 613))) .nil) none (.node .nil (some (.int .u64 (.ofNat 137438953471))) .nil)))), [], none⟩⟩],
  ⟨2, (.node (.node .nil (some (.row 16 (.node (.node t468 (some (.int .u64 (.ofNat 18446744073709551615))) (.node (.node .nil (some (.int .u64 (.ofNat 274877906943))) .nil) (some (.int .u64 (.ofNat 18446744073709551615))) (.node .nil (some (.int .u64 (.ofNat 0))) .nil))) (some (.int .u64 (.ofNat 18446744073709551615))) t498) false true [])) .nil) (some (.row 16 t20 false true [])) .nil), gl⟩)
theorem x3p13 : partOk Tryd.prog [] [] 100000 ext3d 516 x3c12 x3c13 = true := by kernel_rfl
theorem x3g13 : Goes Tryd.prog s0 x3c12 x3c13 := goes_of (E := []) (N := []) trivial x3p13 rfl
def x3c14 : Cf :=
  ([⟨10, [.rgt, .inn, .lft, .rgt, .rgt, .inn, .inn, .rgt, .lft, .rgt, .rgt], none, ⟨22, (.node (.node (.node (.node (.node .nil (some (.int .i64 (.ofNat 659))) .nil) (some (.int .i64 (.ofNat 1024))) .nil) (some (.ptr 1 0)) (.node (.node .nil (some (.ptr 1 10)) .nil) (some (.int .i64 (.ofNat 659))) .nil)) none (.node (.node (.node .nil (some (.int .u64 (.ofNat 524288))) .nil) (some (.bool true)) .nil) none (.node .nil (some (.ptr 1 10)) .nil))) none (.node (.node (.node (.node .nil (some (.int .i64 (.ofNat 19))) .nil) (some (.int .i64 (.ofNat 660))) .nil) (some (.int .i64 (.ofNat 660))) (.node (.node .nil (some (.int .i64 (.ofNat 660))) .nil) (some (.int .i64 (.ofNat 10))) .nil)) (some (.ptr 0 0)) (.node (.node (.node .nil (some (.int .u64 (.ofNat 1048575))) .nil) (some (.int .i64 (.ofNat 660))) .nil) none (.node .nil (some (.int .u64 (.ofNat 524287))) .nil)))), [], none⟩⟩],
  ⟨2, (.node (.node .nil (some (.row 16 (.node t521 (some (.int .u64 (.ofNat 18446744073709551615))) (.node t497 (some (.int .u64 (.ofNat 18446744073709551615))) (.node (.node .nil (some (.int .u64 (.ofNat 1048575))) .nil) (some (.int .u64 (.ofNat 18446744073709551615))) (.node .nil (some (.int .u64 (.ofNat 0))) .nil)))) false true [])) .nil) (some (.row 16 t20 false true [])) .nil), gl⟩)
theorem x3p14 : partOk Tryd.prog [] [] 100000 ext3d 507 x3c13 x3c14 = true := by kernel_rfl
theorem x3g14 : Goes Tryd.prog s0 x3c13 x3c14 := goes_of (E := []) (N := []) trivial x3p14 rfl
def x3c15 : Cf :=
  ([⟨10, [.rgt, .inn, .lft, .rgt, .rgt, .inn, .inn, .rgt, .lft, .rgt, .rgt], none, ⟨22, (.node (.node (.node (.node (.node .nil (some (.int .i64 (.ofNat 706))) .nil) (some (.int .i64 (.ofNat 1024))) .nil) (some (.ptr 1 0)) (.node (.node .nil (some (.ptr 1 11)) .nil) (some (.int .i64 (.ofNat 706))) .nil)) none (.node (.node (.node .nil (some (.int .u64 (.ofNat 4))) .nil) (some (.bool true)) .nil) none (.node .nil (some (.ptr 1 11)) .nil))) none (.node (.node (.node (.node .nil (some (.int .i64 (.ofNat 2))) .nil) (some (.int .i64 (.ofNat 707))) .nil) (some (.int .i64 (.ofNat 707))) (.node (.node .nil (some (.int .i64 (.ofNat 707))) .nil) (some (.int .i64 (.ofNat 11))) .nil)) (some (.ptr 0 0)) (.node (.node (.node .nil (some (.int .u64 (.ofNat 7))) .nil) (some (.int .i64 (.ofNat 707))) .nil) none (.node .nil (some (.int .u64 (.ofNat 3))) .nil)))), [], none⟩⟩],
  ⟨2, (.node (.node .nil (some (.row 16 (.node (.node (.node t467 (some (.int .u64 (.ofNat 18446744073709551615))) (.node .nil (some (.int .u64 (.ofNat 7))) .nil)) (some (.int .u64 (.ofNat 18446744073709551615))) t497) (some (.int .u64 (.ofNat 18446744073709551615))) t573) false true [])) .nil) (some (.row 16 t20 false true [])) .nil), gl⟩)
theorem x3p15 : partOk Tryd.prog [] [] 100000 ext3d 517 x3c14 x3c15 = true := by kernel_rfl
theorem x3g15 : Goes Tryd.prog s0 x3c14 x3c15 := goes_of (E := []) (N := []) trivial x3p15 rfl
def x3c16 : Cf :=
  ([⟨10, [.rgt, .inn, .lft, .rgt, .rgt, .inn, .inn, .rgt, .lft, .rgt, .rgt], none, ⟨22, (.node (.node (.node (.node (.node .nil (some (.int .i64 (.ofNat 753))) .nil) (some (.int .i64 (.ofNat 1024))) .nil) (some (.ptr 1 0)) (.node (.node .nil (some (.ptr 1 11)) .nil) (some (.int .i64 (.ofNat 753))) .nil)) none (.node t532 none (.node .nil (some (.ptr 1 11)) .nil))) none (.node (.node (.node (.node .nil (some (.int .i64 (.ofNat 49))) .nil) (some (.int .i64 (.ofNat 754))) .nil) (some (.int .i64 (.ofNat 754))) (.node (.node .nil (some (.int .i64 (.ofNat 754))) .nil) (some (.int .i64 (.ofNat 11))) .nil)) (some (.ptr 0 0)) (.node (.node t540 (some (.int .i64 (.ofNat 754))) .nil) none t542))), [], none⟩⟩],
  ⟨2, (.node (.node .nil (some (.row 16 (.node (.node (.node t467 (some (.int .u64 (.ofNat 18446744073709551615))) t540) (some (.int .u64 (.ofNat 18446744073709551615))) t497) (some (.int .u64 (.ofNat 18446744073709551615))) t573) false true [])) .nil) (some (.row 16 t20 false true [])) .nil), gl⟩)
theorem x3p16 : partOk Tryd.prog [] [] 100000 ext3d 517 x3c15 x3c16 = true := by kernel_rfl
theorem x3g16 : Goes Tryd.prog s0 x3c15 x3c16 := goes_of (E := []) (N := []) trivial x3p16 rfl
def x3c17 : Cf :=
  ([⟨10, [.rgt, .inn, .lft, .rgt, .rgt, .inn, .inn, .rgt, .lft, .rgt, .rgt], none, ⟨22, (.node (.node (.node (.node (.node .nil (some (.int .i64 (.ofNat 800))) .nil) (some (.int .i64 (.ofNat 1024))) .nil) (some (.ptr 1 0)) (.node (.node .nil (some (.ptr 1 12)) .nil) (some (.int .i64 (.ofNat 800))) .nil)) none (.node t557 none (.node .nil (some (.ptr 1 12)) .nil))) none (.node (.node (.node (.node .nil (some (.int .i64 (.ofNat 32))) .nil) (some (.int .i64 (.ofNat 801))) .nil) (some (.int .i64 (.ofNat 801))) (.node (.node .nil (some (.int .i64 (.ofNat 801))) .nil) (some (.int .i64 (.ofNat 12))) .nil)) (some (.ptr 0 0)) (.node (.node (.node .nil (some (.int .u64 (.ofNat 8589934591))) .nil) (some (.int .i64 (.ofNat 801))) .nil) none (.node .nil (some (.int .u64 (.ofNat 4294967295))) .nil)))), [], none⟩⟩],
  ⟨2, (.node (.node .nil (some (.row 16 (.node t597 (some (.int .u64 (.ofNat 18446744073709551615))) (.node (.node t342 (some (.int .u64 (.ofNat 18446744073709551615))) (.node .nil (some (.int .u64 (.ofNat 8589934591))) .nil)) (some (.int .u64 (.ofNat 18446744073709551615))) t497)) false true [])) .nil) (some (.row 16 t20 false true [])) .nil), gl⟩)
theorem x3p17 : partOk Tryd.prog [] [] 100000 ext3d 517 x3c16 x3c17 = true := by kernel_rfl
theorem x3g17 : Goes Tryd.prog s0 x3c16 x3c17 := goes_of (E := []) (N := []) trivial x3p17 rfl
def x3c18 : Cf :=
  ([⟨10, [.rgt, .inn, .lft, .rgt, .rgt, .inn, .inn, .rgt, .lft, .rgt, .rgt], none, ⟨22, (.node (.node (.node (.node (.node .nil (some (.int .i64 (.ofNat 847))) .nil) (some (.int .i64 (.ofNat 1024))) .nil) (some (.ptr 1 0)) (.node (.node .nil (some (.ptr 1 13)) .nil) (some (.int .i64 (.ofNat 847))) .nil)) none (.node t583 none (.node .nil (some (.ptr 1 13)) .nil))) none (.node (.node (.node (.node .nil (some (.int .i64 (.ofNat 15))) .nil) (some (.int .i64 (.ofNat 848))) .nil) (some (.int .i64 (.ofNat 848))) (.node (.node .nil (some (.int .i64 (.ofNat 848))) .nil) (some (.int .i64 (.ofNat 13))) .nil)) (some (.ptr 0 0)) (.node (.node (.node .nil (some (.int .u64 (.ofNat 65535))) .nil) (some (.int .i64 (.ofNat 848))) .nil) none (.node .nil (some (.int .u64 (.ofNat 32767))) .nil)))), [], none⟩⟩],
  ⟨2, (.node (.node .nil (some (.row 16 (.node (.node t596 (some (.int .u64 (.ofNat 18446744073709551615))) t598) (some (.int .u64 (.ofNat 18446744073709551615))) t640) false true [])) .nil) (some (.row 16 t20 false true [])) .nil), gl⟩)
theorem x3p18 : partOk Tryd.prog [] [] 100000 ext3d 517 x3c17 x3c18 = true := by kernel_rfl
theorem x3g18 : Goes Tryd.prog s0 x3c17 x3c18 := goes_of (E := []) (N := []) trivial x3p18 rfl
def x3c19 : Cf :=
  ([⟨10, [.rgt, .rgt, .rgt, .inn, .inn, .rgt, .lft, .rgt, .rgt], none, ⟨22, (.node (.node (.node (.node (.node .nil (some (.int .i64 (.ofNat 894))) .nil) (some (.int .i64 (.ofNat 1024))) .nil) (some (.ptr 1 0)) (.node (.node .nil (some (.ptr 1 13)) .nil) (some (.int .i64 (.ofNat 894))) .nil)) none (.node t608 none (.node .nil (some (.ptr 1 13)) .nil))) none (.node (.node (.node (.node .nil (some (.int .i64 (.ofNat 62))) .nil) (some (.int .i64 (.ofNat 894))) .nil) (some (.int .i64 (.ofNat 894))) (.node (.node .nil (some (.int .i64 (.ofNat 894))) .nil) (some (.int .i64 (.ofNat 13))) .nil)) (some (.ptr 0 0)) (.node (.node t344 (some (.int .i64 (.ofNat 894))) .nil) none t158))), [], none⟩⟩],
  ⟨2, (.node (.node .nil (some (.row 16 (.node (.node t596 (some (.int .u64 (.ofNat 18446744073709551615))) t618) (some (.int .u64 (.ofNat 18446744073709551615))) t640) false true [])) .nil) (some (.row 16 t20 false true [])) .nil), gl⟩)
theorem x3p19 : partOk Tryd.prog [] [] 100000 ext3d 507 x3c18 x3c19 = true := by kernel_rfl
theorem x3g19 : Goes Tryd.prog s0 x3c18 x3c19 := goes_of (E := []) (N := []) trivial x3p19 rfl
def x3c20 : Cf :=
  ([⟨10, [.rgt, .inn, .lft, .rgt, .rgt, .inn, .inn, .rgt, .lft, .rgt, .rgt], none, ⟨22, (.node (.node (.node (.node (.node .nil (some (.int .i64 (.ofNat 940))) .nil) (some (.int .i64 (.ofNat 1024))) .nil) (some (.ptr 1 0)) (.node (.node .nil (some (.ptr 1 14)) .nil) (some (.int .i64 (.ofNat 940))) .nil)) none (.node t975 none (.node .nil (some (.ptr 1 14)) .nil))) none (.node (.node (.node (.node .nil (some (.int .i64 (.ofNat 44))) .nil) (some (.int .i64 (.ofNat 941))) .nil) (some (.int .i64 (.ofNat 941))) (.node (.node .nil (some (.int .i64 (.ofNat 941))) .nil) (some (.int .i64 (.ofNat 14))) .nil)) (some (.ptr 0 0)) (.node (.node t369 (some (.int .i64 (.ofNat 941))) .nil) none t982))), [], none⟩⟩],
  ⟨2, (.node (.node .nil (some (.row 16 (.node t663 (some (.int .u64 (.ofNat 18446744073709551615))) (.node t639 (some (.int .u64 (.ofNat 18446744073709551615))) (.node t342 (some (.int .u64 (.ofNat 18446744073709551615))) t369))) false true [])) .nil) (some (.row 16 t20 false true [])) .nil), gl⟩)
theorem x3p20 : partOk Tryd.prog [] [] 100000 ext3d 516 x3c19 x3c20 = true := by kernel_rfl
theorem x3g20 : Goes Tryd.prog s0 x3c19 x3c20 := goes_of (E := []) (N := []) trivial x3p20 rfl
def x3c21 : Cf :=
  ([⟨10, [.rgt, .inn, .lft, .rgt, .rgt, .inn, .inn, .rgt, .lft, .rgt, .rgt], none, ⟨22, (.node (.node (.node (.node (.node .nil (some (.int .i64 (.ofNat 986))) .nil) (some (.int .i64 (.ofNat 1024))) .nil) (some (.ptr 1 0)) (.node (.node .nil (some (.ptr 1 15)) .nil) (some (.int .i64 (.ofNat 986))) .nil)) none (.node t1076 none (.node .nil (some (.ptr 1 15)) .nil))) none (.node (.node (.node (.node .nil (some (.int .i64 (.ofNat 26))) .nil) (some (.int .i64 (.ofNat 987))) .nil) (some (.int .i64 (.ofNat 987))) (.node (.node .nil (some (.int .i64 (.ofNat 987))) .nil) (some (.int .i64 (.ofNat 15))) .nil)) (some (.ptr 0 0)) (.node (.node (.node .nil (some (.int .u64 (.ofNat 134217727))) .nil) (some (.int .i64 (.ofNat 987))) .nil) none (.node .nil (some (.int .u64 (.ofNat 67108863))) .nil)))), [], none⟩⟩],
  ⟨2, (.node (.node .nil (some (.row 16 (.node (.node (.node (.node (.node .nil (some (.int .u64 (.ofNat 134217727))) .nil) (some (.int .u64 (.ofNat 18446744073709551615))) .nil) (some (.int .u64 (.ofNat 18446744073709551615))) t342) (some (.int .u64 (.ofNat 18446744073709551615))) t639) (some (.int .u64 (.ofNat 18446744073709551615))) t690) false true [])) .nil) (some (.row 16 t20 false true [])) .nil), gl⟩)
theorem x3p21 : partOk Tryd.prog [] [] 100000 ext3d 506 x3c20 x3c21 = true := by kernel_rfl
theorem x3g21 : Goes Tryd.prog s0 x3c20 x3c21 := goes_of (E := []) (N := []) trivial x3p21 rfl
theorem x3last : lastV Tryd.prog [] [] 100000 ext3d 405 x3c21 10 (.agg [.int .u64 (.ofNat 18446744073709551615), .int .u64 (.ofNat 18446744073709551615), .int .u64 (.ofNat 18446744073709551615), .int .u64 (.ofNat 18446744073709551615), .int .u64 (.ofNat 18446744073709551615), .int .u64 (.ofNat 18446744073709551615), .int .u64 (.ofNat 18446744073709551615), .int .u64 (.ofNat 18446744073709551615), .int .u64 (.ofNat 18446744073709551615), .int .u64 (.ofNat 18446744073709551615), .int .u64 (.ofNat 18446744073709551615), .int .u64 (.ofNat 18446744073709551615), .int .u64 (.ofNat 18446744073709551615), .int .u64 (.ofNat 18446744073709551615), .int .u64 (.ofNat 18446744073709551615), .int .u64 (.ofNat 18446744073709551615)]) = true := by kernel_rfl
theorem ext3 : Ext.ok Tryd.prog s0 ⟨10, [.int .i64 (.ofNat 9223372036854775807)], .agg [.int .u64 (.ofNat 18446744073709551615), .int .u64 (.ofNat 18446744073709551615), .int .u64 (.ofNat 18446744073709551615), .int .u64 (.ofNat 18446744073709551615), .int .u64 (.ofNat 18446744073709551615), .int .u64 (.ofNat 18446744073709551615), .int .u64 (.ofNat 18446744073709551615), .int .u64 (.ofNat 18446744073709551615), .int .u64 (.ofNat 18446744073709551615), .int .u64 (.ofNat 18446744073709551615), .int .u64 (.ofNat 18446744073709551615), .int .u64 (.ofNat 18446744073709551615), .int .u64 (.ofNat 18446744073709551615), .int .u64 (.ofNat 18446744073709551615), .int .u64 (.ofNat 18446744073709551615), .int .u64 (.ofNat 18446744073709551615)]⟩ := ext_parts (E := []) (N := []) trivial (by kernel_rfl) (by kernel_rfl) (by kernel_rfl) ((((((((((((((((((((x3g1.trans x3g2).trans x3g3).trans x3g4).trans x3g5).trans x3g6).trans x3g7).trans x3g8).trans x3g9).trans x3g10).trans x3g11).trans x3g12).trans x3g13).trans x3g14).trans x3g15).trans x3g16).trans x3g17).trans x3g18).trans x3g19).trans x3g20).trans x3g21) x3last
def exts : List Ext := [⟨10, [.int .i64 (.negSucc 9223372036854775807)], .agg [.int .u64 (.ofNat 0), .int .u64 (.ofNat 0), .int .u64 (.ofNat 0), .int .u64 (.ofNat 0), .int .u64 (.ofNat 0), .int .u64 (.ofNat 0), .int .u64 (.ofNat 0), .int .u64 (.ofNat 0), .int .u64 (.ofNat 0), .int .u64 (.ofNat 0), .int .u64 (.ofNat 0), .int .u64 (.ofNat 0), .int .u64 (.ofNat 0), .int .u64 (.ofNat 0), .int .u64 (.ofNat 0), .int .u64 (.ofNat 0)]⟩, ⟨10, [.int .i64 (.ofNat 1024)], .agg [.int .u64 (.ofNat 18446744073709551615), .int .u64 (.ofNat 18446744073709551615), .int .u64 (.ofNat 18446744073709551615), .int .u64 (.ofNat 18446744073709551615), .int .u64 (.ofNat 18446744073709551615), .int .u64 (.ofNat 18446744073709551615), .int .u64 (.ofNat 18446744073709551615), .int .u64 (.ofNat 18446744073709551615), .int .u64 (.ofNat 18446744073709551615), .int .u64 (.ofNat 18446744073709551615), .int .u64 (.ofNat 18446744073709551615), .int .u64 (.ofNat 18446744073709551615), .int .u64 (.ofNat 18446744073709551615), .int .u64 (.ofNat 18446744073709551615), .int .u64 (.ofNat 18446744073709551615), .int .u64 (.ofNat 18446744073709551615)]⟩, ⟨10, [.int .i64 (.ofNat 4611686018427387904)], .agg [.int .u64 (.ofNat 18446744073709551615), .int .u64 (.ofNat 18446744073709551615), .int .u64 (.ofNat 18446744073709551615), .int .u64 (.ofNat 18446744073709551615), .int .u64 (.ofNat 18446744073709551615), .int .u64 (.ofNat 18446744073709551615), .int .u64 (.ofNat 18446744073709551615), .int .u64 (.ofNat 18446744073709551615), .int .u64 (.ofNat 18446744073709551615), .int .u64 (.ofNat 18446744073709551615), .int .u64 (.ofNat 18446744073709551615), .int .u64 (.ofNat 18446744073709551615), .int .u64 (.ofNat 18446744073709551615), .int .u64 (.ofNat 18446744073709551615), .int .u64 (.ofNat 18446744073709551615), .int .u64 (.ofNat 18446744073709551615)]⟩, ⟨10, [.int .i64 (.ofNat 9223372036854775807)], .agg [.int .u64 (.ofNat 18446744073709551615), .int .u64 (.ofNat 18446744073709551615), .int .u64 (.ofNat 18446744073709551615), .int .u64 (.ofNat 18446744073709551615), .int .u64 (.ofNat 18446744073709551615), .int .u64 (.ofNat 18446744073709551615), .int .u64 (.ofNat 18446744073709551615), .int .u64 (.ofNat 18446744073709551615), .int .u64 (.ofNat 18446744073709551615), .int .u64 (.ofNat 18446744073709551615), .int .u64 (.ofNat 18446744073709551615), .int .u64 (.ofNat 18446744073709551615), .int .u64 (.ofNat 18446744073709551615), .int .u64 (.ofNat 18446744073709551615), .int .u64 (.ofNat 18446744073709551615), .int .u64 (.ofNat 18446744073709551615)]⟩, ⟨11, [.agg [.int .u64 (.ofNat 0), .int .u64 (.ofNat 0), .int .u64 (.ofNat 0), .int .u64 (.ofNat 0), .int .u64 (.ofNat 0), .int .u64 (.ofNat 0), .int .u64 (.ofNat 0), .int .u64 (.ofNat 0), .int .u64 (.ofNat 0), .int .u64 (.ofNat 0), .int .u64 (.ofNat 0), .int .u64 (.ofNat 0), .int .u64 (.ofNat 0), .int .u64 (.ofNat 0), .int .u64 (.ofNat 0), .int .u64 (.ofNat 0)]], .int .i64 (.ofNat 0)⟩, ⟨11, [.agg [.int .u64 (.ofNat 18446744073709551615), .int .u64 (.ofNat 18446744073709551615), .int .u64 (.ofNat 18446744073709551615), .int .u64 (.ofNat 18446744073709551615), .int .u64 (.ofNat 18446744073709551615), .int .u64 (.ofNat 18446744073709551615), .int .u64 (.ofNat 18446744073709551615), .int .u64 (.ofNat 18446744073709551615), .int .u64 (.ofNat 18446744073709551615), .int .u64 (.ofNat 18446744073709551615), .int .u64 (.ofNat 18446744073709551615), .int .u64 (.ofNat 18446744073709551615), .int .u64 (.ofNat 18446744073709551615), .int .u64 (.ofNat 18446744073709551615), .int .u64 (.ofNat 18446744073709551615), .int .u64 (.ofNat 18446744073709551615)]], .int .i64 (.ofNat 1024)⟩, ⟨12, [.agg [.int .u64 (.ofNat 9223372036854775809), .int .u64 (.ofNat 2), .int .u64 (.ofNat 0), .int .u64 (.ofNat 0), .int .u64 (.ofNat 0), .int .u64 (.ofNat 0), .int .u64 (.ofNat 0), .int .u64 (.ofNat 0), .int .u64 (.ofNat 0), .int .u64 (.ofNat 0), .int .u64 (.ofNat 0), .int .u64 (.ofNat 0), .int .u64 (.ofNat 0), .int .u64 (.ofNat 0), .int .u64 (.ofNat 0), .int .u64 (.ofNat 9223372036854775808)], .int .i64 (.negSucc 9223372036854775807)], .bool false⟩, ⟨12, [.agg [.int .u64 (.ofNat 9223372036854775809), .int .u64 (.ofNat 2), .int .u64 (.ofNat 0), .int .u64 (.ofNat 0), .int .u64 (.ofNat 0), .int .u64 (.ofNat 0), .int .u64 (.ofNat 0), .int .u64 (.ofNat 0), .int .u64 (.ofNat 0), .int .u64 (.ofNat 0), .int .u64 (.ofNat 0), .int .u64 (.ofNat 0), .int .u64 (.ofNat 0), .int .u64 (.ofNat 0), .int .u64 (.ofNat 0), .int .u64 (.ofNat 9223372036854775808)], .int .i64 (.ofNat 9223372036854775807)], .bool false⟩, ⟨13, [.agg [.int .u64 (.ofNat 9223372036854775809), .int .u64 (.ofNat 2), .int .u64 (.ofNat 0), .int .u64 (.ofNat 0), .int .u64 (.ofNat 0), .int .u64 (.ofNat 0), .int .u64 (.ofNat 0), .int .u64 (.ofNat 0), .int .u64 (.ofNat 0), .int .u64 (.ofNat 0), .int .u64 (.ofNat 0), .int .u64 (.ofNat 0), .int .u64 (.ofNat 0), .int .u64 (.ofNat 0), .int .u64 (.ofNat 0), .int .u64 (.ofNat 9223372036854775808)], .int .i64 (.ofNat 1024)], .agg [.int .u64 (.ofNat 9223372036854775809), .int .u64 (.ofNat 2), .int .u64 (.ofNat 0), .int .u64 (.ofNat 0), .int .u64 (.ofNat 0), .int .u64 (.ofNat 0), .int .u64 (.ofNat 0), .int .u64 (.ofNat 0), .int .u64 (.ofNat 0), .int .u64 (.ofNat 0), .int .u64 (.ofNat 0), .int .u64 (.ofNat 0), .int .u64 (.ofNat 0), .int .u64 (.ofNat 0), .int .u64 (.ofNat 0), .int .u64 (.ofNat 9223372036854775808)]⟩, ⟨13, [.agg [.int .u64 (.ofNat 9223372036854775809), .int .u64 (.ofNat 2), .int .u64 (.ofNat 0), .int .u64 (.ofNat 0), .int .u64 (.ofNat 0), .int .u64 (.ofNat 0), .int .u64 (.ofNat 0), .int .u64 (.ofNat 0), .int .u64 (.ofNat 0), .int .u64 (.ofNat 0), .int .u64 (.ofNat 0), .int .u64 (.ofNat 0), .int .u64 (.ofNat 0), .int .u64 (.ofNat 0), .int .u64 (.ofNat 0), .int .u64 (.ofNat 9223372036854775808)], .int .i64 (.ofNat 63)], .agg [.int .u64 (.ofNat 9223372036854775809), .int .u64 (.ofNat 2), .int .u64 (.ofNat 0), .int .u64 (.ofNat 0), .int .u64 (.ofNat 0), .int .u64 (.ofNat 0), .int .u64 (.ofNat 0), .int .u64 (.ofNat 0), .int .u64 (.ofNat 0), .int .u64 (.ofNat 0), .int .u64 (.ofNat 0), .int .u64 (.ofNat 0), .int .u64 (.ofNat 0), .int .u64 (.ofNat 0), .int .u64 (.ofNat 0), .int .u64 (.ofNat 9223372036854775808)]⟩, ⟨14, [.agg [.int .u64 (.ofNat 9223372036854775809), .int .u64 (.ofNat 2), .int .u64 (.ofNat 0), .int .u64 (.ofNat 0), .int .u64 (.ofNat 0), .int .u64 (.ofNat 0), .int .u64 (.ofNat 0), .int .u64 (.ofNat 0), .int .u64 (.ofNat 0), .int .u64 (.ofNat 0), .int .u64 (.ofNat 0), .int .u64 (.ofNat 0), .int .u64 (.ofNat 0), .int .u64 (.ofNat 0), .int .u64 (.ofNat 0), .int .u64 (.ofNat 9223372036854775808)], .int .i64 (.negSucc 0)], .agg [.int .u64 (.ofNat 9223372036854775809), .int .u64 (.ofNat 2), .int .u64 (.ofNat 0), .int .u64 (.ofNat 0), .int .u64 (.ofNat 0), .int .u64 (.ofNat 0), .int .u64 (.ofNat 0), .int .u64 (.ofNat 0), .int .u64 (.ofNat 0), .int .u64 (.ofNat 0), .int .u64 (.ofNat 0), .int .u64 (.ofNat 0), .int .u64 (.ofNat 0), .int .u64 (.ofNat 0), .int .u64 (.ofNat 0), .int .u64 (.ofNat 9223372036854775808)]⟩]
theorem exts_ok : ExtOk Tryd.prog s0 exts := ⟨ext0, ext1, ext2, ext3, ext4, ext5, ext6, ext7, ext8, ext9, ext10, trivial⟩
def deep : List FuncId := [10, 42, 43, 14, 11, 7]
def many : List FuncId := []
def t21 : Tri O := .node .nil (some (.row 16 t20 false true [])) .nil
def c1 : Cf :=
  ([⟨14, [.lft, .rgt], none, ⟨9, (.node (.node .nil (some (.int .i64 (.ofNat 3))) .nil) none (.node (.node .nil (some (.ptr 37 0)) .nil) (some (.ptr 36 0)) .nil)), [], none⟩⟩, ⟨7, [.lft, .rgt, .rgt, .rgt], (some 12), ⟨48, (.node (.node .nil none (.node .nil none (.node (.node .nil (some (.bool true)) .nil) none .nil))) (some (.bool false)) (.node .nil none (.node .nil none (.node (.node .nil (some (.agg [.int .u64 (.ofNat 8), .int .u64 (.ofNat 1), .int .u64 (.ofNat 0), .int .u64 (.ofNat 0), .int .u64 (.ofNat 0), .int .u64 (.ofNat 0), .int .u64 (.ofNat 0), .int .u64 (.ofNat 0), .int .u64 (.ofNat 0), .int .u64 (.ofNat 0), .int .u64 (.ofNat 0), .int .u64 (.ofNat 0), .int .u64 (.ofNat 0), .int .u64 (.ofNat 0), .int .u64 (.ofNat 0), .int .u64 (.ofNat 0)])) .nil) none .nil)))), [], none⟩⟩, ⟨3, [.lft, .lft, .rgt], (some 0), ⟨105, (.node .nil (some (.bool false)) .nil), [], none⟩⟩],
  ⟨38, (.node (.node .nil none (.node .nil none (.node (.node t21 none .nil) none .nil))) none (.node (.node .nil none (.node (.node (.node .nil (some (.row 16 (.node (.node t16 (some (.int .u64 (.ofNat 1))) t17) (some (.int .u64 (.ofNat 8))) t19) false true [])) .nil) none .nil) none .nil)) none .nil)), gl⟩)
theorem p1 : partOk Tryd.prog exts many 100000 deep 223 (startC Tryd.prog 3 s0) c1 = true := by kernel_rfl
theorem g1 : Goes Tryd.prog s0 (startC Tryd.prog 3 s0) c1 := goes_of exts_ok p1 rfl
def t54 : Tri V := .node .nil none (.node .nil none (.node .nil (some (.bool true)) .nil))
def t55 : Tri V := .node t54 none .nil
def t63 : Tri O := .node .nil none t21
def c2 : Cf :=
  ([⟨10, [.rgt, .inn, .lft, .rgt, .rgt, .inn, .inn, .rgt, .lft, .rgt, .rgt], none, ⟨22, (.node (.node (.node (.node (.node .nil (some (.int .i64 (.ofNat 28))) .nil) (some (.int .i64 (.ofNat 65))) .nil) (some (.ptr 53 0)) (.node (.node .nil (some (.ptr 53 0)) .nil) (some (.int .i64 (.ofNat 28))) .nil)) none (.node t40 none (.node .nil (some (.ptr 53 0)) .nil))) none (.node (.node (.node (.node .nil (some (.int .i64 (.ofNat 28))) .nil) (some (.int .i64 (.ofNat 29))) .nil) (some (.int .i64 (.ofNat 29))) (.node (.node .nil (some (.int .i64 (.ofNat 29))) .nil) (some (.int .i64 (.ofNat 0))) .nil)) (some (.ptr 52 0)) (.node (.node (.node .nil (some (.int .u64 (.ofNat 536870911))) .nil) (some (.int .i64 (.ofNat 29))) .nil) none (.node .nil (some (.int .u64 (.ofNat 268435455))) .nil)))), [], none⟩⟩, ⟨7, [.lft, .rgt, .rgt, .rgt], (some 18), ⟨48, (.node .nil (some (.bool false)) t55), [], none⟩⟩, ⟨3, [.lft, .lft, .rgt], (some 0), ⟨105, (.node .nil (some (.bool false)) .nil), [], none⟩⟩],
  ⟨54, (.node (.node .nil none (.node .nil none (.node (.node .nil none (.node .nil (some (.row 16 (.node t18 (some (.int .u64 (.ofNat 536870911))) t19) false true [])) .nil)) none .nil))) none (.node (.node .nil none (.node t63 none .nil)) none .nil)), gl⟩)
theorem p2 : partOk Tryd.prog exts many 100000 deep 403 c1 c2 = true := by kernel_rfl
theorem g2 : Goes Tryd.prog s0 c1 c2 := goes_of exts_ok p2 rfl
def c3 : Cf :=
  ([⟨11, [.rgt, .inn, .lft, .rgt, .rgt, .inn, .inn, .rgt, .lft, .rgt, .rgt], none, ⟨16, (.node (.node (.node (.node .nil (some (.int .i64 (.ofNat 9))) .nil) (some (.int .i64 (.ofNat 65))) (.node .nil (some (.int .u64 (.ofNat 0))) .nil)) none (.node (.node .nil (some (.int .u64 (.ofNat 0))) .nil) (some (.int .u64 (.ofNat 0))) (.node .nil (some (.int .i64 (.ofNat 65))) .nil))) none (.node (.node (.node .nil (some (.bool true)) .nil) none (.node .nil (some (.int .i64 (.ofNat 0))) .nil)) (some (.int .i64 (.ofNat 0))) (.node (.node .nil (some (.int .i64 (.ofNat 65))) .nil) (some (.agg [.int .u64 (.ofNat 18446744073709551615), .int .u64 (.ofNat 1), .int .u64 (.ofNat 0), .int .u64 (.ofNat 0), .int .u64 (.ofNat 0), .int .u64 (.ofNat 0), .int .u64 (.ofNat 0), .int .u64 (.ofNat 0), .int .u64 (.ofNat 0), .int .u64 (.ofNat 0), .int .u64 (.ofNat 0), .int .u64 (.ofNat 0), .int .u64 (.ofNat 0), .int .u64 (.ofNat 0), .int .u64 (.ofNat 0), .int .u64 (.ofNat 0)])) (.node .nil (some (.int .i64 (.ofNat 9))) .nil)))), [], none⟩⟩, ⟨7, [.lft, .rgt, .rgt, .rgt], (some 19), ⟨48, (.node (.node .nil none (.node .nil none (.node .nil none (.node .nil (some (.agg [.int .u64 (.ofNat 18446744073709551615), .int .u64 (.ofNat 1), .int .u64 (.ofNat 0), .int .u64 (.ofNat 0), .int .u64 (.ofNat 0), .int .u64 (.ofNat 0), .int .u64 (.ofNat 0), .int .u64 (.ofNat 0), .int .u64 (.ofNat 0), .int .u64 (.ofNat 0), .int .u64 (.ofNat 0), .int .u64 (.ofNat 0), .int .u64 (.ofNat 0), .int .u64 (.ofNat 0), .int .u64 (.ofNat 0), .int .u64 (.ofNat 0)])) .nil)))) (some (.bool false)) t55), [], none⟩⟩, ⟨3, [.lft, .lft, .rgt], (some 0), ⟨105, (.node .nil (some (.bool false)) .nil), [], none⟩⟩],
  ⟨55, .nil, gl⟩)
theorem p3 : partOk Tryd.prog exts many 100000 deep 513 c2 c3 = true := by kernel_rfl
theorem g3 : Goes Tryd.prog s0 c2 c3 := goes_of exts_ok p3 rfl
def t102 : Tri V := .node (.node (.node .nil (some (.bool true)) .nil) none .nil) none .nil
def t106 : Tri O := .node .nil none t63
def t107 : Tri O := .node t106 none .nil
def c4 : Cf :=
  ([⟨10, [.lft, .rgt, .inn, .inn, .rgt, .lft, .rgt, .rgt], none, ⟨22, (.node (.node (.node (.node (.node .nil (some (.int .i64 (.ofNat 38))) .nil) (some (.int .i64 (.ofNat 65))) .nil) (some (.ptr 56 0)) (.node (.node .nil (some (.ptr 56 0)) .nil) (some (.int .i64 (.ofNat 38))) .nil)) none (.node t89 none (.node .nil (some (.ptr 56 0)) .nil))) none (.node (.node (.node (.node .nil (some (.int .i64 (.ofNat 38))) .nil) (some (.int .i64 (.ofNat 39))) .nil) (some (.int .i64 (.ofNat 38))) (.node (.node .nil (some (.int .i64 (.ofNat 39))) .nil) (some (.int .i64 (.ofNat 0))) .nil)) (some (.ptr 55 0)) (.node (.node (.node .nil (some (.int .u64 (.ofNat 549755813887))) .nil) (some (.int .i64 (.ofNat 38))) .nil) none (.node .nil (some (.int .u64 (.ofNat 274877906943))) .nil)))), [], none⟩⟩, ⟨7, [.lft, .rgt, .rgt, .rgt], (some 23), ⟨48, (.node (.node .nil none (.node t102 none .nil)) (some (.bool false)) .nil), [], none⟩⟩, ⟨3, [.lft, .lft, .rgt], (some 0), ⟨105, (.node .nil (some (.bool false)) .nil), [], none⟩⟩],
  ⟨57, (.node (.node t107 none .nil) none (.node (.node (.node .nil none (.node .nil none (.node .nil (some (.row 16 (.node t18 (some (.int .u64 (.ofNat 549755813887))) t19) false true [])) .nil))) none .nil) none .nil)), gl⟩)
theorem p4 : partOk Tryd.prog exts many 100000 deep 521 c3 c4 = true := by kernel_rfl
theorem g4 : Goes Tryd.prog s0 c3 c4 := goes_of exts_ok p4 rfl
def t135 : Tri V := .node .nil none t102
def t136 : Tri V := .node .nil none t135
def t137 : Tri V := .node t136 (some (.bool false)) .nil
def t144 : Tri O := .node .nil none t107
def c5 : Cf :=
  ([⟨10, [.lft, .rgt, .rgt, .inn, .inn, .rgt, .lft, .rgt, .rgt], none, ⟨22, (.node (.node (.node (.node (.node .nil (some (.int .i64 (.ofNat 17))) .nil) (some (.int .i64 (.ofNat 65))) .nil) (some (.ptr 59 0)) (.node (.node .nil (some (.ptr 59 0)) .nil) (some (.int .i64 (.ofNat 17))) .nil)) none (.node t122 none (.node .nil (some (.ptr 59 0)) .nil))) none (.node (.node (.node (.node .nil (some (.int .i64 (.ofNat 17))) .nil) (some (.int .i64 (.ofNat 18))) .nil) (some (.int .i64 (.ofNat 17))) (.node (.node .nil (some (.int .i64 (.ofNat 18))) .nil) (some (.int .i64 (.ofNat 0))) .nil)) (some (.ptr 58 0)) (.node (.node (.node .nil (some (.int .u64 (.ofNat 262143))) .nil) (some (.int .i64 (.ofNat 17))) .nil) none (.node .nil (some (.int .u64 (.ofNat 131071))) .nil)))), [], none⟩⟩, ⟨7, [.lft, .rgt, .rgt, .rgt], (some 27), ⟨48, t137, [], none⟩⟩, ⟨3, [.lft, .lft, .rgt], (some 0), ⟨105, (.node .nil (some (.bool false)) .nil), [], none⟩⟩],
  ⟨60, (.node (.node (.node .nil none (.node .nil none (.node .nil none (.node .nil (some (.row 16 (.node t18 (some (.int .u64 (.ofNat 262143))) t19) false true [])) .nil)))) none .nil) none t144), gl⟩)
theorem p5 : partOk Tryd.prog exts many 100000 deep 508 c4 c5 = true := by kernel_rfl
theorem g5 : Goes Tryd.prog s0 c4 c5 := goes_of exts_ok p5 rfl
def c6 : Cf :=
  ([⟨10, [.rgt, .inn, .lft, .rgt, .rgt, .inn, .inn, .rgt, .lft, .rgt, .rgt], none, ⟨22, (.node (.node (.node (.node (.node .nil (some (.int .i64 (.ofNat 61))) .nil) (some (.int .i64 (.ofNat 65))) .nil) (some (.ptr 59 0)) (.node (.node .nil (some (.ptr 59 0)) .nil) (some (.int .i64 (.ofNat 61))) .nil)) none (.node (.node (.node .nil (some (.int .u64 (.ofNat 2305843009213693952))) .nil) (some (.bool true)) .nil) none (.node .nil (some (.ptr 59 0)) .nil))) none (.node (.node (.node (.node .nil (some (.int .i64 (.ofNat 61))) .nil) (some (.int .i64 (.ofNat 62))) .nil) (some (.int .i64 (.ofNat 62))) (.node (.node .nil (some (.int .i64 (.ofNat 62))) .nil) (some (.int .i64 (.ofNat 0))) .nil)) (some (.ptr 58 0)) (.node (.node t158 (some (.int .i64 (.ofNat 62))) .nil) none (.node .nil (some (.int .u64 (.ofNat 2305843009213693951))) .nil)))), [], none⟩⟩, ⟨7, [.lft, .rgt, .rgt, .rgt], (some 27), ⟨48, t137, [], none⟩⟩, ⟨3, [.lft, .lft, .rgt], (some 0), ⟨105, (.node .nil (some (.bool false)) .nil), [], none⟩⟩],
  ⟨60, (.node (.node (.node .nil none (.node .nil none (.node .nil none (.node .nil (some (.row 16 (.node t18 (some (.int .u64 (.ofNat 4611686018427387903))) t19) false true [])) .nil)))) none .nil) none t144), gl⟩)
theorem p6 : partOk Tryd.prog exts many 100000 deep 487 c5 c6 = true := by kernel_rfl
theorem g6 : Goes Tryd.prog s0 c5 c6 := goes_of exts_ok p6 rfl
def c7 : Cf :=
  ([⟨3, [.lft, .rgt, .rgt], none, ⟨105, (.node .nil (some (.bool false)) .nil), [], none⟩⟩],
  ⟨85, .nil, gl⟩)
theorem p7 : partOk Tryd.prog exts many 100000 deep 244 c6 c7 = true := by kernel_rfl
theorem g7 : Goes Tryd.prog s0 c6 c7 := goes_of exts_ok p7 rfl
def c8 : Cf :=
  ([⟨3, [.lft, .rgt, .rgt, .rgt, .rgt, .rgt, .rgt], none, ⟨105, (.node (.node (.node (.node .nil (some (.bool false)) .nil) (some (.bool false)) .nil) (some (.ptr 128 0)) (.node .nil (some (.bool true)) .nil)) (some (.bool false)) (.node (.node .nil (some (.int .i64 (.ofNat 0))) .nil) none .nil)), [], none⟩⟩],
  ⟨132, (.node .nil none (.node (.node (.node (.node (.node (.node (.node .nil (some (.row 16 (.node (.node (.node (.node t175 (some (.int .u64 (.ofNat 0))) .nil) (some (.int .u64 (.ofNat 0))) (.node .nil (some (.int .u64 (.ofNat 0))) .nil)) (some (.int .u64 (.ofNat 2))) t17) (some (.int .u64 (.ofNat 9223372036854775809))) t19) false true [])) .nil) none .nil) none .nil) none .nil) none .nil) none .nil) none .nil)), gl⟩)
theorem p8 : partOk Tryd.prog exts many 100000 deep 8 c7 c8 = true := by kernel_rfl
theorem g8 : Goes Tryd.prog s0 c7 c8 := goes_of exts_ok p8 rfl
theorem last : lastOk Tryd.prog exts many 100000 deep 1 c8 3 true = true := by kernel_rfl
theorem walked (W : World) (hL : laidMet Tryd.prog Rows.bitsNamesRow.laid W) : Calls Tryd.prog 3 #[] W fun e w' => e = .returned (.bool true) ∧ Below W.heap.size W w' :=
  calls_parts exts_ok (by kernel_rfl) (((((((g1.trans g2).trans g3).trans g4).trans g5).trans g6).trans g7).trans g8) last W (laidSt_ok s0_some W hL)
end Go.Proofs.YtaadekonikihkaaDoor.bitsNames
