/-
  StoreNames: the run of the closed statement, in parts: where it is behind each part, and that it comes there. (Reckoned by the kernel.)
-/
import Derived.Test.YtaadekonikihkaaGreatDoorEd
import Derived.Test.YtaadekonikihkaaGreatDoorRows
set_option linter.unusedVariables false
set_option maxRecDepth 100000
noncomputable section
namespace Go.Proofs.YtaadekonikihkaaGreatDoor.storeNames
open Go Go.RowKit Go.Proofs.YtaadekonikihkaaGreatDoor.Ev
def s0 : St := (laidSt Tryz.prog 8 Rows.storeNamesRow.laid).getD St.none
theorem s0_some : laidSt Tryz.prog 8 Rows.storeNamesRow.laid = some s0 := by kernel_rfl
abbrev gl : Tri (Tri V) := s0.glob
def exts : List Ext := []
theorem exts_ok : ExtOk Tryz.prog s0 exts := trivial
def deep : List FuncId := [26, 39, 15, 8, 14, 13, 12, 11, 10, 9, 6]
def many : List FuncId := [30]
def t1 : Tri V := .node (.node .nil (some (.int .i64 (.ofNat 0))) .nil) none .nil
def t3 : Tri V := .node (.node .nil (some (.ptr 24 0)) .nil) (some (.nilp)) .nil
def t4 : Tri V := .node t1 none t3
def t6 : Tri V := .node (.node .nil (some (.int .i64 (.ofNat 43))) .nil) none .nil
def t9 : Tri V := .node .nil none (.node .nil none (.node .nil (some (.ptr 5 0)) .nil))
def t10 : Tri V := .node t6 none t9
def t13 : Tri V := .node t10 (some (.nilp)) (.node (.node .nil (some (.ptr 2 0)) .nil) none .nil)
def t14 : Tri V := .node (.node .nil (some (.int .i64 (.ofNat 0))) .nil) (some (.int .i64 (.ofNat 2))) .nil
def t15 : Tri V := .node t14 (some (.int .i64 (.ofNat 2))) (.node .nil (some (.int .i64 (.ofNat 43))) .nil)
def t17 : Tri V := .node t15 none (.node .nil (some (.int .i64 (.ofNat 2))) .nil)
def t18 : Tri V := .node t13 (some (.bool false)) t17
def t20 : Tri V := .node (.node .nil (some (.int .u8 (.ofNat 0))) .nil) (some (.int .u8 (.ofNat 0))) (.node .nil (some (.int .u8 (.ofNat 0))) .nil)
def t21 : Tri V := .node (.node .nil (some (.int .u8 (.ofNat 0))) .nil) (some (.int .u8 (.ofNat 0))) .nil
def t22 : Tri V := .node t20 (some (.int .u8 (.ofNat 0))) t21
def t23 : Tri V := .node t21 (some (.int .u8 (.ofNat 0))) t21
def t24 : Tri V := .node t22 (some (.int .u8 (.ofNat 0))) t23
def t25 : Tri V := .node t23 (some (.int .u8 (.ofNat 0))) t23
def t26 : Tri V := .node t24 (some (.int .u8 (.ofNat 0))) t25
def t27 : Tri V := .node t25 (some (.int .u8 (.ofNat 0))) t25
def t28 : Tri V := .node t26 (some (.int .u8 (.ofNat 0))) t27
def t29 : Tri V := .node t27 (some (.int .u8 (.ofNat 0))) t27
def t30 : Tri V := .node t28 (some (.int .u8 (.ofNat 0))) t29
def t31 : Tri V := .node t29 (some (.int .u8 (.ofNat 0))) t29
def t32 : Tri V := .node t30 (some (.int .u8 (.ofNat 0))) t31
def t33 : Tri V := .node t31 (some (.int .u8 (.ofNat 0))) t31
def t34 : Tri V := .node t32 (some (.int .u8 (.ofNat 0))) t33
def t35 : Tri V := .node t29 (some (.int .u8 (.ofNat 1))) t29
def t36 : Tri V := .node t35 (some (.int .u8 (.ofNat 0))) t31
def t37 : Tri V := .node t36 (some (.int .u8 (.ofNat 0))) t33
def t38 : Tri V := .node t34 (some (.int .u8 (.ofNat 1))) t37
def t39 : Tri O := .node .nil (some (.row 768 t38 false true [])) .nil
def t40 : Tri V := .node (.node .nil (some (.int .i64 (.ofNat 0))) .nil) (some (.map 4)) .nil
def t42 : Tri V := .node t40 (some (.slice 3 0 12 (.known 12))) (.node .nil (some (.bool false)) .nil)
def t43 : Tri O := .node .nil (some (.row 4 t42 false true [])) .nil
def t44 : Tri O := .node t39 (some (.map [] 0)) t43
def t45 : Tri V := .node t21 (some (.int .u8 (.ofNat 0))) (.node .nil (some (.int .u8 (.ofNat 0))) .nil)
def t46 : Tri V := .node t23 (some (.int .u8 (.ofNat 0))) t45
def t47 : Tri V := .node t25 (some (.int .u8 (.ofNat 0))) t46
def t48 : Tri V := .node t46 (some (.int .u8 (.ofNat 0))) t46
def t49 : Tri V := .node t47 (some (.int .u8 (.ofNat 0))) t48
def t50 : Tri V := .node t48 (some (.int .u8 (.ofNat 0))) t48
def t51 : Tri V := .node t49 (some (.int .u8 (.ofNat 0))) t50
def t52 : Tri V := .node t50 (some (.int .u8 (.ofNat 0))) t50
def t53 : Tri V := .node t51 (some (.int .u8 (.ofNat 0))) t52
def t54 : Tri V := .node t52 (some (.int .u8 (.ofNat 0))) t52
def t55 : Tri V := .node t53 (some (.int .u8 (.ofNat 0))) t54
def t56 : Tri V := .node t54 (some (.int .u8 (.ofNat 0))) t54
def t57 : Tri V := .node t55 (some (.int .u8 (.ofNat 0))) t56
def t59 : Tri V := .node (.node .nil (some (.int .u64 (.ofNat 0))) .nil) (some (.int .u64 (.ofNat 0))) .nil
def t60 : Tri V := .node t59 (some (.int .i64 (.ofNat 1))) t59
def t62 : Tri V := .node (.node .nil (some (.nilp)) .nil) (some (.int .u64 (.ofNat 0))) .nil
def t63 : Tri V := .node t59 (some (.int .u64 (.ofNat 0))) t62
def t64 : Tri V := .node t60 (some (.int .i64 (.ofNat 0))) t63
def t65 : Tri V := .node t59 (some (.int .i64 (.ofNat 0))) t59
def t66 : Tri V := .node t59 (some (.int .u64 (.ofNat 0))) (.node .nil (some (.int .u64 (.ofNat 0))) .nil)
def t67 : Tri V := .node t65 (some (.bool true)) t66
def t72 : Tri V := .node (.node .nil (some (.int .i64 (.ofNat 0))) .nil) (some (.map 1)) .nil
def t73 : Tri V := .node t72 (some (.slice 0 0 11 (.known 11))) (.node .nil (some (.bool false)) .nil)
def c1 : Cf :=
  ([⟨6, [.lft, .rgt, .rgt, .rgt, .rgt, .rgt, .rgt, .rgt, .rgt, .rgt], none, ⟨94, t4, [], none⟩⟩, ⟨3, [.lft, .rgt, .rgt, .rgt, .rgt, .rgt, .rgt, .rgt, .rgt, .rgt, .rgt, .rgt, .rgt], (some 1), ⟨143, t18, [], none⟩⟩],
  ⟨66, (.node t44 (some (.row 704 t57 false true [])) (.node (.node (.node .nil none (.node .nil (some (.row 22 (.node t64 (some (.ptr 5 0)) t67) false true [])) .nil)) (some (.map [] 2)) .nil) (some (.row 4 t73 false true [])) .nil)), gl⟩)
def t83 : Tri V := .node (.node .nil (some (.int .u64 (.ofNat 0))) .nil) (some (.int .u64 (.ofNat 0))) (.node .nil (some (.int .u64 (.ofNat 0))) .nil)
def t84 : Tri V := .node t66 (some (.int .u64 (.ofNat 0))) t83
def t85 : Tri V := .node t84 (some (.int .i64 (.ofNat 0))) t84
def t86 : Tri V := .node t83 (some (.int .u64 (.ofNat 0))) t83
def c2 : Cf :=
  ([⟨6, [.rgt, .rgt, .rgt, .rgt, .rgt, .rgt, .rgt, .rgt, .rgt, .rgt], none, ⟨94, t4, [], none⟩⟩, ⟨3, [.lft, .rgt, .rgt, .rgt, .rgt, .rgt, .rgt, .rgt, .rgt, .rgt, .rgt, .rgt, .rgt], (some 1), ⟨143, t18, [], none⟩⟩],
  ⟨93, (.node t44 (some (.row 704 t57 false true [])) (.node (.node (.node .nil none (.node .nil (some (.row 22 (.node (.node t60 (some (.int .i64 (.ofNat 0))) (.node t59 (some (.int .u64 (.ofNat 0))) (.node (.node .nil (some (.ptr 92 0)) .nil) (some (.int .u64 (.ofNat 0))) .nil))) (some (.ptr 5 0)) t67) false true [])) .nil)) (some (.map [] 2)) (.node .nil none (.node .nil none (.node (.node .nil (some (.row 34 (.node t85 (some (.ptr 5 0)) (.node t84 (some (.int .u64 (.ofNat 4))) t86)) false true [])) .nil) none .nil)))) (some (.row 4 t73 false true [])) .nil)), gl⟩)
def t97 : Tri V := .node (.node .nil (some (.ptr 112 0)) .nil) (some (.nilp)) .nil
def t98 : Tri V := .node t1 none t97
def t101 : Tri V := .node .nil (some (.int .i64 (.ofNat 0))) (.node (.node .nil (some (.ptr 100 0)) .nil) none .nil)
def t102 : Tri V := .node (.node .nil (some (.nilp)) .nil) none t101
def t103 : Tri V := .node (.node .nil (some (.ptr 100 0)) .nil) (some (.nilp)) .nil
def t104 : Tri V := .node t102 none t103
def t106 : Tri V := .node (.node .nil (some (.bool true)) .nil) none .nil
def t107 : Tri V := .node t106 none .nil
def t108 : Tri V := .node t107 none .nil
def t109 : Tri V := .node .nil none t108
def t110 : Tri V := .node .nil none t109
def t111 : Tri V := .node t110 none .nil
def t112 : Tri V := .node .nil (some (.bool false)) t111
def t115 : Tri O := .node (.node .nil none (.node .nil (some (.map [] 2)) .nil)) none .nil
def t116 : Tri O := .node t115 none .nil
def t117 : Tri O := .node .nil none t116
def t118 : Tri O := .node t117 none .nil
def t124 : Tri V := .node (.node .nil (some (.int .i64 (.ofNat 0))) .nil) (some (.map 99)) .nil
def t125 : Tri V := .node t124 (some (.slice 98 0 40 (.known 40))) (.node .nil (some (.bool false)) .nil)
def t126 : Tri O := .node .nil (some (.row 4 t125 false true [])) .nil
def t127 : Tri O := .node .nil none t126
def t128 : Tri O := .node t127 none .nil
def t129 : Tri O := .node t128 none .nil
def t131 : Tri V := .node t45 (some (.int .u8 (.ofNat 0))) t45
def t132 : Tri V := .node t46 (some (.int .u8 (.ofNat 0))) t131
def t133 : Tri V := .node t131 (some (.int .u8 (.ofNat 0))) t131
def t134 : Tri V := .node t132 (some (.int .u8 (.ofNat 0))) t133
def t135 : Tri V := .node t133 (some (.int .u8 (.ofNat 0))) t133
def t136 : Tri V := .node t134 (some (.int .u8 (.ofNat 0))) t135
def t137 : Tri V := .node t135 (some (.int .u8 (.ofNat 0))) t135
def t138 : Tri V := .node t136 (some (.int .u8 (.ofNat 0))) t137
def t139 : Tri V := .node t137 (some (.int .u8 (.ofNat 0))) t137
def t140 : Tri V := .node t138 (some (.int .u8 (.ofNat 0))) t139
def t141 : Tri V := .node t139 (some (.int .u8 (.ofNat 0))) t139
def t142 : Tri V := .node t140 (some (.int .u8 (.ofNat 0))) t141
def t143 : Tri V := .node t141 (some (.int .u8 (.ofNat 0))) t141
def t144 : Tri V := .node t142 (some (.int .u8 (.ofNat 0))) t143
def t145 : Tri V := .node t139 (some (.int .u8 (.ofNat 1))) t139
def t146 : Tri V := .node t145 (some (.int .u8 (.ofNat 0))) t141
def t147 : Tri V := .node t146 (some (.int .u8 (.ofNat 0))) t143
def t148 : Tri V := .node t144 (some (.int .u8 (.ofNat 1))) t147
def t149 : Tri O := .node .nil (some (.row 2560 t148 false true [])) .nil
def t150 : Tri O := .node .nil none t149
def t151 : Tri O := .node t150 none .nil
def t152 : Tri O := .node t151 none .nil
def t153 : Tri O := .node t152 none .nil
def c3 : Cf :=
  ([⟨6, [.lft, .rgt, .rgt, .rgt, .rgt, .rgt, .rgt, .rgt, .rgt, .rgt], none, ⟨94, t98, [], none⟩⟩, ⟨39, [.lft, .rgt, .rgt, .rgt], (some 1), ⟨29, t104, [], none⟩⟩, ⟨15, [.lft, .rgt], (some 0), ⟨92, (.node .nil (some (.bool false)) .nil), [], none⟩⟩, ⟨3, [.lft, .rgt, .rgt, .rgt, .rgt, .rgt, .rgt, .rgt, .rgt, .rgt, .rgt, .rgt, .rgt, .rgt, .rgt], (some 68), ⟨143, t112, [], none⟩⟩],
  ⟨154, (.node t118 none (.node (.node (.node (.node .nil none (.node .nil none (.node .nil (some (.row 22 (.node t64 (some (.ptr 100 0)) t67) false true [])) .nil))) none .nil) none t129) none t153)), gl⟩)
def t157 : Tri V := .node (.node .nil (some (.ptr 180 0)) .nil) (some (.int .u64 (.ofNat 0))) .nil
def t158 : Tri V := .node t59 (some (.int .u64 (.ofNat 0))) t157
def t159 : Tri V := .node t60 (some (.int .i64 (.ofNat 0))) t158
def t160 : Tri V := .node t159 (some (.ptr 100 0)) t67
def t161 : Tri O := .node .nil (some (.row 22 t160 false true [])) .nil
def t162 : Tri O := .node .nil none t161
def t163 : Tri O := .node .nil none t162
def t164 : Tri O := .node t163 none .nil
def c4 : Cf :=
  ([⟨6, [.rgt, .rgt, .rgt, .rgt, .rgt, .rgt, .rgt, .rgt, .rgt, .rgt], none, ⟨94, t98, [], none⟩⟩, ⟨39, [.lft, .rgt, .rgt, .rgt], (some 1), ⟨29, t104, [], none⟩⟩, ⟨15, [.lft, .rgt], (some 0), ⟨92, (.node .nil (some (.bool false)) .nil), [], none⟩⟩, ⟨3, [.lft, .rgt, .rgt, .rgt, .rgt, .rgt, .rgt, .rgt, .rgt, .rgt, .rgt, .rgt, .rgt, .rgt, .rgt], (some 68), ⟨143, t112, [], none⟩⟩],
  ⟨181, (.node t118 none (.node (.node t164 none (.node (.node t127 none (.node .nil none (.node (.node .nil (some (.row 34 (.node t85 (some (.ptr 100 0)) (.node t84 (some (.int .u64 (.ofNat 1020))) t86)) false true [])) .nil) none .nil))) none .nil)) none t153)), gl⟩)
def t177 : Tri V := .node (.node .nil (some (.int .i64 (.ofNat 5))) .nil) none (.node .nil (some (.func (.func 30) [.ptr 100 0] [])) .nil)
def t181 : Tri V := .node (.node .nil (some (.ptr 293 0)) .nil) (some (.slice 293 0 5 (.known 5))) .nil
def t185 : Tri V := .node (.node .nil (some (.ptr 291 0)) .nil) (some (.ptr 290 0)) .nil
def t187 : Tri V := .node .nil none (.node .nil (some (.slice 293 0 5 (.known 5))) .nil)
def t188 : Tri V := .node t187 none .nil
def t189 : Tri V := .node .nil (some (.ptr 292 0)) t188
def t190 : Tri V := .node t189 (some (.int .i64 (.ofNat 0))) .nil
def t191 : Tri V := .node t185 none t190
def t193 : Tri V := .node (.node (.node .nil (some (.ptr 112 0)) .nil) none .nil) none .nil
def t194 : Tri V := .node .nil none t193
def t195 : Tri V := .node t194 (some (.ptr 100 0)) .nil
def t196 : Tri V := .node (.node .nil (some (.bool false)) .nil) none .nil
def t197 : Tri V := .node t196 none .nil
def t198 : Tri V := .node t197 none .nil
def t199 : Tri V := .node .nil (some (.ptr 112 0)) t198
def t200 : Tri V := .node t195 (some (.bool false)) t199
def t202 : Tri O := .node .nil (some (.row 1 (.node .nil (some (.int .i64 (.ofNat 1))) .nil) false true [])) .nil
def t203 : Tri O := .node t202 none .nil
def t213 : Tri V := .node .nil (some (.func (.func 35) [] [.ptr 292 0, .ptr 290 0, .ptr 291 0])) .nil
def t214 : Tri V := .node t213 (some (.func (.func 34) [] [.ptr 290 0, .ptr 291 0, .ptr 292 0])) .nil
def t215 : Tri V := .node (.node .nil (some (.func (.func 30) [.ptr 100 0] [])) .nil) (some (.func (.func 30) [.ptr 100 0] [])) .nil
def t216 : Tri V := .node t214 (some (.func (.func 30) [.ptr 100 0] [])) t215
def t217 : Tri O := .node .nil (some (.row 5 t216 false true [])) .nil
def t218 : Tri O := .node t217 none .nil
def t219 : Tri O := .node t218 none .nil
def t220 : Tri O := .node .nil none t219
def t221 : Tri O := .node t220 none .nil
def t222 : Tri O := .node t221 none .nil
def t223 : Tri O := .node .nil none t222
def t225 : Tri V := .node (.node .nil (some (.int .i64 (.ofNat 2))) .nil) (some (.bool false)) (.node .nil (some (.int .i64 (.ofNat 2))) .nil)
def t226 : Tri O := .node .nil (some (.row 3 t225 false true [])) .nil
def t227 : Tri O := .node t226 none .nil
def t228 : Tri O := .node t227 (some (.row 4 t125 false true [])) .nil
def t229 : Tri O := .node .nil none t228
def t230 : Tri V := .node t84 (some (.int .i64 (.ofNat 2))) t84
def t232 : Tri V := .node (.node .nil (some (.int .u64 (.ofNat 4))) .nil) (some (.int .u64 (.ofNat 0))) (.node .nil (some (.int .u64 (.ofNat 0))) .nil)
def t233 : Tri V := .node t232 (some (.int .u64 (.ofNat 0))) t83
def t234 : Tri V := .node t84 (some (.int .u64 (.ofNat 1016))) t233
def t235 : Tri V := .node t230 (some (.ptr 100 0)) t234
def t236 : Tri O := .node .nil (some (.row 34 t235 false true [])) .nil
def t237 : Tri O := .node t236 none .nil
def t238 : Tri O := .node .nil none t237
def t239 : Tri O := .node t229 none t238
def t240 : Tri O := .node t239 none .nil
def t241 : Tri O := .node t164 none t240
def t242 : Tri O := .node .nil (some (.row 1 (.node .nil (some (.ptr 112 0)) .nil) false true [])) .nil
def t243 : Tri O := .node t242 none .nil
def c5 : Cf :=
  ([⟨26, [.lft, .rgt, .inn, .lft, .rgt, .rgt, .inn, .inn, .rgt, .lft, .rgt], none, ⟨18, (.node (.node t177 none t106) none (.node (.node (.node .nil (some (.int .i64 (.ofNat 0))) .nil) (some (.func (.func 30) [.ptr 100 0] [])) .nil) (some (.int .i64 (.ofNat 0))) t181)), [], none⟩⟩, ⟨11, [.lft, .lft, .rgt, .rgt, .rgt, .rgt, .rgt, .rgt], (some 1), ⟨93, t191, [], none⟩⟩, ⟨15, [.lft, .lft, .rgt, .rgt], (some 24), ⟨92, t200, [], none⟩⟩, ⟨3, [.lft, .rgt, .rgt, .rgt, .rgt, .rgt, .rgt, .rgt, .rgt, .rgt, .rgt, .rgt, .rgt, .rgt, .rgt], (some 68), ⟨143, t112, [], none⟩⟩],
  ⟨294, (.node (.node (.node .nil none (.node (.node (.node .nil none (.node t203 (some (.map [(.int .i64 (.ofNat 8), .agg [.int .u8 (.ofNat 0), .int .u8 (.ofNat 5), .int .u8 (.ofNat 1), .int .u8 (.ofNat 1), .int .u8 (.ofNat 97), .int .u8 (.ofNat 1), .int .u8 (.ofNat 49), .int .u8 (.ofNat 0), .int .u8 (.ofNat 0), .int .u8 (.ofNat 0), .int .u8 (.ofNat 0), .int .u8 (.ofNat 0), .int .u8 (.ofNat 0), .int .u8 (.ofNat 0), .int .u8 (.ofNat 0), .int .u8 (.ofNat 0), .int .u8 (.ofNat 0), .int .u8 (.ofNat 0), .int .u8 (.ofNat 0), .int .u8 (.ofNat 0), .int .u8 (.ofNat 0), .int .u8 (.ofNat 0), .int .u8 (.ofNat 0), .int .u8 (.ofNat 0), .int .u8 (.ofNat 0), .int .u8 (.ofNat 0), .int .u8 (.ofNat 0), .int .u8 (.ofNat 0), .int .u8 (.ofNat 0), .int .u8 (.ofNat 0), .int .u8 (.ofNat 0), .int .u8 (.ofNat 0), .int .u8 (.ofNat 0), .int .u8 (.ofNat 0), .int .u8 (.ofNat 0), .int .u8 (.ofNat 0), .int .u8 (.ofNat 0), .int .u8 (.ofNat 0), .int .u8 (.ofNat 0), .int .u8 (.ofNat 0), .int .u8 (.ofNat 0), .int .u8 (.ofNat 0), .int .u8 (.ofNat 0), .int .u8 (.ofNat 0), .int .u8 (.ofNat 0), .int .u8 (.ofNat 0), .int .u8 (.ofNat 0), .int .u8 (.ofNat 0), .int .u8 (.ofNat 0), .int .u8 (.ofNat 0), .int .u8 (.ofNat 0), .int .u8 (.ofNat 0), .int .u8 (.ofNat 0), .int .u8 (.ofNat 0), .int .u8 (.ofNat 0), .int .u8 (.ofNat 0), .int .u8 (.ofNat 0), .int .u8 (.ofNat 0), .int .u8 (.ofNat 0), .int .u8 (.ofNat 0), .int .u8 (.ofNat 0), .int .u8 (.ofNat 0), .int .u8 (.ofNat 0), .int .u8 (.ofNat 0)], 2), (.int .i64 (.ofNat 9), .agg [.int .u8 (.ofNat 0), .int .u8 (.ofNat 0), .int .u8 (.ofNat 0), .int .u8 (.ofNat 0), .int .u8 (.ofNat 0), .int .u8 (.ofNat 0), .int .u8 (.ofNat 0), .int .u8 (.ofNat 0), .int .u8 (.ofNat 0), .int .u8 (.ofNat 0), .int .u8 (.ofNat 0), .int .u8 (.ofNat 0), .int .u8 (.ofNat 0), .int .u8 (.ofNat 0), .int .u8 (.ofNat 0), .int .u8 (.ofNat 0), .int .u8 (.ofNat 0), .int .u8 (.ofNat 0), .int .u8 (.ofNat 0), .int .u8 (.ofNat 0), .int .u8 (.ofNat 0), .int .u8 (.ofNat 0), .int .u8 (.ofNat 0), .int .u8 (.ofNat 0), .int .u8 (.ofNat 0), .int .u8 (.ofNat 0), .int .u8 (.ofNat 0), .int .u8 (.ofNat 0), .int .u8 (.ofNat 0), .int .u8 (.ofNat 0), .int .u8 (.ofNat 0), .int .u8 (.ofNat 0), .int .u8 (.ofNat 0), .int .u8 (.ofNat 0), .int .u8 (.ofNat 0), .int .u8 (.ofNat 0), .int .u8 (.ofNat 0), .int .u8 (.ofNat 0), .int .u8 (.ofNat 0), .int .u8 (.ofNat 0), .int .u8 (.ofNat 0), .int .u8 (.ofNat 0), .int .u8 (.ofNat 0), .int .u8 (.ofNat 0), .int .u8
    (.ofNat 0), .int .u8 (.ofNat 0), .int .u8 (.ofNat 0), .int .u8 (.ofNat 0), .int .u8 (.ofNat 0), .int .u8 (.ofNat 0), .int .u8 (.ofNat 0), .int .u8 (.ofNat 0), .int .u8 (.ofNat 0), .int .u8 (.ofNat 0), .int .u8 (.ofNat 0), .int .u8 (.ofNat 0), .int .u8 (.ofNat 0), .int .u8 (.ofNat 0), .int .u8 (.ofNat 0), .int .u8 (.ofNat 0), .int .u8 (.ofNat 0), .int .u8 (.ofNat 0), .int .u8 (.ofNat 0), .int .u8 (.ofNat 0)], 3), (.int .i64 (.ofNat 10), .agg [.int .u8 (.ofNat 0), .int .u8 (.ofNat 0), .int .u8 (.ofNat 0), .int .u8 (.ofNat 0), .int .u8 (.ofNat 0), .int .u8 (.ofNat 0), .int .u8 (.ofNat 0), .int .u8 (.ofNat 0), .int .u8 (.ofNat 0), .int .u8 (.ofNat 0), .int .u8 (.ofNat 0), .int .u8 (.ofNat 0), .int .u8 (.ofNat 0), .int .u8 (.ofNat 0), .int .u8 (.ofNat 0), .int .u8 (.ofNat 0), .int .u8 (.ofNat 0), .int .u8 (.ofNat 0), .int .u8 (.ofNat 0), .int .u8 (.ofNat 0), .int .u8 (.ofNat 0), .int .u8 (.ofNat 0), .int .u8 (.ofNat 0), .int .u8 (.ofNat 0), .int .u8 (.ofNat 0), .int .u8 (.ofNat 0), .int .u8 (.ofNat 0), .int .u8 (.ofNat 0), .int .u8 (.ofNat 0), .int .u8 (.ofNat 0), .int .u8 (.ofNat 0), .int .u8 (.ofNat 0), .int .u8 (.ofNat 0), .int .u8 (.ofNat 0), .int .u8 (.ofNat 0), .int .u8 (.ofNat 0), .int .u8 (.ofNat 0), .int .u8 (.ofNat 0), .int .u8 (.ofNat 0), .int .u8 (.ofNat 0), .int .u8 (.ofNat 0), .int .u8 (.ofNat 0), .int .u8 (.ofNat 0), .int .u8 (.ofNat 0), .int .u8 (.ofNat 0), .int .u8 (.ofNat 0), .int .u8 (.ofNat 0), .int .u8 (.ofNat 0), .int .u8 (.ofNat 0), .int .u8 (.ofNat 0), .int .u8 (.ofNat 0), .int .u8 (.ofNat 0), .int .u8 (.ofNat 0), .int .u8 (.ofNat 0), .int .u8 (.ofNat 0), .int .u8 (.ofNat 0), .int .u8 (.ofNat 0), .int .u8 (.ofNat 0), .int .u8 (.ofNat 0), .int .u8 (.ofNat 0), .int .u8 (.ofNat 0), .int .u8 (.ofNat 0), .int .u8 (.ofNat 0), .int .u8 (.ofNat 0)], 4), (.int .i64 (.ofNat 11), .agg [.int .u8 (.ofNat 0), .int .u8 (.ofNat 0), .int .u8 (.ofNat 0), .int .u8 (.ofNat 0), .int .u8 (.ofNat 0), .int .u8 (.ofNat 0), .int .u8 (.ofNat 0), .int .u8 (.ofNat 0), .int .u8 (.ofNat 0), .int .u8 (.ofNat 0), .int .u8 (.ofNat 0), .int .u8 (.ofNat 0), .int .u8 (.ofNat 0), .int .u8 (.ofNat 0), .int .u8 (.ofNat 0), .int .u8 (.ofNat 0), .int .u8 (.ofNat 0), .int .u8 (.ofNat 0), .int .u8 (.ofNat 0), .int .u8 (.ofNat 0), .int .u8 (.ofNat 0), .int .u8 (.ofNat 0), .int .u8 (.ofNat 0), .int .u8 (.ofNat 0), .int .u8 (.ofNat 0), .int .u8 (.ofNat 0), .int .u8 (.ofNat 0), .int .u8 (.ofNat 0), .int .u8 (.ofNat 0), .int .u8 (.ofNat 0), .int .u8 (.ofNat 0), .int .u8 (.ofNat 0), .int .u8 (.ofNat 0), .int .u8 (.ofNat 0), .int .u8 (.ofNat 0), .int .u8 (.ofNat 0), .int .u8 (.ofNat 0), .int .u8 (.ofNat 0), .int .u8 (.ofNat 0), .int .u8 (.ofNat 0), .int .u8 (.ofNat 0), .int .u8 (.ofNat 0), .int .u8 (.ofNat 0), .int .u8 (.ofNat 0), .int .u8 (.ofNat 0), .int .u8 (.ofNat 0), .int .u8 (.ofNat 0), .int .u8 (.ofNat 0), .int .u8 (.ofNat 0), .int .u8 (.ofNat 0), .int .u8 (.ofNat 0), .int .u8 (.ofNat 0), .int .u8 (.ofNat 0), .int .u8 (.ofNat 0), .int .u8 (.ofNat 0), .int .u8 (.ofNat 0),
    .int .u8 (.ofNat 0), .int .u8 (.ofNat 0), .int .u8 (.ofNat 0), .int .u8 (.ofNat 0), .int .u8 (.ofNat 0), .int .u8 (.ofNat 0), .int .u8 (.ofNat 0), .int .u8 (.ofNat 0)], 5)] 6)) .nil)) none .nil) none .nil)) none t223) none (.node t241 none (.node (.node (.node (.node .nil none (.node t243 (some (.row 2560 t148 false true [])) .nil)) none .nil) none .nil) none .nil))), gl⟩)
def t262 : Tri V := .node t21 (some (.int .u8 (.ofNat 1))) (.node .nil (some (.int .u8 (.ofNat 0))) .nil)
def t263 : Tri V := .node t262 (some (.int .u8 (.ofNat 0))) t45
def t264 : Tri V := .node t263 (some (.int .u8 (.ofNat 0))) t131
def t265 : Tri V := .node t264 (some (.int .u8 (.ofNat 0))) t133
def t266 : Tri V := .node t265 (some (.int .u8 (.ofNat 0))) t135
def t267 : Tri V := .node t266 (some (.int .u8 (.ofNat 0))) t137
def t268 : Tri V := .node t267 (some (.int .u8 (.ofNat 0))) t139
def t269 : Tri V := .node t140 (some (.int .u8 (.ofNat 0))) t268
def t270 : Tri V := .node t21 (some (.int .u8 (.ofNat 5))) (.node .nil (some (.int .u8 (.ofNat 0))) .nil)
def t271 : Tri V := .node t270 (some (.int .u8 (.ofNat 0))) t45
def t272 : Tri V := .node t271 (some (.int .u8 (.ofNat 0))) t131
def t273 : Tri V := .node t272 (some (.int .u8 (.ofNat 0))) t133
def t274 : Tri V := .node t273 (some (.int .u8 (.ofNat 0))) t135
def t275 : Tri V := .node t274 (some (.int .u8 (.ofNat 0))) t137
def t276 : Tri V := .node t275 (some (.int .u8 (.ofNat 0))) t139
def t277 : Tri V := .node t276 (some (.int .u8 (.ofNat 0))) t268
def t278 : Tri V := .node t269 (some (.int .u8 (.ofNat 0))) t277
def t279 : Tri V := .node t21 (some (.int .u8 (.ofNat 97))) (.node .nil (some (.int .u8 (.ofNat 0))) .nil)
def t280 : Tri V := .node t279 (some (.int .u8 (.ofNat 0))) t45
def t281 : Tri V := .node t280 (some (.int .u8 (.ofNat 0))) t131
def t282 : Tri V := .node t281 (some (.int .u8 (.ofNat 0))) t133
def t283 : Tri V := .node t282 (some (.int .u8 (.ofNat 0))) t135
def t284 : Tri V := .node t283 (some (.int .u8 (.ofNat 0))) t137
def t285 : Tri V := .node t284 (some (.int .u8 (.ofNat 0))) t139
def t287 : Tri V := .node t21 (some (.int .u8 (.ofNat 49))) (.node .nil (some (.int .u8 (.ofNat 0))) .nil)
def t288 : Tri V := .node t287 (some (.int .u8 (.ofNat 0))) t45
def t289 : Tri V := .node t288 (some (.int .u8 (.ofNat 0))) t131
def t290 : Tri V := .node t289 (some (.int .u8 (.ofNat 0))) t133
def t291 : Tri V := .node t290 (some (.int .u8 (.ofNat 0))) t135
def t292 : Tri V := .node t291 (some (.int .u8 (.ofNat 0))) t137
def t293 : Tri V := .node t292 (some (.int .u8 (.ofNat 0))) t139
def c6 : Cf :=
  ([⟨26, [.rgt, .rgt, .inn, .lft, .rgt, .rgt, .inn, .inn, .rgt, .lft, .rgt], none, ⟨18, (.node (.node t177 none (.node (.node .nil (some (.bool true)) .nil) (some (.int .i64 (.ofNat 0))) (.node .nil (some (.int .i64 (.ofNat 0))) .nil))) none (.node (.node (.node .nil (some (.int .i64 (.ofNat 0))) .nil) (some (.func (.func 30) [.ptr 100 0] [])) (.node .nil (some (.func (.func 30) [.ptr 100 0] [])) .nil)) (some (.int .i64 (.ofNat 0))) t181)), [], none⟩⟩, ⟨11, [.lft, .lft, .rgt, .rgt, .rgt, .rgt, .rgt, .rgt], (some 1), ⟨93, t191, [], none⟩⟩, ⟨15, [.lft, .lft, .rgt, .rgt], (some 24), ⟨92, t200, [], none⟩⟩, ⟨3, [.lft, .rgt, .rgt, .rgt, .rgt, .rgt, .rgt, .rgt, .rgt, .rgt, .rgt, .rgt, .rgt, .rgt, .rgt], (some 68), ⟨143, t112, [], none⟩⟩],
  ⟨299, (.node (.node (.node .nil none (.node (.node (.node .nil none (.node t203 (some (.map [] 6)) .nil)) none .nil) none .nil)) none t223) none (.node t241 none (.node (.node (.node (.node .nil none (.node t243 (some (.row 2560 (.node t278 (some (.int .u8 (.ofNat 1))) (.node (.node t145 (some (.int .u8 (.ofNat 0))) t285) (some (.int .u8 (.ofNat 0))) (.node t268 (some (.int .u8 (.ofNat 0))) t293))) false true [])) .nil)) none .nil) none .nil) none .nil))), gl⟩)
def t308 : Tri O := .node (.node .nil none (.node .nil (some (.map [] 8)) .nil)) none .nil
def t309 : Tri O := .node t308 none .nil
def t310 : Tri O := .node .nil none t309
def t311 : Tri O := .node t310 none .nil
def t312 : Tri V := .node t59 (some (.int .i64 (.ofNat 2))) t59
def t315 : Tri V := .node t312 (some (.bool true)) t66
def t324 : Tri V := .node t45 (some (.int .u8 (.ofNat 1))) t45
def t325 : Tri V := .node t324 (some (.int .u8 (.ofNat 0))) t131
def t326 : Tri V := .node t325 (some (.int .u8 (.ofNat 0))) t133
def t327 : Tri V := .node t326 (some (.int .u8 (.ofNat 0))) t135
def t328 : Tri V := .node t327 (some (.int .u8 (.ofNat 0))) t137
def t329 : Tri V := .node t45 (some (.int .u8 (.ofNat 2))) t45
def t330 : Tri V := .node t329 (some (.int .u8 (.ofNat 0))) t131
def t331 : Tri V := .node t330 (some (.int .u8 (.ofNat 0))) t133
def t332 : Tri V := .node t331 (some (.int .u8 (.ofNat 0))) t135
def t333 : Tri V := .node t332 (some (.int .u8 (.ofNat 0))) t137
def t334 : Tri V := .node t328 (some (.int .u8 (.ofNat 1))) t333
def t335 : Tri V := .node t334 (some (.int .u8 (.ofNat 0))) t285
def t336 : Tri V := .node t267 (some (.int .u8 (.ofNat 0))) t333
def t337 : Tri V := .node t336 (some (.int .u8 (.ofNat 0))) t293
def t338 : Tri V := .node t335 (some (.int .u8 (.ofNat 0))) t337
def t339 : Tri V := .node t278 (some (.int .u8 (.ofNat 1))) t338
def c7 : Cf :=
  ([⟨11, [.lft, .rgt, .rgt, .rgt, .rgt, .rgt, .rgt, .rgt, .rgt, .rgt, .rgt], none, ⟨93, (.node (.node .nil (some (.ptr 290 0)) .nil) none (.node .nil (some (.int .i64 (.ofNat 0))) .nil)), [], none⟩⟩, ⟨15, [.lft, .lft, .rgt, .rgt], (some 24), ⟨92, t200, [], none⟩⟩, ⟨3, [.lft, .rgt, .rgt, .rgt, .rgt, .rgt, .rgt, .rgt, .rgt, .rgt, .rgt, .rgt, .rgt, .rgt, .rgt], (some 68), ⟨143, t112, [], none⟩⟩],
  ⟨349, (.node t311 none (.node (.node (.node (.node .nil none (.node .nil none (.node .nil (some (.row 22 (.node (.node t312 (some (.int .i64 (.ofNat 1))) (.node t59 (some (.int .u64 (.ofNat 4))) t157)) (some (.ptr 100 0)) t315) false true [])) .nil))) none .nil) none (.node (.node t127 none t238) none .nil)) none (.node (.node (.node (.node .nil none (.node t243 (some (.row 2560 t339 false true [])) .nil)) none .nil) none .nil) none .nil))), gl⟩)
def t347 : Tri V := .node .nil none (.node .nil (some (.int .i64 (.ofNat 0))) .nil)
def t348 : Tri V := .node t84 (some (.int .u64 (.ofNat 1016))) t86
def t349 : Tri V := .node t230 (some (.ptr 100 0)) t348
def t350 : Tri O := .node .nil (some (.row 34 t349 false true [])) .nil
def t351 : Tri O := .node t350 none .nil
def t352 : Tri O := .node .nil none t351
def t368 : Tri O := .node .nil (some (.row 2560 t339 false true [])) .nil
def t369 : Tri O := .node .nil none t368
def t370 : Tri O := .node t369 none .nil
def t371 : Tri O := .node t370 none .nil
def t372 : Tri O := .node t371 none .nil
def c8 : Cf :=
  ([⟨11, [.rgt, .rgt, .rgt, .rgt, .rgt, .rgt, .rgt, .rgt, .rgt, .rgt, .rgt], none, ⟨93, t347, [], none⟩⟩, ⟨15, [.lft, .lft, .rgt, .rgt], (some 24), ⟨92, t200, [], none⟩⟩, ⟨3, [.lft, .rgt, .rgt, .rgt, .rgt, .rgt, .rgt, .rgt, .rgt, .rgt, .rgt, .rgt, .rgt, .rgt, .rgt], (some 68), ⟨143, t112, [], none⟩⟩],
  ⟨376, (.node (.node (.node (.node .nil none (.node .nil none (.node .nil none t352))) none t309) none .nil) none (.node (.node (.node (.node .nil none (.node .nil none (.node .nil (some (.row 22 (.node (.node t312 (some (.int .i64 (.ofNat 1))) (.node t59 (some (.int .u64 (.ofNat 4))) (.node (.node .nil (some (.ptr 375 0)) .nil) (some (.int .u64 (.ofNat 0))) .nil))) (some (.ptr 100 0)) t315) false true [])) .nil))) none .nil) none t129) none t372)), gl⟩)
def t376 : Tri V := .node (.node .nil (some (.ptr 376 0)) .nil) (some (.nilp)) .nil
def t377 : Tri V := .node t1 none t376
def t378 : Tri V := .node .nil none (.node (.node .nil (some (.ptr 100 0)) .nil) none .nil)
def t379 : Tri V := .node .nil none t378
def t380 : Tri V := .node .nil none t379
def t381 : Tri V := .node t380 (some (.bool false)) .nil
def c9 : Cf :=
  ([⟨6, [.lft, .rgt, .rgt, .rgt, .rgt, .rgt, .rgt, .rgt, .rgt, .rgt], none, ⟨94, t377, [], none⟩⟩, ⟨15, [.lft, .rgt, .rgt, .rgt], (some 1), ⟨92, t381, [], none⟩⟩, ⟨3, [.lft, .rgt, .rgt, .rgt, .rgt, .rgt, .rgt, .rgt, .rgt, .rgt, .rgt, .rgt, .rgt, .rgt, .rgt], (some 68), ⟨143, t112, [], none⟩⟩],
  ⟨451, (.node t311 none (.node (.node (.node .nil none (.node .nil none (.node .nil none (.node .nil none (.node (.node .nil (some (.row 22 (.node (.node t312 (some (.int .i64 (.ofNat 1))) (.node t59 (some (.int .u64 (.ofNat 4))) t62)) (some (.ptr 100 0)) t315) false true [])) .nil) none .nil))))) none t129) none t372)), gl⟩)
def t402 : Tri V := .node (.node .nil (some (.ptr 477 0)) .nil) (some (.int .u64 (.ofNat 0))) .nil
def t403 : Tri V := .node t59 (some (.int .u64 (.ofNat 4))) t402
def t404 : Tri V := .node t312 (some (.int .i64 (.ofNat 1))) t403
def t405 : Tri V := .node t404 (some (.ptr 100 0)) t315
def t406 : Tri O := .node .nil (some (.row 22 t405 false true [])) .nil
def t407 : Tri O := .node t406 none .nil
def t408 : Tri O := .node .nil none t407
def t409 : Tri O := .node .nil none t408
def t410 : Tri O := .node .nil none t409
def t411 : Tri O := .node .nil none t410
def t412 : Tri O := .node t411 none t129
def t413 : Tri O := .node t412 none t372
def c10 : Cf :=
  ([⟨6, [.rgt, .rgt, .rgt, .rgt, .rgt, .rgt, .rgt, .rgt, .rgt, .rgt], none, ⟨94, t377, [], none⟩⟩, ⟨15, [.lft, .rgt, .rgt, .rgt], (some 1), ⟨92, t381, [], none⟩⟩, ⟨3, [.lft, .rgt, .rgt, .rgt, .rgt, .rgt, .rgt, .rgt, .rgt, .rgt, .rgt, .rgt, .rgt, .rgt, .rgt], (some 68), ⟨143, t112, [], none⟩⟩],
  ⟨478, (.node (.node t310 none (.node .nil none (.node .nil none (.node .nil none (.node (.node .nil none (.node .nil none t350)) none .nil))))) none t413), gl⟩)
def t416 : Tri V := .node (.node .nil (some (.int .i64 (.ofNat 0))) .nil) (some (.ptr 376 0)) .nil
def t417 : Tri V := .node (.node .nil (some (.ptr 376 0)) .nil) none .nil
def t418 : Tri V := .node t417 none .nil
def t419 : Tri V := .node .nil none t418
def t420 : Tri V := .node t419 (some (.str [49])) .nil
def t421 : Tri V := .node t416 none t420
def t422 : Tri V := .node .nil none t197
def t423 : Tri V := .node t422 none .nil
def t424 : Tri V := .node t423 none (.node .nil (some (.bool true)) .nil)
def t425 : Tri V := .node t421 (some (.bool false)) t424
def t426 : V × V × Nat := (.int .i64 (.ofNat 12), .agg [.int .u8 (.ofNat 0), .int .u8 (.ofNat 5), .int .u8 (.ofNat 1), .int .u8 (.ofNat 1), .int .u8 (.ofNat 97), .int .u8 (.ofNat 1), .int .u8 (.ofNat 50), .int .u8 (.ofNat 0), .int .u8 (.ofNat 0), .int .u8 (.ofNat 0), .int .u8 (.ofNat 0), .int .u8 (.ofNat 0), .int .u8 (.ofNat 0), .int .u8 (.ofNat 0), .int .u8 (.ofNat 0), .int .u8 (.ofNat 0), .int .u8 (.ofNat 0), .int .u8 (.ofNat 0), .int .u8 (.ofNat 0), .int .u8 (.ofNat 0), .int .u8 (.ofNat 0), .int .u8 (.ofNat 0), .int .u8 (.ofNat 0), .int .u8 (.ofNat 0), .int .u8 (.ofNat 0), .int .u8 (.ofNat 0), .int .u8 (.ofNat 0), .int .u8 (.ofNat 0), .int .u8 (.ofNat 0), .int .u8 (.ofNat 0), .int .u8 (.ofNat 0), .int .u8 (.ofNat 0), .int .u8 (.ofNat 0), .int .u8 (.ofNat 0), .int .u8 (.ofNat 0), .int .u8 (.ofNat 0), .int .u8 (.ofNat 0), .int .u8 (.ofNat 0), .int .u8 (.ofNat 0), .int .u8 (.ofNat 0), .int .u8 (.ofNat 0), .int .u8 (.ofNat 0), .int .u8 (.ofNat 0), .int .u8 (.ofNat 0), .int .u8 (.ofNat 0), .int .u8 (.ofNat 0), .int .u8 (.ofNat 0), .int .u8 (.ofNat 0), .int .u8 (.ofNat 0), .int .u8 (.ofNat 0), .int .u8 (.ofNat 0), .int .u8 (.ofNat 0), .int .u8 (.ofNat 0), .int .u8 (.ofNat 0), .int .u8 (.ofNat 0), .int .u8 (.ofNat 0), .int .u8 (.ofNat 0), .int .u8 (.ofNat 0), .int .u8 (.ofNat 0), .int .u8 (.ofNat 0), .int .u8 (.ofNat 0), .int .u8 (.ofNat 0), .int .u8 (.ofNat 0), .int .u8 (.ofNat 0)], 8)
def t427 : V × V × Nat := (.int .i64 (.ofNat 13), .agg [.int .u8 (.ofNat 0), .int .u8 (.ofNat 0), .int .u8 (.ofNat 0), .int .u8 (.ofNat 0), .int .u8 (.ofNat 0), .int .u8 (.ofNat 0), .int .u8 (.ofNat 0), .int .u8 (.ofNat 0), .int .u8 (.ofNat 0), .int .u8 (.ofNat 0), .int .u8 (.ofNat 0), .int .u8 (.ofNat 0), .int .u8 (.ofNat 0), .int .u8 (.ofNat 0), .int .u8 (.ofNat 0), .int .u8 (.ofNat 0), .int .u8 (.ofNat 0), .int .u8 (.ofNat 0), .int .u8 (.ofNat 0), .int .u8 (.ofNat 0), .int .u8 (.ofNat 0), .int .u8 (.ofNat 0), .int .u8 (.ofNat 0), .int .u8 (.ofNat 0), .int .u8 (.ofNat 0), .int .u8 (.ofNat 0), .int .u8 (.ofNat 0), .int .u8 (.ofNat 0), .int .u8 (.ofNat 0), .int .u8 (.ofNat 0), .int .u8 (.ofNat 0), .int .u8 (.ofNat 0), .int .u8 (.ofNat 0), .int .u8 (.ofNat 0), .int .u8 (.ofNat 0), .int .u8 (.ofNat 0), .int .u8 (.ofNat 0), .int .u8 (.ofNat 0), .int .u8 (.ofNat 0), .int .u8 (.ofNat 0), .int .u8 (.ofNat 0), .int .u8 (.ofNat 0), .int .u8 (.ofNat 0), .int .u8 (.ofNat 0), .int .u8 (.ofNat 0), .int .u8 (.ofNat 0), .int .u8 (.ofNat 0), .int .u8 (.ofNat 0), .int .u8 (.ofNat 0), .int .u8 (.ofNat 0), .int .u8 (.ofNat 0), .int .u8 (.ofNat 0), .int .u8 (.ofNat 0), .int .u8 (.ofNat 0), .int .u8 (.ofNat 0), .int .u8 (.ofNat 0), .int .u8 (.ofNat 0), .int .u8 (.ofNat 0), .int .u8 (.ofNat 0), .int .u8 (.ofNat 0), .int .u8 (.ofNat 0), .int .u8 (.ofNat 0), .int .u8 (.ofNat 0), .int .u8 (.ofNat 0)], 9)
def t428 : V × V × Nat := (.int .i64 (.ofNat 14), .agg [.int .u8 (.ofNat 0), .int .u8 (.ofNat 0), .int .u8 (.ofNat 0), .int .u8 (.ofNat 0), .int .u8 (.ofNat 0), .int .u8 (.ofNat 0), .int .u8 (.ofNat 0), .int .u8 (.ofNat 0), .int .u8 (.ofNat 0), .int .u8 (.ofNat 0), .int .u8 (.ofNat 0), .int .u8 (.ofNat 0), .int .u8 (.ofNat 0), .int .u8 (.ofNat 0), .int .u8 (.ofNat 0), .int .u8 (.ofNat 0), .int .u8 (.ofNat 0), .int .u8 (.ofNat 0), .int .u8 (.ofNat 0), .int .u8 (.ofNat 0), .int .u8 (.ofNat 0), .int .u8 (.ofNat 0), .int .u8 (.ofNat 0), .int .u8 (.ofNat 0), .int .u8 (.ofNat 0), .int .u8 (.ofNat 0), .int .u8 (.ofNat 0), .int .u8 (.ofNat 0), .int .u8 (.ofNat 0), .int .u8 (.ofNat 0), .int .u8 (.ofNat 0), .int .u8 (.ofNat 0), .int .u8 (.ofNat 0), .int .u8 (.ofNat 0), .int .u8 (.ofNat 0), .int .u8 (.ofNat 0), .int .u8 (.ofNat 0), .int .u8 (.ofNat 0), .int .u8 (.ofNat 0), .int .u8 (.ofNat 0), .int .u8 (.ofNat 0), .int .u8 (.ofNat 0), .int .u8 (.ofNat 0), .int .u8 (.ofNat 0), .int .u8 (.ofNat 0), .int .u8 (.ofNat 0), .int .u8 (.ofNat 0), .int .u8 (.ofNat 0), .int .u8 (.ofNat 0), .int .u8 (.ofNat 0), .int .u8 (.ofNat 0), .int .u8 (.ofNat 0), .int .u8 (.ofNat 0), .int .u8 (.ofNat 0), .int .u8 (.ofNat 0), .int .u8 (.ofNat 0), .int .u8 (.ofNat 0), .int .u8 (.ofNat 0), .int .u8 (.ofNat 0), .int .u8 (.ofNat 0), .int .u8 (.ofNat 0), .int .u8 (.ofNat 0), .int .u8 (.ofNat 0), .int .u8 (.ofNat 0)], 10)
def t429 : V × V × Nat := (.int .i64 (.ofNat 15), .agg [.int .u8 (.ofNat 0), .int .u8 (.ofNat 0), .int .u8 (.ofNat 0), .int .u8 (.ofNat 0), .int .u8 (.ofNat 0), .int .u8 (.ofNat 0), .int .u8 (.ofNat 0), .int .u8 (.ofNat 0), .int .u8 (.ofNat 0), .int .u8 (.ofNat 0), .int .u8 (.ofNat 0), .int .u8 (.ofNat 0), .int .u8 (.ofNat 0), .int .u8 (.ofNat 0), .int .u8 (.ofNat 0), .int .u8 (.ofNat 0), .int .u8 (.ofNat 0), .int .u8 (.ofNat 0), .int .u8 (.ofNat 0), .int .u8 (.ofNat 0), .int .u8 (.ofNat 0), .int .u8 (.ofNat 0), .int .u8 (.ofNat 0), .int .u8 (.ofNat 0), .int .u8 (.ofNat 0), .int .u8 (.ofNat 0), .int .u8 (.ofNat 0), .int .u8 (.ofNat 0), .int .u8 (.ofNat 0), .int .u8 (.ofNat 0), .int .u8 (.ofNat 0), .int .u8 (.ofNat 0), .int .u8 (.ofNat 0), .int .u8 (.ofNat 0), .int .u8 (.ofNat 0), .int .u8 (.ofNat 0), .int .u8 (.ofNat 0), .int .u8 (.ofNat 0), .int .u8 (.ofNat 0), .int .u8 (.ofNat 0), .int .u8 (.ofNat 0), .int .u8 (.ofNat 0), .int .u8 (.ofNat 0), .int .u8 (.ofNat 0), .int .u8 (.ofNat 0), .int .u8 (.ofNat 0), .int .u8 (.ofNat 0), .int .u8 (.ofNat 0), .int .u8 (.ofNat 0), .int .u8 (.ofNat 0), .int .u8 (.ofNat 0), .int .u8 (.ofNat 0), .int .u8 (.ofNat 0), .int .u8 (.ofNat 0), .int .u8 (.ofNat 0), .int .u8 (.ofNat 0), .int .u8 (.ofNat 0), .int .u8 (.ofNat 0), .int .u8 (.ofNat 0), .int .u8 (.ofNat 0), .int .u8 (.ofNat 0), .int .u8 (.ofNat 0), .int .u8 (.ofNat 0), .int .u8 (.ofNat 0)], 11)
def t430 : Tri O := .node .nil (some (.map [t426, t427, t428, t429] 12)) .nil
def t431 : Tri O := .node .nil none t430
def t432 : Tri O := .node t431 none .nil
def t433 : Tri O := .node t432 none .nil
def t434 : Tri O := .node .nil none t433
def c11 : Cf :=
  ([⟨12, [.lft, .rgt, .rgt], none, ⟨7, (.node .nil (some (.ptr 376 0)) (.node .nil (some (.int .i64 (.ofNat 0))) .nil)), [], none⟩⟩, ⟨15, [.lft, .lft, .rgt, .rgt, .rgt, .rgt, .rgt, .rgt], (some 17), ⟨92, t425, [], none⟩⟩, ⟨3, [.lft, .rgt, .rgt, .rgt, .rgt, .rgt, .rgt, .rgt, .rgt, .rgt, .rgt, .rgt, .rgt, .rgt, .rgt], (some 68), ⟨143, t112, [], none⟩⟩],
  ⟨627, (.node (.node t434 none (.node .nil none (.node .nil none (.node .nil none (.node (.node .nil none (.node .nil none (.node .nil (some (.row 34 (.node (.node t84 (some (.int .i64 (.ofNat 3))) t84) (some (.ptr 100 0)) (.node t84 (some (.int .u64 (.ofNat 1008))) (.node (.node (.node .nil (some (.int .u64 (.ofNat 8))) .nil) (some (.int .u64 (.ofNat 0))) (.node .nil (some (.int .u64 (.ofNat 0))) .nil)) (some (.int .u64 (.ofNat 0))) t83))) false true [])) .nil))) none .nil))))) none t413), gl⟩)
def c12 : Cf :=
  ([⟨12, [.rgt, .rgt, .rgt], none, ⟨7, t347, [], none⟩⟩, ⟨15, [.lft, .lft, .rgt, .rgt, .rgt, .rgt, .rgt, .rgt], (some 17), ⟨92, t425, [], none⟩⟩, ⟨3, [.lft, .rgt, .rgt, .rgt, .rgt, .rgt, .rgt, .rgt, .rgt, .rgt, .rgt, .rgt, .rgt, .rgt, .rgt], (some 68), ⟨143, t112, [], none⟩⟩],
  ⟨654, (.node (.node t434 none (.node .nil none (.node .nil none (.node (.node (.node t352 none .nil) none .nil) none .nil)))) none (.node (.node (.node .nil none (.node .nil none (.node .nil none (.node .nil none (.node (.node .nil (some (.row 22 (.node (.node t312 (some (.int .i64 (.ofNat 1))) (.node t59 (some (.int .u64 (.ofNat 4))) (.node (.node .nil (some (.ptr 653 0)) .nil) (some (.int .u64 (.ofNat 0))) .nil))) (some (.ptr 100 0)) t315) false true [])) .nil) none .nil))))) none t129) none t372)), gl⟩)
end Go.Proofs.YtaadekonikihkaaGreatDoor.storeNames
