/-
  ParseNames: the run of the closed statement, in parts: where it is behind each part, and that it comes there. (Reckoned by the kernel.)
-/
import Derived.Test.YtcmibpliaaknmaaGreatDoorParseP3
set_option linter.unusedVariables false
set_option maxRecDepth 100000
noncomputable section
namespace Go.Proofs.YtcmibpliaaknmaaGreatDoor.parseNames
open Go Go.RowKit Go.Proofs.YtcmibpliaaknmaaGreatDoor.Ev
def x10c58 : Cf :=
  ([⟨65,[.rgt,.thn,.rgt,.lft,.rgt,.inn,.inn,.inn,.rgt,.rgt,.rgt],none,⟨36,(.node (.node t4923 (some (.int .i64 (.ofNat 3))) (.node t3357 (some (.ptr 3324 0)) (.node (.node .nil (some (.bool false)) .nil) none .nil))) (some (.ptr 783 0)) (.node (.node (.node t4921 none (.node .nil (some (.agg [.int .u8 (.ofNat 2),.int .u8 (.ofNat 0),.int .i64 (.ofNat 0),.str [],.str [97],.nils])) .nil)) (some (.ptr 912 0)) t4926) none t4929)),[],none⟩⟩,⟨65,[.lft,.rgt,.rgt],(some 3),⟨36,t3854,[],none⟩⟩,⟨65,[.lft,.rgt,.rgt],(some 3),⟨36,t3857,[],none⟩⟩,⟨265,[.lft,.rgt],(some 1),⟨9,t3859,[],none⟩⟩,⟨204,[.lft,.thn,.rgt,.lft,.rgt],(some 1),⟨63,t3861,[],none⟩⟩,⟨128,[.lft,.rgt,.rgt],(some 1),⟨19,t3863,[],none⟩⟩,⟨65,[.lft,.thn,.rgt,.lft,.rgt],(some 1),⟨36,t3866,[],none⟩⟩,⟨65,[.lft,.rgt,.rgt],(some 3),⟨36,t3869,[],none⟩⟩,⟨65,[.lft,.rgt,.rgt],(some 3),⟨36,t3872,[],none⟩⟩,⟨65,[.lft,.rgt,.rgt],(some 3),⟨36,t3875,[],none⟩⟩,⟨65,[.lft,.rgt,.rgt],(some 3),⟨36,t3878,[],none⟩⟩,⟨65,[.lft,.rgt,.rgt],(some 3),⟨36,t3881,[],none⟩⟩,⟨265,[.lft,.rgt],(some 1),⟨9,t3883,[],none⟩⟩,⟨204,[.lft,.thn,.rgt,.lft,.rgt],(some 1),⟨63,t3885,[],none⟩⟩,⟨128,[.lft,.rgt,.rgt],(some 1),⟨19,t3887,[],none⟩⟩,⟨65,[.lft,.thn,.rgt,.lft,.rgt],(some 1),⟨36,t3890,[],none⟩⟩,⟨65,[.lft,.rgt,.rgt],(some 3),⟨36,t3893,[],none⟩⟩,⟨65,[.lft,.rgt,.rgt],(some 3),⟨36,t3896,[],none⟩⟩,⟨65,[.lft,.rgt,.rgt],(some 3),⟨36,t3899,[],none⟩⟩,⟨65,[.lft,.rgt,.rgt],(some 3),⟨36,t3902,[],none⟩⟩,⟨65,[.lft,.rgt,.rgt],(some 3),⟨36,t3905,[],none⟩⟩,⟨265,[.lft,.rgt],(some 1),⟨9,t3907,[],none⟩⟩,⟨204,[.lft,.thn,.rgt,.lft,.rgt],(some 1),⟨63,t3909,[],none⟩⟩,⟨128,[.lft,.rgt,.rgt],(some 1),⟨19,t3911,[],none⟩⟩,⟨65,[.lft,.thn,.rgt,.lft,.rgt],(some 1),⟨36,t3914,[],none⟩⟩,⟨65,[.lft,.rgt,.rgt],(some 3),⟨36,t3917,[],none⟩⟩,⟨65,[.lft,.rgt,.rgt],(some 3),⟨36,t3920,[],none⟩⟩,⟨65,[.lft,.rgt,.rgt],(some 3),⟨36,t3923,[],none⟩⟩,⟨65,[.lft,.rgt,.rgt],(some 3),⟨36,t3926,[],none⟩⟩,⟨65,[.lft,.rgt,.rgt],(some 3),⟨36,t3929,[],none⟩⟩,⟨265,[.lft,.rgt],(some 1),⟨9,t3931,[],none⟩⟩,⟨204,[.lft,.thn,.rgt,.lft,.rgt],(some 1),⟨63,t3933,[],none⟩⟩,⟨128,[.lft,.rgt,.rgt],(some 1),⟨19,t3935,[],none⟩⟩,⟨65,[.lft,.thn,.rgt,.lft,.rgt],(some 1),⟨36,t3938,[],none⟩⟩,⟨65,[.lft,.rgt,.rgt],(some 3),⟨36,t3941,[],none⟩⟩,⟨65,[.lft,.rgt,.rgt],(some 3),⟨36,t3944,[],none⟩⟩,⟨65,[.lft,.rgt,.rgt],(some 3),⟨36,t3947,[],none⟩⟩,⟨65,[.lft,.rgt,.rgt],(some 3),⟨36,t3950,[],none⟩⟩,⟨65,[.lft,.rgt,.rgt],(some 3),⟨36,t3953,[],none⟩⟩,⟨265,[.lft,.rgt],(some 1),⟨9,t3955,[],none⟩⟩,⟨204,[.lft,.thn,.rgt,.lft,.rgt],(some 1),⟨63,t3957,[],none⟩⟩,⟨128,[.lft,.rgt,.rgt],(some 1),⟨19,t3959,[],none⟩⟩,⟨65,[.lft,.thn,.rgt,.lft,.rgt],
    (some 1),⟨36,t3962,[],none⟩⟩,⟨65,[.lft,.rgt,.rgt],(some 3),⟨36,t3965,[],none⟩⟩,⟨65,[.lft,.rgt,.rgt],(some 3),⟨36,t3968,[],none⟩⟩,⟨65,[.lft,.rgt,.rgt],(some 3),⟨36,t3971,[],none⟩⟩,⟨65,[.lft,.rgt,.rgt],(some 3),⟨36,t3974,[],none⟩⟩,⟨65,[.lft,.rgt,.rgt],(some 3),⟨36,t3354,[],none⟩⟩,⟨265,[.lft,.rgt],(some 1),⟨9,t3356,[],none⟩⟩,⟨204,[.lft,.thn,.rgt,.lft,.rgt],(some 1),⟨63,t3359,[],none⟩⟩,⟨128,[.lft,.rgt,.rgt],(some 1),⟨19,t3363,[],none⟩⟩,⟨65,[.lft,.thn,.rgt,.lft,.rgt],(some 1),⟨36,t3367,[],none⟩⟩,⟨65,[.lft,.rgt,.rgt],(some 3),⟨36,t3371,[],none⟩⟩,⟨65,[.lft,.rgt,.rgt],(some 3),⟨36,t3374,[],none⟩⟩,⟨65,[.lft,.rgt,.rgt],(some 3),⟨36,t3377,[],none⟩⟩,⟨65,[.lft,.rgt,.rgt],(some 3),⟨36,t3380,[],none⟩⟩,⟨65,[.lft,.rgt,.rgt],(some 3),⟨36,t3383,[],none⟩⟩,⟨265,[.lft,.rgt],(some 1),⟨9,t3385,[],none⟩⟩,⟨204,[.lft,.thn,.rgt,.lft,.rgt],(some 1),⟨63,t3387,[],none⟩⟩,⟨128,[.lft,.rgt,.rgt],(some 1),⟨19,t3389,[],none⟩⟩,⟨65,[.lft,.thn,.rgt,.lft,.rgt],(some 1),⟨36,t3392,[],none⟩⟩,⟨65,[.lft,.rgt,.rgt],(some 3),⟨36,t3395,[],none⟩⟩,⟨65,[.lft,.rgt,.rgt],(some 3),⟨36,t3398,[],none⟩⟩,⟨65,[.lft,.rgt,.rgt],(some 3),⟨36,t3401,[],none⟩⟩,⟨65,[.lft,.rgt,.rgt],(some 3),⟨36,t3404,[],none⟩⟩,⟨65,[.lft,.rgt,.rgt],(some 3),⟨36,t3407,[],none⟩⟩,⟨265,[.lft,.rgt],(some 1),⟨9,t3409,[],none⟩⟩,⟨204,[.lft,.thn,.rgt,.lft,.rgt],(some 1),⟨63,t3411,[],none⟩⟩,⟨128,[.lft,.rgt,.rgt],(some 1),⟨19,t3413,[],none⟩⟩,⟨65,[.lft,.thn,.rgt,.lft,.rgt],(some 1),⟨36,t3416,[],none⟩⟩,⟨65,[.lft,.rgt,.rgt],(some 3),⟨36,t3419,[],none⟩⟩,⟨65,[.lft,.rgt,.rgt],(some 3),⟨36,t3422,[],none⟩⟩,⟨65,[.lft,.rgt,.rgt],(some 3),⟨36,t3425,[],none⟩⟩,⟨65,[.lft,.rgt,.rgt],(some 3),⟨36,t3428,[],none⟩⟩,⟨65,[.lft,.rgt,.rgt],(some 3),⟨36,t3431,[],none⟩⟩,⟨265,[.lft,.rgt],(some 1),⟨9,t3433,[],none⟩⟩,⟨204,[.lft,.thn,.rgt,.lft,.rgt],(some 1),⟨63,t3435,[],none⟩⟩,⟨128,[.lft,.rgt,.rgt],(some 1),⟨19,t3437,[],none⟩⟩,⟨65,[.lft,.thn,.rgt,.lft,.rgt],(some 1),⟨36,t3440,[],none⟩⟩,⟨65,[.lft,.rgt,.rgt],(some 3),⟨36,t3443,[],none⟩⟩,⟨65,[.lft,.rgt,.rgt],(some 3),⟨36,t3446,[],none⟩⟩,⟨65,[.lft,.rgt,.rgt],(some 3),⟨36,t3449,[],none⟩⟩,⟨65,[.lft,.rgt,.rgt],(some 3),⟨36,t3452,[],none⟩⟩,⟨65,[.lft,.rgt,.rgt],(some 3),⟨36,t3455,[],none⟩⟩,⟨265,[.lft,.rgt],(some 1),⟨9,t3457,[],none⟩⟩,⟨204,[.lft,.thn,.rgt,.lft,.rgt],(some 1),⟨63,t3459,[],none⟩⟩,⟨128,[.lft,.rgt,.rgt],(some 1),⟨19,t3461,[],none⟩⟩,⟨65,[.lft,.thn,.rgt,.lft,.rgt],(some 1),⟨36,t3464,[],none⟩⟩,⟨65,[.lft,.rgt,.rgt],(some 3),⟨36,t3467,[],none⟩⟩,⟨65,[.lft,.rgt,.rgt],(some 3),⟨36,t3470,[],none⟩⟩,⟨65,[.lft,.rgt,.rgt],(some 3),⟨36,t3473,[],none⟩⟩,⟨65,[.lft,.rgt,.rgt],(some 3),
    ⟨36,t3476,[],none⟩⟩,⟨65,[.lft,.rgt,.rgt],(some 3),⟨36,t3479,[],none⟩⟩,⟨265,[.lft,.rgt],(some 1),⟨9,t3481,[],none⟩⟩,⟨204,[.lft,.thn,.rgt,.lft,.rgt],(some 1),⟨63,t3483,[],none⟩⟩,⟨128,[.lft,.rgt,.rgt],(some 1),⟨19,t3485,[],none⟩⟩,⟨65,[.lft,.thn,.rgt,.lft,.rgt],(some 1),⟨36,t3488,[],none⟩⟩,⟨65,[.lft,.rgt,.rgt],(some 3),⟨36,t3491,[],none⟩⟩,⟨65,[.lft,.rgt,.rgt],(some 3),⟨36,t3494,[],none⟩⟩,⟨65,[.lft,.rgt,.rgt],(some 3),⟨36,t3497,[],none⟩⟩,⟨65,[.lft,.rgt,.rgt],(some 3),⟨36,t3500,[],none⟩⟩,⟨65,[.lft,.rgt,.rgt],(some 3),⟨36,t3503,[],none⟩⟩,⟨265,[.lft,.rgt],(some 1),⟨9,t3505,[],none⟩⟩,⟨204,[.lft,.thn,.rgt,.lft,.rgt],(some 1),⟨63,t3507,[],none⟩⟩,⟨128,[.lft,.rgt,.rgt],(some 1),⟨19,t3509,[],none⟩⟩,⟨65,[.lft,.thn,.rgt,.lft,.rgt],(some 1),⟨36,t3512,[],none⟩⟩,⟨65,[.lft,.rgt,.rgt],(some 3),⟨36,t3515,[],none⟩⟩,⟨65,[.lft,.rgt,.rgt],(some 3),⟨36,t3518,[],none⟩⟩,⟨65,[.lft,.rgt,.rgt],(some 3),⟨36,t3521,[],none⟩⟩,⟨65,[.lft,.rgt,.rgt],(some 3),⟨36,t3524,[],none⟩⟩,⟨65,[.lft,.rgt,.rgt],(some 3),⟨36,t3527,[],none⟩⟩,⟨265,[.lft,.rgt],(some 1),⟨9,t3529,[],none⟩⟩,⟨204,[.lft,.thn,.rgt,.lft,.rgt],(some 1),⟨63,t3531,[],none⟩⟩,⟨128,[.lft,.rgt,.rgt],(some 1),⟨19,t3533,[],none⟩⟩,⟨65,[.lft,.thn,.rgt,.lft,.rgt],(some 1),⟨36,t3536,[],none⟩⟩,⟨65,[.lft,.rgt,.rgt],(some 3),⟨36,t3539,[],none⟩⟩,⟨65,[.lft,.rgt,.rgt],(some 3),⟨36,t3542,[],none⟩⟩,⟨65,[.lft,.rgt,.rgt],(some 3),⟨36,t3545,[],none⟩⟩,⟨65,[.lft,.rgt,.rgt],(some 3),⟨36,t3548,[],none⟩⟩,⟨65,[.lft,.rgt,.rgt],(some 3),⟨36,t3551,[],none⟩⟩,⟨265,[.lft,.rgt],(some 1),⟨9,t3553,[],none⟩⟩,⟨204,[.lft,.thn,.rgt,.lft,.rgt],(some 1),⟨63,t3555,[],none⟩⟩,⟨128,[.lft,.rgt,.rgt],(some 1),⟨19,t3557,[],none⟩⟩,⟨65,[.lft,.thn,.rgt,.lft,.rgt],(some 1),⟨36,t3560,[],none⟩⟩,⟨65,[.lft,.rgt,.rgt],(some 3),⟨36,t3563,[],none⟩⟩,⟨65,[.lft,.rgt,.rgt],(some 3),⟨36,t3566,[],none⟩⟩,⟨65,[.lft,.rgt,.rgt],(some 3),⟨36,t3569,[],none⟩⟩,⟨65,[.lft,.rgt,.rgt],(some 3),⟨36,t3572,[],none⟩⟩,⟨65,[.lft,.rgt,.rgt],(some 3),⟨36,t3575,[],none⟩⟩,⟨19,[.lft,.rgt,.rgt,.rgt,.rgt,.rgt],(some 1),⟨33,t3578,[.call 64 [] [.ptr 1 0,.ptr 2 0]],none⟩⟩,⟨18,[.lft,.rgt],(some 1),⟨19,t1645,[],none⟩⟩],
  ⟨3336,(.node (.node (.node (.node (.node t5216 none (.node (.node (.node (.node .nil none (.node .nil (some (.row 1 (.node .nil (some (.slice 782 166 14 (.opn 2))) .nil) false true [])) .nil)) none t1529) none t1530) none t3579)) none t5249) none t5251) (some (.row 6 t1527 false true [])) (.node t5251 none t5251)) (some (.row 6 t10 false true [])) (.node (.node (.node (.node t5216 none (.node (.node (.node t1529 none t141) none t1530) none t3579)) none t5249) none (.node t5249 none (.node t5216 none (.node t3579 none (.node t1530 none (.node
    t1529 none (.node t1241 none .nil))))))) (some (.row 1 (.node .nil (some (.int .i64 (.ofNat 0))) .nil) false true [])) (.node t5251 none (.node t5249 none (.node t5198 none t5248))))),gl⟩)
theorem x10p58 : partOk Tryz.prog [] [] 100000 ext10d 161 x10c57 x10c58 = true := by kernel_rfl
theorem x10g58 : Goes Tryz.prog s0 x10c57 x10c58 := goes_of (E := []) (N := []) trivial x10p58 rfl
def t5284 : Tri O := .node t3580 none t5248
def t5286 : Tri O := .node t5284 none t5284
def t5288 : Tri O := .node t5286 none t5286
def x10c59 : Cf :=
  ([⟨65,[.lft,.inn,.inn,.inn,.rgt,.rgt,.rgt],none,⟨36,(.node (.node .nil (some (.int .i64 (.ofNat 3))) (.node .nil (some (.ptr 3446 0)) .nil)) (some (.ptr 783 0)) (.node (.node .nil (some (.ptr 894 0)) .nil) none .nil)),[],none⟩⟩,⟨65,[.lft,.rgt,.rgt],(some 3),⟨36,t3902,[],none⟩⟩,⟨65,[.lft,.rgt,.rgt],(some 3),⟨36,t3905,[],none⟩⟩,⟨265,[.lft,.rgt],(some 1),⟨9,t3907,[],none⟩⟩,⟨204,[.lft,.thn,.rgt,.lft,.rgt],(some 1),⟨63,t3909,[],none⟩⟩,⟨128,[.lft,.rgt,.rgt],(some 1),⟨19,t3911,[],none⟩⟩,⟨65,[.lft,.thn,.rgt,.lft,.rgt],(some 1),⟨36,t3914,[],none⟩⟩,⟨65,[.lft,.rgt,.rgt],(some 3),⟨36,t3917,[],none⟩⟩,⟨65,[.lft,.rgt,.rgt],(some 3),⟨36,t3920,[],none⟩⟩,⟨65,[.lft,.rgt,.rgt],(some 3),⟨36,t3923,[],none⟩⟩,⟨65,[.lft,.rgt,.rgt],(some 3),⟨36,t3926,[],none⟩⟩,⟨65,[.lft,.rgt,.rgt],(some 3),⟨36,t3929,[],none⟩⟩,⟨265,[.lft,.rgt],(some 1),⟨9,t3931,[],none⟩⟩,⟨204,[.lft,.thn,.rgt,.lft,.rgt],(some 1),⟨63,t3933,[],none⟩⟩,⟨128,[.lft,.rgt,.rgt],(some 1),⟨19,t3935,[],none⟩⟩,⟨65,[.lft,.thn,.rgt,.lft,.rgt],(some 1),⟨36,t3938,[],none⟩⟩,⟨65,[.lft,.rgt,.rgt],(some 3),⟨36,t3941,[],none⟩⟩,⟨65,[.lft,.rgt,.rgt],(some 3),⟨36,t3944,[],none⟩⟩,⟨65,[.lft,.rgt,.rgt],(some 3),⟨36,t3947,[],none⟩⟩,⟨65,[.lft,.rgt,.rgt],(some 3),⟨36,t3950,[],none⟩⟩,⟨65,[.lft,.rgt,.rgt],(some 3),⟨36,t3953,[],none⟩⟩,⟨265,[.lft,.rgt],(some 1),⟨9,t3955,[],none⟩⟩,⟨204,[.lft,.thn,.rgt,.lft,.rgt],(some 1),⟨63,t3957,[],none⟩⟩,⟨128,[.lft,.rgt,.rgt],(some 1),⟨19,t3959,[],none⟩⟩,⟨65,[.lft,.thn,.rgt,.lft,.rgt],(some 1),⟨36,t3962,[],none⟩⟩,⟨65,[.lft,.rgt,.rgt],(some 3),⟨36,t3965,[],none⟩⟩,⟨65,[.lft,.rgt,.rgt],(some 3),⟨36,t3968,[],none⟩⟩,⟨65,[.lft,.rgt,.rgt],(some 3),⟨36,t3971,[],none⟩⟩,⟨65,[.lft,.rgt,.rgt],(some 3),⟨36,t3974,[],none⟩⟩,⟨65,[.lft,.rgt,.rgt],(some 3),⟨36,t3354,[],none⟩⟩,⟨265,[.lft,.rgt],(some 1),⟨9,t3356,[],none⟩⟩,⟨204,[.lft,.thn,.rgt,.lft,.rgt],(some 1),⟨63,t3359,[],none⟩⟩,⟨128,[.lft,.rgt,.rgt],(some 1),⟨19,t3363,[],none⟩⟩,⟨65,[.lft,.thn,.rgt,.lft,.rgt],(some 1),⟨36,t3367,[],none⟩⟩,⟨65,[.lft,.rgt,.rgt],(some 3),⟨36,t3371,[],none⟩⟩,⟨65,[.lft,.rgt,.rgt],(some 3),⟨36,t3374,[],none⟩⟩,⟨65,[.lft,.rgt,.rgt],(some 3),⟨36,t3377,[],none⟩⟩,⟨65,[.lft,.rgt,.rgt],(some 3),⟨36,t3380,[],none⟩⟩,⟨65,[.lft,.rgt,.rgt],(some 3),⟨36,t3383,[],none⟩⟩,⟨265,[.lft,.rgt],(some 1),⟨9,t3385,[],none⟩⟩,⟨204,[.lft,.thn,.rgt,.lft,.rgt],(some 1),⟨63,t3387,[],none⟩⟩,⟨128,[.lft,.rgt,.rgt],(some 1),⟨19,t3389,[],none⟩⟩,⟨65,[.lft,.thn,.rgt,.lft,.rgt],(some 1),⟨36,t3392,[],none⟩⟩,⟨65,[.lft,.rgt,.rgt],(some 3),⟨36,t3395,[],none⟩⟩,⟨65,[.lft,.rgt,.rgt],(some 3),⟨36,t3398,[],none⟩⟩,⟨65,[.lft,.rgt,.rgt],(some 3),⟨36,t3401,[],none⟩⟩,⟨65,
    [.lft,.rgt,.rgt],(some 3),⟨36,t3404,[],none⟩⟩,⟨65,[.lft,.rgt,.rgt],(some 3),⟨36,t3407,[],none⟩⟩,⟨265,[.lft,.rgt],(some 1),⟨9,t3409,[],none⟩⟩,⟨204,[.lft,.thn,.rgt,.lft,.rgt],(some 1),⟨63,t3411,[],none⟩⟩,⟨128,[.lft,.rgt,.rgt],(some 1),⟨19,t3413,[],none⟩⟩,⟨65,[.lft,.thn,.rgt,.lft,.rgt],(some 1),⟨36,t3416,[],none⟩⟩,⟨65,[.lft,.rgt,.rgt],(some 3),⟨36,t3419,[],none⟩⟩,⟨65,[.lft,.rgt,.rgt],(some 3),⟨36,t3422,[],none⟩⟩,⟨65,[.lft,.rgt,.rgt],(some 3),⟨36,t3425,[],none⟩⟩,⟨65,[.lft,.rgt,.rgt],(some 3),⟨36,t3428,[],none⟩⟩,⟨65,[.lft,.rgt,.rgt],(some 3),⟨36,t3431,[],none⟩⟩,⟨265,[.lft,.rgt],(some 1),⟨9,t3433,[],none⟩⟩,⟨204,[.lft,.thn,.rgt,.lft,.rgt],(some 1),⟨63,t3435,[],none⟩⟩,⟨128,[.lft,.rgt,.rgt],(some 1),⟨19,t3437,[],none⟩⟩,⟨65,[.lft,.thn,.rgt,.lft,.rgt],(some 1),⟨36,t3440,[],none⟩⟩,⟨65,[.lft,.rgt,.rgt],(some 3),⟨36,t3443,[],none⟩⟩,⟨65,[.lft,.rgt,.rgt],(some 3),⟨36,t3446,[],none⟩⟩,⟨65,[.lft,.rgt,.rgt],(some 3),⟨36,t3449,[],none⟩⟩,⟨65,[.lft,.rgt,.rgt],(some 3),⟨36,t3452,[],none⟩⟩,⟨65,[.lft,.rgt,.rgt],(some 3),⟨36,t3455,[],none⟩⟩,⟨265,[.lft,.rgt],(some 1),⟨9,t3457,[],none⟩⟩,⟨204,[.lft,.thn,.rgt,.lft,.rgt],(some 1),⟨63,t3459,[],none⟩⟩,⟨128,[.lft,.rgt,.rgt],(some 1),⟨19,t3461,[],none⟩⟩,⟨65,[.lft,.thn,.rgt,.lft,.rgt],(some 1),⟨36,t3464,[],none⟩⟩,⟨65,[.lft,.rgt,.rgt],(some 3),⟨36,t3467,[],none⟩⟩,⟨65,[.lft,.rgt,.rgt],(some 3),⟨36,t3470,[],none⟩⟩,⟨65,[.lft,.rgt,.rgt],(some 3),⟨36,t3473,[],none⟩⟩,⟨65,[.lft,.rgt,.rgt],(some 3),⟨36,t3476,[],none⟩⟩,⟨65,[.lft,.rgt,.rgt],(some 3),⟨36,t3479,[],none⟩⟩,⟨265,[.lft,.rgt],(some 1),⟨9,t3481,[],none⟩⟩,⟨204,[.lft,.thn,.rgt,.lft,.rgt],(some 1),⟨63,t3483,[],none⟩⟩,⟨128,[.lft,.rgt,.rgt],(some 1),⟨19,t3485,[],none⟩⟩,⟨65,[.lft,.thn,.rgt,.lft,.rgt],(some 1),⟨36,t3488,[],none⟩⟩,⟨65,[.lft,.rgt,.rgt],(some 3),⟨36,t3491,[],none⟩⟩,⟨65,[.lft,.rgt,.rgt],(some 3),⟨36,t3494,[],none⟩⟩,⟨65,[.lft,.rgt,.rgt],(some 3),⟨36,t3497,[],none⟩⟩,⟨65,[.lft,.rgt,.rgt],(some 3),⟨36,t3500,[],none⟩⟩,⟨65,[.lft,.rgt,.rgt],(some 3),⟨36,t3503,[],none⟩⟩,⟨265,[.lft,.rgt],(some 1),⟨9,t3505,[],none⟩⟩,⟨204,[.lft,.thn,.rgt,.lft,.rgt],(some 1),⟨63,t3507,[],none⟩⟩,⟨128,[.lft,.rgt,.rgt],(some 1),⟨19,t3509,[],none⟩⟩,⟨65,[.lft,.thn,.rgt,.lft,.rgt],(some 1),⟨36,t3512,[],none⟩⟩,⟨65,[.lft,.rgt,.rgt],(some 3),⟨36,t3515,[],none⟩⟩,⟨65,[.lft,.rgt,.rgt],(some 3),⟨36,t3518,[],none⟩⟩,⟨65,[.lft,.rgt,.rgt],(some 3),⟨36,t3521,[],none⟩⟩,⟨65,[.lft,.rgt,.rgt],(some 3),⟨36,t3524,[],none⟩⟩,⟨65,[.lft,.rgt,.rgt],(some 3),⟨36,t3527,[],none⟩⟩,⟨265,[.lft,.rgt],(some 1),⟨9,t3529,[],none⟩⟩,⟨204,[.lft,.thn,.rgt,.lft,.rgt],(some 1),⟨63,t3531,[],none⟩⟩,⟨128,[.lft,
    .rgt,.rgt],(some 1),⟨19,t3533,[],none⟩⟩,⟨65,[.lft,.thn,.rgt,.lft,.rgt],(some 1),⟨36,t3536,[],none⟩⟩,⟨65,[.lft,.rgt,.rgt],(some 3),⟨36,t3539,[],none⟩⟩,⟨65,[.lft,.rgt,.rgt],(some 3),⟨36,t3542,[],none⟩⟩,⟨65,[.lft,.rgt,.rgt],(some 3),⟨36,t3545,[],none⟩⟩,⟨65,[.lft,.rgt,.rgt],(some 3),⟨36,t3548,[],none⟩⟩,⟨65,[.lft,.rgt,.rgt],(some 3),⟨36,t3551,[],none⟩⟩,⟨265,[.lft,.rgt],(some 1),⟨9,t3553,[],none⟩⟩,⟨204,[.lft,.thn,.rgt,.lft,.rgt],(some 1),⟨63,t3555,[],none⟩⟩,⟨128,[.lft,.rgt,.rgt],(some 1),⟨19,t3557,[],none⟩⟩,⟨65,[.lft,.thn,.rgt,.lft,.rgt],(some 1),⟨36,t3560,[],none⟩⟩,⟨65,[.lft,.rgt,.rgt],(some 3),⟨36,t3563,[],none⟩⟩,⟨65,[.lft,.rgt,.rgt],(some 3),⟨36,t3566,[],none⟩⟩,⟨65,[.lft,.rgt,.rgt],(some 3),⟨36,t3569,[],none⟩⟩,⟨65,[.lft,.rgt,.rgt],(some 3),⟨36,t3572,[],none⟩⟩,⟨65,[.lft,.rgt,.rgt],(some 3),⟨36,t3575,[],none⟩⟩,⟨19,[.lft,.rgt,.rgt,.rgt,.rgt,.rgt],(some 1),⟨33,t3578,[.call 64 [] [.ptr 1 0,.ptr 2 0]],none⟩⟩,⟨18,[.lft,.rgt],(some 1),⟨19,t1645,[],none⟩⟩],
  ⟨3447,(.node (.node (.node (.node (.node t3580 none (.node (.node (.node (.node .nil none (.node .nil (some (.row 1 (.node .nil (some (.slice 782 170 12 (.opn 2))) .nil) false true [])) .nil)) none .nil) none t1530) none t3579)) none t5284) none t5286) (some (.row 6 t1527 false true [])) t5288) (some (.row 6 t10 false true [])) (.node t5288 (some (.row 1 (.node .nil (some (.int .i64 (.ofNat 0))) .nil) false true [])) (.node t5286 none (.node (.node t3580 none (.node t3579 none (.node t1530 none (.node (.node .nil none (.node t141 (some (.row 6 t1527 false true [])) .nil)) none .nil)))) none (.node (.node t3613 none t3579) none t5248))))),gl⟩)
theorem x10p59 : partOk Tryz.prog [] [] 100000 ext10d 177 x10c58 x10c59 = true := by kernel_rfl
theorem x10g59 : Goes Tryz.prog s0 x10c58 x10c59 := goes_of (E := []) (N := []) trivial x10p59 rfl
def t5315 : Tri O := .node t3595 none t3595
def t1242 : Tri O := .node .nil none t1241
def x10c60 : Cf :=
  ([⟨65,[.lft,.inn,.inn,.inn,.rgt,.rgt,.rgt],none,⟨36,(.node (.node .nil (some (.int .i64 (.ofNat 4))) (.node .nil (some (.ptr 3556 0)) .nil)) (some (.ptr 783 0)) (.node (.node .nil (some (.ptr 877 0)) .nil) none .nil)),[],none⟩⟩,⟨65,[.lft,.rgt,.rgt],(some 3),⟨36,t3947,[],none⟩⟩,⟨65,[.lft,.rgt,.rgt],(some 3),⟨36,t3950,[],none⟩⟩,⟨65,[.lft,.rgt,.rgt],(some 3),⟨36,t3953,[],none⟩⟩,⟨265,[.lft,.rgt],(some 1),⟨9,t3955,[],none⟩⟩,⟨204,[.lft,.thn,.rgt,.lft,.rgt],(some 1),⟨63,t3957,[],none⟩⟩,⟨128,[.lft,.rgt,.rgt],(some 1),⟨19,t3959,[],none⟩⟩,⟨65,[.lft,.thn,.rgt,.lft,.rgt],(some 1),⟨36,t3962,[],none⟩⟩,⟨65,[.lft,.rgt,.rgt],(some 3),⟨36,t3965,[],none⟩⟩,⟨65,[.lft,.rgt,.rgt],(some 3),⟨36,t3968,[],none⟩⟩,⟨65,[.lft,.rgt,.rgt],(some 3),⟨36,t3971,[],none⟩⟩,⟨65,[.lft,.rgt,.rgt],(some 3),⟨36,t3974,[],none⟩⟩,⟨65,[.lft,.rgt,.rgt],(some 3),⟨36,t3354,[],none⟩⟩,⟨265,[.lft,.rgt],(some 1),⟨9,t3356,[],none⟩⟩,⟨204,[.lft,.thn,.rgt,.lft,.rgt],(some 1),⟨63,t3359,[],none⟩⟩,⟨128,[.lft,.rgt,.rgt],(some 1),⟨19,t3363,[],none⟩⟩,⟨65,[.lft,.thn,.rgt,.lft,.rgt],(some 1),⟨36,t3367,[],none⟩⟩,⟨65,[.lft,.rgt,.rgt],(some 3),⟨36,t3371,[],none⟩⟩,⟨65,[.lft,.rgt,.rgt],(some 3),⟨36,t3374,[],none⟩⟩,⟨65,[.lft,.rgt,.rgt],(some 3),⟨36,t3377,[],none⟩⟩,⟨65,[.lft,.rgt,.rgt],(some 3),⟨36,t3380,[],none⟩⟩,⟨65,[.lft,.rgt,.rgt],(some 3),⟨36,t3383,[],none⟩⟩,⟨265,[.lft,.rgt],(some 1),⟨9,t3385,[],none⟩⟩,⟨204,[.lft,.thn,.rgt,.lft,.rgt],(some 1),⟨63,t3387,[],none⟩⟩,⟨128,[.lft,.rgt,.rgt],(some 1),⟨19,t3389,[],none⟩⟩,⟨65,[.lft,.thn,.rgt,.lft,.rgt],(some 1),⟨36,t3392,[],none⟩⟩,⟨65,[.lft,.rgt,.rgt],(some 3),⟨36,t3395,[],none⟩⟩,⟨65,[.lft,.rgt,.rgt],(some 3),⟨36,t3398,[],none⟩⟩,⟨65,[.lft,.rgt,.rgt],(some 3),⟨36,t3401,[],none⟩⟩,⟨65,[.lft,.rgt,.rgt],(some 3),⟨36,t3404,[],none⟩⟩,⟨65,[.lft,.rgt,.rgt],(some 3),⟨36,t3407,[],none⟩⟩,⟨265,[.lft,.rgt],(some 1),⟨9,t3409,[],none⟩⟩,⟨204,[.lft,.thn,.rgt,.lft,.rgt],(some 1),⟨63,t3411,[],none⟩⟩,⟨128,[.lft,.rgt,.rgt],(some 1),⟨19,t3413,[],none⟩⟩,⟨65,[.lft,.thn,.rgt,.lft,.rgt],(some 1),⟨36,t3416,[],none⟩⟩,⟨65,[.lft,.rgt,.rgt],(some 3),⟨36,t3419,[],none⟩⟩,⟨65,[.lft,.rgt,.rgt],(some 3),⟨36,t3422,[],none⟩⟩,⟨65,[.lft,.rgt,.rgt],(some 3),⟨36,t3425,[],none⟩⟩,⟨65,[.lft,.rgt,.rgt],(some 3),⟨36,t3428,[],none⟩⟩,⟨65,[.lft,.rgt,.rgt],(some 3),⟨36,t3431,[],none⟩⟩,⟨265,[.lft,.rgt],(some 1),⟨9,t3433,[],none⟩⟩,⟨204,[.lft,.thn,.rgt,.lft,.rgt],(some 1),⟨63,t3435,[],none⟩⟩,⟨128,[.lft,.rgt,.rgt],(some 1),⟨19,t3437,[],none⟩⟩,⟨65,[.lft,.thn,.rgt,.lft,.rgt],(some 1),⟨36,t3440,[],none⟩⟩,⟨65,[.lft,.rgt,.rgt],(some 3),⟨36,t3443,[],none⟩⟩,⟨65,[.lft,.rgt,.rgt],(some 3),⟨36,t3446,[],none⟩⟩,⟨65,
    [.lft,.rgt,.rgt],(some 3),⟨36,t3449,[],none⟩⟩,⟨65,[.lft,.rgt,.rgt],(some 3),⟨36,t3452,[],none⟩⟩,⟨65,[.lft,.rgt,.rgt],(some 3),⟨36,t3455,[],none⟩⟩,⟨265,[.lft,.rgt],(some 1),⟨9,t3457,[],none⟩⟩,⟨204,[.lft,.thn,.rgt,.lft,.rgt],(some 1),⟨63,t3459,[],none⟩⟩,⟨128,[.lft,.rgt,.rgt],(some 1),⟨19,t3461,[],none⟩⟩,⟨65,[.lft,.thn,.rgt,.lft,.rgt],(some 1),⟨36,t3464,[],none⟩⟩,⟨65,[.lft,.rgt,.rgt],(some 3),⟨36,t3467,[],none⟩⟩,⟨65,[.lft,.rgt,.rgt],(some 3),⟨36,t3470,[],none⟩⟩,⟨65,[.lft,.rgt,.rgt],(some 3),⟨36,t3473,[],none⟩⟩,⟨65,[.lft,.rgt,.rgt],(some 3),⟨36,t3476,[],none⟩⟩,⟨65,[.lft,.rgt,.rgt],(some 3),⟨36,t3479,[],none⟩⟩,⟨265,[.lft,.rgt],(some 1),⟨9,t3481,[],none⟩⟩,⟨204,[.lft,.thn,.rgt,.lft,.rgt],(some 1),⟨63,t3483,[],none⟩⟩,⟨128,[.lft,.rgt,.rgt],(some 1),⟨19,t3485,[],none⟩⟩,⟨65,[.lft,.thn,.rgt,.lft,.rgt],(some 1),⟨36,t3488,[],none⟩⟩,⟨65,[.lft,.rgt,.rgt],(some 3),⟨36,t3491,[],none⟩⟩,⟨65,[.lft,.rgt,.rgt],(some 3),⟨36,t3494,[],none⟩⟩,⟨65,[.lft,.rgt,.rgt],(some 3),⟨36,t3497,[],none⟩⟩,⟨65,[.lft,.rgt,.rgt],(some 3),⟨36,t3500,[],none⟩⟩,⟨65,[.lft,.rgt,.rgt],(some 3),⟨36,t3503,[],none⟩⟩,⟨265,[.lft,.rgt],(some 1),⟨9,t3505,[],none⟩⟩,⟨204,[.lft,.thn,.rgt,.lft,.rgt],(some 1),⟨63,t3507,[],none⟩⟩,⟨128,[.lft,.rgt,.rgt],(some 1),⟨19,t3509,[],none⟩⟩,⟨65,[.lft,.thn,.rgt,.lft,.rgt],(some 1),⟨36,t3512,[],none⟩⟩,⟨65,[.lft,.rgt,.rgt],(some 3),⟨36,t3515,[],none⟩⟩,⟨65,[.lft,.rgt,.rgt],(some 3),⟨36,t3518,[],none⟩⟩,⟨65,[.lft,.rgt,.rgt],(some 3),⟨36,t3521,[],none⟩⟩,⟨65,[.lft,.rgt,.rgt],(some 3),⟨36,t3524,[],none⟩⟩,⟨65,[.lft,.rgt,.rgt],(some 3),⟨36,t3527,[],none⟩⟩,⟨265,[.lft,.rgt],(some 1),⟨9,t3529,[],none⟩⟩,⟨204,[.lft,.thn,.rgt,.lft,.rgt],(some 1),⟨63,t3531,[],none⟩⟩,⟨128,[.lft,.rgt,.rgt],(some 1),⟨19,t3533,[],none⟩⟩,⟨65,[.lft,.thn,.rgt,.lft,.rgt],(some 1),⟨36,t3536,[],none⟩⟩,⟨65,[.lft,.rgt,.rgt],(some 3),⟨36,t3539,[],none⟩⟩,⟨65,[.lft,.rgt,.rgt],(some 3),⟨36,t3542,[],none⟩⟩,⟨65,[.lft,.rgt,.rgt],(some 3),⟨36,t3545,[],none⟩⟩,⟨65,[.lft,.rgt,.rgt],(some 3),⟨36,t3548,[],none⟩⟩,⟨65,[.lft,.rgt,.rgt],(some 3),⟨36,t3551,[],none⟩⟩,⟨265,[.lft,.rgt],(some 1),⟨9,t3553,[],none⟩⟩,⟨204,[.lft,.thn,.rgt,.lft,.rgt],(some 1),⟨63,t3555,[],none⟩⟩,⟨128,[.lft,.rgt,.rgt],(some 1),⟨19,t3557,[],none⟩⟩,⟨65,[.lft,.thn,.rgt,.lft,.rgt],(some 1),⟨36,t3560,[],none⟩⟩,⟨65,[.lft,.rgt,.rgt],(some 3),⟨36,t3563,[],none⟩⟩,⟨65,[.lft,.rgt,.rgt],(some 3),⟨36,t3566,[],none⟩⟩,⟨65,[.lft,.rgt,.rgt],(some 3),⟨36,t3569,[],none⟩⟩,⟨65,[.lft,.rgt,.rgt],(some 3),⟨36,t3572,[],none⟩⟩,⟨65,[.lft,.rgt,.rgt],(some 3),⟨36,t3575,[],none⟩⟩,⟨19,[.lft,.rgt,.rgt,.rgt,.rgt,.rgt],(some 1),⟨33,t3578,[.call 64
    [] [.ptr 1 0,.ptr 2 0]],none⟩⟩,⟨18,[.lft,.rgt],(some 1),⟨19,t1645,[],none⟩⟩],
  ⟨3557,(.node (.node (.node (.node (.node t3580 none (.node (.node (.node (.node .nil none (.node .nil (some (.row 1 (.node .nil (some (.slice 782 174 10 (.opn 2))) .nil) false true [])) .nil)) none .nil) none t1530) none t3586)) none t3595) none t5315) (some (.row 6 t1527 false true [])) (.node t5315 none t5315)) (some (.row 6 t10 false true [])) (.node (.node t5315 none (.node (.node (.node t1531 none (.node t1530 none (.node t1529 none t1242))) none t3590) none t3595)) (some (.row 1 (.node .nil (some (.int .i64 (.ofNat 0))) .nil) false true [])) (.node t5315 none (.node t3595 none t3615)))),gl⟩)
theorem x10p60 : partOk Tryz.prog [] [] 100000 ext10d 169 x10c59 x10c60 = true := by kernel_rfl
theorem x10g60 : Goes Tryz.prog s0 x10c59 x10c60 := goes_of (E := []) (N := []) trivial x10p60 rfl
def t5343 : Tri O := .node t3586 none t3586
def t5344 : Tri O := .node t3589 none t5343
def t142 : Tri O := .node .nil none t141
def t5355 : Tri O := .node t3614 none t5343
def x10c61 : Cf :=
  ([⟨65,[.lft,.inn,.inn,.inn,.rgt,.rgt,.rgt],none,⟨36,(.node (.node .nil (some (.int .i64 (.ofNat 5))) (.node .nil (some (.ptr 3666 0)) .nil)) (some (.ptr 783 0)) (.node (.node .nil (some (.ptr 860 0)) .nil) none .nil)),[],none⟩⟩,⟨65,[.lft,.rgt,.rgt],(some 3),⟨36,t3374,[],none⟩⟩,⟨65,[.lft,.rgt,.rgt],(some 3),⟨36,t3377,[],none⟩⟩,⟨65,[.lft,.rgt,.rgt],(some 3),⟨36,t3380,[],none⟩⟩,⟨65,[.lft,.rgt,.rgt],(some 3),⟨36,t3383,[],none⟩⟩,⟨265,[.lft,.rgt],(some 1),⟨9,t3385,[],none⟩⟩,⟨204,[.lft,.thn,.rgt,.lft,.rgt],(some 1),⟨63,t3387,[],none⟩⟩,⟨128,[.lft,.rgt,.rgt],(some 1),⟨19,t3389,[],none⟩⟩,⟨65,[.lft,.thn,.rgt,.lft,.rgt],(some 1),⟨36,t3392,[],none⟩⟩,⟨65,[.lft,.rgt,.rgt],(some 3),⟨36,t3395,[],none⟩⟩,⟨65,[.lft,.rgt,.rgt],(some 3),⟨36,t3398,[],none⟩⟩,⟨65,[.lft,.rgt,.rgt],(some 3),⟨36,t3401,[],none⟩⟩,⟨65,[.lft,.rgt,.rgt],(some 3),⟨36,t3404,[],none⟩⟩,⟨65,[.lft,.rgt,.rgt],(some 3),⟨36,t3407,[],none⟩⟩,⟨265,[.lft,.rgt],(some 1),⟨9,t3409,[],none⟩⟩,⟨204,[.lft,.thn,.rgt,.lft,.rgt],(some 1),⟨63,t3411,[],none⟩⟩,⟨128,[.lft,.rgt,.rgt],(some 1),⟨19,t3413,[],none⟩⟩,⟨65,[.lft,.thn,.rgt,.lft,.rgt],(some 1),⟨36,t3416,[],none⟩⟩,⟨65,[.lft,.rgt,.rgt],(some 3),⟨36,t3419,[],none⟩⟩,⟨65,[.lft,.rgt,.rgt],(some 3),⟨36,t3422,[],none⟩⟩,⟨65,[.lft,.rgt,.rgt],(some 3),⟨36,t3425,[],none⟩⟩,⟨65,[.lft,.rgt,.rgt],(some 3),⟨36,t3428,[],none⟩⟩,⟨65,[.lft,.rgt,.rgt],(some 3),⟨36,t3431,[],none⟩⟩,⟨265,[.lft,.rgt],(some 1),⟨9,t3433,[],none⟩⟩,⟨204,[.lft,.thn,.rgt,.lft,.rgt],(some 1),⟨63,t3435,[],none⟩⟩,⟨128,[.lft,.rgt,.rgt],(some 1),⟨19,t3437,[],none⟩⟩,⟨65,[.lft,.thn,.rgt,.lft,.rgt],(some 1),⟨36,t3440,[],none⟩⟩,⟨65,[.lft,.rgt,.rgt],(some 3),⟨36,t3443,[],none⟩⟩,⟨65,[.lft,.rgt,.rgt],(some 3),⟨36,t3446,[],none⟩⟩,⟨65,[.lft,.rgt,.rgt],(some 3),⟨36,t3449,[],none⟩⟩,⟨65,[.lft,.rgt,.rgt],(some 3),⟨36,t3452,[],none⟩⟩,⟨65,[.lft,.rgt,.rgt],(some 3),⟨36,t3455,[],none⟩⟩,⟨265,[.lft,.rgt],(some 1),⟨9,t3457,[],none⟩⟩,⟨204,[.lft,.thn,.rgt,.lft,.rgt],(some 1),⟨63,t3459,[],none⟩⟩,⟨128,[.lft,.rgt,.rgt],(some 1),⟨19,t3461,[],none⟩⟩,⟨65,[.lft,.thn,.rgt,.lft,.rgt],(some 1),⟨36,t3464,[],none⟩⟩,⟨65,[.lft,.rgt,.rgt],(some 3),⟨36,t3467,[],none⟩⟩,⟨65,[.lft,.rgt,.rgt],(some 3),⟨36,t3470,[],none⟩⟩,⟨65,[.lft,.rgt,.rgt],(some 3),⟨36,t3473,[],none⟩⟩,⟨65,[.lft,.rgt,.rgt],(some 3),⟨36,t3476,[],none⟩⟩,⟨65,[.lft,.rgt,.rgt],(some 3),⟨36,t3479,[],none⟩⟩,⟨265,[.lft,.rgt],(some 1),⟨9,t3481,[],none⟩⟩,⟨204,[.lft,.thn,.rgt,.lft,.rgt],(some 1),⟨63,t3483,[],none⟩⟩,⟨128,[.lft,.rgt,.rgt],(some 1),⟨19,t3485,[],none⟩⟩,⟨65,[.lft,.thn,.rgt,.lft,.rgt],(some 1),⟨36,t3488,[],none⟩⟩,⟨65,[.lft,.rgt,.rgt],(some 3),⟨36,t3491,[],none⟩⟩,⟨65,
    [.lft,.rgt,.rgt],(some 3),⟨36,t3494,[],none⟩⟩,⟨65,[.lft,.rgt,.rgt],(some 3),⟨36,t3497,[],none⟩⟩,⟨65,[.lft,.rgt,.rgt],(some 3),⟨36,t3500,[],none⟩⟩,⟨65,[.lft,.rgt,.rgt],(some 3),⟨36,t3503,[],none⟩⟩,⟨265,[.lft,.rgt],(some 1),⟨9,t3505,[],none⟩⟩,⟨204,[.lft,.thn,.rgt,.lft,.rgt],(some 1),⟨63,t3507,[],none⟩⟩,⟨128,[.lft,.rgt,.rgt],(some 1),⟨19,t3509,[],none⟩⟩,⟨65,[.lft,.thn,.rgt,.lft,.rgt],(some 1),⟨36,t3512,[],none⟩⟩,⟨65,[.lft,.rgt,.rgt],(some 3),⟨36,t3515,[],none⟩⟩,⟨65,[.lft,.rgt,.rgt],(some 3),⟨36,t3518,[],none⟩⟩,⟨65,[.lft,.rgt,.rgt],(some 3),⟨36,t3521,[],none⟩⟩,⟨65,[.lft,.rgt,.rgt],(some 3),⟨36,t3524,[],none⟩⟩,⟨65,[.lft,.rgt,.rgt],(some 3),⟨36,t3527,[],none⟩⟩,⟨265,[.lft,.rgt],(some 1),⟨9,t3529,[],none⟩⟩,⟨204,[.lft,.thn,.rgt,.lft,.rgt],(some 1),⟨63,t3531,[],none⟩⟩,⟨128,[.lft,.rgt,.rgt],(some 1),⟨19,t3533,[],none⟩⟩,⟨65,[.lft,.thn,.rgt,.lft,.rgt],(some 1),⟨36,t3536,[],none⟩⟩,⟨65,[.lft,.rgt,.rgt],(some 3),⟨36,t3539,[],none⟩⟩,⟨65,[.lft,.rgt,.rgt],(some 3),⟨36,t3542,[],none⟩⟩,⟨65,[.lft,.rgt,.rgt],(some 3),⟨36,t3545,[],none⟩⟩,⟨65,[.lft,.rgt,.rgt],(some 3),⟨36,t3548,[],none⟩⟩,⟨65,[.lft,.rgt,.rgt],(some 3),⟨36,t3551,[],none⟩⟩,⟨265,[.lft,.rgt],(some 1),⟨9,t3553,[],none⟩⟩,⟨204,[.lft,.thn,.rgt,.lft,.rgt],(some 1),⟨63,t3555,[],none⟩⟩,⟨128,[.lft,.rgt,.rgt],(some 1),⟨19,t3557,[],none⟩⟩,⟨65,[.lft,.thn,.rgt,.lft,.rgt],(some 1),⟨36,t3560,[],none⟩⟩,⟨65,[.lft,.rgt,.rgt],(some 3),⟨36,t3563,[],none⟩⟩,⟨65,[.lft,.rgt,.rgt],(some 3),⟨36,t3566,[],none⟩⟩,⟨65,[.lft,.rgt,.rgt],(some 3),⟨36,t3569,[],none⟩⟩,⟨65,[.lft,.rgt,.rgt],(some 3),⟨36,t3572,[],none⟩⟩,⟨65,[.lft,.rgt,.rgt],(some 3),⟨36,t3575,[],none⟩⟩,⟨19,[.lft,.rgt,.rgt,.rgt,.rgt,.rgt],(some 1),⟨33,t3578,[.call 64 [] [.ptr 1 0,.ptr 2 0]],none⟩⟩,⟨18,[.lft,.rgt],(some 1),⟨19,t1645,[],none⟩⟩],
  ⟨3667,(.node (.node (.node (.node (.node t3589 none (.node (.node (.node (.node .nil none (.node .nil (some (.row 1 (.node .nil (some (.slice 782 178 8 (.opn 2))) .nil) false true [])) .nil)) none .nil) none t1530) none t3586)) none t3591) none t3593) (some (.row 6 t1527 false true [])) (.node t3593 none (.node t3591 none t5344))) (some (.row 6 t10 false true [])) (.node (.node t3593 none t3593) (some (.row 1 (.node .nil (some (.int .i64 (.ofNat 0))) .nil) false true [])) (.node (.node (.node t3589 none (.node (.node t1530 none (.node (.node t142 none t1528) none .nil)) none t3586)) none t3591) none (.node t3591 none t5355)))),gl⟩)
theorem x10p61 : partOk Tryz.prog [] [] 100000 ext10d 169 x10c60 x10c61 = true := by kernel_rfl
theorem x10g61 : Goes Tryz.prog s0 x10c60 x10c61 := goes_of (E := []) (N := []) trivial x10p61 rfl
def t1162 : Tri O := .node t142 none .nil
def t5376 : Tri O := .node t5344 none t5344
def t5378 : Tri O := .node t5376 none t5376
def x10c62 : Cf :=
  ([⟨65,[.lft,.inn,.inn,.inn,.rgt,.rgt,.rgt],none,⟨36,(.node (.node .nil (some (.int .i64 (.ofNat 1))) (.node .nil (some (.ptr 3775 0)) .nil)) (some (.ptr 783 0)) (.node (.node .nil (some (.ptr 847 0)) .nil) none .nil)),[],none⟩⟩,⟨265,[.lft,.rgt],(some 1),⟨9,t3409,[],none⟩⟩,⟨204,[.lft,.thn,.rgt,.lft,.rgt],(some 1),⟨63,t3411,[],none⟩⟩,⟨128,[.lft,.rgt,.rgt],(some 1),⟨19,t3413,[],none⟩⟩,⟨65,[.lft,.thn,.rgt,.lft,.rgt],(some 1),⟨36,t3416,[],none⟩⟩,⟨65,[.lft,.rgt,.rgt],(some 3),⟨36,t3419,[],none⟩⟩,⟨65,[.lft,.rgt,.rgt],(some 3),⟨36,t3422,[],none⟩⟩,⟨65,[.lft,.rgt,.rgt],(some 3),⟨36,t3425,[],none⟩⟩,⟨65,[.lft,.rgt,.rgt],(some 3),⟨36,t3428,[],none⟩⟩,⟨65,[.lft,.rgt,.rgt],(some 3),⟨36,t3431,[],none⟩⟩,⟨265,[.lft,.rgt],(some 1),⟨9,t3433,[],none⟩⟩,⟨204,[.lft,.thn,.rgt,.lft,.rgt],(some 1),⟨63,t3435,[],none⟩⟩,⟨128,[.lft,.rgt,.rgt],(some 1),⟨19,t3437,[],none⟩⟩,⟨65,[.lft,.thn,.rgt,.lft,.rgt],(some 1),⟨36,t3440,[],none⟩⟩,⟨65,[.lft,.rgt,.rgt],(some 3),⟨36,t3443,[],none⟩⟩,⟨65,[.lft,.rgt,.rgt],(some 3),⟨36,t3446,[],none⟩⟩,⟨65,[.lft,.rgt,.rgt],(some 3),⟨36,t3449,[],none⟩⟩,⟨65,[.lft,.rgt,.rgt],(some 3),⟨36,t3452,[],none⟩⟩,⟨65,[.lft,.rgt,.rgt],(some 3),⟨36,t3455,[],none⟩⟩,⟨265,[.lft,.rgt],(some 1),⟨9,t3457,[],none⟩⟩,⟨204,[.lft,.thn,.rgt,.lft,.rgt],(some 1),⟨63,t3459,[],none⟩⟩,⟨128,[.lft,.rgt,.rgt],(some 1),⟨19,t3461,[],none⟩⟩,⟨65,[.lft,.thn,.rgt,.lft,.rgt],(some 1),⟨36,t3464,[],none⟩⟩,⟨65,[.lft,.rgt,.rgt],(some 3),⟨36,t3467,[],none⟩⟩,⟨65,[.lft,.rgt,.rgt],(some 3),⟨36,t3470,[],none⟩⟩,⟨65,[.lft,.rgt,.rgt],(some 3),⟨36,t3473,[],none⟩⟩,⟨65,[.lft,.rgt,.rgt],(some 3),⟨36,t3476,[],none⟩⟩,⟨65,[.lft,.rgt,.rgt],(some 3),⟨36,t3479,[],none⟩⟩,⟨265,[.lft,.rgt],(some 1),⟨9,t3481,[],none⟩⟩,⟨204,[.lft,.thn,.rgt,.lft,.rgt],(some 1),⟨63,t3483,[],none⟩⟩,⟨128,[.lft,.rgt,.rgt],(some 1),⟨19,t3485,[],none⟩⟩,⟨65,[.lft,.thn,.rgt,.lft,.rgt],(some 1),⟨36,t3488,[],none⟩⟩,⟨65,[.lft,.rgt,.rgt],(some 3),⟨36,t3491,[],none⟩⟩,⟨65,[.lft,.rgt,.rgt],(some 3),⟨36,t3494,[],none⟩⟩,⟨65,[.lft,.rgt,.rgt],(some 3),⟨36,t3497,[],none⟩⟩,⟨65,[.lft,.rgt,.rgt],(some 3),⟨36,t3500,[],none⟩⟩,⟨65,[.lft,.rgt,.rgt],(some 3),⟨36,t3503,[],none⟩⟩,⟨265,[.lft,.rgt],(some 1),⟨9,t3505,[],none⟩⟩,⟨204,[.lft,.thn,.rgt,.lft,.rgt],(some 1),⟨63,t3507,[],none⟩⟩,⟨128,[.lft,.rgt,.rgt],(some 1),⟨19,t3509,[],none⟩⟩,⟨65,[.lft,.thn,.rgt,.lft,.rgt],(some 1),⟨36,t3512,[],none⟩⟩,⟨65,[.lft,.rgt,.rgt],(some 3),⟨36,t3515,[],none⟩⟩,⟨65,[.lft,.rgt,.rgt],(some 3),⟨36,t3518,[],none⟩⟩,⟨65,[.lft,.rgt,.rgt],(some 3),⟨36,t3521,[],none⟩⟩,⟨65,[.lft,.rgt,.rgt],(some 3),⟨36,t3524,[],none⟩⟩,⟨65,[.lft,.rgt,.rgt],(some 3),⟨36,t3527,[],none⟩⟩,⟨265,
    [.lft,.rgt],(some 1),⟨9,t3529,[],none⟩⟩,⟨204,[.lft,.thn,.rgt,.lft,.rgt],(some 1),⟨63,t3531,[],none⟩⟩,⟨128,[.lft,.rgt,.rgt],(some 1),⟨19,t3533,[],none⟩⟩,⟨65,[.lft,.thn,.rgt,.lft,.rgt],(some 1),⟨36,t3536,[],none⟩⟩,⟨65,[.lft,.rgt,.rgt],(some 3),⟨36,t3539,[],none⟩⟩,⟨65,[.lft,.rgt,.rgt],(some 3),⟨36,t3542,[],none⟩⟩,⟨65,[.lft,.rgt,.rgt],(some 3),⟨36,t3545,[],none⟩⟩,⟨65,[.lft,.rgt,.rgt],(some 3),⟨36,t3548,[],none⟩⟩,⟨65,[.lft,.rgt,.rgt],(some 3),⟨36,t3551,[],none⟩⟩,⟨265,[.lft,.rgt],(some 1),⟨9,t3553,[],none⟩⟩,⟨204,[.lft,.thn,.rgt,.lft,.rgt],(some 1),⟨63,t3555,[],none⟩⟩,⟨128,[.lft,.rgt,.rgt],(some 1),⟨19,t3557,[],none⟩⟩,⟨65,[.lft,.thn,.rgt,.lft,.rgt],(some 1),⟨36,t3560,[],none⟩⟩,⟨65,[.lft,.rgt,.rgt],(some 3),⟨36,t3563,[],none⟩⟩,⟨65,[.lft,.rgt,.rgt],(some 3),⟨36,t3566,[],none⟩⟩,⟨65,[.lft,.rgt,.rgt],(some 3),⟨36,t3569,[],none⟩⟩,⟨65,[.lft,.rgt,.rgt],(some 3),⟨36,t3572,[],none⟩⟩,⟨65,[.lft,.rgt,.rgt],(some 3),⟨36,t3575,[],none⟩⟩,⟨19,[.lft,.rgt,.rgt,.rgt,.rgt,.rgt],(some 1),⟨33,t3578,[.call 64 [] [.ptr 1 0,.ptr 2 0]],none⟩⟩,⟨18,[.lft,.rgt],(some 1),⟨19,t1645,[],none⟩⟩],
  ⟨3776,(.node (.node (.node (.node (.node (.node (.node .nil none (.node t1529 none t1162)) none t3586) none (.node (.node (.node (.node .nil none (.node .nil (some (.row 1 (.node .nil (some (.slice 782 180 7 (.opn 2))) .nil) false true [])) .nil)) none .nil) none t1530) none t3586)) none t5344) none t5376) (some (.row 6 t1527 false true [])) t5378) (some (.row 6 t10 false true [])) (.node t5378 (some (.row 1 (.node .nil (some (.int .i64 (.ofNat 0))) .nil) false true [])) (.node t5376 none (.node t5344 none t5355)))),gl⟩)
theorem x10p62 : partOk Tryz.prog [] [] 100000 ext10d 152 x10c61 x10c62 = true := by kernel_rfl
theorem x10g62 : Goes Tryz.prog s0 x10c61 x10c62 := goes_of (E := []) (N := []) trivial x10p62 rfl
def t5389 : Tri O := .node .nil none t3586
def t5397 : Tri O := .node t5389 none t5343
def t5399 : Tri O := .node t5397 none t5397
def t5411 : Tri O := .node t3612 none .nil
def x10c63 : Cf :=
  ([⟨65,[.lft,.inn,.inn,.inn,.rgt,.rgt,.rgt],none,⟨36,(.node (.node .nil (some (.int .i64 (.ofNat 2))) (.node .nil (some (.ptr 3885 0)) .nil)) (some (.ptr 783 0)) (.node (.node .nil (some (.ptr 830 0)) .nil) none .nil)),[],none⟩⟩,⟨65,[.lft,.rgt,.rgt],(some 3),⟨36,t3455,[],none⟩⟩,⟨265,[.lft,.rgt],(some 1),⟨9,t3457,[],none⟩⟩,⟨204,[.lft,.thn,.rgt,.lft,.rgt],(some 1),⟨63,t3459,[],none⟩⟩,⟨128,[.lft,.rgt,.rgt],(some 1),⟨19,t3461,[],none⟩⟩,⟨65,[.lft,.thn,.rgt,.lft,.rgt],(some 1),⟨36,t3464,[],none⟩⟩,⟨65,[.lft,.rgt,.rgt],(some 3),⟨36,t3467,[],none⟩⟩,⟨65,[.lft,.rgt,.rgt],(some 3),⟨36,t3470,[],none⟩⟩,⟨65,[.lft,.rgt,.rgt],(some 3),⟨36,t3473,[],none⟩⟩,⟨65,[.lft,.rgt,.rgt],(some 3),⟨36,t3476,[],none⟩⟩,⟨65,[.lft,.rgt,.rgt],(some 3),⟨36,t3479,[],none⟩⟩,⟨265,[.lft,.rgt],(some 1),⟨9,t3481,[],none⟩⟩,⟨204,[.lft,.thn,.rgt,.lft,.rgt],(some 1),⟨63,t3483,[],none⟩⟩,⟨128,[.lft,.rgt,.rgt],(some 1),⟨19,t3485,[],none⟩⟩,⟨65,[.lft,.thn,.rgt,.lft,.rgt],(some 1),⟨36,t3488,[],none⟩⟩,⟨65,[.lft,.rgt,.rgt],(some 3),⟨36,t3491,[],none⟩⟩,⟨65,[.lft,.rgt,.rgt],(some 3),⟨36,t3494,[],none⟩⟩,⟨65,[.lft,.rgt,.rgt],(some 3),⟨36,t3497,[],none⟩⟩,⟨65,[.lft,.rgt,.rgt],(some 3),⟨36,t3500,[],none⟩⟩,⟨65,[.lft,.rgt,.rgt],(some 3),⟨36,t3503,[],none⟩⟩,⟨265,[.lft,.rgt],(some 1),⟨9,t3505,[],none⟩⟩,⟨204,[.lft,.thn,.rgt,.lft,.rgt],(some 1),⟨63,t3507,[],none⟩⟩,⟨128,[.lft,.rgt,.rgt],(some 1),⟨19,t3509,[],none⟩⟩,⟨65,[.lft,.thn,.rgt,.lft,.rgt],(some 1),⟨36,t3512,[],none⟩⟩,⟨65,[.lft,.rgt,.rgt],(some 3),⟨36,t3515,[],none⟩⟩,⟨65,[.lft,.rgt,.rgt],(some 3),⟨36,t3518,[],none⟩⟩,⟨65,[.lft,.rgt,.rgt],(some 3),⟨36,t3521,[],none⟩⟩,⟨65,[.lft,.rgt,.rgt],(some 3),⟨36,t3524,[],none⟩⟩,⟨65,[.lft,.rgt,.rgt],(some 3),⟨36,t3527,[],none⟩⟩,⟨265,[.lft,.rgt],(some 1),⟨9,t3529,[],none⟩⟩,⟨204,[.lft,.thn,.rgt,.lft,.rgt],(some 1),⟨63,t3531,[],none⟩⟩,⟨128,[.lft,.rgt,.rgt],(some 1),⟨19,t3533,[],none⟩⟩,⟨65,[.lft,.thn,.rgt,.lft,.rgt],(some 1),⟨36,t3536,[],none⟩⟩,⟨65,[.lft,.rgt,.rgt],(some 3),⟨36,t3539,[],none⟩⟩,⟨65,[.lft,.rgt,.rgt],(some 3),⟨36,t3542,[],none⟩⟩,⟨65,[.lft,.rgt,.rgt],(some 3),⟨36,t3545,[],none⟩⟩,⟨65,[.lft,.rgt,.rgt],(some 3),⟨36,t3548,[],none⟩⟩,⟨65,[.lft,.rgt,.rgt],(some 3),⟨36,t3551,[],none⟩⟩,⟨265,[.lft,.rgt],(some 1),⟨9,t3553,[],none⟩⟩,⟨204,[.lft,.thn,.rgt,.lft,.rgt],(some 1),⟨63,t3555,[],none⟩⟩,⟨128,[.lft,.rgt,.rgt],(some 1),⟨19,t3557,[],none⟩⟩,⟨65,[.lft,.thn,.rgt,.lft,.rgt],(some 1),⟨36,t3560,[],none⟩⟩,⟨65,[.lft,.rgt,.rgt],(some 3),⟨36,t3563,[],none⟩⟩,⟨65,[.lft,.rgt,.rgt],(some 3),⟨36,t3566,[],none⟩⟩,⟨65,[.lft,.rgt,.rgt],(some 3),⟨36,t3569,[],none⟩⟩,⟨65,[.lft,.rgt,.rgt],(some 3),⟨36,t3572,[],none⟩⟩,⟨65,
    [.lft,.rgt,.rgt],(some 3),⟨36,t3575,[],none⟩⟩,⟨19,[.lft,.rgt,.rgt,.rgt,.rgt,.rgt],(some 1),⟨33,t3578,[.call 64 [] [.ptr 1 0,.ptr 2 0]],none⟩⟩,⟨18,[.lft,.rgt],(some 1),⟨19,t1645,[],none⟩⟩],
  ⟨3886,(.node (.node (.node (.node (.node t5389 none (.node (.node (.node (.node .nil none (.node .nil (some (.row 1 (.node .nil (some (.slice 782 184 5 (.opn 2))) .nil) false true [])) .nil)) none .nil) none .nil) none t3586)) none t5397) none t5399) (some (.row 6 t1527 false true [])) (.node t5399 none (.node t5397 none (.node (.node .nil none (.node (.node (.node .nil none (.node .nil (some (.row 6 t1527 false true [])) t141)) none .nil) none .nil)) none t5343)))) (some (.row 6 t10 false true [])) (.node (.node t5399 none t5399) (some (.row 1 (.node .nil (some (.int .i64 (.ofNat 0))) .nil) false true [])) (.node t5399 none (.node t5397 none (.node (.node t5411 none t3586) none t5343))))),gl⟩)
theorem x10p63 : partOk Tryz.prog [] [] 100000 ext10d 169 x10c62 x10c63 = true := by kernel_rfl
theorem x10g63 : Goes Tryz.prog s0 x10c62 x10c63 := goes_of (E := []) (N := []) trivial x10p63 rfl
def t5430 : Tri O := .node t3586 none .nil
def t5431 : Tri O := .node t5389 none t5430
def t143 : Tri O := .node .nil none t142
def t5439 : Tri O := .node t5431 none t5431
def t5440 : Tri O := .node t5439 none t5439
def t5442 : Tri O := .node t5411 none .nil
def x10c64 : Cf :=
  ([⟨65,[.lft,.inn,.inn,.inn,.rgt,.rgt,.rgt],none,⟨36,(.node (.node .nil (some (.int .i64 (.ofNat 3))) (.node .nil (some (.ptr 3995 0)) .nil)) (some (.ptr 783 0)) (.node (.node .nil (some (.ptr 813 0)) .nil) none .nil)),[],none⟩⟩,⟨65,[.lft,.rgt,.rgt],(some 3),⟨36,t3500,[],none⟩⟩,⟨65,[.lft,.rgt,.rgt],(some 3),⟨36,t3503,[],none⟩⟩,⟨265,[.lft,.rgt],(some 1),⟨9,t3505,[],none⟩⟩,⟨204,[.lft,.thn,.rgt,.lft,.rgt],(some 1),⟨63,t3507,[],none⟩⟩,⟨128,[.lft,.rgt,.rgt],(some 1),⟨19,t3509,[],none⟩⟩,⟨65,[.lft,.thn,.rgt,.lft,.rgt],(some 1),⟨36,t3512,[],none⟩⟩,⟨65,[.lft,.rgt,.rgt],(some 3),⟨36,t3515,[],none⟩⟩,⟨65,[.lft,.rgt,.rgt],(some 3),⟨36,t3518,[],none⟩⟩,⟨65,[.lft,.rgt,.rgt],(some 3),⟨36,t3521,[],none⟩⟩,⟨65,[.lft,.rgt,.rgt],(some 3),⟨36,t3524,[],none⟩⟩,⟨65,[.lft,.rgt,.rgt],(some 3),⟨36,t3527,[],none⟩⟩,⟨265,[.lft,.rgt],(some 1),⟨9,t3529,[],none⟩⟩,⟨204,[.lft,.thn,.rgt,.lft,.rgt],(some 1),⟨63,t3531,[],none⟩⟩,⟨128,[.lft,.rgt,.rgt],(some 1),⟨19,t3533,[],none⟩⟩,⟨65,[.lft,.thn,.rgt,.lft,.rgt],(some 1),⟨36,t3536,[],none⟩⟩,⟨65,[.lft,.rgt,.rgt],(some 3),⟨36,t3539,[],none⟩⟩,⟨65,[.lft,.rgt,.rgt],(some 3),⟨36,t3542,[],none⟩⟩,⟨65,[.lft,.rgt,.rgt],(some 3),⟨36,t3545,[],none⟩⟩,⟨65,[.lft,.rgt,.rgt],(some 3),⟨36,t3548,[],none⟩⟩,⟨65,[.lft,.rgt,.rgt],(some 3),⟨36,t3551,[],none⟩⟩,⟨265,[.lft,.rgt],(some 1),⟨9,t3553,[],none⟩⟩,⟨204,[.lft,.thn,.rgt,.lft,.rgt],(some 1),⟨63,t3555,[],none⟩⟩,⟨128,[.lft,.rgt,.rgt],(some 1),⟨19,t3557,[],none⟩⟩,⟨65,[.lft,.thn,.rgt,.lft,.rgt],(some 1),⟨36,t3560,[],none⟩⟩,⟨65,[.lft,.rgt,.rgt],(some 3),⟨36,t3563,[],none⟩⟩,⟨65,[.lft,.rgt,.rgt],(some 3),⟨36,t3566,[],none⟩⟩,⟨65,[.lft,.rgt,.rgt],(some 3),⟨36,t3569,[],none⟩⟩,⟨65,[.lft,.rgt,.rgt],(some 3),⟨36,t3572,[],none⟩⟩,⟨65,[.lft,.rgt,.rgt],(some 3),⟨36,t3575,[],none⟩⟩,⟨19,[.lft,.rgt,.rgt,.rgt,.rgt,.rgt],(some 1),⟨33,t3578,[.call 64 [] [.ptr 1 0,.ptr 2 0]],none⟩⟩,⟨18,[.lft,.rgt],(some 1),⟨19,t1645,[],none⟩⟩],
  ⟨3996,(.node (.node (.node (.node (.node t5389 none (.node (.node (.node (.node .nil none (.node .nil (some (.row 1 (.node .nil (some (.slice 782 188 3 (.opn 2))) .nil) false true [])) .nil)) none .nil) none .nil) none .nil)) none t5431) none (.node t5431 none (.node t5389 none (.node (.node (.node t1529 none t143) none .nil) none .nil)))) (some (.row 6 t1527 false true [])) t5440) (some (.row 6 t10 false true [])) (.node t5440 (some (.row 1 (.node .nil (some (.int .i64 (.ofNat 0))) .nil) false true [])) (.node t5439 none (.node t5431 none (.node t5442 none t5430))))),gl⟩)
theorem x10p64 : partOk Tryz.prog [] [] 100000 ext10d 169 x10c63 x10c64 = true := by kernel_rfl
theorem x10g64 : Goes Tryz.prog s0 x10c63 x10c64 := goes_of (E := []) (N := []) trivial x10p64 rfl
def t5460 : Tri O := .node .nil none t5430
def t5462 : Tri O := .node t5460 none t5460
def x10c65 : Cf :=
  ([⟨65,[.lft,.inn,.inn,.inn,.rgt,.rgt,.rgt],none,⟨36,(.node (.node .nil (some (.int .i64 (.ofNat 4))) (.node .nil (some (.ptr 4105 0)) .nil)) (some (.ptr 783 0)) (.node (.node .nil (some (.ptr 796 0)) .nil) none .nil)),[],none⟩⟩,⟨65,[.lft,.rgt,.rgt],(some 3),⟨36,t3545,[],none⟩⟩,⟨65,[.lft,.rgt,.rgt],(some 3),⟨36,t3548,[],none⟩⟩,⟨65,[.lft,.rgt,.rgt],(some 3),⟨36,t3551,[],none⟩⟩,⟨265,[.lft,.rgt],(some 1),⟨9,t3553,[],none⟩⟩,⟨204,[.lft,.thn,.rgt,.lft,.rgt],(some 1),⟨63,t3555,[],none⟩⟩,⟨128,[.lft,.rgt,.rgt],(some 1),⟨19,t3557,[],none⟩⟩,⟨65,[.lft,.thn,.rgt,.lft,.rgt],(some 1),⟨36,t3560,[],none⟩⟩,⟨65,[.lft,.rgt,.rgt],(some 3),⟨36,t3563,[],none⟩⟩,⟨65,[.lft,.rgt,.rgt],(some 3),⟨36,t3566,[],none⟩⟩,⟨65,[.lft,.rgt,.rgt],(some 3),⟨36,t3569,[],none⟩⟩,⟨65,[.lft,.rgt,.rgt],(some 3),⟨36,t3572,[],none⟩⟩,⟨65,[.lft,.rgt,.rgt],(some 3),⟨36,t3575,[],none⟩⟩,⟨19,[.lft,.rgt,.rgt,.rgt,.rgt,.rgt],(some 1),⟨33,t3578,[.call 64 [] [.ptr 1 0,.ptr 2 0]],none⟩⟩,⟨18,[.lft,.rgt],(some 1),⟨19,t1645,[],none⟩⟩],
  ⟨4106,(.node (.node (.node (.node (.node .nil none (.node (.node (.node (.node .nil none (.node .nil (some (.row 1 (.node .nil (some (.slice 782 192 1 (.opn 2))) .nil) false true [])) .nil)) none .nil) none .nil) none .nil)) none t5460) none t5462) (some (.row 6 t1527 false true [])) (.node (.node t5460 none (.node (.node (.node (.node (.node (.node t4905 none .nil) none .nil) none .nil) none .nil) none .nil) none t5430)) none (.node t5460 none .nil))) (some (.row 6 t10 false true [])) (.node (.node t5462 none t5462) (some (.row 1 (.node .nil (some (.int .i64 (.ofNat 0))) .nil) false true [])) (.node t5462 none (.node t5460 none (.node t5442 none .nil))))),gl⟩)
theorem x10p65 : partOk Tryz.prog [] [] 100000 ext10d 169 x10c64 x10c65 = true := by kernel_rfl
theorem x10g65 : Goes Tryz.prog s0 x10c64 x10c65 := goes_of (E := []) (N := []) trivial x10p65 rfl
theorem x10last : lastV Tryz.prog [] [] 100000 ext10d 169 x10c65 18 (.bool true) = true := by kernel_rfl
theorem ext10 : Ext.ok Tryz.prog s0 ⟨18,[.str [40,40,40,40,40,40,40,40,40,40,40,40,40,40,40,40,40,40,40,40,40,40,40,40,40,40,40,40,40,40,40,40,40,40,40,40,40,40,40,40,40,40,40,40,40,40,40,40,97,41,41,41,41,41,41,41,41,41,41,41,41,41,41,41,41,41,41,41,41,41,41,41,41,41,41,41,41,41,41,41,41,41,41,41,41,41,41,41,41,41,41,41,41,41,41,41,41],.agg [.int .u8 (.ofNat 2),.int .u8 (.ofNat 0),.int .i64 (.ofNat 0),.str [],.str [97],.nils]],.bool true⟩ := ext_parts (E := []) (N := []) trivial (by kernel_rfl) (by kernel_rfl) (by kernel_rfl) ((((((((((((((((((((((((((((((((((((((((((((((((((((((((((((((((x10g1.trans x10g2).trans x10g3).trans x10g4).trans x10g5).trans x10g6).trans x10g7).trans x10g8).trans x10g9).trans x10g10).trans x10g11).trans x10g12).trans x10g13).trans x10g14).trans x10g15).trans x10g16).trans x10g17).trans x10g18).trans x10g19).trans x10g20).trans x10g21).trans x10g22).trans x10g23).trans x10g24).trans x10g25).trans x10g26).trans x10g27).trans x10g28).trans x10g29).trans x10g30).trans x10g31).trans x10g32).trans x10g33).trans x10g34).trans x10g35).trans x10g36).trans x10g37).trans x10g38).trans x10g39).trans x10g40).trans x10g41).trans x10g42).trans x10g43).trans x10g44).trans x10g45).trans x10g46).trans x10g47).trans x10g48).trans x10g49).trans x10g50).trans x10g51).trans x10g52).trans x10g53).trans x10g54).trans x10g55).trans x10g56).trans x10g57).trans x10g58).trans x10g59).trans x10g60).trans x10g61).trans x10g62).trans x10g63).trans x10g64).trans x10g65) x10last
def exts : List Ext := [⟨13,[.int .i64 (.ofNat 2)],.agg [.int .u8 (.ofNat 1),.int .u8 (.ofNat 1),.int .i64 (.ofNat 2),.str [],.str [],.nils]⟩,⟨14,[.str [120]],.agg [.int .u8 (.ofNat 1),.int .u8 (.ofNat 3),.int .i64 (.ofNat 0),.str [120],.str [],.nils]⟩,⟨16,[.str [32,32,32,32,32,32,32,32,32,32,32,32,32,32,32,32,32,32,32,32,32,32,32,32,32,32,32,32,32,32,32,32,32,32,32,32,32,32,32,32,32,32,32,32,32,32,32,32,32,32,32,32,32,32,32,32,32,32,32,32,32,32,32,32,32,32,32,32,32,32,32,32,32,32,32,32,32,32,32,32,32,32,32,32,32,32,32,32,32,32,32,32,32,32,32,32,32,32,32,32,32],.int .i64 (.ofNat 40)],.bool true⟩,⟨16,[.str [45,45,45,45,45,45,45,45,45,45,45,45,45,45,45,45,97],.int .i64 (.ofNat 40)],.bool true⟩,⟨16,[.str [97,32,60,32,98,32,60,32,99],.int .i64 (.ofNat 4)],.bool true⟩,⟨16,[.str [97,43,97,43,97,43,97,43,97,43,97,43,97,43,97,43,97,43,97,43,97,43,97,43,97,43,97,43,97,43,97,43,97,43,97,43,97,43,97,43,97,43,97,43,97,43,97,43,97,43,97,43,97,43,97,43,97,43,97,43,97,43,97,43,97,43,97,43,97,43,97,43,97,43,97,43,97,43,97,43,97,43,97,43,97,43,97,43,97,43,97,43,97,43,97,43,97,43,97,43,97,43],.int .i64 (.ofNat 40)],.bool true⟩,⟨17,[.int .i64 (.ofNat 101),.str [32]],.str [32,32,32,32,32,32,32,32,32,32,32,32,32,32,32,32,32,32,32,32,32,32,32,32,32,32,32,32,32,32,32,32,32,32,32,32,32,32,32,32,32,32,32,32,32,32,32,32,32,32,32,32,32,32,32,32,32,32,32,32,32,32,32,32,32,32,32,32,32,32,32,32,32,32,32,32,32,32,32,32,32,32,32,32,32,32,32,32,32,32,32,32,32,32,32,32,32,32,32,32,32]⟩,⟨17,[.int .i64 (.ofNat 48),.str [40]],.str [40,40,40,40,40,40,40,40,40,40,40,40,40,40,40,40,40,40,40,40,40,40,40,40,40,40,40,40,40,40,40,40,40,40,40,40,40,40,40,40,40,40,40,40,40,40,40,40]⟩,⟨17,[.int .i64 (.ofNat 48),.str [41]],.str [41,41,41,41,41,41,41,41,41,41,41,41,41,41,41,41,41,41,41,41,41,41,41,41,41,41,41,41,41,41,41,41,41,41,41,41,41,41,41,41,41,41,41,41,41,41,41,41]⟩,⟨17,[.int .i64 (.ofNat 51),.str [97,43]],.str [97,43,97,43,97,43,97,43,97,43,97,43,97,43,97,43,97,43,97,43,97,43,97,43,97,43,97,43,97,43,97,43,97,43,97,43,97,43,97,43,97,43,97,43,97,43,97,43,97,43,97,43,97,43,97,43,97,43,97,43,97,43,97,43,97,43,97,43,97,43,97,43,97,43,97,43,97,43,97,43,97,43,97,43,97,43,97,43,97,43,97,43,97,43,97,43,97,43,97,43,97,43]⟩,⟨18,[.str [40,40,40,40,40,40,40,40,40,40,40,40,40,40,40,40,40,40,40,40,40,40,40,40,40,40,40,40,40,40,40,40,40,40,40,40,40,40,40,40,40,40,40,40,40,40,40,40,97,41,41,41,41,41,41,41,41,41,41,41,41,41,41,41,41,41,41,41,41,41,41,41,41,41,41,41,41,41,41,41,41,41,41,41,41,41,41,41,41,41,41,41,41,41,41,41,41],.agg [.int .u8 (.ofNat 2),.int .u8 (.ofNat 0),.int .i64 (.ofNat 0),.str [],.str [97],.nils]],.bool true⟩,⟨18,[.str [40,97,41],.agg [.int .u8 (.ofNat 2),.int .u8 (.ofNat 0),.int .i64 (.ofNat 0),.str [],.str [97],.nils]],.bool true⟩]
theorem exts_ok : ExtOk Tryz.prog s0 exts := ⟨ext0,ext1,ext2,ext3,ext4,ext5,ext6,ext7,ext8,ext9,ext10,ext11,trivial⟩
def deep : List FuncId := [18,15,9]
def many : List FuncId := [61]
def t13 : Tri V := .node (.node .nil (some (.str [99])) .nil) (some (.int .i64 (.ofNat 0))) .nil
def t14 : Tri V := .node t7 (some (.int .u8 (.ofNat 2))) t13
def t15 : Tri O := .node .nil (some (.row 6 t14 false true [])) .nil
def t18 : Tri V := .node (.node .nil (some (.str [98])) .nil) (some (.int .i64 (.ofNat 0))) .nil
def t19 : Tri V := .node t7 (some (.int .u8 (.ofNat 2))) t18
def t20 : Tri O := .node .nil (some (.row 6 t19 false true [])) .nil
def c1 : Cf :=
  ([⟨9,[.lft,.rgt,.rgt],none,⟨38,(.node (.node (.node .nil (some (.ptr 5 0)) .nil) (some (.ptr 3 0)) .nil) (some (.bool false)) (.node .nil (some (.ptr 4 0)) .nil)),[],none⟩⟩,⟨3,[.lft,.lft,.rgt],(some 0),⟨277,(.node .nil (some (.bool false)) .nil),[],none⟩⟩],
  ⟨6,(.node (.node t11 none t15) none (.node t20 none .nil)),gl⟩)
def c2 : Cf :=
  ([⟨9,[.rgt,.rgt,.rgt],none,⟨38,(.node .nil (some (.bool true)) .nil),[],none⟩⟩,⟨3,[.lft,.lft,.rgt],(some 0),⟨277,(.node .nil (some (.bool false)) .nil),[],none⟩⟩],
  ⟨909,.nil,gl⟩)
def t29 : Tri V := .node .nil none (.node (.node .nil (some (.bool true)) .nil) none .nil)
def t30 : Tri V := .node .nil (some (.agg [.int .u8 (.ofNat 15),.int .u8 (.ofNat 0),.int .i64 (.ofNat 0),.str [],.str [],.slice 931 0 2 (.known 2)])) .nil
def t34 : Tri V := .node .nil (some (.str [97,32,45,32,40,98,32,45,32,99,41])) .nil
def t44 : Tri V := .node .nil none (.node .nil (some (.int .i64 (.ofNat 1))) .nil)
def t45 : Tri V := .node .nil none t44
def t47 : Tri V := .node .nil none (.node .nil none (.node .nil (some (.bool true)) .nil))
def t51 : Tri V := .node .nil none (.node .nil (some (.slice 1016 0 17 (.known 17))) .nil)
def t52 : Tri V := .node .nil none t51
def t67 : Tri V := .node .nil none (.node .nil none (.node .nil (some (.bool false)) .nil))
def t68 : Tri V := .node t47 none t67
def t71 : Tri V := .node .nil none (.node .nil (some (.int .i64 (.ofNat 17))) .nil)
def t72 : Tri V := .node .nil none t71
def t84 : Tri V := .node (.node .nil (some (.int .u8 (.ofNat 0))) .nil) (some (.str [])) (.node .nil (some (.nils)) .nil)
def t85 : Tri V := .node (.node .nil (some (.str [])) .nil) (some (.nils)) .nil
def t86 : Tri V := .node t84 (some (.int .u8 (.ofNat 0))) t85
def t88 : Tri V := .node (.node .nil (some (.int .i64 (.ofNat 0))) .nil) (some (.str [98])) .nil
def t89 : Tri V := .node (.node .nil (some (.str [99])) .nil) (some (.int .u8 (.ofNat 2))) .nil
def t90 : Tri V := .node t88 (some (.int .i64 (.ofNat 0))) t89
def t91 : Tri V := .node t86 (some (.int .u8 (.ofNat 2))) t90
def t92 : Tri O := .node .nil (some (.row 12 t91 false true [])) .nil
def t93 : Tri O := .node .nil none t92
def t94 : Tri O := .node .nil none t93
def t95 : Tri O := .node .nil none t94
def t96 : Tri O := .node t94 none .nil
def t97 : Tri O := .node t95 none t96
def t98 : Tri V := .node (.node .nil (some (.int .i64 (.ofNat 0))) .nil) (some (.str [97])) .nil
def t99 : Tri V := .node (.node .nil (some (.str [98])) .nil) (some (.int .u8 (.ofNat 2))) .nil
def t100 : Tri V := .node t98 (some (.int .i64 (.ofNat 0))) t99
def t101 : Tri V := .node t86 (some (.int .u8 (.ofNat 2))) t100
def t102 : Tri O := .node .nil (some (.row 12 t101 false true [])) .nil
def t103 : Tri O := .node .nil none t102
def t104 : Tri O := .node .nil none t103
def t105 : Tri O := .node t104 none .nil
def t106 : Tri O := .node .nil none t105
def t107 : Tri O := .node t97 none t106
def t108 : Tri V := .node (.node .nil (some (.str [])) .nil) (some (.slice 979 0 1 (.known 1))) .nil
def t109 : Tri V := .node t84 (some (.int .u8 (.ofNat 0))) t108
def t110 : Tri V := .node (.node .nil (some (.int .i64 (.ofNat 0))) .nil) (some (.str [])) .nil
def t111 : Tri V := .node t110 (some (.int .i64 (.ofNat 0))) t99
def t112 : Tri V := .node t109 (some (.int .u8 (.ofNat 3))) t111
def t113 : Tri O := .node .nil (some (.row 12 t112 false true [])) .nil
def t114 : Tri O := .node .nil none t113
def t115 : Tri O := .node .nil none t114
def t116 : Tri O := .node t104 none t115
def t117 : Tri O := .node t116 none t105
def t118 : Tri O := .node t106 none t117
def t119 : Tri O := .node t107 none t118
def t121 : Tri V := .node (.node .nil (some (.int .u8 (.ofNat 0))) .nil) (some (.str [])) (.node .nil (some (.slice 959 0 2 (.known 2))) .nil)
def t122 : Tri V := .node t121 (some (.int .u8 (.ofNat 0))) t85
def t123 : Tri V := .node (.node .nil (some (.str [])) .nil) (some (.int .u8 (.ofNat 12))) .nil
def t124 : Tri V := .node t98 (some (.int .i64 (.ofNat 0))) t123
def t125 : Tri V := .node t122 (some (.int .u8 (.ofNat 2))) t124
def t126 : Tri O := .node .nil (some (.row 12 t125 false true [])) .nil
def t127 : Tri O := .node .nil none t126
def t128 : Tri O := .node .nil none t127
def t129 : Tri O := .node .nil none t128
def t131 : Tri V := .node (.node .nil (some (.int .u8 (.ofNat 0))) .nil) (some (.str [])) (.node .nil (some (.slice 927 0 2 (.known 2))) .nil)
def t132 : Tri V := .node t131 (some (.int .u8 (.ofNat 0))) t85
def t133 : Tri V := .node (.node .nil (some (.str [])) .nil) (some (.int .u8 (.ofNat 15))) .nil
def t134 : Tri V := .node t98 (some (.int .i64 (.ofNat 0))) t133
def t135 : Tri V := .node t132 (some (.int .u8 (.ofNat 2))) t134
def t136 : Tri O := .node .nil (some (.row 12 t135 false true [])) .nil
def t137 : Tri O := .node .nil none t136
def t138 : Tri O := .node .nil none t137
def t139 : Tri O := .node t138 none .nil
def t140 : Tri O := .node t129 none t139
def t144 : Tri V := .node (.node .nil (some (.str [])) .nil) (some (.slice 943 0 2 (.known 2))) .nil
def t145 : Tri V := .node t84 (some (.int .u8 (.ofNat 0))) t144
def t146 : Tri V := .node t110 (some (.int .i64 (.ofNat 0))) t89
def t147 : Tri V := .node t145 (some (.int .u8 (.ofNat 13))) t146
def t148 : Tri O := .node .nil (some (.row 12 t147 false true [])) .nil
def t149 : Tri O := .node .nil none t148
def t150 : Tri O := .node .nil none t149
def t151 : Tri O := .node t150 none t142
def t152 : Tri O := .node t143 none t151
def t153 : Tri O := .node t140 none t152
def t155 : Tri V := .node (.node .nil (some (.str [])) .nil) (some (.int .u8 (.ofNat 0))) (.node .nil (some (.slice 931 0 2 (.known 2))) .nil)
def t163 : Tri V := .node (.node .nil (some (.str [])) .nil) (some (.slice 935 0 2 (.known 2))) .nil
def t164 : Tri V := .node t84 (some (.int .u8 (.ofNat 0))) t163
def t165 : Tri V := .node t164 (some (.int .u8 (.ofNat 14))) t146
def t166 : Tri O := .node .nil (some (.row 12 t165 false true [])) .nil
def t167 : Tri O := .node .nil none t166
def t168 : Tri O := .node .nil none t167
def t169 : Tri O := .node t168 none .nil
def t171 : Tri V := .node (.node .nil (some (.str [])) .nil) (some (.slice 919 0 2 (.known 2))) .nil
def t172 : Tri V := .node t84 (some (.int .u8 (.ofNat 0))) t171
def t173 : Tri V := .node t172 (some (.int .u8 (.ofNat 15))) t146
def t174 : Tri O := .node .nil (some (.row 12 t173 false true [])) .nil
def t175 : Tri O := .node .nil none t174
def t176 : Tri O := .node .nil none t175
def t177 : Tri O := .node t176 none t104
def t178 : Tri V := .node (.node .nil (some (.str [])) .nil) (some (.slice 951 0 2 (.known 2))) .nil
def t179 : Tri V := .node t84 (some (.int .u8 (.ofNat 0))) t178
def t180 : Tri V := .node t179 (some (.int .u8 (.ofNat 9))) t146
def t181 : Tri O := .node .nil (some (.row 12 t180 false true [])) .nil
def t182 : Tri O := .node .nil none t181
def t183 : Tri O := .node .nil none t182
def t184 : Tri O := .node t183 none .nil
def t185 : Tri O := .node t177 none t184
def t189 : Tri O := .node .nil none t20
def t190 : Tri O := .node .nil none t189
def t191 : Tri O := .node t190 none .nil
def t192 : Tri O := .node t191 none .nil
def t193 : Tri O := .node .nil none t192
def t195 : Tri V := .node (.node .nil (some (.str [])) .nil) (some (.int .u8 (.ofNat 0))) (.node .nil (some (.slice 966 0 1 (.known 1))) .nil)
def t196 : Tri V := .node t195 (some (.int .u8 (.ofNat 3))) t156
def t197 : Tri O := .node .nil (some (.row 6 t196 false true [])) .nil
def t198 : Tri O := .node .nil none t197
def t199 : Tri O := .node .nil none t198
def t200 : Tri O := .node .nil none t199
def t201 : Tri O := .node t200 none .nil
def t202 : Tri O := .node t201 none .nil
def t203 : Tri O := .node t193 none t202
def t204 : Tri O := .node .nil none t104
def t205 : Tri O := .node t204 none .nil
def t206 : Tri O := .node t205 none .nil
def t207 : Tri O := .node .nil none t206
def t208 : Tri O := .node t203 none t207
def t211 : Tri V := .node (.node .nil (some (.str [])) .nil) (some (.int .u8 (.ofNat 0))) (.node .nil (some (.slice 973 0 2 (.known 2))) .nil)
def t212 : Tri V := .node t211 (some (.int .u8 (.ofNat 5))) t156
def t213 : Tri O := .node .nil (some (.row 6 t212 false true [])) .nil
def t214 : Tri O := .node .nil none t213
def t215 : Tri O := .node .nil none t214
def t216 : Tri O := .node t142 none t215
def t217 : Tri O := .node t216 none .nil
def t218 : Tri O := .node .nil none t217
def t220 : Tri V := .node (.node .nil (some (.int .u8 (.ofNat 4))) .nil) (some (.str [])) (.node .nil (some (.str [])) .nil)
def t221 : Tri V := .node .nil (some (.str [108,101,110,40,108,101,110,40,97,41,41])) .nil
def t222 : Tri V := .node (.node .nil (some (.int .i64 (.ofNat 0))) .nil) (some (.slice 969 0 1 (.known 1))) t221
def t223 : Tri V := .node t220 (some (.int .u8 (.ofNat 0))) t222
def t224 : Tri V := .node (.node .nil (some (.str [])) .nil) (some (.str [45,40,97,32,42,32,98,41])) .nil
def t225 : Tri V := .node t84 (some (.int .i64 (.ofNat 0))) t224
def t226 : Tri V := .node t223 (some (.int .u8 (.ofNat 15))) t225
def t228 : Tri V := .node (.node .nil (some (.str [])) .nil) (some (.int .u8 (.ofNat 11))) (.node .nil (some (.int .u8 (.ofNat 1))) .nil)
def t229 : Tri V := .node .nil (some (.str [97,32,47,32,40,98,32,37,32,99,41])) .nil
def t230 : Tri V := .node t229 (some (.int .i64 (.ofNat 0))) (.node .nil (some (.str [])) .nil)
def t231 : Tri V := .node t228 (some (.slice 939 0 2 (.known 2))) t230
def t233 : Tri V := .node (.node .nil (some (.slice 998 0 2 (.known 2))) .nil) (some (.int .u8 (.ofNat 0))) (.node .nil (some (.int .i64 (.ofNat 0))) .nil)
def t234 : Tri V := .node (.node .nil (some (.int .u8 (.ofNat 1))) .nil) (some (.str [])) .nil
def t235 : Tri V := .node t233 (some (.str [97,32,38,32,98,32,124,32,99])) t234
def t236 : Tri V := .node t231 (some (.str [])) t235
def t237 : Tri V := .node t226 (some (.str [])) t236
def t239 : Tri V := .node (.node .nil (some (.int .i64 (.ofNat 0))) .nil) (some (.slice 955 0 2 (.known 2))) (.node .nil (some (.str [39,105,116,32,39])) .nil)
def t240 : Tri V := .node (.node .nil (some (.str [])) .nil) (some (.int .u8 (.ofNat 3))) (.node .nil (some (.int .u8 (.ofNat 0))) .nil)
def t241 : Tri V := .node t239 (some (.str [])) t240
def t243 : Tri V := .node (.node .nil (some (.str [])) .nil) (some (.str [97,32,61,61,32,40,98,32,33,61,32,99,41])) (.node .nil (some (.int .u8 (.ofNat 16))) .nil)
def t244 : Tri V := .node (.node .nil (some (.nils)) .nil) (some (.int .u8 (.ofNat 0))) .nil
def t245 : Tri V := .node t243 (some (.str [])) t244
def t246 : Tri V := .node t241 (some (.int .i64 (.ofNat 0))) t245
def t247 : Tri V := .node .nil (some (.str [33,40,97,32,60,61,32,98,41])) .nil
def t248 : Tri V := .node t247 (some (.int .i64 (.ofNat 0))) (.node .nil (some (.str [])) .nil)
def t250 : Tri V := .node (.node .nil (some (.int .u8 (.ofNat 2))) .nil) (some (.str [])) (.node .nil (some (.nils)) .nil)
def t251 : Tri V := .node t248 (some (.int .u8 (.ofNat 14))) t250
def t253 : Tri V := .node (.node .nil (some (.int .u8 (.ofNat 6))) .nil) (some (.str [])) (.node .nil (some (.str [])) .nil)
def t254 : Tri V := .node (.node .nil (some (.int .i64 (.ofNat 0))) .nil) (some (.slice 983 0 2 (.known 2))) .nil
def t255 : Tri V := .node t253 (some (.int .u8 (.ofNat 0))) t254
def t256 : Tri V := .node t251 (some (.str [97,32,45,32,40,98,32,45,32,99,41])) t255
def t257 : Tri V := .node t246 (some (.slice 923 0 2 (.known 2))) t256
def t258 : Tri V := .node t237 (some (.int .u8 (.ofNat 0))) t257
def t259 : Tri V := .node (.node .nil (some (.str [])) .nil) (some (.str [45,45,97])) (.node .nil (some (.int .u8 (.ofNat 2))) .nil)
def t260 : Tri V := .node t84 (some (.int .i64 (.ofNat 0))) t259
def t261 : Tri V := .node .nil (some (.str [57,50,50,51,51,55,50,48,51,54,56,53,52,55,55,53,56,48,55])) .nil
def t262 : Tri V := .node (.node .nil (some (.int .i64 (.ofNat 0))) .nil) (some (.slice 963 0 2 (.known 2))) t261
def t263 : Tri V := .node (.node .nil (some (.str [])) .nil) (some (.int .u8 (.ofNat 5))) .nil
def t264 : Tri V := .node t262 (some (.str [])) t263
def t265 : Tri V := .node t260 (some (.int .u8 (.ofNat 0))) t264
def t267 : Tri V := .node .nil (some (.int .i64 (.ofNat 9223372036854775807))) .nil
def t268 : Tri V := .node (.node .nil (some (.slice 990 0 1 (.known 1))) .nil) (some (.int .u8 (.ofNat 0))) t267
def t270 : Tri V := .node (.node .nil (some (.int .u8 (.ofNat 1))) .nil) (some (.str [])) (.node .nil (some (.str [110,111,95,49])) .nil)
def t271 : Tri V := .node t268 (some (.str [40,97,32,124,32,98,41,32,38,32,99])) t270
def t273 : Tri V := .node (.node .nil (some (.str [97,32,45,32,45,53])) .nil) (some (.int .i64 (.ofNat 0))) (.node .nil (some (.str [])) .nil)
def t275 : Tri V := .node (.node .nil (some (.int .u8 (.ofNat 3))) .nil) (some (.str [])) .nil
def t276 : Tri V := .node t273 (some (.int .u8 (.ofNat 9))) t275
def t277 : Tri V := .node t271 (some (.slice 931 0 2 (.known 2))) t276
def t278 : Tri V := .node t265 (some (.str [])) t277
def t279 : Tri V := .node (.node .nil (some (.str [])) .nil) (some (.str [40,97,32,60,32,98,41,32,60,32,99])) (.node .nil (some (.int .u8 (.ofNat 1))) .nil)
def t281 : Tri V := .node (.node .nil (some (.slice 1006 0 2 (.known 2))) .nil) (some (.int .u8 (.ofNat 0))) (.node .nil (some (.int .i64 (.ofNat 0))) .nil)
def t282 : Tri V := .node t279 (some (.str [])) t281
def t284 : Tri V := .node (.node .nil (some (.str [121,101,115])) .nil) (some (.int .i64 (.ofNat 0))) .nil
def t285 : Tri V := .node t240 (some (.slice 947 0 2 (.known 2))) t284
def t286 : Tri V := .node t282 (some (.str [])) t285
def t288 : Tri V := .node (.node .nil (some (.int .u8 (.ofNat 15))) .nil) (some (.str [])) (.node .nil (some (.str [])) .nil)
def t289 : Tri V := .node (.node .nil (some (.int .i64 (.ofNat 1))) .nil) (some (.slice 976 0 1 (.known 1))) (.node .nil (some (.str [110,111,95,49])) .nil)
def t290 : Tri V := .node t288 (some (.int .u8 (.ofNat 0))) t289
def t292 : Tri V := .node (.node .nil (some (.int .u8 (.ofNat 0))) .nil) (some (.str [])) (.node .nil (some (.slice 1014 0 1 (.known 1))) .nil)
def t294 : Tri V := .node (.node .nil (some (.str [105,116,32])) .nil) (some (.str [45,97,32,42,32,98])) .nil
def t295 : Tri V := .node t292 (some (.int .i64 (.ofNat 0))) t294
def t296 : Tri V := .node t290 (some (.int .u8 (.ofNat 13))) t295
def t297 : Tri V := .node t286 (some (.str [97,32,45,32,98,32,45,32,99])) t296
def t298 : Tri V := .node t278 (some (.int .i64 (.ofNat 0))) t297
def t299 : Tri V := .node t258 (some (.int .u8 (.ofNat 15))) t298
def t300 : Tri O := .node .nil (some (.row 119 t299 false true [])) .nil
def t301 : Tri O := .node .nil none t300
def t302 : Tri O := .node .nil none t301
def t303 : Tri O := .node .nil none t302
def t304 : Tri O := .node .nil none t303
def t305 : Tri O := .node .nil none t304
def t306 : Tri O := .node t218 none t305
def t307 : Tri O := .node t306 none .nil
def t308 : Tri V := .node (.node .nil (some (.str [])) .nil) (some (.int .u8 (.ofNat 1))) (.node .nil (some (.nils)) .nil)
def t309 : Tri V := .node (.node .nil (some (.str [])) .nil) (some (.int .i64 (.ofNat 5))) .nil
def t310 : Tri V := .node t308 (some (.int .u8 (.ofNat 1))) t309
def t311 : Tri O := .node .nil (some (.row 6 t310 false true [])) .nil
def t312 : Tri O := .node .nil none t311
def t313 : Tri O := .node .nil none t312
def t314 : Tri O := .node .nil none t313
def t315 : Tri O := .node .nil none t314
def t316 : Tri O := .node .nil none t15
def t317 : Tri O := .node .nil none t316
def t318 : Tri O := .node t317 none .nil
def t319 : Tri O := .node t318 none .nil
def t320 : Tri O := .node t315 none t319
def t321 : Tri O := .node .nil none t95
def t322 : Tri O := .node t321 none .nil
def t323 : Tri O := .node t320 none t322
def t332 : Tri V := .node (.node .nil (some (.int .u8 (.ofNat 0))) .nil) (some (.str [])) (.node .nil (some (.slice 994 0 1 (.known 1))) .nil)
def t333 : Tri V := .node t332 (some (.int .u8 (.ofNat 0))) t85
def t334 : Tri V := .node (.node .nil (some (.str [])) .nil) (some (.int .u8 (.ofNat 3))) .nil
def t335 : Tri V := .node t98 (some (.int .i64 (.ofNat 0))) t334
def t336 : Tri V := .node t333 (some (.int .u8 (.ofNat 2))) t335
def t337 : Tri O := .node .nil (some (.row 12 t336 false true [])) .nil
def t338 : Tri O := .node .nil none t337
def t339 : Tri O := .node .nil none t338
def t340 : Tri O := .node .nil none t339
def t343 : Tri V := .node (.node .nil (some (.str [])) .nil) (some (.int .u8 (.ofNat 0))) (.node .nil (some (.slice 1011 0 1 (.known 1))) .nil)
def t344 : Tri V := .node t343 (some (.int .u8 (.ofNat 16))) t156
def t345 : Tri O := .node .nil (some (.row 6 t344 false true [])) .nil
def t346 : Tri O := .node .nil none t345
def t347 : Tri O := .node .nil none t346
def t348 : Tri O := .node .nil none t347
def t349 : Tri O := .node .nil none t348
def t352 : Tri V := .node (.node .nil (some (.int .u8 (.ofNat 0))) .nil) (some (.str [])) (.node .nil (some (.slice 1002 0 2 (.known 2))) .nil)
def t353 : Tri V := .node t352 (some (.int .u8 (.ofNat 0))) t85
def t354 : Tri V := .node (.node .nil (some (.str [])) .nil) (some (.int .u8 (.ofNat 7))) .nil
def t355 : Tri V := .node t98 (some (.int .i64 (.ofNat 0))) t354
def t356 : Tri V := .node t353 (some (.int .u8 (.ofNat 2))) t355
def t357 : Tri O := .node .nil (some (.row 12 t356 false true [])) .nil
def t358 : Tri O := .node .nil none t357
def t359 : Tri O := .node .nil none t358
def t360 : Tri O := .node .nil none t359
def t361 : Tri O := .node .nil none t360
def t363 : Tri V := .node (.node .nil (some (.str [])) .nil) (some (.int .u8 (.ofNat 0))) (.node .nil (some (.slice 987 0 2 (.known 2))) .nil)
def t364 : Tri V := .node t363 (some (.int .u8 (.ofNat 10))) t156
def t365 : Tri O := .node .nil (some (.row 6 t364 false true [])) .nil
def t366 : Tri O := .node .nil none t365
def t367 : Tri O := .node .nil none t366
def t368 : Tri O := .node .nil none t367
def t369 : Tri O := .node t368 none .nil
def t370 : Tri O := .node t361 none t369
def c3 : Cf :=
  ([⟨18,[.lft,.rgt],none,⟨19,(.node (.node (.node .nil (some (.ptr 1355 0)) .nil) none .nil) (some (.str [97,32,45,32,40,98,32,45,32,99,41])) (.node (.node .nil (some (.bool false)) .nil) none .nil)),[],none⟩⟩,⟨15,[.lft,.rgt,.rgt],(some 10),⟨24,(.node (.node t29 none (.node .nil none (.node t30 none .nil))) none (.node (.node .nil (some (.bool false)) (.node t34 none .nil)) none .nil)),[],none⟩⟩,⟨3,[.lft,.rgt,.inn,.lft,.rgt,.rgt,.inn,.inn,.rgt,.lft,.rgt,.rgt,.rgt,.rgt],(some 4),⟨277,(.node (.node (.node (.node .nil none (.node .nil none (.node .nil none (.node .nil (some (.ptr 1286 0)) .nil)))) (some (.ptr 914 0)) (.node t45 none t47)) (some (.ptr 912 0)) (.node (.node t52 none (.node .nil none (.node .nil none (.node .nil (some (.ptr 1286 6)) .nil)))) none (.node (.node .nil none (.node .nil none (.node .nil (some (.ptr 1016 7)) .nil))) none t45))) (some (.bool false)) (.node (.node (.node .nil none (.node .nil none (.node .nil none t30))) none t68) (some (.ptr 913 0)) (.node (.node t72 none (.node .nil none (.node .nil none t34))) (some (.ptr 1286 0)) (.node (.node .nil none (.node .nil none (.node .nil (some (.agg [.int .u8 (.ofNat 15),.int .u8 (.ofNat 0),.int .i64 (.ofNat 0),.str [],.str [],.slice 931 0 2 (.known 2),.str [97,32,45,32,40,98,32,45,32,99,41]])) .nil))) none .nil)))),[],none⟩⟩],
  ⟨1356,(.node (.node (.node t119 none (.node t153 none (.node (.node (.node .nil none (.node (.node .nil none (.node (.node .nil (some (.row 6 (.node t155 (some (.int .u8 (.ofNat 15))) t156) false true [])) .nil) none .nil)) none .nil)) none t169) none t185))) none t208) none (.node t307 none (.node t323 none (.node (.node (.node (.node (.node (.node .nil none (.node (.node .nil (some (.row 7 (.node t155 (some (.int .u8 (.ofNat 15))) (.node (.node .nil (some (.str [])) .nil) (some (.int .i64 (.ofNat 0))) t34)) false true [])) .nil) none .nil)) none .nil) none t142) none t340) none t349) none t370)))),gl⟩)
def t378 : Tri V := .node .nil (some (.agg [.int .u8 (.ofNat 13),.int .u8 (.ofNat 0),.int .i64 (.ofNat 0),.str [],.str [],.slice 939 0 2 (.known 2)])) .nil
def t382 : Tri V := .node .nil (some (.str [40,97,32,124,32,98,41,32,38,32,99])) .nil
def t393 : Tri V := .node .nil none t392
def t420 : Tri O := .node .nil none t169
def t421 : Tri O := .node t420 none t185
def t422 : Tri O := .node t153 none t421
def t423 : Tri O := .node t119 none t422
def t425 : Tri V := .node (.node .nil (some (.str [])) .nil) (some (.int .u8 (.ofNat 0))) (.node .nil (some (.slice 939 0 2 (.known 2))) .nil)
def t448 : Tri O := .node t143 none t340
def t449 : Tri O := .node t448 none t349
def t450 : Tri O := .node t449 none t370
def t451 : Tri O := .node t323 none t450
def c4 : Cf :=
  ([⟨18,[.lft,.rgt],none,⟨19,(.node (.node (.node .nil (some (.ptr 1684 0)) .nil) none .nil) (some (.str [40,97,32,124,32,98,41,32,38,32,99])) (.node (.node .nil (some (.bool false)) .nil) none .nil)),[],none⟩⟩,⟨15,[.lft,.rgt,.rgt],(some 10),⟨24,(.node (.node t29 none (.node .nil none (.node t378 none .nil))) none (.node (.node .nil (some (.bool false)) (.node t382 none .nil)) none .nil)),[],none⟩⟩,⟨3,[.lft,.rgt,.inn,.lft,.rgt,.rgt,.inn,.inn,.rgt,.lft,.rgt,.rgt,.rgt,.rgt],(some 4),⟨277,(.node (.node (.node (.node .nil none (.node .nil none (.node .nil none (.node .nil (some (.ptr 1641 0)) .nil)))) (some (.ptr 914 0)) (.node t393 none t47)) (some (.ptr 912 0)) (.node (.node t52 none (.node .nil none (.node .nil none (.node .nil (some (.ptr 1641 6)) .nil)))) none (.node (.node .nil none (.node .nil none (.node .nil (some (.ptr 1016 14)) .nil))) none t393))) (some (.bool false)) (.node (.node (.node .nil none (.node .nil none (.node .nil none t378))) none t68) (some (.ptr 913 0)) (.node (.node t72 none (.node .nil none (.node .nil none t382))) (some (.ptr 1641 0)) (.node (.node .nil none (.node .nil none (.node .nil (some (.agg [.int .u8 (.ofNat 13),.int .u8 (.ofNat 0),.int .i64 (.ofNat 0),.str [],.str [],.slice 939 0 2 (.known 2),.str [40,97,32,124,32,98,41,32,38,32,99]])) .nil))) none .nil)))),[],none⟩⟩],
  ⟨1685,(.node (.node t423 none (.node (.node t193 none (.node (.node t200 none (.node .nil none (.node (.node (.node .nil none (.node .nil (some (.row 7 (.node t425 (some (.int .u8 (.ofNat 13))) (.node (.node .nil (some (.str [])) .nil) (some (.int .i64 (.ofNat 0))) t382)) false true [])) .nil)) none .nil) none .nil))) none .nil)) none t207)) none (.node (.node t306 none (.node (.node .nil none (.node (.node (.node .nil none (.node (.node .nil none (.node .nil (some (.row 6 (.node t425 (some (.int .u8 (.ofNat 13))) t156) false true [])) .nil)) none .nil)) none .nil) none .nil)) none .nil)) none t451)),gl⟩)
def t457 : Tri V := .node .nil (some (.agg [.int .u8 (.ofNat 14),.int .u8 (.ofNat 0),.int .i64 (.ofNat 0),.str [],.str [],.slice 947 0 2 (.known 2)])) .nil
def t461 : Tri V := .node .nil (some (.str [97,32,38,32,98,32,124,32,99])) .nil
def t472 : Tri V := .node .nil none t471
def t500 : Tri V := .node (.node .nil (some (.str [])) .nil) (some (.int .u8 (.ofNat 0))) (.node .nil (some (.slice 947 0 2 (.known 2))) .nil)
def c5 : Cf :=
  ([⟨18,[.lft,.rgt],none,⟨19,(.node (.node (.node .nil (some (.ptr 2065 0)) .nil) none .nil) (some (.str [97,32,38,32,98,32,124,32,99])) (.node (.node .nil (some (.bool false)) .nil) none .nil)),[],none⟩⟩,⟨15,[.lft,.rgt,.rgt],(some 10),⟨24,(.node (.node t29 none (.node .nil none (.node t457 none .nil))) none (.node (.node .nil (some (.bool false)) (.node t461 none .nil)) none .nil)),[],none⟩⟩,⟨3,[.lft,.rgt,.inn,.lft,.rgt,.rgt,.inn,.inn,.rgt,.lft,.rgt,.rgt,.rgt,.rgt],(some 4),⟨277,(.node (.node (.node (.node .nil none (.node .nil none (.node .nil none (.node .nil (some (.ptr 2022 0)) .nil)))) (some (.ptr 914 0)) (.node t472 none t47)) (some (.ptr 912 0)) (.node (.node t52 none (.node .nil none (.node .nil none (.node .nil (some (.ptr 2022 6)) .nil)))) none (.node (.node .nil none (.node .nil none (.node .nil (some (.ptr 1016 21)) .nil))) none t472))) (some (.bool false)) (.node (.node (.node .nil none (.node .nil none (.node .nil none t457))) none t68) (some (.ptr 913 0)) (.node (.node t72 none (.node .nil none (.node .nil none t461))) (some (.ptr 2022 0)) (.node (.node .nil none (.node .nil none (.node .nil (some (.agg [.int .u8 (.ofNat 14),.int .u8 (.ofNat 0),.int .i64 (.ofNat 0),.str [],.str [],.slice 947 0 2 (.known 2),.str [97,32,38,32,98,32,124,32,99]])) .nil))) none .nil)))),[],none⟩⟩],
  ⟨2066,(.node (.node t423 none (.node (.node (.node .nil none (.node (.node (.node (.node (.node (.node (.node .nil (some (.row 6 (.node t500 (some (.int .u8 (.ofNat 14))) t156) false true [])) .nil) none .nil) none .nil) none .nil) none t189) none .nil) none .nil)) none t202) none t207)) none (.node t307 none (.node t323 none (.node (.node (.node t143 none (.node .nil none (.node .nil none (.node .nil none (.node .nil (some (.row 12 t336 false true [])) (.node .nil (some (.row 7 (.node t500 (some (.int .u8 (.ofNat 14))) (.node (.node .nil (some (.str [])) .nil) (some (.int .i64 (.ofNat 0))) t461)) false true [])) .nil)))))) none t349) none t370)))),gl⟩)
def t529 : Tri V := .node .nil (some (.agg [.int .u8 (.ofNat 9),.int .u8 (.ofNat 0),.int .i64 (.ofNat 0),.str [],.str [],.slice 955 0 2 (.known 2)])) .nil
def t533 : Tri V := .node .nil (some (.str [40,97,32,60,32,98,41,32,60,32,99])) .nil
def t544 : Tri V := .node .nil none t543
def t572 : Tri V := .node (.node .nil (some (.str [])) .nil) (some (.int .u8 (.ofNat 0))) (.node .nil (some (.slice 955 0 2 (.known 2))) .nil)
def c6 : Cf :=
  ([⟨18,[.lft,.rgt],none,⟨19,(.node (.node (.node .nil (some (.ptr 2366 0)) .nil) none .nil) (some (.str [40,97,32,60,32,98,41,32,60,32,99])) (.node (.node .nil (some (.bool false)) .nil) none .nil)),[],none⟩⟩,⟨15,[.lft,.rgt,.rgt],(some 10),⟨24,(.node (.node t29 none (.node .nil none (.node t529 none .nil))) none (.node (.node .nil (some (.bool false)) (.node t533 none .nil)) none .nil)),[],none⟩⟩,⟨3,[.lft,.rgt,.inn,.lft,.rgt,.rgt,.inn,.inn,.rgt,.lft,.rgt,.rgt,.rgt,.rgt],(some 4),⟨277,(.node (.node (.node (.node .nil none (.node .nil none (.node .nil none (.node .nil (some (.ptr 2317 0)) .nil)))) (some (.ptr 914 0)) (.node t544 none t47)) (some (.ptr 912 0)) (.node (.node t52 none (.node .nil none (.node .nil none (.node .nil (some (.ptr 2317 6)) .nil)))) none (.node (.node .nil none (.node .nil none (.node .nil (some (.ptr 1016 28)) .nil))) none t544))) (some (.bool false)) (.node (.node (.node .nil none (.node .nil none (.node .nil none t529))) none t68) (some (.ptr 913 0)) (.node (.node t72 none (.node .nil none (.node .nil none t533))) (some (.ptr 2317 0)) (.node (.node .nil none (.node .nil none (.node .nil (some (.agg [.int .u8 (.ofNat 9),.int .u8 (.ofNat 0),.int .i64 (.ofNat 0),.str [],.str [],.slice 955 0 2 (.known 2),.str [40,97,32,60,32,98,41,32,60,32,99]])) .nil))) none .nil)))),[],none⟩⟩],
  ⟨2367,(.node (.node t423 none (.node t203 none (.node .nil none (.node (.node (.node (.node (.node .nil none (.node (.node (.node .nil (some (.row 7 (.node t572 (some (.int .u8 (.ofNat 9))) (.node (.node .nil (some (.str [])) .nil) (some (.int .i64 (.ofNat 0))) t533)) false true [])) .nil) none .nil) none .nil)) none .nil) none t104) none .nil) none .nil)))) none (.node t307 none (.node t323 none (.node t449 none (.node t361 none (.node t368 none (.node (.node (.node .nil none (.node (.node (.node .nil (some (.row 6 (.node t572 (some (.int .u8 (.ofNat 9))) t156) false true [])) .nil) none .nil) none .nil)) none .nil) none .nil))))))),gl⟩)
def t602 : Tri V := .node .nil (some (.agg [.int .u8 (.ofNat 11),.int .u8 (.ofNat 0),.int .i64 (.ofNat 0),.str [],.str [],.slice 963 0 2 (.known 2)])) .nil
def t606 : Tri V := .node .nil (some (.str [97,32,61,61,32,40,98,32,33,61,32,99,41])) .nil
def t617 : Tri V := .node .nil none t616
def t645 : Tri V := .node (.node .nil (some (.str [])) .nil) (some (.int .u8 (.ofNat 0))) (.node .nil (some (.slice 963 0 2 (.known 2))) .nil)
def c7 : Cf :=
  ([⟨18,[.lft,.rgt],none,⟨19,(.node (.node (.node .nil (some (.ptr 2705 0)) .nil) none .nil) (some (.str [97,32,61,61,32,40,98,32,33,61,32,99,41])) (.node (.node .nil (some (.bool false)) .nil) none .nil)),[],none⟩⟩,⟨15,[.lft,.rgt,.rgt],(some 10),⟨24,(.node (.node t29 none (.node .nil none (.node t602 none .nil))) none (.node (.node .nil (some (.bool false)) (.node t606 none .nil)) none .nil)),[],none⟩⟩,⟨3,[.lft,.rgt,.inn,.lft,.rgt,.rgt,.inn,.inn,.rgt,.lft,.rgt,.rgt,.rgt,.rgt],(some 4),⟨277,(.node (.node (.node (.node .nil none (.node .nil none (.node .nil none (.node .nil (some (.ptr 2646 0)) .nil)))) (some (.ptr 914 0)) (.node t617 none t47)) (some (.ptr 912 0)) (.node (.node t52 none (.node .nil none (.node .nil none (.node .nil (some (.ptr 2646 6)) .nil)))) none (.node (.node .nil none (.node .nil none (.node .nil (some (.ptr 1016 35)) .nil))) none t617))) (some (.bool false)) (.node (.node (.node .nil none (.node .nil none (.node .nil none t602))) none t68) (some (.ptr 913 0)) (.node (.node t72 none (.node .nil none (.node .nil none t606))) (some (.ptr 2646 0)) (.node (.node .nil none (.node .nil none (.node .nil (some (.agg [.int .u8 (.ofNat 11),.int .u8 (.ofNat 0),.int .i64 (.ofNat 0),.str [],.str [],.slice 963 0 2 (.known 2),.str [97,32,61,61,32,40,98,32,33,61,32,99,41]])) .nil))) none .nil)))),[],none⟩⟩],
  ⟨2706,(.node (.node t423 none (.node (.node (.node .nil none (.node (.node (.node .nil none (.node (.node .nil none (.node (.node .nil (some (.row 6 (.node t645 (some (.int .u8 (.ofNat 11))) t156) false true [])) .nil) none .nil)) none t20)) none .nil) none .nil)) none t202) none t207)) none (.node t307 none (.node t323 none (.node (.node t448 none (.node (.node .nil none (.node (.node (.node .nil none (.node (.node .nil (some (.row 7 (.node t645 (some (.int .u8 (.ofNat 11))) (.node (.node .nil (some (.str [])) .nil) (some (.int .i64 (.ofNat 0))) t606)) false true [])) .nil) none .nil)) none .nil) none .nil)) none t348)) none t370)))),gl⟩)
def t675 : Tri V := .node .nil (some (.agg [.int .u8 (.ofNat 3),.int .u8 (.ofNat 0),.int .i64 (.ofNat 0),.str [],.str [],.slice 976 0 1 (.known 1)])) .nil
def t679 : Tri V := .node .nil (some (.str [45,40,97,32,42,32,98,41])) .nil
def t689 : Tri V := .node .nil none (.node .nil (some (.int .i64 (.ofNat 7))) .nil)
def t690 : Tri V := .node .nil none t689
def t718 : Tri V := .node (.node .nil (some (.str [])) .nil) (some (.int .u8 (.ofNat 0))) (.node .nil (some (.slice 976 0 1 (.known 1))) .nil)
def c8 : Cf :=
  ([⟨18,[.lft,.rgt],none,⟨19,(.node (.node (.node .nil (some (.ptr 3173 0)) .nil) none .nil) (some (.str [45,40,97,32,42,32,98,41])) (.node (.node .nil (some (.bool false)) .nil) none .nil)),[],none⟩⟩,⟨15,[.lft,.rgt,.rgt],(some 10),⟨24,(.node (.node t29 none (.node .nil none (.node t675 none .nil))) none (.node (.node .nil (some (.bool false)) (.node t679 none .nil)) none .nil)),[],none⟩⟩,⟨3,[.lft,.rgt,.inn,.lft,.rgt,.rgt,.inn,.inn,.rgt,.lft,.rgt,.rgt,.rgt,.rgt],(some 4),⟨277,(.node (.node (.node (.node .nil none (.node .nil none (.node .nil none (.node .nil (some (.ptr 3127 0)) .nil)))) (some (.ptr 914 0)) (.node t690 none t47)) (some (.ptr 912 0)) (.node (.node t52 none (.node .nil none (.node .nil none (.node .nil (some (.ptr 3127 6)) .nil)))) none (.node (.node .nil none (.node .nil none (.node .nil (some (.ptr 1016 49)) .nil))) none t690))) (some (.bool false)) (.node (.node (.node .nil none (.node .nil none (.node .nil none t675))) none t68) (some (.ptr 913 0)) (.node (.node t72 none (.node .nil none (.node .nil none t679))) (some (.ptr 3127 0)) (.node (.node .nil none (.node .nil none (.node .nil (some (.agg [.int .u8 (.ofNat 3),.int .u8 (.ofNat 0),.int .i64 (.ofNat 0),.str [],.str [],.slice 976 0 1 (.known 1),.str [45,40,97,32,42,32,98,41]])) .nil))) none .nil)))),[],none⟩⟩],
  ⟨3174,(.node (.node (.node (.node t107 none (.node t106 none (.node t116 none (.node (.node (.node (.node (.node .nil none (.node .nil (some (.row 7 (.node t718 (some (.int .u8 (.ofNat 3))) (.node (.node .nil (some (.str [])) .nil) (some (.int .i64 (.ofNat 0))) t679)) false true [])) .nil)) none .nil) none .nil) none t103) none .nil)))) none t422) none (.node t203 none (.node (.node (.node .nil none (.node .nil none (.node (.node (.node (.node .nil none (.node .nil (some (.row 6 (.node t718 (some (.int .u8 (.ofNat 3))) t156) false true [])) .nil)) none .nil) none .nil) none .nil))) none .nil) none t206))) none (.node t307 none t451)),gl⟩)
def t752 : Tri V := .node .nil none (.node .nil (some (.int .i64 (.ofNat 9))) .nil)
def t753 : Tri V := .node .nil none t752
def t781 : Tri V := .node (.node .nil (some (.str [])) .nil) (some (.int .u8 (.ofNat 0))) (.node .nil (some (.slice 990 0 1 (.known 1))) .nil)
def c9 : Cf :=
  ([⟨15,[.lft,.rgt],none,⟨24,(.node t247 none (.node (.node .nil (some (.bool false)) .nil) (some (.ptr 3600 0)) .nil)),[],none⟩⟩,⟨3,[.lft,.rgt,.inn,.lft,.rgt,.rgt,.inn,.inn,.rgt,.lft,.rgt,.rgt,.rgt,.rgt],(some 4),⟨277,(.node (.node (.node (.node .nil none (.node .nil none (.node .nil none (.node .nil (some (.ptr 3599 0)) .nil)))) (some (.ptr 914 0)) (.node t753 none t47)) (some (.ptr 912 0)) (.node (.node t52 none (.node .nil none (.node .nil none (.node .nil (some (.ptr 3599 6)) .nil)))) none (.node (.node .nil none (.node .nil none (.node .nil (some (.ptr 1016 63)) .nil))) none t753))) (some (.bool false)) (.node (.node (.node .nil none (.node .nil none (.node .nil none (.node .nil (some (.agg [.int .u8 (.ofNat 4),.int .u8 (.ofNat 0),.int .i64 (.ofNat 0),.str [],.str [],.slice 990 0 1 (.known 1)])) .nil)))) none t68) (some (.ptr 913 0)) (.node (.node t72 none (.node .nil none (.node .nil none t247))) (some (.ptr 3599 0)) (.node (.node .nil none (.node .nil none (.node .nil (some (.agg [.int .u8 (.ofNat 4),.int .u8 (.ofNat 0),.int .i64 (.ofNat 0),.str [],.str [],.slice 990 0 1 (.known 1),.str [33,40,97,32,60,61,32,98,41]])) .nil))) none .nil)))),[],none⟩⟩],
  ⟨3601,(.node (.node (.node (.node (.node t97 none (.node (.node (.node (.node (.node .nil none (.node .nil none (.node .nil (some (.row 7 (.node t781 (some (.int .u8 (.ofNat 4))) (.node (.node .nil (some (.str [])) .nil) (some (.int .i64 (.ofNat 0))) t247)) false true [])) .nil))) none .nil) none .nil) none .nil) none t105)) none t118) none t422) none t208) none (.node (.node (.node (.node .nil none (.node (.node (.node (.node (.node .nil none (.node .nil none (.node .nil (some (.row 6 (.node t781 (some (.int .u8 (.ofNat 4))) t156) false true [])) .nil))) none .nil) none t141) none t215) none .nil)) none t305) none .nil) none t451)),gl⟩)
def t811 : Tri V := .node .nil (some (.agg [.int .u8 (.ofNat 15),.int .u8 (.ofNat 0),.int .i64 (.ofNat 0),.str [],.str [],.slice 998 0 2 (.known 2)])) .nil
def t824 : Tri V := .node .nil none (.node .nil (some (.int .i64 (.ofNat 10))) .nil)
def t825 : Tri V := .node .nil none t824
def t852 : Tri V := .node (.node .nil (some (.str [])) .nil) (some (.int .u8 (.ofNat 0))) (.node .nil (some (.slice 998 0 2 (.known 2))) .nil)
def c10 : Cf :=
  ([⟨18,[.lft,.rgt],none,⟨19,(.node (.node (.node .nil (some (.ptr 3921 0)) .nil) none .nil) (some (.str [97,32,45,32,45,53])) (.node (.node .nil (some (.bool false)) .nil) none .nil)),[],none⟩⟩,⟨15,[.lft,.rgt,.rgt],(some 10),⟨24,(.node (.node t29 none (.node .nil none (.node t811 none .nil))) none (.node (.node .nil (some (.bool false)) (.node (.node .nil (some (.str [97,32,45,32,45,53])) .nil) none .nil)) none .nil)),[],none⟩⟩,⟨3,[.lft,.rgt,.inn,.lft,.rgt,.rgt,.inn,.inn,.rgt,.lft,.rgt,.rgt,.rgt,.rgt],(some 4),⟨277,(.node (.node (.node (.node .nil none (.node .nil none (.node .nil none (.node .nil (some (.ptr 3878 0)) .nil)))) (some (.ptr 914 0)) (.node t825 none t47)) (some (.ptr 912 0)) (.node (.node t52 none (.node .nil none (.node .nil none (.node .nil (some (.ptr 3878 6)) .nil)))) none (.node (.node .nil none (.node .nil none (.node .nil (some (.ptr 1016 70)) .nil))) none t825))) (some (.bool false)) (.node (.node (.node .nil none (.node .nil none (.node .nil none t811))) none t68) (some (.ptr 913 0)) (.node (.node t72 none (.node .nil none (.node .nil none (.node .nil (some (.str [97,32,45,32,45,53])) .nil)))) (some (.ptr 3878 0)) (.node (.node .nil none (.node .nil none (.node .nil (some (.agg [.int .u8 (.ofNat 15),.int .u8 (.ofNat 0),.int .i64 (.ofNat 0),.str [],.str [],.slice 998 0 2 (.known 2),.str [97,32,45,32,45,53]])) .nil))) none .nil)))),[],none⟩⟩],
  ⟨3922,(.node (.node t423 none (.node (.node (.node .nil none (.node (.node t190 none (.node (.node .nil none (.node .nil none (.node .nil none (.node .nil (some (.row 6 (.node t852 (some (.int .u8 (.ofNat 15))) t156) false true [])) .nil)))) none .nil)) none .nil)) none t202) none t207)) none (.node t307 none (.node t323 none (.node (.node (.node t143 none (.node (.node (.node .nil none (.node .nil none (.node .nil none (.node .nil (some (.row 7 (.node t852 (some (.int .u8 (.ofNat 15))) (.node (.node .nil (some (.str [])) .nil) (some (.int .i64 (.ofNat 0))) (.node .nil (some (.str [97,32,45,32,45,53])) .nil))) false true [])) .nil)))) none .nil) none t339)) none t349) none t370)))),gl⟩)
def t882 : Tri V := .node .nil (some (.agg [.int .u8 (.ofNat 6),.int .u8 (.ofNat 0),.int .i64 (.ofNat 0),.str [],.str [],.slice 1006 0 2 (.known 2)])) .nil
def t895 : Tri V := .node .nil none (.node .nil (some (.int .i64 (.ofNat 11))) .nil)
def t896 : Tri V := .node .nil none t895
def t923 : Tri V := .node (.node .nil (some (.str [])) .nil) (some (.int .u8 (.ofNat 0))) (.node .nil (some (.slice 1006 0 2 (.known 2))) .nil)
def c11 : Cf :=
  ([⟨18,[.lft,.rgt],none,⟨19,(.node (.node (.node .nil (some (.ptr 4160 0)) .nil) none .nil) (some (.str [97,32,47,32,40,98,32,37,32,99,41])) (.node (.node .nil (some (.bool false)) .nil) none .nil)),[],none⟩⟩,⟨15,[.lft,.rgt,.rgt],(some 10),⟨24,(.node (.node t29 none (.node .nil none (.node t882 none .nil))) none (.node (.node .nil (some (.bool false)) (.node t229 none .nil)) none .nil)),[],none⟩⟩,⟨3,[.lft,.rgt,.inn,.lft,.rgt,.rgt,.inn,.inn,.rgt,.lft,.rgt,.rgt,.rgt,.rgt],(some 4),⟨277,(.node (.node (.node (.node .nil none (.node .nil none (.node .nil none (.node .nil (some (.ptr 4081 0)) .nil)))) (some (.ptr 914 0)) (.node t896 none t47)) (some (.ptr 912 0)) (.node (.node t52 none (.node .nil none (.node .nil none (.node .nil (some (.ptr 4081 6)) .nil)))) none (.node (.node .nil none (.node .nil none (.node .nil (some (.ptr 1016 77)) .nil))) none t896))) (some (.bool false)) (.node (.node (.node .nil none (.node .nil none (.node .nil none t882))) none t68) (some (.ptr 913 0)) (.node (.node t72 none (.node .nil none (.node .nil none t229))) (some (.ptr 4081 0)) (.node (.node .nil none (.node .nil none (.node .nil (some (.agg [.int .u8 (.ofNat 6),.int .u8 (.ofNat 0),.int .i64 (.ofNat 0),.str [],.str [],.slice 1006 0 2 (.known 2),.str [97,32,47,32,40,98,32,37,32,99,41]])) .nil))) none .nil)))),[],none⟩⟩],
  ⟨4161,(.node (.node t423 none (.node (.node (.node .nil none (.node t191 none (.node .nil none (.node .nil none (.node .nil none (.node .nil none (.node .nil none (.node .nil (some (.row 7 (.node t923 (some (.int .u8 (.ofNat 6))) (.node (.node .nil (some (.str [])) .nil) (some (.int .i64 (.ofNat 0))) t229)) false true [])) .nil)))))))) none t202) none t207)) none (.node (.node (.node (.node (.node (.node .nil none (.node (.node (.node (.node (.node (.node .nil (some (.row 6 (.node t923 (some (.int .u8 (.ofNat 6))) t156) false true [])) .nil) none .nil) none .nil) none .nil) none .nil) none .nil)) none .nil) none t217) none t305) none .nil) none t451)),gl⟩)
def t954 : Tri V := .node .nil (some (.agg [.int .u8 (.ofNat 1),.int .u8 (.ofNat 1),.int .i64 (.ofNat 9223372036854775807),.str [],.str [],.nils])) .nil
def t967 : Tri V := .node .nil none (.node .nil (some (.int .i64 (.ofNat 14))) .nil)
def t968 : Tri V := .node .nil none t967
def c12 : Cf :=
  ([⟨18,[.lft,.rgt],none,⟨19,(.node (.node (.node .nil (some (.ptr 4634 0)) .nil) none .nil) (some (.str [57,50,50,51,51,55,50,48,51,54,56,53,52,55,55,53,56,48,55])) (.node (.node .nil (some (.bool false)) .nil) none .nil)),[],none⟩⟩,⟨15,[.lft,.rgt,.rgt],(some 10),⟨24,(.node (.node t29 none (.node .nil none (.node t954 none .nil))) none (.node (.node .nil (some (.bool false)) (.node t261 none .nil)) none .nil)),[],none⟩⟩,⟨3,[.lft,.rgt,.inn,.lft,.rgt,.rgt,.inn,.inn,.rgt,.lft,.rgt,.rgt,.rgt,.rgt],(some 4),⟨277,(.node (.node (.node (.node .nil none (.node .nil none (.node .nil none (.node .nil (some (.ptr 4623 0)) .nil)))) (some (.ptr 914 0)) (.node t968 none t47)) (some (.ptr 912 0)) (.node (.node t52 none (.node .nil none (.node .nil none (.node .nil (some (.ptr 4623 6)) .nil)))) none (.node (.node .nil none (.node .nil none (.node .nil (some (.ptr 1016 98)) .nil))) none t968))) (some (.bool false)) (.node (.node (.node .nil none (.node .nil none (.node .nil none t954))) none t68) (some (.ptr 913 0)) (.node (.node t72 none (.node .nil none (.node .nil none t261))) (some (.ptr 4623 0)) (.node (.node .nil none (.node .nil none (.node .nil (some (.agg [.int .u8 (.ofNat 1),.int .u8 (.ofNat 1),.int .i64 (.ofNat 9223372036854775807),.str [],.str [],.nils,.str [57,50,50,51,51,55,50,48,51,54,56,53,52,55,55,53,56,48,55]])) .nil))) none .nil)))),[],none⟩⟩],
  ⟨4635,(.node (.node (.node (.node (.node t97 none (.node (.node (.node (.node (.node .nil none (.node (.node (.node .nil (some (.row 7 (.node t308 (some (.int .u8 (.ofNat 1))) (.node (.node .nil (some (.str [])) .nil) (some (.int .i64 (.ofNat 9223372036854775807))) t261)) false true [])) .nil) none .nil) none .nil)) none .nil) none .nil) none .nil) none t105)) none t118) none t422) none t208) none (.node t307 none (.node (.node t320 none (.node t321 none (.node (.node (.node (.node (.node .nil none (.node (.node (.node .nil (some (.row 6 (.node t308 (some (.int .u8 (.ofNat 1))) (.node (.node .nil (some (.str [])) .nil) (some (.int .i64 (.ofNat 9223372036854775807))) .nil)) false true [])) .nil) none .nil) none .nil)) none .nil) none .nil) none .nil) none .nil))) none t450))),gl⟩)
def t1031 : Tri V := .node .nil none (.node .nil (some (.int .i64 (.ofNat 16))) .nil)
def t1032 : Tri V := .node .nil none t1031
def c13 : Cf :=
  ([⟨15,[.lft,.rgt],none,⟨24,(.node (.node .nil (some (.str [110,111,95,49])) .nil) none (.node (.node .nil (some (.bool false)) .nil) (some (.ptr 5045 0)) .nil)),[],none⟩⟩,⟨3,[.lft,.rgt,.inn,.lft,.rgt,.rgt,.inn,.inn,.rgt,.lft,.rgt,.rgt,.rgt,.rgt],(some 4),⟨277,(.node (.node (.node (.node .nil none (.node .nil none (.node .nil none (.node .nil (some (.ptr 5044 0)) .nil)))) (some (.ptr 914 0)) (.node t1032 none t47)) (some (.ptr 912 0)) (.node (.node t52 none (.node .nil none (.node .nil none (.node .nil (some (.ptr 5044 6)) .nil)))) none (.node (.node .nil none (.node .nil none (.node .nil (some (.ptr 1016 112)) .nil))) none t1032))) (some (.bool false)) (.node (.node (.node .nil none (.node .nil none (.node .nil none (.node .nil (some (.agg [.int .u8 (.ofNat 2),.int .u8 (.ofNat 0),.int .i64 (.ofNat 0),.str [],.str [110,111,95,49],.nils])) .nil)))) none t68) (some (.ptr 913 0)) (.node (.node t72 none (.node .nil none (.node .nil none (.node .nil (some (.str [110,111,95,49])) .nil)))) (some (.ptr 5044 0)) (.node (.node .nil none (.node .nil none (.node .nil (some (.agg [.int .u8 (.ofNat 2),.int .u8 (.ofNat 0),.int .i64 (.ofNat 0),.str [],.str [110,111,95,49],.nils,.str [110,111,95,49]])) .nil))) none .nil)))),[],none⟩⟩],
  ⟨5046,(.node (.node t423 none (.node t203 none (.node (.node .nil none (.node .nil none (.node (.node .nil none (.node .nil none (.node .nil none (.node (.node (.node .nil (some (.row 6 (.node t7 (some (.int .u8 (.ofNat 2))) (.node (.node .nil (some (.str [110,111,95,49])) .nil) (some (.int .i64 (.ofNat 0))) .nil)) false true [])) .nil) none .nil) none .nil)))) none .nil))) none t206))) none (.node (.node t306 none (.node (.node .nil none (.node .nil none (.node (.node .nil none (.node .nil none (.node .nil none (.node (.node (.node .nil (some (.row 7 (.node t7 (some (.int .u8 (.ofNat 2))) (.node (.node .nil (some (.str [110,111,95,49])) .nil) (some (.int .i64 (.ofNat 0))) (.node .nil (some (.str [110,111,95,49])) .nil))) false true [])) .nil) none .nil) none .nil)))) none .nil))) none .nil)) none t451)),gl⟩)
def t1090 : Tri V := .node (.node .nil (some (.int .i64 (.ofNat 21))) .nil) none .nil
def t1091 : Tri V := .node t1090 none .nil
def t1092 : Tri V := .node t1091 none .nil
def t1093 : Tri V := .node (.node .nil (some (.int .i64 (.ofNat 7))) .nil) none .nil
def t1094 : Tri V := .node t1093 none .nil
def t1095 : Tri V := .node t1094 none .nil
def t1103 : Tri V := .node (.node (.node .nil (some (.bool true)) .nil) none .nil) none .nil
def t1104 : Tri V := .node t1103 none .nil
def t1105 : Tri V := .node t1104 none .nil
def t1106 : Tri V := .node t1105 none t1105
def t1120 : Tri V := .node (.node (.node .nil (some (.bool false)) .nil) none .nil) none .nil
def t1121 : Tri V := .node t1120 none .nil
def t1123 : Tri V := .node .nil none (.node .nil (some (.slice 5145 0 21 (.known 21))) .nil)
def t1124 : Tri V := .node .nil none t1123
def t1125 : Tri V := .node t1121 none t1124
def t1129 : Tri V := .node .nil (some (.str [121,101,115,32,110,111])) .nil
def t1130 : Tri V := .node t1129 (some (.str [97,41])) .nil
def t1132 : Tri V := .node (.node .nil (some (.str [97,32,61,32,98])) .nil) (some (.str [108,101,110])) .nil
def t1133 : Tri V := .node t1130 (some (.str [97,32,43])) t1132
def t1134 : Tri V := .node .nil (some (.str [39,97,39,32,39,98,39])) .nil
def t1135 : Tri V := .node t1134 (some (.str [108,101,110,40,41])) .nil
def t1136 : Tri V := .node .nil (some (.str [97,32,38,32,38,32,98])) .nil
def t1137 : Tri V := .node t1135 (some (.str [40,41])) t1136
def t1138 : Tri V := .node t1133 (some (.str [32])) t1137
def t1140 : Tri V := .node (.node .nil (some (.str [45])) .nil) (some (.str [108,101,110,32,97])) .nil
def t1142 : Tri V := .node (.node .nil (some (.str [65])) .nil) (some (.str [97,32,33,32,98])) .nil
def t1143 : Tri V := .node t1140 (some (.str [43,32,97])) t1142
def t1145 : Tri V := .node (.node .nil (some (.str [48,49])) .nil) (some (.str [108,101,110,40,97])) .nil
def t1146 : Tri V := .node .nil (some (.str [97,32,61,61,32,98,32,33,61,32,99])) .nil
def t1147 : Tri V := .node t1145 (some (.str [40,97])) t1146
def t1148 : Tri V := .node t1143 (some (.str [97,32,98])) t1147
def t1149 : Tri V := .node t1138 (some (.str [])) t1148
def t1150 : Tri O := .node .nil (some (.row 21 t1149 false true [])) .nil
def t1151 : Tri O := .node t1150 none .nil
def t1152 : Tri O := .node .nil none t1151
def t1153 : Tri O := .node t1152 none .nil
def t1154 : Tri O := .node t1153 none .nil
def t1155 : Tri O := .node t1154 none .nil
def t1156 : Tri O := .node t1155 none .nil
def t1157 : Tri O := .node t1156 none .nil
def t1158 : Tri O := .node .nil none t1157
def t1159 : Tri O := .node t193 none t1158
def t1160 : Tri O := .node t1159 none .nil
def t1161 : Tri O := .node .nil none t1160
def t1163 : Tri O := .node t1162 none .nil
def t1164 : Tri O := .node .nil none t1163
def t1165 : Tri O := .node t1164 none .nil
def t1166 : Tri O := .node t1165 none .nil
def t1167 : Tri O := .node .nil none t319
def t1168 : Tri O := .node t1167 none .nil
def t1169 : Tri O := .node t1168 none .nil
def t1170 : Tri O := .node t1166 none t1169
def t1171 : Tri O := .node t1161 none t1170
def c14 : Cf :=
  ([⟨3,[.lft,.rgt,.inn,.lft,.rgt,.rgt,.inn,.inn,.rgt,.lft,.rgt,.rgt,.rgt,.rgt,.rgt],none,⟨277,(.node (.node (.node (.node t1092 none t1095) (some (.ptr 914 0)) (.node (.node (.node (.node (.node .nil (some (.str [97,41])) .nil) none .nil) none .nil) none .nil) none .nil)) (some (.ptr 912 0)) t1106) (some (.bool false)) (.node (.node (.node t1095 (some (.str [97,41])) .nil) none (.node (.node (.node (.node (.node .nil (some (.str [40,97])) .nil) none .nil) none .nil) none .nil) none .nil)) (some (.ptr 913 0)) (.node (.node (.node (.node (.node (.node .nil (some (.ptr 5145 7)) .nil) none .nil) none .nil) none .nil) none .nil) none t1125))),[],none⟩⟩],
  ⟨5522,t1171,gl⟩)
def t1173 : Tri V := .node (.node .nil (some (.int .i64 (.ofNat 12))) .nil) none .nil
def t1174 : Tri V := .node t1173 none .nil
def t1175 : Tri V := .node t1174 none .nil
def c15 : Cf :=
  ([⟨3,[.lft,.rgt,.inn,.lft,.rgt,.rgt,.inn,.inn,.rgt,.lft,.rgt,.rgt,.rgt,.rgt,.rgt],none,⟨277,(.node (.node (.node (.node t1092 none t1175) (some (.ptr 914 0)) (.node (.node (.node (.node (.node .nil (some (.str [97,32,33,32,98])) .nil) none .nil) none .nil) none .nil) none .nil)) (some (.ptr 912 0)) t1106) (some (.bool false)) (.node (.node (.node t1175 (some (.str [97,32,33,32,98])) .nil) none (.node (.node (.node (.node (.node .nil (some (.str [108,101,110])) .nil) none .nil) none .nil) none .nil) none .nil)) (some (.ptr 913 0)) (.node (.node (.node (.node (.node (.node .nil (some (.ptr 5145 12)) .nil) none .nil) none .nil) none .nil) none .nil) none t1125))),[],none⟩⟩],
  ⟨5865,t1171,gl⟩)
def t1199 : Tri V := .node (.node .nil (some (.int .i64 (.ofNat 16))) .nil) none .nil
def t1200 : Tri V := .node t1199 none .nil
def t1201 : Tri V := .node t1200 none .nil
def c16 : Cf :=
  ([⟨3,[.lft,.rgt,.inn,.lft,.rgt,.rgt,.inn,.inn,.rgt,.lft,.rgt,.rgt,.rgt,.rgt,.rgt],none,⟨277,(.node (.node (.node (.node t1092 none t1201) (some (.ptr 914 0)) (.node (.node (.node (.node (.node .nil (some (.str [45])) .nil) none .nil) none .nil) none .nil) none .nil)) (some (.ptr 912 0)) t1106) (some (.bool false)) (.node (.node (.node t1201 (some (.str [45])) .nil) none (.node (.node (.node (.node t1129 none .nil) none .nil) none .nil) none .nil)) (some (.ptr 913 0)) (.node (.node (.node (.node (.node (.node .nil (some (.ptr 5145 16)) .nil) none .nil) none .nil) none .nil) none .nil) none t1125))),[],none⟩⟩],
  ⟨6336,t1171,gl⟩)
def c17 : Cf :=
  ([⟨3,[.lft,.rgt,.rgt,.rgt,.rgt,.rgt,.rgt,.rgt,.rgt],none,⟨277,(.node (.node (.node .nil (some (.ptr 914 0)) .nil) (some (.ptr 912 0)) (.node (.node .nil (some (.str [45,45,45,45,45,45,45,45,45,45,45,45,45,45,45,97])) .nil) none .nil)) (some (.bool false)) (.node .nil (some (.ptr 913 0)) .nil)),[],none⟩⟩],
  ⟨6495,(.node (.node .nil none (.node (.node t193 none .nil) none .nil)) none t1170),gl⟩)
def t1243 : Tri O := .node t1242 none .nil
def t1244 : Tri O := .node t1243 none .nil
def t1245 : Tri O := .node t1244 none .nil
def t1246 : Tri O := .node t1245 none .nil
def t1247 : Tri O := .node t1246 none .nil
def t1249 : Tri V := .node (.node .nil (some (.str [])) .nil) (some (.int .u8 (.ofNat 0))) (.node .nil (some (.slice 6662 0 1 (.known 1))) .nil)
def t1250 : Tri V := .node t1249 (some (.int .u8 (.ofNat 3))) t156
def t1251 : Tri O := .node .nil (some (.row 6 t1250 false true [])) .nil
def t1252 : Tri O := .node .nil none t1251
def t1253 : Tri O := .node t1252 none .nil
def t1254 : Tri O := .node .nil none t1253
def t1255 : Tri O := .node t1254 none .nil
def t1256 : Tri O := .node t1255 none .nil
def t1257 : Tri O := .node t1256 none .nil
def t1258 : Tri O := .node t1257 none .nil
def t1259 : Tri O := .node t1258 none .nil
def t1260 : Tri O := .node t1247 none t1259
def t1262 : Tri V := .node (.node .nil (some (.str [])) .nil) (some (.int .u8 (.ofNat 0))) (.node .nil (some (.slice 6658 0 1 (.known 1))) .nil)
def t1263 : Tri V := .node t1262 (some (.int .u8 (.ofNat 3))) t156
def t1264 : Tri O := .node .nil (some (.row 6 t1263 false true [])) .nil
def t1265 : Tri O := .node .nil none t1264
def t1266 : Tri O := .node t1265 none .nil
def t1267 : Tri O := .node .nil none t1266
def t1268 : Tri O := .node t1267 none .nil
def t1269 : Tri O := .node t1268 none .nil
def t1270 : Tri O := .node t1269 none .nil
def t1271 : Tri O := .node t1270 none .nil
def t1272 : Tri O := .node t1271 none .nil
def t1274 : Tri V := .node (.node .nil (some (.str [])) .nil) (some (.int .u8 (.ofNat 0))) (.node .nil (some (.slice 6666 0 1 (.known 1))) .nil)
def t1275 : Tri V := .node t1274 (some (.int .u8 (.ofNat 3))) t156
def t1276 : Tri O := .node .nil (some (.row 6 t1275 false true [])) .nil
def t1277 : Tri O := .node .nil none t1276
def t1278 : Tri O := .node t1277 none .nil
def t1279 : Tri O := .node .nil none t1278
def t1280 : Tri O := .node t1279 none .nil
def t1281 : Tri O := .node t1280 none .nil
def t1282 : Tri O := .node t1281 none .nil
def t1298 : Tri V := .node (.node .nil (some (.str [])) .nil) (some (.int .u8 (.ofNat 0))) (.node .nil (some (.slice 6656 0 1 (.known 1))) .nil)
def t1299 : Tri V := .node t1298 (some (.int .u8 (.ofNat 3))) t156
def t1300 : Tri O := .node .nil (some (.row 6 t1299 false true [])) .nil
def t1301 : Tri O := .node .nil none t1300
def t1302 : Tri O := .node t1301 none .nil
def t1303 : Tri O := .node .nil none t1302
def t1304 : Tri O := .node t1303 none .nil
def t1305 : Tri O := .node t1304 none .nil
def t1306 : Tri O := .node t1305 none .nil
def t1307 : Tri O := .node t1306 none .nil
def t1310 : Tri V := .node (.node .nil (some (.str [])) .nil) (some (.int .u8 (.ofNat 0))) (.node .nil (some (.slice 6664 0 1 (.known 1))) .nil)
def t1311 : Tri V := .node t1310 (some (.int .u8 (.ofNat 3))) t156
def t1312 : Tri O := .node .nil (some (.row 6 t1311 false true [])) .nil
def t1313 : Tri O := .node .nil none t1312
def t1314 : Tri O := .node t1313 none .nil
def t1315 : Tri O := .node .nil none t1314
def t1316 : Tri O := .node t1315 none .nil
def t1317 : Tri O := .node t1316 none .nil
def t1318 : Tri O := .node t1317 none .nil
def t1320 : Tri V := .node (.node .nil (some (.str [])) .nil) (some (.int .u8 (.ofNat 0))) (.node .nil (some (.slice 6669 0 1 (.known 1))) .nil)
def t1321 : Tri V := .node t1320 (some (.int .u8 (.ofNat 3))) t156
def t1322 : Tri O := .node .nil (some (.row 6 t1321 false true [])) .nil
def t1323 : Tri O := .node .nil none t1322
def t1324 : Tri O := .node t1323 none .nil
def t1325 : Tri O := .node .nil none t1324
def t1326 : Tri O := .node t1325 none .nil
def t1327 : Tri O := .node t1326 none .nil
def t1328 : Tri O := .node .nil none t1327
def t1329 : Tri O := .node t1318 none t1328
def t1330 : Tri O := .node t1329 none .nil
def t1333 : Tri V := .node (.node .nil (some (.str [])) .nil) (some (.int .u8 (.ofNat 0))) (.node .nil (some (.slice 6660 0 1 (.known 1))) .nil)
def t1334 : Tri V := .node t1333 (some (.int .u8 (.ofNat 3))) t156
def t1335 : Tri O := .node .nil (some (.row 6 t1334 false true [])) .nil
def t1336 : Tri O := .node .nil none t1335
def t1337 : Tri O := .node t1336 none .nil
def t1338 : Tri O := .node .nil none t1337
def t1339 : Tri O := .node t1338 none .nil
def t1340 : Tri O := .node t1339 none .nil
def t1341 : Tri O := .node t1340 none .nil
def t1342 : Tri O := .node t1341 none .nil
def t1343 : Tri O := .node t1342 none .nil
def t1345 : Tri V := .node (.node .nil (some (.str [])) .nil) (some (.int .u8 (.ofNat 0))) (.node .nil (some (.slice 6668 0 1 (.known 1))) .nil)
def t1346 : Tri V := .node t1345 (some (.int .u8 (.ofNat 3))) t156
def t1347 : Tri O := .node .nil (some (.row 6 t1346 false true [])) .nil
def t1348 : Tri O := .node .nil none t1347
def t1349 : Tri O := .node t1348 none .nil
def t1350 : Tri O := .node .nil none t1349
def t1351 : Tri O := .node t1350 none .nil
def t1352 : Tri O := .node t1351 none .nil
def t1353 : Tri O := .node t1352 none .nil
def t1360 : Tri V := .node (.node .nil (some (.str [])) .nil) (some (.int .u8 (.ofNat 0))) (.node .nil (some (.slice 6655 0 1 (.known 1))) .nil)
def t1361 : Tri V := .node t1360 (some (.int .u8 (.ofNat 3))) t156
def t1362 : Tri O := .node .nil (some (.row 6 t1361 false true [])) .nil
def t1363 : Tri O := .node .nil none t1362
def t1364 : Tri O := .node t1363 none .nil
def t1365 : Tri O := .node .nil none t1364
def t1366 : Tri O := .node t1365 none .nil
def t1367 : Tri O := .node t1366 none .nil
def t1368 : Tri O := .node t1367 none .nil
def t1369 : Tri O := .node t1368 none .nil
def t1372 : Tri V := .node (.node .nil (some (.str [])) .nil) (some (.int .u8 (.ofNat 0))) (.node .nil (some (.slice 6663 0 1 (.known 1))) .nil)
def t1373 : Tri V := .node t1372 (some (.int .u8 (.ofNat 3))) t156
def t1374 : Tri O := .node .nil (some (.row 6 t1373 false true [])) .nil
def t1375 : Tri O := .node .nil none t1374
def t1376 : Tri O := .node t1375 none .nil
def t1377 : Tri O := .node .nil none t1376
def t1378 : Tri O := .node t1377 none .nil
def t1379 : Tri O := .node t1378 none .nil
def t1380 : Tri O := .node t1379 none .nil
def t1381 : Tri O := .node t1380 none .nil
def t1382 : Tri O := .node t1381 none .nil
def t1385 : Tri V := .node (.node .nil (some (.str [])) .nil) (some (.int .u8 (.ofNat 0))) (.node .nil (some (.slice 6659 0 1 (.known 1))) .nil)
def t1386 : Tri V := .node t1385 (some (.int .u8 (.ofNat 3))) t156
def t1387 : Tri O := .node .nil (some (.row 6 t1386 false true [])) .nil
def t1388 : Tri O := .node .nil none t1387
def t1389 : Tri O := .node t1388 none .nil
def t1390 : Tri O := .node .nil none t1389
def t1391 : Tri O := .node t1390 none .nil
def t1392 : Tri O := .node t1391 none .nil
def t1393 : Tri O := .node t1392 none .nil
def t1394 : Tri O := .node t1393 none .nil
def t1395 : Tri O := .node t1394 none .nil
def t1397 : Tri V := .node (.node .nil (some (.str [])) .nil) (some (.int .u8 (.ofNat 0))) (.node .nil (some (.slice 6667 0 1 (.known 1))) .nil)
def t1398 : Tri V := .node t1397 (some (.int .u8 (.ofNat 3))) t156
def t1399 : Tri O := .node .nil (some (.row 6 t1398 false true [])) .nil
def t1400 : Tri O := .node .nil none t1399
def t1401 : Tri O := .node t1400 none .nil
def t1402 : Tri O := .node .nil none t1401
def t1403 : Tri O := .node t1402 none .nil
def t1404 : Tri O := .node t1403 none .nil
def t1405 : Tri O := .node t1404 none .nil
def t1406 : Tri O := .node t1405 none .nil
def t1407 : Tri O := .node t1406 none .nil
def t1408 : Tri O := .node t1395 none t1407
def t1411 : Tri V := .node (.node .nil (some (.str [])) .nil) (some (.int .u8 (.ofNat 0))) (.node .nil (some (.slice 6657 0 1 (.known 1))) .nil)
def t1412 : Tri V := .node t1411 (some (.int .u8 (.ofNat 3))) t156
def t1413 : Tri O := .node .nil (some (.row 6 t1412 false true [])) .nil
def t1414 : Tri O := .node .nil none t1413
def t1415 : Tri O := .node t1414 none .nil
def t1416 : Tri O := .node .nil none t1415
def t1417 : Tri O := .node t1416 none .nil
def t1418 : Tri O := .node t1417 none .nil
def t1419 : Tri O := .node t1418 none .nil
def t1420 : Tri O := .node t1419 none .nil
def t1423 : Tri V := .node (.node .nil (some (.str [])) .nil) (some (.int .u8 (.ofNat 0))) (.node .nil (some (.slice 6665 0 1 (.known 1))) .nil)
def t1424 : Tri V := .node t1423 (some (.int .u8 (.ofNat 3))) t156
def t1425 : Tri O := .node .nil (some (.row 6 t1424 false true [])) .nil
def t1426 : Tri O := .node .nil none t1425
def t1427 : Tri O := .node t1426 none .nil
def t1428 : Tri O := .node .nil none t1427
def t1429 : Tri O := .node t1428 none .nil
def t1430 : Tri O := .node t1429 none .nil
def t1431 : Tri O := .node t1430 none .nil
def t1432 : Tri O := .node t1431 none .nil
def t1436 : Tri V := .node (.node .nil (some (.str [])) .nil) (some (.int .u8 (.ofNat 0))) (.node .nil (some (.slice 6661 0 1 (.known 1))) .nil)
def t1437 : Tri V := .node t1436 (some (.int .u8 (.ofNat 3))) t156
def t1438 : Tri O := .node .nil (some (.row 6 t1437 false true [])) .nil
def t1439 : Tri O := .node .nil none t1438
def t1440 : Tri O := .node t1439 none .nil
def t1441 : Tri O := .node .nil none t1440
def t1442 : Tri O := .node t1441 none .nil
def t1443 : Tri O := .node t1442 none .nil
def t1444 : Tri O := .node t1443 none .nil
def t1445 : Tri O := .node t1444 none .nil
def t1446 : Tri O := .node t1445 none .nil
def c18 : Cf :=
  ([⟨3,[.lft,.rgt,.rgt,.rgt,.rgt,.rgt,.rgt,.rgt,.rgt,.rgt,.rgt],none,⟨277,(.node (.node (.node .nil (some (.ptr 914 0)) (.node .nil (some (.int .i64 (.ofNat 0))) .nil)) (some (.ptr 912 0)) .nil) (some (.bool false)) (.node (.node .nil none (.node .nil (some (.ptr 6763 0)) .nil)) (some (.ptr 913 0)) (.node (.node .nil (some (.ptr 6761 0)) .nil) none .nil))),[],none⟩⟩],
  ⟨6764,(.node (.node (.node t1260 none (.node t1272 none (.node (.node t1282 none (.node .nil none (.node (.node (.node .nil none (.node (.node .nil none (.node .nil (some (.row 6 (.node (.node (.node .nil (some (.str [120,120,120,120,120,120,120,120,120,120,120,120,120,120,120,120,120,120,120,120,120,120,120,120,120,120,120,120,120,120,120,120,120,120,120,120,120,120,120,120])) .nil) (some (.int .u8 (.ofNat 3))) (.node .nil (some (.nils)) .nil)) (some (.int .u8 (.ofNat 1))) t156) false true [])) .nil)) none .nil)) none .nil) none .nil))) none .nil))) none (.node (.node (.node t1307 none t192) none t1330) none (.node t1343 none (.node (.node t1353 none .nil) none .nil)))) none (.node (.node (.node (.node t1369 none t1163) none t1382) none t1408) none (.node (.node (.node t1420 none t319) none (.node t1432 none .nil)) none (.node t1446 none .nil)))),gl⟩)
def t1455 : Tri V := .node (.node .nil none (.node .nil (some (.bool false)) .nil)) none .nil
def t1456 : Tri V := .node .nil none t1455
def t1458 : Tri V := .node .nil (some (.tuple [.str [],.int .i64 (.ofNat 4)])) .nil
def t1459 : Tri V := .node .nil none t1458
def t1460 : Tri V := .node t1459 none .nil
def t1461 : Tri V := .node .nil none t1460
def t1468 : Tri V := .node t543 none .nil
def t1469 : Tri V := .node .nil none t1468
def t1472 : Tri V := .node .nil none (.node .nil (some (.int .i64 (.ofNat 13))) .nil)
def t1473 : Tri V := .node t1472 none .nil
def t1478 : Tri V := .node .nil (some (.agg [.int .u8 (.ofNat 3),.int .u8 (.ofNat 0),.int .i64 (.ofNat 0),.str [],.str [],.slice 6842 0 1 (.known 1)])) .nil
def t1479 : Tri V := .node .nil none t1478
def t1480 : Tri V := .node t1479 none .nil
def t1540 : Tri O := .node .nil none t1243
def t1541 : Tri O := .node t1540 none .nil
def t1553 : Tri V := .node (.node .nil (some (.str [])) .nil) (some (.int .u8 (.ofNat 0))) .nil
def t1554 : Tri V := .node (.node .nil (some (.int .u8 (.ofNat 0))) .nil) (some (.nils)) .nil
def t1555 : Tri V := .node t1553 (some (.str [])) t1554
def t1580 : Tri V := .node (.node .nil (some (.int .i64 (.ofNat 0))) .nil) (some (.int .u8 (.ofNat 2))) .nil
def c19 : Cf :=
  ([⟨3,[.lft,.rgt,.rgt,.inn,.lft,.rgt,.rgt,.inn,.inn,.rgt,.lft,.rgt,.rgt,.rgt,.rgt,.rgt,.rgt,.rgt,.rgt,.rgt,.rgt,.rgt],none,⟨277,(.node (.node (.node (.node (.node .nil none (.node (.node .nil none (.node .nil (some (.ptr 6846 78)) .nil)) none .nil)) none t1456) (some (.ptr 914 0)) (.node t1461 (some (.int .i64 (.ofNat 0))) (.node (.node (.node .nil none (.node .nil (some (.slice 6846 0 15 (.known 15))) .nil)) none .nil) none t1455))) (some (.ptr 912 0)) (.node (.node t1461 none t1469) none (.node t1469 none (.node t1473 none .nil)))) (some (.bool false)) (.node (.node (.node (.node .nil (some (.ptr 7021 0)) t1480) none t1456) none (.node (.node .nil none (.node (.node .nil none (.node .nil (some (.str [])) .nil)) none .nil)) none (.node (.node (.node .nil none (.node .nil (some (.int .i64 (.ofNat 15))) .nil)) none .nil) none t1473))) (some (.ptr 913 0)) (.node (.node (.node .nil (some (.int .i64 (.ofNat 4))) t1480) (some (.ptr 6761 0)) t1456) none (.node (.node .nil none (.node (.node .nil none (.node .nil (some (.agg [.int .u8 (.ofNat 3),.int .u8 (.ofNat 0),.int .i64 (.ofNat 0),.str [],.str [97],.slice 6834 0 1 (.known 1)])) .nil)) none .nil)) (some (.int .i64 (.ofNat 40))) (.node (.node (.node .nil none (.node .nil (some (.bool true)) .nil)) none .nil) none .nil))))),[],none⟩⟩],
  ⟨7057,(.node (.node (.node t1260 none (.node t1272 none (.node (.node t1282 none .nil) none .nil))) none (.node (.node (.node t1307 none (.node t191 none (.node (.node .nil none (.node (.node .nil none (.node t103 none .nil)) none .nil)) none .nil))) none t1330) none (.node t1343 none (.node (.node t1353 none (.node .nil none (.node (.node .nil none (.node .nil none (.node (.node .nil none (.node .nil (some (.row 6 (.node (.node (.node .nil (some (.str [])) .nil) (some (.int .u8 (.ofNat 0))) (.node .nil (some (.slice 6842 0 1 (.known 1))) .nil)) (some (.int .u8 (.ofNat 3))) t156) false true [])) .nil)) none .nil))) none .nil))) none (.node .nil none (.node (.node .nil none (.node t1531 none .nil)) none .nil)))))) none (.node (.node (.node (.node t1369 none (.node t1162 none t1541)) none t1382) none t1408) none (.node (.node (.node t1420 none (.node t318 none t1541)) none (.node t1432 none (.node .nil none (.node (.node .nil none t1326) none .nil)))) none (.node t1446 none (.node .nil none (.node .nil none (.node (.node .nil none (.node (.node .nil none (.node (.node .nil none (.node .nil (some (.row 90 (.node (.node (.node (.node t1555 (some (.int .u8 (.ofNat 0))) (.node (.node (.node .nil (some (.nils)) .nil) (some (.str [])) .nil) (some (.nils)) t1553)) (some (.str [])) (.node (.node (.node (.node .nil (some (.int .u8 (.ofNat 2))) .nil) (some (.nils)) .nil) (some (.int .u8 (.ofNat 0))) (.node (.node .nil (some (.slice 6842 0 1 (.known 1))) .nil) (some (.str [])) .nil)) (some (.nils)) (.node t1553 (some (.str [])) (.node .nil (some (.slice 6832 0 1 (.known 1))) .nil)))) (some (.int .u8 (.ofNat 0))) (.node (.node (.node (.node (.node .nil
    (some (.slice 6833 0 2 (.known 2))) .nil) (some (.str [])) .nil) (some (.nils)) (.node (.node .nil (some (.str [])) .nil) (some (.int .u8 (.ofNat 1))) .nil)) (some (.str [])) (.node t1554 (some (.int .u8 (.ofNat 0))) (.node (.node .nil (some (.slice 6845 0 1 (.known 1))) .nil) (some (.str [])) .nil))) (some (.nils)) (.node t1555 (some (.int .u8 (.ofNat 1))) (.node (.node (.node .nil (some (.slice 6834 0 1 (.known 1))) .nil) (some (.str [])) .nil) (some (.nils)) (.node .nil (some (.int .u8 (.ofNat 0))) .nil))))) (some (.int .u8 (.ofNat 0))) (.node (.node (.node (.node t156 (some (.str [])) t1580) (some (.int .i64 (.ofNat 0))) (.node t275 (some (.int .u8 (.ofNat 2))) t156)) (some (.str [])) (.node (.node (.node (.node .nil (some (.int .i64 (.ofNat 2))) .nil) (some (.int .u8 (.ofNat 2))) .nil) (some (.int .i64 (.ofNat 0))) (.node (.node .nil (some (.int .u8 (.ofNat 4))) .nil) (some (.str [97])) .nil)) (some (.int .u8 (.ofNat 1))) (.node t9 (some (.str [121,101,115])) (.node .nil (some (.int .u8 (.ofNat 3))) .nil)))) (some (.int .i64 (.ofNat 0))) (.node (.node (.node (.node (.node .nil (some (.int .u8 (.ofNat 1))) .nil) (some (.str [108,101,110])) .nil) (some (.int .u8 (.ofNat 1))) t156) (some (.str [])) (.node t1580 (some (.int .i64 (.ofNat 0))) (.node .nil (some (.str [])) .nil))) (some (.int .u8 (.ofNat 17))) (.node (.node t156 (some (.str [])) (.node (.node .nil (some (.int .i64 (.ofNat 0))) .nil) (some (.int .u8 (.ofNat 8))) .nil)) (some (.int .i64 (.negSucc 0))) (.node (.node (.node .nil (some (.int .u8 (.ofNat 3))) .nil) (some (.str [65])) .nil) (some (.int .u8 (.ofNat 2))) (.node .nil (some (.int .i64 (.ofNat 0))) .nil)))))) false true [])) .nil)) none .nil)) none .nil)) none .nil))))))),gl⟩)
end Go.Proofs.YtcmibpliaaknmaaGreatDoor.parseNames
