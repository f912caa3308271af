/-
  The law ValueOne of package value: what the document says of one value, and that it is the program's.
-/
import Derived.Test.YthnldpbkjegfaaaDoorTb
import Derived.Test.YthnldpbkjegfaaaDoorVal
import Derived.Test.YthnldpbkjegfaaaDoorFi
import Derived.Test.YthnldpbkjegfaaaDoorSr
import Derived.Test.YthnldpbkjegfaaaDoorLm
import Derived.Test.YthnldpbkjegfaaaDoorProg
import Derived.Test.YthnldpbkjegfaaaDoorSe
set_option linter.unusedVariables false
set_option linter.unusedSimpArgs false
noncomputable section
namespace Go.Proofs.YthnldpbkjegfaaaDoor
open Go Go.RowKit Go.Proofs Go.Proofs.YthnldpbkjegfaaaDoor.Sv
theorem okI (n : Int) : I64 n ∨ ¬ I64 n := Classical.em _
/-- a number, and whether it is in its range -/
def IB (n : Int) : V := .tuple [.si .i64 (if inI n then n else 0), .sb (inI n)]
theorem IB_yes {n : Int} (h : I64 n) : IB n = .tuple [.si .i64 n, .sb true] := by unfold IB; rw [inI_iff.2 h]; rfl
theorem IB_no {n : Int} (h : ¬ I64 n) : IB n = .tuple [.si .i64 0, .sb false] := by unfold IB; rw [inI_false h]; rfl
noncomputable def es_ryes : List Ent := []
theorem es_ryes_ok : EntsOk Tryd.prog tabS es_ryes := trivial
set_option maxRecDepth 100000 in
theorem ryes_vc (x : Vl) :
    ((decide (x.k = (2 : Int)) = true → (!decide (x.n = (0 : Int))) = vYes x) ∧ (decide (x.k = (2 : Int)) = false → false = vYes x)) →
    vcF Tryd.prog tabS (specs es_ryes) [] (noAnn) Tryd.f12 [x.v] (.sb (vYes x)) := fun h => Eq.mpr (by kernel_rfl) h
set_option maxRecDepth 100000 in
theorem ryes_ct (x : Vl)  : Ct Tryd.prog tabS 12 [x.v] (.sb (vYes x)) := Ct.of_vcF (specs_ok es_ryes_ok) Tryd.func12 (by kernel_rfl) (ryes_vc x (by
  by_cases h : x.k = 2 <;> simp [vYes, h]))
noncomputable def e_ryes : Ent := ent1 12 tVl (fun _ => True) (fun x => .sb (vYes x))
theorem ryes_ok : e_ryes.ok Tryd.prog tabS := ent1_ok fun x _ => ryes_ct x
noncomputable def es_rtruth : List Ent := []
theorem es_rtruth_ok : EntsOk Tryd.prog tabS es_rtruth := trivial
set_option maxRecDepth 100000 in
theorem rtruth_vc (b : Bool) :
    ((b = true → (2 : Int) = (vTruth b).k ∧ (1 : Int) = (vTruth b).n ∧ List.map UInt8.ofNat (bs { data := #[] }) = (vTruth b).t ∧ True) ∧ (b = false → (2 : Int) = (vTruth b).k ∧ (0 : Int) = (vTruth b).n ∧ List.map UInt8.ofNat (bs { data := #[] }) = (vTruth b).t ∧ True)) →
    vcF Tryd.prog tabS (specs es_rtruth) [] (noAnn) Tryd.f18 [.sb b] ((vTruth b).v) := fun h => Eq.mpr (by kernel_rfl) h
set_option maxRecDepth 100000 in
theorem rtruth_ct (b : Bool)  : Ct Tryd.prog tabS 18 [.sb b] ((vTruth b).v) := Ct.of_vcF (specs_ok es_rtruth_ok) Tryd.func18 (by kernel_rfl) (rtruth_vc b (by
  simp (config := {contextual := true}) [vTruth, bs0]))
noncomputable def e_rtruth : Ent := ent1 18 tB (fun _ => True) (fun b => (vTruth b).v)
theorem rtruth_ok : e_rtruth.ok Tryd.prog tabS := ent1_ok fun b _ => rtruth_ct b
noncomputable def es_rnum : List Ent := []
theorem es_rnum_ok : EntsOk Tryd.prog tabS es_rnum := trivial
set_option maxRecDepth 100000 in
theorem rnum_vc (n : Int) :
    ((1 : Int) = (vNum n).k ∧ n = (vNum n).n ∧ List.map UInt8.ofNat (bs { data := #[] }) = (vNum n).t ∧ True) →
    vcF Tryd.prog tabS (specs es_rnum) [] (noAnn) Tryd.f16 [.si .i64 n] ((vNum n).v) := fun h => Eq.mpr (by kernel_rfl) h
set_option maxRecDepth 100000 in
theorem rnum_ct (n : Int)  : Ct Tryd.prog tabS 16 [.si .i64 n] ((vNum n).v) := Ct.of_vcF (specs_ok es_rnum_ok) Tryd.func16 (by kernel_rfl) (rnum_vc n (by
  simp [vNum, bs0]))
noncomputable def e_rnum : Ent := ent1 16 (tI .i64) (fun _ => True) (fun n => (vNum n).v)
theorem rnum_ok : e_rnum.ok Tryd.prog tabS := ent1_ok fun n _ => rnum_ct n
noncomputable def es_rtold : List Ent := [e_rnum]
theorem es_rtold_ok : EntsOk Tryd.prog tabS es_rtold := ⟨rnum_ok, trivial⟩
set_option maxRecDepth 100000 in
theorem rtold_vc (n : Int) (ok : Bool) :
    (((!ok) = true → ((0 : Int) = (if ok = true then (vNum n, (0 : Int)) else (zv, (20 : Int))).fst.k ∧ (0 : Int) = (if ok = true then (vNum n, (0 : Int)) else (zv, (20 : Int))).fst.n ∧ List.map UInt8.ofNat (bs { data := #[] }) = (if ok = true then (vNum n, (0 : Int)) else (zv, (20 : Int))).fst.t ∧ True) ∧ (20 : Int) = (if ok = true then (vNum n, (0 : Int)) else (zv, (20 : Int))).snd ∧ True) ∧ ((!ok) = false → True ∧ ((vNum n).k = (if ok = true then (vNum n, (0 : Int)) else (zv, (20 : Int))).fst.k ∧ (vNum n).n = (if ok = true then (vNum n, (0 : Int)) else (zv, (20 : Int))).fst.n ∧ (vNum n).t = (if ok = true then (vNum n, (0 : Int)) else (zv, (20 : Int))).fst.t ∧ True) ∧ (0 : Int) = (if ok = true then (vNum n, (0 : Int)) else (zv, (20 : Int))).snd ∧ True)) →
    vcF Tryd.prog tabS (specs es_rtold) [] (noAnn) Tryd.f22 [.si .i64 n, .sb ok] (VE (if ok then (vNum n, 0) else (zv, 20))) := fun h => Eq.mpr (by kernel_rfl) h
set_option maxRecDepth 100000 in
theorem rtold_ct (n : Int) (ok : Bool)  : Ct Tryd.prog tabS 22 [.si .i64 n, .sb ok] (VE (if ok then (vNum n, 0) else (zv, 20))) := Ct.of_vcF (specs_ok es_rtold_ok) Tryd.func22 (by kernel_rfl) (rtold_vc n ok (by
  cases ok <;> simp [zv, bs0]))
noncomputable def e_rtold : Ent := ent2 22 (tI .i64) tB (fun _ _ => True) (fun n ok => VE (if ok then (vNum n, 0) else (zv, 20)))
theorem rtold_ok : e_rtold.ok Tryd.prog tabS := ent2_ok fun n ok _ => rtold_ct n ok
noncomputable def es_rsub : List Ent := []
theorem es_rsub_ok : EntsOk Tryd.prog tabS es_rsub := trivial
set_option maxRecDepth 100000 in
theorem rsub_vc (a b : Int) :
    ((decide (b < (0 : Int)) = true → (decide (IntKind.i64.wrap ((9223372036854775807 : Int) + b) < a) = true → ((0 : Int) = if inI (a - b) = true then a - b else (0 : Int)) ∧ false = inI (a - b) ∧ True) ∧ (decide (IntKind.i64.wrap ((9223372036854775807 : Int) + b) < a) = false → (decide ((0 : Int) < b) = true → (decide (a < IntKind.i64.wrap ((-9223372036854775808 : Int) + b)) = true → ((0 : Int) = if inI (a - b) = true then a - b else (0 : Int)) ∧ false = inI (a - b) ∧ True) ∧ (decide (a < IntKind.i64.wrap ((-9223372036854775808 : Int) + b)) = false → (IntKind.i64.wrap (a - b) = if inI (a - b) = true then a - b else (0 : Int)) ∧ true = inI (a - b) ∧ True)) ∧ (decide ((0 : Int) < b) = false → (IntKind.i64.wrap (a - b) = if inI (a - b) = true then a - b else (0 : Int)) ∧ true = inI (a - b) ∧ True))) ∧ (decide (b < (0 : Int)) = false → (decide ((0 : Int) < b) = true → (decide (a < IntKind.i64.wrap ((-9223372036854775808 : Int) + b)) = true → ((0 : Int) = if inI (a - b) = true then a - b else (0 : Int)) ∧ false = inI (a - b) ∧ True) ∧ (decide (a < IntKind.i64.wrap ((-9223372036854775808 : Int) + b)) = false → (IntKind.i64.wrap (a - b) = if inI (a - b) = true then a - b else (0 : Int)) ∧ true = inI (a - b) ∧ True)) ∧ (decide ((0 : Int) < b) = false → (IntKind.i64.wrap (a - b) = if inI (a - b) = true then a - b else (0 : Int)) ∧ true = inI (a - b) ∧ True))) →
    vcF Tryd.prog tabS (specs es_rsub) [] (noAnn) Tryd.f23 [.si .i64 a, .si .i64 b] (IB (a - b)) := fun h => Eq.mpr (by kernel_rfl) h
set_option maxRecDepth 100000 in
theorem rsub_ct (a b : Int) (ha : I64 a) (hb : I64 b) : Ct Tryd.prog tabS 23 [.si .i64 a, .si .i64 b] (IB (a - b)) := Ct.of_vcF (specs_ok es_rsub_ok) Tryd.func23 (by kernel_rfl) (rsub_vc a b (by
  have ha' := ha
  have hb' := hb
  unfold I64 at ha' hb'
  have w1 : b < 0 → IntKind.i64.wrap (9223372036854775807 + b) = 9223372036854775807 + b := fun h => wrap_i64 (by unfold I64; omega)
  have w2 : 0 < b → IntKind.i64.wrap (-9223372036854775808 + b) = -9223372036854775808 + b := fun h => wrap_i64 (by unfold I64; omega)
  by_cases h : I64 (a - b)
  · rw [inI_iff.2 h, wrap_i64 h]; unfold I64 at h
    by_cases c1 : 0 < b <;> by_cases c2 : b < 0 <;> simp [c1, c2, w1, w2] <;> omega
  · rw [inI_false h]; unfold I64 at h
    by_cases c1 : 0 < b <;> by_cases c2 : b < 0 <;> simp [c1, c2, w1, w2] <;> omega))
noncomputable def e_rsub : Ent := ent2 23 (tI .i64) (tI .i64) (fun a b => I64 a ∧ I64 b) (fun a b => IB (a - b))
theorem rsub_ok : e_rsub.ok Tryd.prog tabS := ent2_ok fun a b h => rsub_ct a b h.1 h.2
noncomputable def es_rone : List Ent := [e_rtold, e_rsub, e_rtruth, e_ryes, e_rnum]
theorem es_rone_ok : EntsOk Tryd.prog tabS es_rone := ⟨rtold_ok, rsub_ok, rtruth_ok, ryes_ok, rnum_ok, trivial⟩
set_option maxRecDepth 100000 in
theorem rone_vc (op : Int) (x : Vl) :
    ((decide (op = (3 : Int)) = true → (decide (x.k = (1 : Int)) = true → (I64 (0 : Int) ∧ I64 x.n) ∧ True ∧ ((if inI ((0 : Int) - x.n) = true then (vNum (if inI ((0 : Int) - x.n) = true then (0 : Int) - x.n else (0 : Int)), (0 : Int)) else (zv, (20 : Int))).fst.k = (vOne op x).fst.k ∧ (if inI ((0 : Int) - x.n) = true then (vNum (if inI ((0 : Int) - x.n) = true then (0 : Int) - x.n else (0 : Int)), (0 : Int)) else (zv, (20 : Int))).fst.n = (vOne op x).fst.n ∧ (if inI ((0 : Int) - x.n) = true then (vNum (if inI ((0 : Int) - x.n) = true then (0 : Int) - x.n else (0 : Int)), (0 : Int)) else (zv, (20 : Int))).fst.t = (vOne op x).fst.t ∧ True) ∧ (if inI ((0 : Int) - x.n) = true then (vNum (if inI ((0 : Int) - x.n) = true then (0 : Int) - x.n else (0 : Int)), (0 : Int)) else (zv, (20 : Int))).snd = (vOne op x).snd ∧ True) ∧ (decide (x.k = (1 : Int)) = false → (decide (op = (4 : Int)) = true → (decide (x.k = (2 : Int)) = true → True ∧ True ∧ ((vTruth !vYes x).k = (vOne op x).fst.k ∧ (vTruth !vYes x).n = (vOne op x).fst.n ∧ (vTruth !vYes x).t = (vOne op x).fst.t ∧ True) ∧ (0 : Int) = (vOne op x).snd ∧ True) ∧ (decide (x.k = (2 : Int)) = false → (decide (op = (16 : Int)) = true → (decide (x.k = (3 : Int)) = true → True ∧ ((vNum (↑x.t.length : Int)).k = (vOne op x).fst.k ∧ (vNum (↑x.t.length : Int)).n = (vOne op x).fst.n ∧ (vNum (↑x.t.length : Int)).t = (vOne op x).fst.t ∧ True) ∧ (0 : Int) = (vOne op x).snd ∧ True) ∧ (decide (x.k = (3 : Int)) = false →
      (decide (op = (3 : Int)) = true → ((0 : Int) = (vOne op x).fst.k ∧ (0 : Int) = (vOne op x).fst.n ∧ List.map UInt8.ofNat (bs { data := #[] }) = (vOne op x).fst.t ∧ True) ∧ (23 : Int) = (vOne op x).snd ∧ True) ∧ (decide (op = (3 : Int)) = false → (decide (op = (4 : Int)) = true → ((0 : Int) = (vOne op x).fst.k ∧ (0 : Int) = (vOne op x).fst.n ∧ List.map UInt8.ofNat (bs { data := #[] }) = (vOne op x).fst.t ∧ True) ∧ (23 : Int) = (vOne op x).snd ∧ True) ∧ (decide (op = (4 : Int)) = false → (decide (op = (16 : Int)) = true → ((0 : Int) = (vOne op x).fst.k ∧ (0 : Int) = (vOne op x).fst.n ∧ List.map UInt8.ofNat (bs { data := #[] }) = (vOne op x).fst.t ∧ True) ∧ (23 : Int) = (vOne op x).snd ∧ True) ∧ (decide (op = (16 : Int)) = false → ((0 : Int) = (vOne op x).fst.k ∧ (0 : Int) = (vOne op x).fst.n ∧ List.map UInt8.ofNat (bs { data := #[] }) = (vOne op x).fst.t ∧ True) ∧ (4 : Int) = (vOne op x).snd ∧ True))))) ∧ (decide (op = (16 : Int)) = false → (decide (op = (3 : Int)) = true → ((0 : Int) = (vOne op x).fst.k ∧ (0 : Int) = (vOne op x).fst.n ∧ List.map UInt8.ofNat (bs { data := #[] }) = (vOne op x).fst.t ∧ True) ∧ (23 : Int) = (vOne op x).snd ∧ True) ∧ (decide (op = (3 : Int)) = false → (decide (op = (4 : Int)) = true → ((0 : Int) = (vOne op x).fst.k ∧ (0 : Int) = (vOne op x).fst.n ∧ List.map UInt8.ofNat (bs { data := #[] }) = (vOne op x).fst.t ∧ True) ∧ (23 : Int) = (vOne op x).snd ∧ True) ∧ (decide (op = (4 : Int)) = false → (decide (op = (16 : Int)) = true →
      ((0 : Int) = (vOne op x).fst.k ∧ (0 : Int) = (vOne op x).fst.n ∧ List.map UInt8.ofNat (bs { data := #[] }) = (vOne op x).fst.t ∧ True) ∧ (23 : Int) = (vOne op x).snd ∧ True) ∧ (decide (op = (16 : Int)) = false → ((0 : Int) = (vOne op x).fst.k ∧ (0 : Int) = (vOne op x).fst.n ∧ List.map UInt8.ofNat (bs { data := #[] }) = (vOne op x).fst.t ∧ True) ∧ (4 : Int) = (vOne op x).snd ∧ True)))))) ∧ (decide (op = (4 : Int)) = false → (decide (op = (16 : Int)) = true → (decide (x.k = (3 : Int)) = true → True ∧ ((vNum (↑x.t.length : Int)).k = (vOne op x).fst.k ∧ (vNum (↑x.t.length : Int)).n = (vOne op x).fst.n ∧ (vNum (↑x.t.length : Int)).t = (vOne op x).fst.t ∧ True) ∧ (0 : Int) = (vOne op x).snd ∧ True) ∧ (decide (x.k = (3 : Int)) = false → (decide (op = (3 : Int)) = true → ((0 : Int) = (vOne op x).fst.k ∧ (0 : Int) = (vOne op x).fst.n ∧ List.map UInt8.ofNat (bs { data := #[] }) = (vOne op x).fst.t ∧ True) ∧ (23 : Int) = (vOne op x).snd ∧ True) ∧ (decide (op = (3 : Int)) = false → (decide (op = (4 : Int)) = true → ((0 : Int) = (vOne op x).fst.k ∧ (0 : Int) = (vOne op x).fst.n ∧ List.map UInt8.ofNat (bs { data := #[] }) = (vOne op x).fst.t ∧ True) ∧ (23 : Int) = (vOne op x).snd ∧ True) ∧ (decide (op = (4 : Int)) = false → (decide (op = (16 : Int)) = true → ((0 : Int) = (vOne op x).fst.k ∧ (0 : Int) = (vOne op x).fst.n ∧ List.map UInt8.ofNat (bs { data := #[] }) = (vOne op x).fst.t ∧ True) ∧ (23 : Int) = (vOne op x).snd ∧ True) ∧ (decide (op = (16 : Int)) = false →
      ((0 : Int) = (vOne op x).fst.k ∧ (0 : Int) = (vOne op x).fst.n ∧ List.map UInt8.ofNat (bs { data := #[] }) = (vOne op x).fst.t ∧ True) ∧ (4 : Int) = (vOne op x).snd ∧ True))))) ∧ (decide (op = (16 : Int)) = false → (decide (op = (3 : Int)) = true → ((0 : Int) = (vOne op x).fst.k ∧ (0 : Int) = (vOne op x).fst.n ∧ List.map UInt8.ofNat (bs { data := #[] }) = (vOne op x).fst.t ∧ True) ∧ (23 : Int) = (vOne op x).snd ∧ True) ∧ (decide (op = (3 : Int)) = false → (decide (op = (4 : Int)) = true → ((0 : Int) = (vOne op x).fst.k ∧ (0 : Int) = (vOne op x).fst.n ∧ List.map UInt8.ofNat (bs { data := #[] }) = (vOne op x).fst.t ∧ True) ∧ (23 : Int) = (vOne op x).snd ∧ True) ∧ (decide (op = (4 : Int)) = false → (decide (op = (16 : Int)) = true → ((0 : Int) = (vOne op x).fst.k ∧ (0 : Int) = (vOne op x).fst.n ∧ List.map UInt8.ofNat (bs { data := #[] }) = (vOne op x).fst.t ∧ True) ∧ (23 : Int) = (vOne op x).snd ∧ True) ∧ (decide (op = (16 : Int)) = false → ((0 : Int) = (vOne op x).fst.k ∧ (0 : Int) = (vOne op x).fst.n ∧ List.map UInt8.ofNat (bs { data := #[] }) = (vOne op x).fst.t ∧ True) ∧ (4 : Int) = (vOne op x).snd ∧ True))))))) ∧ (decide (op = (3 : Int)) = false → (decide (op = (4 : Int)) = true → (decide (x.k = (2 : Int)) = true → True ∧ True ∧ ((vTruth !vYes x).k = (vOne op x).fst.k ∧ (vTruth !vYes x).n = (vOne op x).fst.n ∧ (vTruth !vYes x).t = (vOne op x).fst.t ∧ True) ∧ (0 : Int) = (vOne op x).snd ∧ True) ∧ (decide (x.k = (2 : Int)) = false → (decide (op = (16 : Int)) = true →
      (decide (x.k = (3 : Int)) = true → True ∧ ((vNum (↑x.t.length : Int)).k = (vOne op x).fst.k ∧ (vNum (↑x.t.length : Int)).n = (vOne op x).fst.n ∧ (vNum (↑x.t.length : Int)).t = (vOne op x).fst.t ∧ True) ∧ (0 : Int) = (vOne op x).snd ∧ True) ∧ (decide (x.k = (3 : Int)) = false → (decide (op = (3 : Int)) = true → ((0 : Int) = (vOne op x).fst.k ∧ (0 : Int) = (vOne op x).fst.n ∧ List.map UInt8.ofNat (bs { data := #[] }) = (vOne op x).fst.t ∧ True) ∧ (23 : Int) = (vOne op x).snd ∧ True) ∧ (decide (op = (3 : Int)) = false → (decide (op = (4 : Int)) = true → ((0 : Int) = (vOne op x).fst.k ∧ (0 : Int) = (vOne op x).fst.n ∧ List.map UInt8.ofNat (bs { data := #[] }) = (vOne op x).fst.t ∧ True) ∧ (23 : Int) = (vOne op x).snd ∧ True) ∧ (decide (op = (4 : Int)) = false → (decide (op = (16 : Int)) = true → ((0 : Int) = (vOne op x).fst.k ∧ (0 : Int) = (vOne op x).fst.n ∧ List.map UInt8.ofNat (bs { data := #[] }) = (vOne op x).fst.t ∧ True) ∧ (23 : Int) = (vOne op x).snd ∧ True) ∧ (decide (op = (16 : Int)) = false → ((0 : Int) = (vOne op x).fst.k ∧ (0 : Int) = (vOne op x).fst.n ∧ List.map UInt8.ofNat (bs { data := #[] }) = (vOne op x).fst.t ∧ True) ∧ (4 : Int) = (vOne op x).snd ∧ True))))) ∧ (decide (op = (16 : Int)) = false → (decide (op = (3 : Int)) = true → ((0 : Int) = (vOne op x).fst.k ∧ (0 : Int) = (vOne op x).fst.n ∧ List.map UInt8.ofNat (bs { data := #[] }) = (vOne op x).fst.t ∧ True) ∧ (23 : Int) = (vOne op x).snd ∧ True) ∧ (decide (op = (3 : Int)) = false →
      (decide (op = (4 : Int)) = true → ((0 : Int) = (vOne op x).fst.k ∧ (0 : Int) = (vOne op x).fst.n ∧ List.map UInt8.ofNat (bs { data := #[] }) = (vOne op x).fst.t ∧ True) ∧ (23 : Int) = (vOne op x).snd ∧ True) ∧ (decide (op = (4 : Int)) = false → (decide (op = (16 : Int)) = true → ((0 : Int) = (vOne op x).fst.k ∧ (0 : Int) = (vOne op x).fst.n ∧ List.map UInt8.ofNat (bs { data := #[] }) = (vOne op x).fst.t ∧ True) ∧ (23 : Int) = (vOne op x).snd ∧ True) ∧ (decide (op = (16 : Int)) = false → ((0 : Int) = (vOne op x).fst.k ∧ (0 : Int) = (vOne op x).fst.n ∧ List.map UInt8.ofNat (bs { data := #[] }) = (vOne op x).fst.t ∧ True) ∧ (4 : Int) = (vOne op x).snd ∧ True)))))) ∧ (decide (op = (4 : Int)) = false → (decide (op = (16 : Int)) = true → (decide (x.k = (3 : Int)) = true → True ∧ ((vNum (↑x.t.length : Int)).k = (vOne op x).fst.k ∧ (vNum (↑x.t.length : Int)).n = (vOne op x).fst.n ∧ (vNum (↑x.t.length : Int)).t = (vOne op x).fst.t ∧ True) ∧ (0 : Int) = (vOne op x).snd ∧ True) ∧ (decide (x.k = (3 : Int)) = false → (decide (op = (3 : Int)) = true → ((0 : Int) = (vOne op x).fst.k ∧ (0 : Int) = (vOne op x).fst.n ∧ List.map UInt8.ofNat (bs { data := #[] }) = (vOne op x).fst.t ∧ True) ∧ (23 : Int) = (vOne op x).snd ∧ True) ∧ (decide (op = (3 : Int)) = false → (decide (op = (4 : Int)) = true → ((0 : Int) = (vOne op x).fst.k ∧ (0 : Int) = (vOne op x).fst.n ∧ List.map UInt8.ofNat (bs { data := #[] }) = (vOne op x).fst.t ∧ True) ∧ (23 : Int) = (vOne op x).snd ∧ True) ∧
      (decide (op = (4 : Int)) = false → (decide (op = (16 : Int)) = true → ((0 : Int) = (vOne op x).fst.k ∧ (0 : Int) = (vOne op x).fst.n ∧ List.map UInt8.ofNat (bs { data := #[] }) = (vOne op x).fst.t ∧ True) ∧ (23 : Int) = (vOne op x).snd ∧ True) ∧ (decide (op = (16 : Int)) = false → ((0 : Int) = (vOne op x).fst.k ∧ (0 : Int) = (vOne op x).fst.n ∧ List.map UInt8.ofNat (bs { data := #[] }) = (vOne op x).fst.t ∧ True) ∧ (4 : Int) = (vOne op x).snd ∧ True))))) ∧ (decide (op = (16 : Int)) = false → (decide (op = (3 : Int)) = true → ((0 : Int) = (vOne op x).fst.k ∧ (0 : Int) = (vOne op x).fst.n ∧ List.map UInt8.ofNat (bs { data := #[] }) = (vOne op x).fst.t ∧ True) ∧ (23 : Int) = (vOne op x).snd ∧ True) ∧ (decide (op = (3 : Int)) = false → (decide (op = (4 : Int)) = true → ((0 : Int) = (vOne op x).fst.k ∧ (0 : Int) = (vOne op x).fst.n ∧ List.map UInt8.ofNat (bs { data := #[] }) = (vOne op x).fst.t ∧ True) ∧ (23 : Int) = (vOne op x).snd ∧ True) ∧ (decide (op = (4 : Int)) = false → (decide (op = (16 : Int)) = true → ((0 : Int) = (vOne op x).fst.k ∧ (0 : Int) = (vOne op x).fst.n ∧ List.map UInt8.ofNat (bs { data := #[] }) = (vOne op x).fst.t ∧ True) ∧ (23 : Int) = (vOne op x).snd ∧ True) ∧ (decide (op = (16 : Int)) = false → ((0 : Int) = (vOne op x).fst.k ∧ (0 : Int) = (vOne op x).fst.n ∧ List.map UInt8.ofNat (bs { data := #[] }) = (vOne op x).fst.t ∧ True) ∧ (4 : Int) = (vOne op x).snd ∧ True))))))) →
    vcF Tryd.prog tabS (specs es_rone) [] (noAnn) Tryd.f6 [.si .u8 op, x.v] (VE (vOne op x)) := fun h => Eq.mpr (by kernel_rfl) h
set_option maxRecDepth 100000 in
theorem rone_ct (op : Int) (x : Vl) (ho : U8 op) (hx : VlOk x) : Ct Tryd.prog tabS 6 [.si .u8 op, x.v] (VE (vOne op x)) := Ct.of_vcF (specs_ok es_rone_ok) Tryd.func6 (by kernel_rfl) (rone_vc op x (by
  obtain ⟨hx1, hx2, hx3⟩ := hx
  unfold I64 at hx2
  unfold U8 at ho
  repeat' (first | exact trivial | apply And.intro | intro _)
  all_goals grind [vOne, zv, bs0, vNum, vTold]))
noncomputable def e_rone : Ent := ent2 6 (tI .u8) tVl (fun op x => U8 op ∧ VlOk x) (fun op x => VE (vOne op x))
theorem rone_ok : e_rone.ok Tryd.prog tabS := ent2_ok fun op x h => rone_ct op x h.1 h.2
theorem vMay0 {x : Vl} (h : x.k = 0) : vMay x = (decide (x.n = 0) && decide (x.t = [])) := by
  obtain ⟨k, n, t⟩ := x; subst h; unfold vMay zv; rw [if_pos rfl, ← Bool.decide_and]; exact decide_eq_decide.2 (by simp)
theorem vMay1 {x : Vl} (h : x.k = 1) : vMay x = decide (x.t = []) := by
  obtain ⟨k, n, t⟩ := x; subst h; unfold vMay vNum; rw [if_neg (by simp), if_pos rfl]; exact decide_eq_decide.2 (by simp)
theorem vMay2 {x : Vl} (h : x.k = 2) : vMay x = ((decide (x.n = 0) || decide (x.n = 1)) && decide (x.t = [])) := by
  obtain ⟨k, n, t⟩ := x; subst h; unfold vMay vTruth; rw [if_neg (by simp), if_neg (by simp), if_pos rfl, ← Bool.decide_or, ← Bool.decide_or, ← Bool.decide_and]; exact decide_eq_decide.2 (by simp; constructor <;> (intro h; rcases h with h | h <;> simp_all))
theorem vMay3 {x : Vl} (h : x.k = 3) : vMay x = (decide (x.n = 0) && (decide ((x.t.length : Int) ≤ 40) && plainS x.t)) := by
  obtain ⟨k, n, t⟩ := x; subst h; unfold vMay vText; rw [if_neg (by simp), if_neg (by simp), if_neg (by simp), if_pos rfl]; congr 1; exact decide_eq_decide.2 (by simp)
theorem vMay4 {x : Vl} (h0 : x.k ≠ 0) (h1 : x.k ≠ 1) (h2 : x.k ≠ 2) (h3 : x.k ≠ 3) : vMay x = false := by
  unfold vMay; rw [if_neg h0, if_neg h1, if_neg h2, if_neg h3]
noncomputable def es_rmay : List Ent := []
theorem es_rmay_ok : EntsOk Tryd.prog tabS es_rmay := trivial
set_option maxRecDepth 100000 in
theorem rmay_vc (x : Vl) :
    ((decide (x.k = (0 : Int)) = true → (decide (x.n = (0 : Int)) = true → decide (x.t = List.map UInt8.ofNat (bs { data := #[] })) = vMay x) ∧ (decide (x.n = (0 : Int)) = false → false = vMay x)) ∧ (decide (x.k = (0 : Int)) = false → (decide (x.k = (1 : Int)) = true → decide (x.t = List.map UInt8.ofNat (bs { data := #[] })) = vMay x) ∧ (decide (x.k = (1 : Int)) = false → (decide (x.k = (2 : Int)) = true → (decide (x.n = (0 : Int)) = true → decide (x.t = List.map UInt8.ofNat (bs { data := #[] })) = vMay x) ∧ (decide (x.n = (0 : Int)) = false → (decide (x.n = (1 : Int)) = true → decide (x.t = List.map UInt8.ofNat (bs { data := #[] })) = vMay x) ∧ (decide (x.n = (1 : Int)) = false → false = vMay x))) ∧ (decide (x.k = (2 : Int)) = false → (decide (x.k = (3 : Int)) = true → (∃ (a : Nat), (a ≤ x.t.length ∧ ((List.range a).all fun (i : Nat) => okC (x.t.getD i (0 : UInt8))) = true) ∧ tabS.glob = tabS.glob ∧ (True ∧ (0 : Int) = (↑a : Int)) ∧ x.k = x.k ∧ x.n = x.n ∧ x.t = x.t) ∧ ∀ (a : Nat), a ≤ x.t.length ∧ ((List.range a).all fun (i : Nat) => okC (x.t.getD i (0 : UInt8))) = true → (decide ((↑a : Int) < (↑x.t.length : Int)) = true → ((0 : Int) ≤ (↑a : Int) ∧ (↑a : Int) < (↑x.t.length : Int)) ∧ (decide ((↑(x.t.getD (↑a : Int).toNat (0 : UInt8)).toNat : Int) < (32 : Int)) = true → false = vMay x) ∧ (decide ((↑(x.t.getD (↑a : Int).toNat (0 : UInt8)).toNat : Int) < (32 : Int)) = false → ((0 : Int) ≤ (↑a : Int) ∧ (↑a : Int) < (↑x.t.length : Int)) ∧
      (decide ((126 : Int) < (↑(x.t.getD (↑a : Int).toNat (0 : UInt8)).toNat : Int)) = true → false = vMay x) ∧ (decide ((126 : Int) < (↑(x.t.getD (↑a : Int).toNat (0 : UInt8)).toNat : Int)) = false → ((0 : Int) ≤ (↑a : Int) ∧ (↑a : Int) < (↑x.t.length : Int)) ∧ (decide ((↑(x.t.getD (↑a : Int).toNat (0 : UInt8)).toNat : Int) = (39 : Int)) = true → false = vMay x) ∧ (decide ((↑(x.t.getD (↑a : Int).toNat (0 : UInt8)).toNat : Int) = (39 : Int)) = false → ∃ (a' : Nat), (a' ≤ x.t.length ∧ ((List.range a').all fun (i : Nat) => okC (x.t.getD i (0 : UInt8))) = true) ∧ x.t.length - a' < x.t.length - a ∧ tabS.glob = tabS.glob ∧ (True ∧ IntKind.i64.wrap ((↑a : Int) + (1 : Int)) = (↑a' : Int)) ∧ x.k = x.k ∧ x.n = x.n ∧ x.t = x.t)))) ∧ (decide ((↑a : Int) < (↑x.t.length : Int)) = false → (decide (x.n = (0 : Int)) = true → decide ((↑x.t.length : Int) ≤ (40 : Int)) = vMay x) ∧ (decide (x.n = (0 : Int)) = false → false = vMay x))) ∧ (decide (x.k = (3 : Int)) = false → false = vMay x))))) →
    vcF Tryd.prog tabS (specs es_rmay) [] (({ loops := loopsAt [(10, { α := Nat, inv := fun i fm st => ({ fm with tm := fm.tm.set 3 (some (.si .i64 (i : Int))) }, st), pre := fun i => i ≤ x.t.length ∧ (List.range i).all (fun i => okC (x.t.getD i 0)) = true, mu := fun i => x.t.length - i })] } : Ann)) Tryd.f8 [x.v] (.sb (vMay x)) := fun h => Eq.mpr (by kernel_rfl) h
set_option maxRecDepth 100000 in
theorem rmay_ct (x : Vl) (h : x.t.length ≤ 140737488351232) : Ct Tryd.prog tabS 8 [x.v] (.sb (vMay x)) := Ct.of_vcF (specs_ok es_rmay_ok) Tryd.func8 (by kernel_rfl) (rmay_vc x (by
  have e0 : List.map UInt8.ofNat (bs { data := #[] }) = [] := rfl
  simp only [e0, true_and, and_true, eq_self, implies_true, and_self, Int.toNat_natCast]
  refine ⟨fun c => ?_, fun c0 => ⟨fun c => ?_, fun c1 => ⟨fun c => ?_, fun c2 => ⟨fun c => ⟨⟨0, ⟨Nat.zero_le _, rfl⟩, rfl⟩, fun a ha => ⟨fun ca => ?_, fun ca => ?_⟩⟩, fun c3 => ?_⟩⟩⟩⟩
  · rw [vMay0 (of_decide_eq_true c)]; exact ⟨fun d => by rw [d]; rfl, fun d => by rw [d]; rfl⟩
  · rw [vMay1 (of_decide_eq_true c)]
  · rw [vMay2 (of_decide_eq_true c)]; exact ⟨fun d => by rw [d]; rfl, fun d => ⟨fun e => by rw [d, e]; rfl, fun e => by rw [d, e]; rfl⟩⟩
  · rw [vMay3 (of_decide_eq_true c)]
    obtain ⟨h1, h2⟩ := ha
    have hlt : a < x.t.length := by have := of_decide_eq_true ca; omega
    have no : okC (x.t.getD a 0) = false → false = (decide (x.n = 0) && (decide ((x.t.length : Int) ≤ 40) && plainS x.t)) := fun e => by
      have : plainS x.t = false := all_false (f := fun i => okC (x.t.getD i 0)) hlt e
      rw [this]; simp
    refine ⟨⟨by omega, by omega⟩, fun d => no ?_, fun d1 => ⟨⟨by omega, by omega⟩, fun d => no ?_, fun d2 => ⟨⟨by omega, by omega⟩, fun d => no ?_, fun d3 => ⟨a + 1, ⟨hlt, ?_⟩, by omega, ?_⟩⟩⟩⟩
    · have := of_decide_eq_true d
      have e : decide (32 ≤ ((x.t.getD a 0).toNat : Int)) = false := decide_eq_false (by omega)
      simp only [okC, e, Bool.false_and]
    · have := of_decide_eq_true d
      have e : decide (((x.t.getD a 0).toNat : Int) ≤ 126) = false := decide_eq_false (by omega)
      simp only [okC, e, Bool.and_false, Bool.false_and]
    · simp only [okC, d, Bool.not_true, Bool.and_false]
    · rw [all_succ, h2]
      have := of_decide_eq_false d1
      have := of_decide_eq_false d2
      have e1 : decide (32 ≤ ((x.t.getD a 0).toNat : Int)) = true := decide_eq_true (by omega)
      have e2 : decide (((x.t.getD a 0).toNat : Int) ≤ 126) = true := decide_eq_true (by omega)
      simp only [okC, e1, e2, d3, Bool.not_false, Bool.and_true]
    · rw [wrap_i64 (by unfold I64; omega)]; omega
  · obtain ⟨h1, h2⟩ := ha
    have : a = x.t.length := by have := of_decide_eq_false ca; omega
    subst this
    have hp : plainS x.t = true := h2
    rw [vMay3 (of_decide_eq_true c), hp]
    exact ⟨fun d => by rw [d]; simp, fun d => by rw [d]; simp⟩
  · exact (vMay4 (of_decide_eq_false c0) (of_decide_eq_false c1) (of_decide_eq_false c2) (of_decide_eq_false c3)).symm))
noncomputable def e_rmay : Ent := ent1 8 tVl (fun x => x.t.length ≤ 140737488351232) (fun x => .sb (vMay x))
theorem rmay_ok : e_rmay.ok Tryd.prog tabS := ent1_ok fun x h => rmay_ct x h
noncomputable def es_ris : List Ent := [e_rmay]
theorem es_ris_ok : EntsOk Tryd.prog tabS es_ris := ⟨rmay_ok, trivial⟩
set_option maxRecDepth 100000 in
theorem ris_vc (x : Vl) (k : Int) :
    (x.t.length ≤ (140737488351232 : Nat) ∧ (vMay x = true → decide (x.k = k) = (vMay x && decide (x.k = k))) ∧ (vMay x = false → false = (vMay x && decide (x.k = k)))) →
    vcF Tryd.prog tabS (specs es_ris) [] (noAnn) Tryd.f10 [x.v, .si .u8 k] (.sb (vMay x && decide (x.k = k))) := fun h => Eq.mpr (by kernel_rfl) h
set_option maxRecDepth 100000 in
theorem ris_ct (x : Vl) (k : Int) (h : x.t.length ≤ 140737488351232) : Ct Tryd.prog tabS 10 [x.v, .si .u8 k] (.sb (vMay x && decide (x.k = k))) := Ct.of_vcF (specs_ok es_ris_ok) Tryd.func10 (by kernel_rfl) (ris_vc x k (by
  refine ⟨h, fun c => ?_, fun c => ?_⟩ <;> simp [c]))
noncomputable def e_ris : Ent := ent2 10 tVl (tI .u8) (fun x _ => x.t.length ≤ 140737488351232) (fun x k => .sb (vMay x && decide (x.k = k)))
theorem ris_ok : e_ris.ok Tryd.prog tabS := ent2_ok fun x k h => ris_ct x k h
def dz (u : Nat) : List UInt8 := if u = 0 then [] else Lib.decDigits u
theorem dz_step {u : Nat} (h : u ≠ 0) : dz u = dz (u / 10) ++ [UInt8.ofNat (48 + u % 10)] := by
  unfold dz
  rw [if_neg h]
  by_cases h2 : u / 10 = 0
  · rw [if_pos h2, Lib.decDigits, dif_pos (by omega), show u % 10 = u by omega]; rfl
  · rw [if_neg h2, Lib.decDigits, dif_neg (by omega)]
theorem dec_step (u : Nat) : Lib.decDigits u = dz (u / 10) ++ [UInt8.ofNat (48 + u % 10)] := by
  by_cases h : u = 0
  · subst h; rw [Lib.decDigits]; rfl
  · rw [← dz_step h, dz, if_neg h]
theorem dec_len (u : Nat) (k : Nat) (h : u < 10 ^ k) (hk : 0 < k) : (Lib.decDigits u).length ≤ k := by
  induction k generalizing u with
  | zero => omega
  | succ k ih =>
    rw [Lib.decDigits]
    split
    · simp
    · rename_i h10
      have hk0 : 0 < k := by
        rcases Nat.eq_zero_or_pos k with rfl | h0
        · simp at h; omega
        · exact h0
      have := ih (u / 10) (by rw [Nat.pow_succ] at h; omega) hk0
      simp; omega
/-- what a loop of Digits keeps: what is left, and what was written -/
structure Dg where
  u : Nat
  s : List UInt8
noncomputable def es_rdig : List Ent := []
theorem es_rdig_ok : EntsOk Tryd.prog tabS es_rdig := trivial
set_option maxRecDepth 100000 in
theorem rdig_vc (n : Int) :
    ((decide (n < (0 : Int)) = true → (∃ (a : Dg), (a.u ≤ n.natAbs ∧ dz n.natAbs = dz a.u ++ a.s) ∧ tabG = tabG ∧ (n = -(↑a.u : Int) ∧ List.map UInt8.ofNat (bs { data := #[] }) = a.s ∧ True) ∧ True) ∧ ∀ (a : Dg), a.u ≤ n.natAbs ∧ dz n.natAbs = dz a.u ++ a.s → ((!decide (-(↑a.u : Int) = (0 : Int))) = true → (10 : Int) ≠ (0 : Int) ∧ (True ∧ True) ∧ (accB (List.replicate (1 : Nat) none) fun (j x : Nat) => (chunkV (1 : Nat) (1 : Nat) [V.si IntKind.u8 (IntKind.u8.wrap (IntKind.i64.wrap ((48 : Int) - (-(↑a.u : Int)).tmod (10 : Int))))]).getD j V.nilp).length + a.s.length ≤ (9223372036854775807 : Nat) ∧ (10 : Int) ≠ (0 : Int) ∧ ∃ (a' : Dg), (a'.u ≤ n.natAbs ∧ dz n.natAbs = dz a'.u ++ a'.s) ∧ a'.u < a.u ∧ tabG = tabG ∧ (IntKind.i64.wrap ((-(↑a.u : Int)).tdiv (10 : Int)) = -(↑a'.u : Int) ∧ (accB (List.replicate (1 : Nat) none) fun (j x : Nat) => (chunkV (1 : Nat) (1 : Nat) [V.si IntKind.u8 (IntKind.u8.wrap (IntKind.i64.wrap ((48 : Int) - (-(↑a.u : Int)).tmod (10 : Int))))]).getD j V.nilp) ++ a.s = a'.s ∧ True) ∧ True) ∧ ((!decide (-(↑a.u : Int) = (0 : Int))) = false → (List.map UInt8.ofNat (bs { data := #[(45 : UInt8)] })).length + a.s.length ≤ (9223372036854775807 : Nat) ∧ List.map UInt8.ofNat (bs { data := #[(45 : UInt8)] }) ++ a.s = Lib.itoa n)) ∧ (decide (n < (0 : Int)) = false → (∃ (a : Dg), (a.u ≤ n.natAbs ∧ (a.s = [] ∧ a.u = n.natAbs ∨ a.s ≠ [] ∧ Lib.decDigits n.natAbs = dz a.u ++ a.s)) ∧ tabG = tabG ∧ (n = (↑a.u : Int) ∧ True ∧
      List.map UInt8.ofNat (bs { data := #[] }) = a.s) ∧ True) ∧ ∀ (a : Dg), a.u ≤ n.natAbs ∧ (a.s = [] ∧ a.u = n.natAbs ∨ a.s ≠ [] ∧ Lib.decDigits n.natAbs = dz a.u ++ a.s) → (decide ((0 : Int) < (↑a.u : Int)) = true → (10 : Int) ≠ (0 : Int) ∧ (True ∧ True) ∧ (accB (List.replicate (1 : Nat) none) fun (j x : Nat) => (chunkV (1 : Nat) (1 : Nat) [V.si IntKind.u8 (IntKind.u8.wrap (IntKind.i64.wrap ((48 : Int) + (↑a.u : Int).tmod (10 : Int))))]).getD j V.nilp).length + a.s.length ≤ (9223372036854775807 : Nat) ∧ (10 : Int) ≠ (0 : Int) ∧ ∃ (a' : Dg), (a'.u ≤ n.natAbs ∧ (a'.s = [] ∧ a'.u = n.natAbs ∨ a'.s ≠ [] ∧ Lib.decDigits n.natAbs = dz a'.u ++ a'.s)) ∧ ((a'.u + if a'.s = [] then (1 : Nat) else (0 : Nat)) < a.u + if a.s = [] then (1 : Nat) else (0 : Nat)) ∧ tabG = tabG ∧ (IntKind.i64.wrap ((↑a.u : Int).tdiv (10 : Int)) = (↑a'.u : Int) ∧ True ∧ (accB (List.replicate (1 : Nat) none) fun (j x : Nat) => (chunkV (1 : Nat) (1 : Nat) [V.si IntKind.u8 (IntKind.u8.wrap (IntKind.i64.wrap ((48 : Int) + (↑a.u : Int).tmod (10 : Int))))]).getD j V.nilp) ++ a.s = a'.s) ∧ True) ∧ (decide ((0 : Int) < (↑a.u : Int)) = false → (decide (a.s = List.map UInt8.ofNat (bs { data := #[] })) = true → (10 : Int) ≠ (0 : Int) ∧ (True ∧ True) ∧ (accB (List.replicate (1 : Nat) none) fun (j x : Nat) => (chunkV (1 : Nat) (1 : Nat) [V.si IntKind.u8 (IntKind.u8.wrap (IntKind.i64.wrap ((48 : Int) + (↑a.u : Int).tmod (10 : Int))))]).getD j V.nilp).length + a.s.length ≤ (9223372036854775807 : Nat) ∧ (10 : Int) ≠ (0 : Int) ∧
      ∃ (a' : Dg), (a'.u ≤ n.natAbs ∧ (a'.s = [] ∧ a'.u = n.natAbs ∨ a'.s ≠ [] ∧ Lib.decDigits n.natAbs = dz a'.u ++ a'.s)) ∧ ((a'.u + if a'.s = [] then (1 : Nat) else (0 : Nat)) < a.u + if a.s = [] then (1 : Nat) else (0 : Nat)) ∧ tabG = tabG ∧ (IntKind.i64.wrap ((↑a.u : Int).tdiv (10 : Int)) = (↑a'.u : Int) ∧ True ∧ (accB (List.replicate (1 : Nat) none) fun (j x : Nat) => (chunkV (1 : Nat) (1 : Nat) [V.si IntKind.u8 (IntKind.u8.wrap (IntKind.i64.wrap ((48 : Int) + (↑a.u : Int).tmod (10 : Int))))]).getD j V.nilp) ++ a.s = a'.s) ∧ True) ∧ (decide (a.s = List.map UInt8.ofNat (bs { data := #[] })) = false → a.s = Lib.itoa n)))) →
    vcF Tryd.prog tabS (specs es_rdig) [] (({ loops := loopsAt [(3, { α := Dg, inv := fun a fm st => ({ fm with tm := (fm.tm.set 3 (some (.ss a.s))).set 0 (some (.si .i64 (-(a.u : Int)))) }, st), pre := fun a => a.u ≤ n.natAbs ∧ dz n.natAbs = dz a.u ++ a.s, mu := fun a => a.u }), (8, { α := Dg, inv := fun a fm st => ({ fm with tm := (fm.tm.set 4 (some (.ss a.s))).set 0 (some (.si .i64 (a.u : Int))) }, st), pre := fun a => a.u ≤ n.natAbs ∧ ((a.s = [] ∧ a.u = n.natAbs) ∨ (a.s ≠ [] ∧ Lib.decDigits n.natAbs = dz a.u ++ a.s)), mu := fun a => a.u + (if a.s = [] then 1 else 0) })] } : Ann)) Tryd.f27 [.si .i64 n] (.ss (Lib.itoa n)) := fun h => Eq.mpr (by kernel_rfl) h
set_option maxRecDepth 100000 in
theorem rdig_ct (n : Int) (h : I64 n) : Ct Tryd.prog tabS 27 [.si .i64 n] (.ss (Lib.itoa n)) := Ct.of_vcF (specs_ok es_rdig_ok) Tryd.func27 (by kernel_rfl) (rdig_vc n (by
  have e0 : List.map UInt8.ofNat (bs { data := #[] }) = [] := rfl
  have e1 : List.map UInt8.ofNat (bs { data := #[45] }) = [45] := rfl
  have hb : ∀ z : Int, accB (List.replicate 1 none) (fun j x => (chunkV 1 1 [V.si IntKind.u8 z]).getD j V.nilp) = [UInt8.ofNat z.toNat] := fun z => rfl
  have tm : ∀ u : Nat, ((u : Int)).tmod 10 = ((u % 10 : Nat) : Int) := fun u => by rw [Int.tmod_eq_emod_of_nonneg (by omega)]; omega
  have tn : ∀ u : Nat, (-(u : Int)).tmod 10 = -((u % 10 : Nat) : Int) := fun u => by rw [Int.neg_tmod, tm]
  have td : ∀ u : Nat, ((u : Int)).tdiv 10 = ((u / 10 : Nat) : Int) := fun u => by rw [Int.tdiv_eq_ediv_of_nonneg (by omega)]; omega
  have te : ∀ u : Nat, (-(u : Int)).tdiv 10 = -((u / 10 : Nat) : Int) := fun u => by rw [Int.neg_tdiv, td]
  have h' := h
  unfold I64 at h'
  have w1 : ∀ u : Nat, IntKind.u8.wrap (IntKind.i64.wrap (48 + ((u % 10 : Nat) : Int))) = ((48 + u % 10 : Nat) : Int) := fun u => by
    rw [wrap_i64 (by unfold I64; omega), IntKind.wrap_u8]; omega
  have w2 : ∀ u : Nat, IntKind.u8.wrap (IntKind.i64.wrap (48 - -((u % 10 : Nat) : Int))) = ((48 + u % 10 : Nat) : Int) := fun u => by
    rw [wrap_i64 (by unfold I64; omega), IntKind.wrap_u8]; omega
  have len : (Lib.decDigits n.natAbs).length ≤ 19 := dec_len _ 19 (by omega) (by decide)
  have len2 : (dz n.natAbs).length ≤ 19 := by unfold dz; split; exact Nat.zero_le _; exact len
  have num : (10 : Int) ≠ 0 := by decide
  simp only [hb, e0, e1, tm, tn, td, te, w1, w2, true_and, and_true, eq_self, Int.toNat_natCast]
  refine ⟨fun c => ⟨⟨⟨n.natAbs, []⟩, ⟨Nat.le_refl _, by simp⟩, ?_, rfl⟩, fun a ha => ⟨fun d => ?_, fun d => ?_⟩⟩, fun c => ⟨⟨⟨n.natAbs, []⟩, ⟨Nat.le_refl _, .inl ⟨rfl, rfl⟩⟩, ?_, rfl⟩, fun a ha => ?_⟩⟩
  · have := of_decide_eq_true c; dsimp only; omega
  · obtain ⟨h1, h2⟩ := ha
    have d : a.u ≠ 0 := by simp at d; omega
    have hl := congrArg List.length h2
    rw [List.length_append] at hl
    refine ⟨num, by simp; omega, num, ⟨a.u / 10, UInt8.ofNat (48 + a.u % 10) :: a.s⟩, ⟨by simp only; omega, ?_⟩, by simp only; omega, ?_, rfl⟩
    · rw [h2, dz_step d]; simp
    · rw [wrap_i64 (by unfold I64; omega)]
  · obtain ⟨h1, h2⟩ := ha
    have d : a.u = 0 := by simp at d; omega
    have c := of_decide_eq_true c
    have hl := congrArg List.length h2
    rw [List.length_append] at hl
    refine ⟨by simp; omega, ?_⟩
    rw [d, show dz 0 = [] from rfl, List.nil_append, dz, if_neg (by omega)] at h2
    unfold Lib.itoa
    rw [if_pos c, h2]; rfl
  · have := of_decide_eq_false c; dsimp only; omega
  · have c := of_decide_eq_false c
    obtain ⟨h1, h2⟩ := ha
    have step : (a.u ≠ 0 ∨ a.s = []) → (10 : Int) ≠ 0 ∧ ([UInt8.ofNat (48 + a.u % 10)] : List UInt8).length + a.s.length ≤ 9223372036854775807 ∧ (10 : Int) ≠ 0 ∧
        ∃ a' : Dg, (a'.u ≤ n.natAbs ∧ (a'.s = [] ∧ a'.u = n.natAbs ∨ a'.s ≠ [] ∧ Lib.decDigits n.natAbs = dz a'.u ++ a'.s)) ∧ ((a'.u + if a'.s = [] then 1 else 0) < a.u + if a.s = [] then 1 else 0) ∧
          IntKind.i64.wrap ((a.u / 10 : Nat) : Int) = (a'.u : Int) ∧ [UInt8.ofNat (48 + a.u % 10)] ++ a.s = a'.s := by
      intro hu
      refine ⟨num, ?_, num, ⟨a.u / 10, UInt8.ofNat (48 + a.u % 10) :: a.s⟩, ⟨by simp only; omega, .inr ⟨by simp, ?_⟩⟩, ?_, by rw [wrap_i64 (by unfold I64; omega)], rfl⟩
      · rcases h2 with ⟨h2, _⟩ | ⟨_, h2⟩
        · rw [h2]; simp
        · have hl := congrArg List.length h2
          rw [List.length_append] at hl
          simp; omega
      · rcases h2 with ⟨h2, h3⟩ | ⟨h3, h2⟩
        · rw [h2, ← h3, dec_step]
        · have : a.u ≠ 0 := by rcases hu with hu | hu; exact hu; exact absurd hu h3
          rw [h2, dz_step this]; simp
      · dsimp only
        rw [if_neg (by simp)]
        split
        · omega
        · rename_i h3
          have : a.u ≠ 0 := by rcases hu with hu | hu; exact hu; exact absurd hu h3
          omega
    refine ⟨fun d => step (.inl (by have := of_decide_eq_true d; omega)), fun d => ⟨fun e => step (.inr (of_decide_eq_true e)), fun e => ?_⟩⟩
    clear step
    have d := of_decide_eq_false d
    have e := of_decide_eq_false e
    have d0 : a.u = 0 := by omega
    rcases h2 with ⟨h2, _⟩ | ⟨_, h2⟩
    · exact absurd h2 e
    · rw [d0, show dz 0 = [] from rfl, List.nil_append] at h2
      unfold Lib.itoa
      rw [if_neg c, show n.toNat = n.natAbs by omega, h2]))
noncomputable def e_rdig : Ent := ent1 27 (tI .i64) (fun n => I64 n) (fun n => .ss (Lib.itoa n))
theorem rdig_ok : e_rdig.ok Tryd.prog tabS := ent1_ok fun n h => rdig_ct n h
noncomputable def es_rshw : List Ent := [e_rdig]
theorem es_rshw_ok : EntsOk Tryd.prog tabS es_rshw := ⟨rdig_ok, trivial⟩
set_option maxRecDepth 100000 in
theorem rshw_vc (x : Vl) :
    ((decide (x.k = (1 : Int)) = true → I64 x.n ∧ Lib.itoa x.n = vShow x) ∧ (decide (x.k = (1 : Int)) = false → (decide (x.k = (2 : Int)) = true → ((!decide (x.n = (0 : Int))) = true → List.map UInt8.ofNat (bs { data := #[(121 : UInt8), (101 : UInt8), (115 : UInt8)] }) = vShow x) ∧ ((!decide (x.n = (0 : Int))) = false → List.map UInt8.ofNat (bs { data := #[(110 : UInt8), (111 : UInt8)] }) = vShow x)) ∧ (decide (x.k = (2 : Int)) = false → (decide (x.k = (3 : Int)) = true → (List.map UInt8.ofNat (bs { data := #[(39 : UInt8)] })).length + x.t.length ≤ (9223372036854775807 : Nat) ∧ (List.map UInt8.ofNat (bs { data := #[(39 : UInt8)] }) ++ x.t).length + (List.map UInt8.ofNat (bs { data := #[(39 : UInt8)] })).length ≤ (9223372036854775807 : Nat) ∧ List.map UInt8.ofNat (bs { data := #[(39 : UInt8)] }) ++ x.t ++ List.map UInt8.ofNat (bs { data := #[(39 : UInt8)] }) = vShow x) ∧ (decide (x.k = (3 : Int)) = false → List.map UInt8.ofNat (bs { data := #[(110 : UInt8), (111 : UInt8), (110 : UInt8), (101 : UInt8)] }) = vShow x)))) →
    vcF Tryd.prog tabS (specs es_rshw) [] (noAnn) Tryd.f14 [x.v] (.ss (vShow x)) := fun h => Eq.mpr (by kernel_rfl) h
set_option maxRecDepth 100000 in
theorem rshw_ct (x : Vl) (hn : I64 x.n) (h : x.t.length ≤ 140737488351232) : Ct Tryd.prog tabS 14 [x.v] (.ss (vShow x)) := Ct.of_vcF (specs_ok es_rshw_ok) Tryd.func14 (by kernel_rfl) (rshw_vc x (by
  have e0 : List.map UInt8.ofNat (bs { data := #[39] }) = [39] := rfl
  have e1 : List.map UInt8.ofNat (bs { data := #[121, 101, 115] }) = [121, 101, 115] := rfl
  have e2 : List.map UInt8.ofNat (bs { data := #[110, 111] }) = [110, 111] := rfl
  have e3 : List.map UInt8.ofNat (bs { data := #[110, 111, 110, 101] }) = [110, 111, 110, 101] := rfl
  simp only [e0, e1, e2, e3, true_and, and_true]
  unfold vShow
  refine ⟨fun c => ⟨hn, ?_⟩, fun c1 => ⟨fun c => ⟨fun d => ?_, fun d => ?_⟩, fun c2 => ⟨fun c => ⟨by simp; omega, by simp; omega, ?_⟩, fun c3 => ?_⟩⟩⟩ <;> simp_all [vYes]))
noncomputable def e_rshw : Ent := ent1 14 tVl (fun x => I64 x.n ∧ x.t.length ≤ 140737488351232) (fun x => .ss (vShow x))
theorem rshw_ok : e_rshw.ok Tryd.prog tabS := ent1_ok fun x h => rshw_ct x h.1 h.2
noncomputable def es_lawo : List Ent := [e_one, e_rone, e_may, e_rmay, e_is, e_ris, e_yes, e_ryes, e_shw, e_rshw, e_num, e_rnum, e_truth, e_rtruth]
theorem es_lawo_ok : EntsOk Tryd.prog tabS es_lawo := ⟨one_ok, rone_ok, may_ok, rmay_ok, is_ok, ris_ok, yes_ok, ryes_ok, shw_ok, rshw_ok, num_ok, rnum_ok, truth_ok, rtruth_ok, trivial⟩
set_option maxRecDepth 100000 in
theorem lawo_vc (x : Vl) (k : Int) :
    ((decide ((2000 : Int) < (↑x.t.length : Int)) = true → true = true) ∧ (decide ((2000 : Int) < (↑x.t.length : Int)) = false → (U8 k ∧ VlOk x) ∧ (U8 k ∧ VlOk x) ∧ x.t.length ≤ (140737488351232 : Nat) ∧ x.t.length ≤ (140737488351232 : Nat) ∧ ((vMay x == vMay x) = true → x.t.length ≤ (140737488351232 : Nat) ∧ x.t.length ≤ (140737488351232 : Nat) ∧ (((vMay x && decide (x.k = k)) == (vMay x && decide (x.k = k))) = true → True ∧ True ∧ ((vYes x == vYes x) = true → (I64 x.n ∧ x.t.length ≤ (140737488351232 : Nat)) ∧ (I64 x.n ∧ x.t.length ≤ (140737488351232 : Nat)) ∧ (decide (vShow x = vShow x) = true → ((decide ((vOne k x).fst.k = (vOne k x).fst.k) && (decide ((vOne k x).fst.n = (vOne k x).fst.n) && (decide ((vOne k x).fst.t = (vOne k x).fst.t) && true))) = true → (decide ((vOne k x).snd = (vOne k x).snd) = true → True ∧ True ∧ ((decide ((vNum x.n).k = (vNum x.n).k) && (decide ((vNum x.n).n = (vNum x.n).n) && (decide ((vNum x.n).t = (vNum x.n).t) && true))) = true → True ∧ True ∧ (decide ((vTruth (decide ((0 : Int) < x.n))).k = (vTruth (decide ((0 : Int) < x.n))).k) && (decide ((vTruth (decide ((0 : Int) < x.n))).n = (vTruth (decide ((0 : Int) < x.n))).n) && (decide ((vTruth (decide ((0 : Int) < x.n))).t = (vTruth (decide ((0 : Int) < x.n))).t) && true))) = true) ∧ ((decide ((vNum x.n).k = (vNum x.n).k) && (decide ((vNum x.n).n = (vNum x.n).n) && (decide ((vNum x.n).t = (vNum x.n).t) && true))) = false → false = true)) ∧
      (decide ((vOne k x).snd = (vOne k x).snd) = false → false = true)) ∧ ((decide ((vOne k x).fst.k = (vOne k x).fst.k) && (decide ((vOne k x).fst.n = (vOne k x).fst.n) && (decide ((vOne k x).fst.t = (vOne k x).fst.t) && true))) = false → false = true)) ∧ (decide (vShow x = vShow x) = false → false = true)) ∧ ((vYes x == vYes x) = false → false = true)) ∧ (((vMay x && decide (x.k = k)) == (vMay x && decide (x.k = k))) = false → false = true)) ∧ ((vMay x == vMay x) = false → false = true))) →
    vcF Tryd.prog tabS (specs es_lawo) [] (noAnn) Tryd.f3 [x.v, .si .u8 k] (.sb true) := fun h => Eq.mpr (by kernel_rfl) h
set_option maxRecDepth 100000 in
theorem lawo_ct (x : Vl) (k : Int) (hx : VlOk x) (hk : U8 k) : Ct Tryd.prog tabS 3 [x.v, .si .u8 k] (.sb true) := Ct.of_vcF (specs_ok es_lawo_ok) Tryd.func3 (by kernel_rfl) (lawo_vc x k (by
  have h1 := hx.n
  have h2 := hx.t
  simp [hk, hx, h1, h2]))
end Go.Proofs.YthnldpbkjegfaaaDoor
