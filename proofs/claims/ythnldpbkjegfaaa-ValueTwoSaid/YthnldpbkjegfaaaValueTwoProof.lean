/-
  For every operator of two and all two values of package value, what it comes to is the document's answer: the law ValueTwo returns true. No conditions beyond the statement's own.
-/
import Derived.Test.YthnldpbkjegfaaaRows
import Derived.WalkKit
import Derived.ProofKit
import Derived.OpenShut
import Derived.ShutString
import Derived.Lib.SmallJoins
import Derived.Test.YthnldpbkjegfaaaFrame
import Derived.Test.YthnldpbkjegfaaaLaww
namespace Go.Proofs.Ythnldpbkjegfaaa.valueTwo
open Go.ChangeShapes Go.WideShapes Go.ChangeAt Go.RowKit
open Go.ChangeMaps (open_string shut_string)
set_option linter.unusedVariables false
open Go.Proofs.Ythnldpbkjegfaaa
set_option maxHeartbeats 4000000 in
set_option maxRecDepth 100000 in
theorem walk (a0 : Int) (w0 : (Lit.int .u8 a0).wf = true) (k1 n1 : Int) (t1 : ByteArray) (wk1 : (Lit.int .u8 k1).wf = true) (wn1 : (Lit.int .i64 n1).wf = true) (wt1 : t1.size ≤ 140737488351232) (k2 n2 : Int) (t2 : ByteArray) (wk2 : (Lit.int .u8 k2).wf = true) (wn2 : (Lit.int .i64 n2).wf = true) (wt2 : t2.size ≤ 140737488351232) (w : World) :
    Calls Try.prog 3 #[.int .u8 a0, .agg #[.int .u8 k1, .int .i64 n1, .string t1], .agg #[.int .u8 k2, .int .i64 n2, .string t2]] w fun e w' => e = .returned (.bool true) ∧ Below w.heap.size w w' := by
  have hk : ∀ k, (Lit.int .u8 k).wf = true → Sv.U8 k := fun k h => by
    have h : (decide (IntKind.u8.min ≤ k) && decide (k ≤ IntKind.u8.max)) = true := h
    simp only [Bool.and_eq_true, decide_eq_true_eq] at h; exact ⟨h.1, h.2⟩
  have hn : ∀ k, (Lit.int .i64 k).wf = true → Sv.I64 k := fun k h => by
    have h : (decide (IntKind.i64.min ≤ k) && decide (k ≤ IntKind.i64.max)) = true := h
    simp only [Bool.and_eq_true, decide_eq_true_eq] at h; exact ⟨h.1, h.2⟩
  refine Sv.Ct.calls0 (ltwo_ct a0 ⟨k1, n1, t1.data.toList⟩ ⟨k2, n2, t2.data.toList⟩ (hk _ w0) ?_ ?_) w ?_
  · exact ⟨hk _ wk1, hn _ wn1, Nat.le_trans (Nat.le_of_eq Array.length_toList) wt1⟩
  · exact ⟨hk _ wk2, hn _ wn2, Nat.le_trans (Nat.le_of_eq Array.length_toList) wt2⟩
  · simp only [Sv.RVs, Vl.v, Sv.RV]
    exact ⟨_, _, rfl, rfl, _, _, rfl, ⟨_, rfl, _, _, rfl, rfl, _, _, rfl, rfl, _, _, rfl, by simp [Array.toArray_toList], rfl⟩, _, _, rfl, ⟨_, rfl, _, _, rfl, rfl, _, _, rfl, rfl, _, _, rfl, by simp [Array.toArray_toList], rfl⟩, rfl⟩

set_option maxRecDepth 100000 in
theorem proved : Rows.ValueTwoSaid := by
  refine OpenClaim.holds_of_wide 3 Try.f3 rfl rfl rfl rfl rfl rfl rfl ⟨rfl, rfl, rfl, rfl, rfl⟩ rfl rfl rfl rfl rfl (by kernel_rfl) Try.func3 (by kernel_rfl)
    (of_decide_eq_true (by kernel_rfl)) (by unfold Func.isWrapper; first | (rw [if_pos (by decide +kernel)]; kernel_rfl) | (rw [if_neg (by decide +kernel)]; exact ⟨rfl, rfl⟩))
    (fun os started H enc _ => lawLifted (C := Try.checked) (F := Try.f3) (s := Rows.valueTwoSpec) (conds := Rows.valueTwoRow.domain) (by kernel_rfl) started (by kernel_rfl) Try.func3
      (ChangeSpec.witness6 (enc := enc) (C := Try.checked) false ⟨#[], #[.int .u8 0, .agg #[.int .u8 0, .int .i64 0, .string ByteArray.empty], .agg #[.int .u8 0, .int .i64 0, .string ByteArray.empty]], []⟩ 8 (by kernel_rfl) (by kernel_rfl) (by kernel_rfl) (by kernel_rfl))
      (by kernel_rfl) (by kernel_rfl) rfl Try.underlying4
      (fun ds hl => by match ds, hl with | [d0, d1, d2], _ => exact ⟨rfl, rfl, rfl⟩) rfl (fun W base args ds ps hval hA hcnd hsz => ?_))
  have hpar : Try.f3.params.toList = [5, 23, 23] := rfl
  rw [hpar] at hval hA hsz
  obtain ⟨v0, vs0, d0, ds0, p0, q0, hargs, rfl, rfl, h0, r0⟩ := trodAll_cons hA
  obtain ⟨v1, vs1, d1, ds1, p1, q1, rfl, rfl, rfl, h1, r1⟩ := trodAll_cons r0
  obtain ⟨v2, vs2, d2, ds2, p2, q2, rfl, rfl, rfl, h2, r2⟩ := trodAll_cons r1
  obtain ⟨rfl, rfl, rfl⟩ := trodAll_nil r2
  obtain rfl : args = #[v0, v1, v2] := by cases args; simp_all
  obtain ⟨a0, rfl, rfl, rfl, w0⟩ := open_int Try.underlying5 (hval 0 5 v0 rfl rfl) h0
  obtain ⟨c1a, c1b, c1c, y1a, y1b, y1c, m1, rfl, rfl, rfl, hy1a, hy1b, hy1c⟩ := Joins.open_agg3 Try.underlying23 (by kernel_rfl) (by kernel_rfl) (hval 1 23 v1 rfl rfl) h1
  obtain ⟨k1, e1a, rfl, wk1⟩ := DataW.trod_int Try.underlying5 hy1a
  obtain ⟨n1, e1b, rfl, wn1⟩ := DataW.trod_int Try.underlying2 hy1b
  obtain ⟨t1, e1c, rfl, wt1⟩ := DataW.trod_string Try.underlying9 hy1c
  simp only [List.cons.injEq, and_true] at e1a e1b e1c
  subst e1a e1b e1c
  have s1 : t1.size ≤ 140737488351232 := by
      have := List.all_eq_true.1 hsz _ (DataW.weights_mem_each (j := 1) rfl rfl t1.size (by simp [DataW.weights, show Try.checked.prog.underlying 23 = _ from Try.underlying23, DataW.weightsEach]))
      exact of_decide_eq_true this
  obtain ⟨c2a, c2b, c2c, y2a, y2b, y2c, m2, rfl, rfl, rfl, hy2a, hy2b, hy2c⟩ := Joins.open_agg3 Try.underlying23 (by kernel_rfl) (by kernel_rfl) (hval 2 23 v2 rfl rfl) h2
  obtain ⟨k2, e2a, rfl, wk2⟩ := DataW.trod_int Try.underlying5 hy2a
  obtain ⟨n2, e2b, rfl, wn2⟩ := DataW.trod_int Try.underlying2 hy2b
  obtain ⟨t2, e2c, rfl, wt2⟩ := DataW.trod_string Try.underlying9 hy2c
  simp only [List.cons.injEq, and_true] at e2a e2b e2c
  subst e2a e2b e2c
  have s2 : t2.size ≤ 140737488351232 := by
      have := List.all_eq_true.1 hsz _ (DataW.weights_mem_each (j := 2) rfl rfl t2.size (by simp [DataW.weights, show Try.checked.prog.underlying 23 = _ from Try.underlying23, DataW.weightsEach]))
      exact of_decide_eq_true this
  exact walk a0 w0 k1 n1 t1 wk1 wn1 s1 k2 n2 t2 wk2 wn2 s2 W
#print axioms proved
end Go.Proofs.Ythnldpbkjegfaaa.valueTwo
