/-
  WireWrites: for every text, number, whole number and value the law of package wire returns true: the bytes that the program writes are the document's, or both refuse alike; nothing that was there is written. No condition.
-/
import Derived.Test.YtbppibgkljjmaaaRows
import Derived.WalkKit
import Derived.ProofKit
import Derived.OpenShut
import Derived.ShutString
import Derived.Lib.SmallJoins
import Derived.Test.YtbppibgkljjmaaaFrame
import Derived.Test.YtbppibgkljjmaaaAw
import Derived.Test.YtbppibgkljjmaaaRw
namespace Go.Proofs.Ytbppibgkljjmaaa.wireWrites
open Go.ChangeShapes Go.WideShapes Go.ChangeAt Go.RowKit
open Go.ChangeMaps (open_string shut_string)
set_option linter.unusedVariables false

set_option maxHeartbeats 4000000 in
set_option maxRecDepth 100000 in
theorem walk (a0 : ByteArray) (w0 : a0.size ≤ 140737488351232) (a1 : Int) (w1 : (Lit.int .i64 a1).wf = true) (a2 : Int) (w2 : (Lit.int .i64 a2).wf = true) (a3 : ByteArray) (w3 : a3.size ≤ 140737488351232) (k4 n4 : Int) (t4 : ByteArray) (wk4 : (Lit.int .u8 k4).wf = true) (wn4 : (Lit.int .i64 n4).wf = true) (wt4 : t4.size ≤ maxLen) (w : World) :
    Calls Try.prog 3 #[.string a0, .int .i64 a1, .int .i64 a2, .string a3, .agg #[.int .u8 k4, .int .i64 n4, .string t4]] w fun e w' => e = .returned (.bool true) ∧ Below w.heap.size w w' := by
  have HB := Below.refl w.heap.size w
  have hm : (maxLen : Nat) = 9223372036854775807 := rfl
  obtain ⟨x0, x1⟩ := bounds_i64 w2
  obtain ⟨k0, k1⟩ := bounds_u8 wk4
  obtain ⟨n0, n1⟩ := bounds_i64 wn4
  have t4b : t4.size ≤ 9223372036854775807 := wt4
  by_cases hl : 2000 < a0.size
  · go_enter Try.func3, Try.ntmps3
    go_wp2_with (go_at_call 10; ((with_reducible refine (awake_any _).mono ?_); rintro e w' ⟨rfl, hb⟩; replace HB := belowThenA HB hb; clear hb))
    go_ret
    exact ⟨rfl, HB⟩
  by_cases hl2 : 2000 < a3.size
  · go_enter Try.func3, Try.ntmps3
    go_wp2_with (go_at_call 10; ((with_reducible refine (awake_any _).mono ?_); rintro e w' ⟨rfl, hb⟩; replace HB := belowThenA HB hb; clear hb))
    go_ret
    exact ⟨rfl, HB⟩
  by_cases hl3 : 2000 < t4.size
  · go_enter Try.func3, Try.ntmps3
    go_wp2_with (go_at_call 10; ((with_reducible refine (awake_any _).mono ?_); rintro e w' ⟨rfl, hb⟩; replace HB := belowThenA HB hb; clear hb))
    go_ret
    exact ⟨rfl, HB⟩
  · obtain ⟨X, Y, en⟩ : ∃ (X : ByteArray) (Y : Int), numVal a0 a1 = .tuple #[.string X, .int .i64 Y] := by
      unfold numVal; split
      · exact ⟨_, _, rfl⟩
      · exact ⟨_, _, rfl⟩
    obtain ⟨U, V, ev⟩ : ∃ (X : ByteArray) (Y : Int), valVal a0 k4 n4 t4 = .tuple #[.string X, .int .i64 Y] := by
      unfold valVal; split
      · exact ⟨_, _, rfl⟩
      · exact ⟨_, _, rfl⟩
    have EN := Lib.hid en
    have EV := Lib.hid ev
    clear en ev
    have hz : w.heap.size < (w.alloc (Obj.cells #[Value.int IntKind.u8 k4, Value.int IntKind.i64 n4, Value.string t4] 23)).heap.size := by show _ < (w.heap.push _).size; simp
    go_enter Try.func3, Try.ntmps3
    go_wp2_with (first
      | (go_at_call 11; ((with_reducible refine (num_any _ _ _ (by omega)).mono ?_); rintro e w1 ⟨rfl, hb⟩; (first | replace HB := belowThen HB hb | replace HB := belowThenA HB hb); obtain ⟨q1, q2⟩ := bcell hb; have hz1 : w.heap.size < w1.heap.size := (by have := hb.size; simp at this; omega); clear hb; rw [EN.out]))
      | (go_at_call 12; ((with_reducible refine (refNum_any _ _ _ (by omega)).mono ?_); rintro e w1 ⟨rfl, hb⟩; (first | replace HB := belowThen HB hb | replace HB := belowThenA HB hb); obtain ⟨q1, q2⟩ := bcell hb; have hz1 := Nat.lt_of_lt_of_le hz1 hb.size; clear hb; rw [EN.out]))
      | (go_at_call 13; ((with_reducible refine (value_any _ _ _ _ _ (by omega) k0 k1 n0 n1 (by omega)).mono ?_); rintro e w1 ⟨rfl, hb⟩; (first | replace HB := belowThen HB hb | replace HB := belowThenA HB hb); obtain ⟨q1, q2⟩ := bcell hb; have hz1 := Nat.lt_of_lt_of_le hz1 hb.size; clear hb; rw [EV.out]))
      | (go_at_call 14; ((with_reducible refine (refValue_any _ _ _ _ _ (by omega) k0 k1 n0 n1 (by omega)).mono ?_); rintro e w1 ⟨rfl, hb⟩; (first | replace HB := belowThen HB hb | replace HB := belowThenA HB hb); clear hb; rw [EV.out]))
      | (go_at_call 15; ((with_reducible refine (int_any _ _ _ x0 x1 (by omega)).mono ?_); rintro e w1 ⟨rfl, hb⟩; (first | replace HB := belowThen HB hb | replace HB := belowThenA HB hb); clear hb))
      | (go_at_call 16; ((with_reducible refine (refInt_any _ _ _ x0 x1 (by omega)).mono ?_); rintro e w1 ⟨rfl, hb⟩; (first | replace HB := belowThen HB hb | replace HB := belowThenA HB hb); clear hb))
      | (go_at_call 17; ((with_reducible refine (text_any _ _ _ (by omega) (by omega)).mono ?_); rintro e w1 ⟨rfl, hb⟩; (first | replace HB := belowThen HB hb | replace HB := belowThenA HB hb); clear hb))
      | (go_at_call 18; ((with_reducible refine (refText_any _ _ _ (by omega) (by omega)).mono ?_); rintro e w1 ⟨rfl, hb⟩; (first | replace HB := belowThen HB hb | replace HB := belowThenA HB hb); clear hb))
      | (go_at_call 10; ((with_reducible refine (awake_any _).mono ?_); rintro e w1 ⟨rfl, hb⟩; (first | replace HB := belowThen HB hb | replace HB := belowThenA HB hb); clear hb)))
    go_ret
    exact ⟨rfl, HB⟩

set_option maxRecDepth 100000 in
theorem proved : Rows.WireWritesSaid := by
  refine OpenClaim.holds_of_wide 3 Try.f3 rfl rfl rfl rfl rfl rfl rfl ⟨rfl, rfl, rfl, rfl, rfl⟩ rfl rfl rfl rfl rfl (by kernel_rfl) Try.func3 (by kernel_rfl)
    (of_decide_eq_true (by kernel_rfl)) (by unfold Func.isWrapper; first | (rw [if_pos (by decide +kernel)]; kernel_rfl) | (rw [if_neg (by decide +kernel)]; exact ⟨rfl, rfl⟩))
    (fun os started H enc _ => lawLifted (C := Try.checked) (F := Try.f3) (s := Rows.wireWritesSpec) (conds := Rows.wireWritesRow.domain) (by kernel_rfl) started (by kernel_rfl) Try.func3
      (ChangeSpec.witness6 (enc := enc) (C := Try.checked) false ⟨#[], #[.string ByteArray.empty, .int .i64 0, .int .i64 0, .string ByteArray.empty, .agg #[.int .u8 0, .int .i64 0, .string ByteArray.empty]], []⟩ 8 (by kernel_rfl) (by kernel_rfl) (by kernel_rfl) (by kernel_rfl))
      (by kernel_rfl) (by kernel_rfl) rfl Try.underlying4
      (fun ds hl => by match ds, hl with | [d0, d1, d2, d3, d4], _ => exact ⟨rfl, rfl, rfl⟩) rfl (fun W base args ds ps hval hA hcnd hsz => ?_))
  have hpar : Try.f3.params.toList = [9, 3, 2, 9, 23] := rfl
  rw [hpar] at hval hA hsz
  obtain ⟨v0, vs0, d0, ds0, p0, q0, hargs, rfl, rfl, h0, r0⟩ := trodAll_cons hA
  obtain ⟨v1, vs1, d1, ds1, p1, q1, rfl, rfl, rfl, h1, r1⟩ := trodAll_cons r0
  obtain ⟨v2, vs2, d2, ds2, p2, q2, rfl, rfl, rfl, h2, r2⟩ := trodAll_cons r1
  obtain ⟨v3, vs3, d3, ds3, p3, q3, rfl, rfl, rfl, h3, r3⟩ := trodAll_cons r2
  obtain ⟨v4, vs4, d4, ds4, p4, q4, rfl, rfl, rfl, h4, r4⟩ := trodAll_cons r3
  obtain ⟨rfl, rfl, rfl⟩ := trodAll_nil r4
  obtain rfl : args = #[v0, v1, v2, v3, v4] := by cases args; simp_all
  obtain ⟨a0, rfl, rfl, rfl, w0⟩ := open_string Try.underlying9 (hval 0 9 v0 rfl rfl) h0
  have s0 : a0.size ≤ 140737488351232 := by have := sized_string hsz (j := 0) rfl rfl; simpa [reachBytes] using this
  obtain ⟨a1, rfl, rfl, rfl, w1⟩ := open_int Try.underlying3 (hval 1 3 v1 rfl rfl) h1
  obtain ⟨a2, rfl, rfl, rfl, w2⟩ := open_int Try.underlying2 (hval 2 2 v2 rfl rfl) h2
  obtain ⟨a3, rfl, rfl, rfl, w3⟩ := open_string Try.underlying9 (hval 3 9 v3 rfl rfl) h3
  have s3 : a3.size ≤ 140737488351232 := by have := sized_string hsz (j := 3) rfl rfl; simpa [reachBytes] using this
  obtain ⟨c4a, c4b, c4c, y4a, y4b, y4c, m4, rfl, rfl, rfl, hy4a, hy4b, hy4c⟩ := Joins.open_agg3 Try.underlying23 (by kernel_rfl) (by kernel_rfl) (hval 4 23 v4 rfl rfl) h4
  obtain ⟨k4, e4a, rfl, wk4⟩ := DataW.trod_int Try.underlying5 hy4a
  obtain ⟨n4, e4b, rfl, wn4⟩ := DataW.trod_int Try.underlying2 hy4b
  obtain ⟨t4, e4c, rfl, wt4⟩ := DataW.trod_string Try.underlying9 hy4c
  simp only [List.cons.injEq, and_true] at e4a e4b e4c
  subst e4a e4b e4c
  exact walk a0 s0 a1 w1 a2 w2 a3 s3 k4 n4 t4 wk4 wn4 wt4 W
#print axioms proved
end Go.Proofs.Ytbppibgkljjmaaa.wireWrites
