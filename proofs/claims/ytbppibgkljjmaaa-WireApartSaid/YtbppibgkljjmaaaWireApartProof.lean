/-
  WireApart: for every two whole numbers, texts and values the law of package wire returns true: unlike ones have unlike bytes, none of them begins by another one's, and a number nearer to 0 has no more bytes; nothing that was there is written. No condition.
-/
import Derived.Test.YtbppibgkljjmaaaRows
import Derived.WalkKit
import Derived.ProofKit
import Derived.OpenShut
import Derived.ShutString
import Derived.Lib.SmallJoins
import Derived.Test.YtbppibgkljjmaaaFrame
import Derived.Test.YtbppibgkljjmaaaTwo
namespace Go.Proofs.Ytbppibgkljjmaaa.wireApart
open Go.ChangeShapes Go.WideShapes Go.ChangeAt Go.RowKit
open Go.ChangeMaps (open_string shut_string)
set_option linter.unusedVariables false

set_option maxHeartbeats 4000000 in
set_option maxRecDepth 100000 in
theorem walk (a0 : Int) (w0 : (Lit.int .i64 a0).wf = true) (a1 : Int) (w1 : (Lit.int .i64 a1).wf = true) (a2 : ByteArray) (w2 : a2.size ≤ 140737488351232) (a3 : ByteArray) (w3 : a3.size ≤ 140737488351232) (k4 n4 : Int) (t4 : ByteArray) (wk4 : (Lit.int .u8 k4).wf = true) (wn4 : (Lit.int .i64 n4).wf = true) (wt4 : t4.size ≤ maxLen) (k5 n5 : Int) (t5 : ByteArray) (wk5 : (Lit.int .u8 k5).wf = true) (wn5 : (Lit.int .i64 n5).wf = true) (wt5 : t5.size ≤ maxLen) (w : World) :
    Calls Try.prog 9 #[.int .i64 a0, .int .i64 a1, .string a2, .string a3, .agg #[.int .u8 k4, .int .i64 n4, .string t4], .agg #[.int .u8 k5, .int .i64 n5, .string t5]] w fun e w' => e = .returned (.bool true) ∧ Below w.heap.size w w' := by
  have HB := Below.refl w.heap.size w
  obtain ⟨x0, x1⟩ := bounds_i64 w0
  obtain ⟨y0, y1⟩ := bounds_i64 w1
  obtain ⟨k0, k1⟩ := bounds_u8 wk4
  obtain ⟨n0, n1⟩ := bounds_i64 wn4
  obtain ⟨l0, l1⟩ := bounds_u8 wk5
  obtain ⟨m0, m1⟩ := bounds_i64 wn5
  have t4b : t4.size ≤ 9223372036854775807 := wt4
  have t5b : t5.size ≤ 9223372036854775807 := wt5
  have hc4 : ∀ j, (w.alloc (Obj.cells #[Value.int IntKind.u8 k4, Value.int IntKind.i64 n4, Value.string t4] 23)).cell? ⟨w.heap.size, j, none⟩ = #[Value.int IntKind.u8 k4, Value.int IntKind.i64 n4, Value.string t4][j]? := fun j => World.cell?_alloc_mark w _ 23 (0, 0) j
  by_cases hl : 500 < a2.size ∨ 500 < a3.size ∨ 500 < t4.size ∨ 500 < t5.size
  · rcases hl with hl | hl | hl | hl
    · go_enter Try.func9, Try.ntmps9
      go_wp2_with (go_at_call 10; ((with_reducible refine (awake_any _).mono ?_); rintro e w' ⟨rfl, hb⟩; (first | replace HB := belowThen HB hb | replace HB := belowThenAA HB hb); clear hb))
      all_goals (go_ret; exact ⟨rfl, HB⟩)
    · go_enter Try.func9, Try.ntmps9
      go_wp2_with (go_at_call 10; ((with_reducible refine (awake_any _).mono ?_); rintro e w' ⟨rfl, hb⟩; (first | replace HB := belowThen HB hb | replace HB := belowThenAA HB hb); clear hb))
      all_goals (go_ret; exact ⟨rfl, HB⟩)
    · go_enter Try.func9, Try.ntmps9
      go_wp2_with (go_at_call 10; ((with_reducible refine (awake_any _).mono ?_); rintro e w' ⟨rfl, hb⟩; (first | replace HB := belowThen HB hb | replace HB := belowThenAA HB hb); clear hb))
      all_goals (go_ret; exact ⟨rfl, HB⟩)
    · go_enter Try.func9, Try.ntmps9
      go_wp2_with (go_at_call 10; ((with_reducible refine (awake_any _).mono ?_); rintro e w' ⟨rfl, hb⟩; (first | replace HB := belowThen HB hb | replace HB := belowThenAA HB hb); clear hb))
      all_goals (go_ret; exact ⟨rfl, HB⟩)
  · have g2 : (a2.size : Int) ≤ 500 := by omega
    have g3 : (a3.size : Int) ≤ 500 := by omega
    have g4 : (t4.size : Int) ≤ 500 := by omega
    have g5 : (t5.size : Int) ≤ 500 := by omega
    clear hl
    have HT := Two.made w k4 n4 t4 k5 n5 t5
    have hint := begins_int a0 a1
    have htxt := begins_text_eq a2 a3
    have hz0 := txt_sept_size (zig a0) (zig_lt a0 x0 x1)
    have hz1 := txt_sept_size (zig a1) (zig_lt a1 y0 y1)
    have hz2 := txt_sept_size a2.size (by omega)
    have hz3 := txt_sept_size a3.size (by omega)
    have sz0 : (txt (Sept.sept a2.size) ++ a2).size ≤ 1000 := by rw [ByteArray.size_append]; omega
    have sz1 : (txt (Sept.sept a3.size) ++ a3).size ≤ 1000 := by rw [ByteArray.size_append]; omega
    clear hc4
    go_enter Try.func9, Try.ntmps9
    go_upto_region 8 with (first
      | (go_at_call 10; ((with_reducible refine (awake_any _).mono ?_); rintro e w1 ⟨rfl, hb⟩; replace HB := belowThenAA HB hb; replace HT := HT.below hb; clear hb))
      | (go_at_call 15; ((with_reducible first | refine (int_nil _ _ x0 x1).mono ?_ | refine (int_nil _ _ y0 y1).mono ?_); rintro e w1 ⟨rfl, hb⟩; replace HB := belowThen HB hb; replace HT := HT.below hb; clear hb))
      | (go_at_call 17; ((with_reducible refine (text_nil _ _ (by omega)).mono ?_); rintro e w1 ⟨rfl, hb⟩; replace HB := belowThen HB hb; replace HT := HT.below hb; clear hb))
      | (go_at_call 32; ((with_reducible refine (begins_any _ _ _ (by omega) (by omega)).mono ?_); rintro e w1 ⟨rfl, rfl⟩)))
    go_cut [83] (fun s83 wx => s83 = .bool false ∧ Below w.heap.size w wx ∧ Two w wx k4 n4 t4 k5 n5 t5)
    case first =>
      by_cases hf : far a0 < far a1
      · have hlen := far_len a0 a1 hf
        have hlen' : ((txt (Sept.sept (zig a0))).size : Int) ≤ ((txt (Sept.sept (zig a1))).size : Int) := by omega
        have hd : decide ((txt (Sept.sept (zig a1))).size < (txt (Sept.sept (zig a0))).size) = false := by simp; omega
        clear hlen
        go_wp2_with (first | (go_at_call 33; ((with_reducible first | refine (far_any _ _ x0 x1).mono ?_ | refine (far_any _ _ y0 y1).mono ?_); rintro e w1 ⟨rfl, rfl⟩)))
        go_meet
        exact ⟨rfl, HB, HT⟩
      · have hf' : far a1 ≤ far a0 := by omega
        clear hf
        go_wp2_with (first | (go_at_call 33; ((with_reducible first | refine (far_any _ _ x0 x1).mono ?_ | refine (far_any _ _ y0 y1).mono ?_); rintro e w1 ⟨rfl, rfl⟩)))
        go_meet
        exact ⟨rfl, HB, HT⟩
    case rest =>
      clear HB HT hint htxt
      obtain ⟨rfl, HB, HT⟩ := hcut
      obtain ⟨d0, d1, d2, d3, d4, d5, hsz⟩ := id HT
      by_cases he : enc k4 n4 t4 = true
      · by_cases he' : enc k5 n5 t5 = true
        · have ev := Lib.hid (show valVal ⟨#[]⟩ k4 n4 t4 = .tuple #[.string (valTxt ⟨#[]⟩ k4 n4 t4), .int .i64 0] by unfold valVal; rw [if_pos he])
          have eu := Lib.hid (show valVal ⟨#[]⟩ k5 n5 t5 = .tuple #[.string (valTxt ⟨#[]⟩ k5 n5 t5), .int .i64 0] by unfold valVal; rw [if_pos he'])
          have hbv := begins_same k4 n4 k5 n5 t4 t5 k0 l0 he he'
          have s1 : (valTxt ⟨#[]⟩ k4 n4 t4).size ≤ 140737488355328 := by have := valTxt_size k4 n4 t4 k1 n0 n1 t4b; omega
          have s2 : (valTxt ⟨#[]⟩ k5 n5 t5).size ≤ 140737488355328 := by have := valTxt_size k5 n5 t5 l1 m0 m1 t5b; omega
          have hve := val_eql k4 n4 t4 k5 n5 t5
          have hvg := fun x y => val_guard x y #[.int .u8 k4, .int .i64 n4, .string t4] #[.int .u8 k5, .int .i64 n5, .string t5]
          go_wp2_with (first | (go_at_call 13; ((with_reducible first | refine (value_any _ _ _ _ _ (by decide) k0 k1 n0 n1 (by omega)).mono ?_ | refine (value_any _ _ _ _ _ (by decide) l0 l1 m0 m1 (by omega)).mono ?_); rintro e w1 ⟨rfl, hb⟩; replace HB := belowThen HB hb; replace HT := HT.below hb; clear hb; obtain ⟨d0, d1, d2, d3, d4, d5, hsz⟩ := id HT; (first | rw [ev.out] | rw [eu.out]))))
          go_quiet ((go_at_call 32; exact Calls.quiet_of_same ((begins_any _ _ _ s1 s2).mono (fun _ _ h => ⟨h.1, h.2.symm⟩))))
          go_wp2
          go_ret
          exact ⟨rfl, ⟨HB.os, HB.tape, HB.output, HB.size, HB.block⟩⟩
        · have ev := Lib.hid (show valVal ⟨#[]⟩ k4 n4 t4 = .tuple #[.string (valTxt ⟨#[]⟩ k4 n4 t4), .int .i64 0] by unfold valVal; rw [if_pos he])
          have eu := Lib.hid (show valVal ⟨#[]⟩ k5 n5 t5 = .tuple #[.string ⟨#[]⟩, .int .i64 4] by unfold valVal; rw [if_neg he'])
          go_wp2_with (first | (go_at_call 13; ((with_reducible first | refine (value_any _ _ _ _ _ (by decide) k0 k1 n0 n1 (by omega)).mono ?_ | refine (value_any _ _ _ _ _ (by decide) l0 l1 m0 m1 (by omega)).mono ?_); rintro e w1 ⟨rfl, hb⟩; replace HB := belowThen HB hb; replace HT := HT.below hb; clear hb; obtain ⟨d0, d1, d2, d3, d4, d5, hsz⟩ := id HT; (first | rw [ev.out] | rw [eu.out]))))
          go_quiet (fail)
          go_wp2
          go_ret
          (first | exact ⟨rfl, HB⟩ | exact ⟨rfl, ⟨HB.os, HB.tape, HB.output, HB.size, HB.block⟩⟩)
      · obtain ⟨U, V, e0⟩ : ∃ (X : ByteArray) (Y : Int), valVal ⟨#[]⟩ k5 n5 t5 = .tuple #[.string X, .int .i64 Y] := by
          unfold valVal; split
          · exact ⟨_, _, rfl⟩
          · exact ⟨_, _, rfl⟩
        have ev := Lib.hid (show valVal ⟨#[]⟩ k4 n4 t4 = .tuple #[.string ⟨#[]⟩, .int .i64 4] by unfold valVal; rw [if_neg he])
        have eu := Lib.hid e0
        clear e0
        go_wp2_with (first | (go_at_call 13; ((with_reducible first | refine (value_any _ _ _ _ _ (by decide) k0 k1 n0 n1 (by omega)).mono ?_ | refine (value_any _ _ _ _ _ (by decide) l0 l1 m0 m1 (by omega)).mono ?_); rintro e w1 ⟨rfl, hb⟩; replace HB := belowThen HB hb; replace HT := HT.below hb; clear hb; obtain ⟨d0, d1, d2, d3, d4, d5, hsz⟩ := id HT; (first | rw [ev.out] | rw [eu.out]))))
        go_quiet (fail)
        go_wp2
        go_ret
        (first | exact ⟨rfl, HB⟩ | exact ⟨rfl, ⟨HB.os, HB.tape, HB.output, HB.size, HB.block⟩⟩)

set_option maxRecDepth 100000 in
theorem proved : Rows.WireApartSaid := by
  refine OpenClaim.holds_of_wide 9 Try.f9 rfl rfl rfl rfl rfl rfl rfl ⟨rfl, rfl, rfl, rfl, rfl⟩ rfl rfl rfl rfl rfl (by kernel_rfl) Try.func9 (by kernel_rfl)
    (of_decide_eq_true (by kernel_rfl)) (by unfold Func.isWrapper; first | (rw [if_pos (by decide +kernel)]; kernel_rfl) | (rw [if_neg (by decide +kernel)]; exact ⟨rfl, rfl⟩))
    (fun os started H enc _ => lawLifted (C := Try.checked) (F := Try.f9) (s := Rows.wireApartSpec) (conds := Rows.wireApartRow.domain) (by kernel_rfl) started (by kernel_rfl) Try.func9
      (ChangeSpec.witness6 (enc := enc) (C := Try.checked) false ⟨#[], #[.int .i64 0, .int .i64 0, .string ByteArray.empty, .string ByteArray.empty, .agg #[.int .u8 0, .int .i64 0, .string ByteArray.empty], .agg #[.int .u8 0, .int .i64 0, .string ByteArray.empty]], []⟩ 8 (by kernel_rfl) (by kernel_rfl) (by kernel_rfl) (by kernel_rfl))
      (by kernel_rfl) (by kernel_rfl) rfl Try.underlying4
      (fun ds hl => by match ds, hl with | [d0, d1, d2, d3, d4, d5], _ => exact ⟨rfl, rfl, rfl⟩) rfl (fun W base args ds ps hval hA hcnd hsz => ?_))
  have hpar : Try.f9.params.toList = [2, 2, 9, 9, 23, 23] := rfl
  rw [hpar] at hval hA hsz
  obtain ⟨v0, vs0, d0, ds0, p0, q0, hargs, rfl, rfl, h0, r0⟩ := trodAll_cons hA
  obtain ⟨v1, vs1, d1, ds1, p1, q1, rfl, rfl, rfl, h1, r1⟩ := trodAll_cons r0
  obtain ⟨v2, vs2, d2, ds2, p2, q2, rfl, rfl, rfl, h2, r2⟩ := trodAll_cons r1
  obtain ⟨v3, vs3, d3, ds3, p3, q3, rfl, rfl, rfl, h3, r3⟩ := trodAll_cons r2
  obtain ⟨v4, vs4, d4, ds4, p4, q4, rfl, rfl, rfl, h4, r4⟩ := trodAll_cons r3
  obtain ⟨v5, vs5, d5, ds5, p5, q5, rfl, rfl, rfl, h5, r5⟩ := trodAll_cons r4
  obtain ⟨rfl, rfl, rfl⟩ := trodAll_nil r5
  obtain rfl : args = #[v0, v1, v2, v3, v4, v5] := by cases args; simp_all
  obtain ⟨a0, rfl, rfl, rfl, w0⟩ := open_int Try.underlying2 (hval 0 2 v0 rfl rfl) h0
  obtain ⟨a1, rfl, rfl, rfl, w1⟩ := open_int Try.underlying2 (hval 1 2 v1 rfl rfl) h1
  obtain ⟨a2, rfl, rfl, rfl, w2⟩ := open_string Try.underlying9 (hval 2 9 v2 rfl rfl) h2
  have s2 : a2.size ≤ 140737488351232 := by have := sized_string hsz (j := 2) rfl rfl; simpa [reachBytes] using this
  obtain ⟨a3, rfl, rfl, rfl, w3⟩ := open_string Try.underlying9 (hval 3 9 v3 rfl rfl) h3
  have s3 : a3.size ≤ 140737488351232 := by have := sized_string hsz (j := 3) rfl rfl; simpa [reachBytes] using this
  obtain ⟨c4a, c4b, c4c, y4a, y4b, y4c, m4, rfl, rfl, rfl, hy4a, hy4b, hy4c⟩ := Joins.open_agg3 Try.underlying23 (by kernel_rfl) (by kernel_rfl) (hval 4 23 v4 rfl rfl) h4
  obtain ⟨k4, e4a, rfl, wk4⟩ := DataW.trod_int Try.underlying5 hy4a
  obtain ⟨n4, e4b, rfl, wn4⟩ := DataW.trod_int Try.underlying2 hy4b
  obtain ⟨t4, e4c, rfl, wt4⟩ := DataW.trod_string Try.underlying9 hy4c
  simp only [List.cons.injEq, and_true] at e4a e4b e4c
  subst e4a e4b e4c
  obtain ⟨c5a, c5b, c5c, y5a, y5b, y5c, m5, rfl, rfl, rfl, hy5a, hy5b, hy5c⟩ := Joins.open_agg3 Try.underlying23 (by kernel_rfl) (by kernel_rfl) (hval 5 23 v5 rfl rfl) h5
  obtain ⟨k5, e5a, rfl, wk5⟩ := DataW.trod_int Try.underlying5 hy5a
  obtain ⟨n5, e5b, rfl, wn5⟩ := DataW.trod_int Try.underlying2 hy5b
  obtain ⟨t5, e5c, rfl, wt5⟩ := DataW.trod_string Try.underlying9 hy5c
  simp only [List.cons.injEq, and_true] at e5a e5b e5c
  subst e5a e5b e5c
  exact walk a0 w0 a1 w1 a2 s2 a3 s3 k4 n4 t4 wk4 wn4 wt4 k5 n5 t5 wk5 wn5 wt5 W
#print axioms proved
end Go.Proofs.Ytbppibgkljjmaaa.wireApart
