/-
  WireShort: for every whole number, text and value, and however many of the last bytes are missing, the law of package wire returns true: what is left of the bytes is read as nothing, since bytes are missing; nothing that was there is written. No condition.
-/
import Derived.Test.YtbppibgkljjmaaaRows
import Derived.WalkKit
import Derived.ProofKit
import Derived.OpenShut
import Derived.ShutString
import Derived.Lib.SmallJoins
import Derived.Test.YtbppibgkljjmaaaFrame
import Derived.Test.YtbppibgkljjmaaaSh
namespace Go.Proofs.Ytbppibgkljjmaaa.wireShort
open Go.ChangeShapes Go.WideShapes Go.ChangeAt Go.RowKit
open Go.ChangeMaps (open_string shut_string)
set_option linter.unusedVariables false

set_option maxHeartbeats 4000000 in
set_option maxRecDepth 100000 in
theorem walk (a0 : Int) (w0 : (Lit.int .i64 a0).wf = true) (a1 : ByteArray) (w1 : a1.size ≤ 140737488351232) (k2 n2 : Int) (t2 : ByteArray) (wk2 : (Lit.int .u8 k2).wf = true) (wn2 : (Lit.int .i64 n2).wf = true) (wt2 : t2.size ≤ maxLen) (a3 : Int) (w3 : (Lit.int .i64 a3).wf = true) (w : World) :
    Calls Try.prog 8 #[.int .i64 a0, .string a1, .agg #[.int .u8 k2, .int .i64 n2, .string t2], .int .i64 a3] w fun e w' => e = .returned (.bool true) ∧ Below w.heap.size w w' := by
  have HB := Below.refl w.heap.size w
  obtain ⟨x0, x1⟩ := bounds_i64 w0
  obtain ⟨l0, l1⟩ := bounds_i64 w3
  obtain ⟨k0, k1⟩ := bounds_u8 wk2
  obtain ⟨n0, n1⟩ := bounds_i64 wn2
  have t2b : t2.size ≤ 9223372036854775807 := wt2
  by_cases hl : 500 < a1.size ∨ 500 < t2.size
  · rcases hl with hl | hl
    · go_enter Try.func8, Try.ntmps8
      go_wp2_with (go_at_call 10; ((with_reducible refine (awake_any _).mono ?_); rintro e w' ⟨rfl, hb⟩; (first | replace HB := belowThen HB hb | replace HB := belowThenA HB hb | replace HB := belowThenAA HB hb); clear hb))
      all_goals (go_ret; exact ⟨rfl, HB⟩)
    · go_enter Try.func8, Try.ntmps8
      go_wp2_with (go_at_call 10; ((with_reducible refine (awake_any _).mono ?_); rintro e w' ⟨rfl, hb⟩; (first | replace HB := belowThen HB hb | replace HB := belowThenA HB hb | replace HB := belowThenAA HB hb); clear hb))
      all_goals (go_ret; exact ⟨rfl, HB⟩)
  · have g1 : (a1.size : Int) ≤ 500 := by omega
    have g2 : (t2.size : Int) ≤ 500 := by omega
    clear hl
    have pa := int_pos a0
    have pb := text_pos a1
    have za := txt_sept_size (zig a0) (zig_lt a0 x0 x1)
    have zb : (txt (Sept.sept a1.size) ++ a1).size ≤ 1000 := by
      have := txt_sept_size a1.size (by omega)
      rw [ByteArray.size_append]; omega
    have HV := Vb.new w k2 n2 t2
    have zs : (txt (Sept.sept a1.size) ++ a1).size = (txt (Sept.sept a1.size)).size + a1.size := ByteArray.size_append
    have zs0 := txt_sept_size a1.size (by omega)
    obtain ⟨A, hA, ltA⟩ := less_mod a3 ((txt (Sept.sept (zig a0))).size : Int) (by omega) (by omega)
    obtain ⟨B, hB, ltB⟩ := less_mod a3 ((txt (Sept.sept a1.size)).size + a1.size : Int) (by omega) (by omega)
    have SA := Lib.hid (is_int_short a0 A x0 x1 (by omega))
    have SB := Lib.hid (is_text_short a1 B (by omega) (by omega))
    have qa : (((txt (Sept.sept (zig a0))).size : Int) == 0) = false := by rw [beq_eq_false_iff_ne]; omega
    have qb : (((txt (Sept.sept a1.size)).size + a1.size : Int) == 0) = false := by rw [beq_eq_false_iff_ne]; omega
    have ltA' : (A : Int) ≤ ((txt (Sept.sept (zig a0))).size : Int) := by omega
    have ltB' : (B : Int) ≤ ((txt (Sept.sept a1.size)).size + a1.size : Int) := by omega
    by_cases he : enc k2 n2 t2 = true
    · have ev := Lib.hid (show valVal ⟨#[]⟩ k2 n2 t2 = .tuple #[.string (valTxt ⟨#[]⟩ k2 n2 t2), .int .i64 0] by unfold valVal; rw [if_pos he])
      have pc := value_pos k2 n2 t2
      have zc : (valTxt ⟨#[]⟩ k2 n2 t2).size ≤ 1000 := by have := valTxt_size k2 n2 t2 k1 n0 n1 t2b; omega
      obtain ⟨C, hC, ltC⟩ := less_mod a3 ((valTxt ⟨#[]⟩ k2 n2 t2).size : Int) (by omega) (by omega)
      have SC := Lib.hid (is_value_short k2 n2 t2 C he n0 n1 (by omega) (by omega))
      have qc : (((valTxt ⟨#[]⟩ k2 n2 t2).size : Int) == 0) = false := by rw [beq_eq_false_iff_ne]; omega
      have ltC' : (C : Int) ≤ ((valTxt ⟨#[]⟩ k2 n2 t2).size : Int) := by omega
      go_enter Try.func8, Try.ntmps8
      go_wp2_with (first
        | (go_at_call 10; ((with_reducible refine (awake_any _).mono ?_); rintro e w1 ⟨rfl, hb⟩; replace HB := belowThenA HB hb; replace HV := HV.below hb; clear hb))
        | (go_at_call 15; ((with_reducible refine (int_nil _ _ x0 x1).mono ?_); rintro e w1 ⟨rfl, hb⟩; replace HB := belowThen HB hb; replace HV := HV.below hb; clear hb))
        | (go_at_call 17; ((with_reducible refine (text_nil _ _ (by omega)).mono ?_); rintro e w1 ⟨rfl, hb⟩; replace HB := belowThen HB hb; replace HV := HV.below hb; clear hb; obtain ⟨d0, d1, d2, d3, d4, d5⟩ := id HV.cells))
        | (go_at_call 13; ((with_reducible refine (value_any _ _ _ _ _ (by decide) k0 k1 n0 n1 (by omega)).mono ?_); rintro e w1 ⟨rfl, hb⟩; replace HB := belowThen HB hb; clear hb HV d0 d1 d2 d3 d4 d5; rw [ev.out]))
        | (go_at_call 19; ((with_reducible refine (open_any _ _).mono ?_); rintro e w1 ⟨rfl, rfl⟩))
        | (go_at_call 22; ((with_reducible refine (int_short _ _ SA.out).mono ?_); rintro e w1 ⟨rfl, hb⟩; replace HB := belowThen HB hb; clear hb))
        | (go_at_call 24; ((with_reducible refine (text_short _ _ SB.out).mono ?_); rintro e w1 ⟨rfl, hb⟩; replace HB := belowThen HB hb; clear hb))
        | (go_at_call 26; ((with_reducible refine (value_short _ _ SC.out).mono ?_); rintro e w1 ⟨rfl, hb⟩; replace HB := belowThen HB hb; clear hb)))
      all_goals (go_ret; (first | exact ⟨rfl, HB⟩ | exact ⟨rfl, HB.alloc HB.size _⟩))
    · have ev := Lib.hid (show valVal ⟨#[]⟩ k2 n2 t2 = .tuple #[.string ⟨#[]⟩, .int .i64 4] by unfold valVal; rw [if_neg he])
      go_enter Try.func8, Try.ntmps8
      go_wp2_with (first
        | (go_at_call 10; ((with_reducible refine (awake_any _).mono ?_); rintro e w1 ⟨rfl, hb⟩; replace HB := belowThenA HB hb; replace HV := HV.below hb; clear hb))
        | (go_at_call 15; ((with_reducible refine (int_nil _ _ x0 x1).mono ?_); rintro e w1 ⟨rfl, hb⟩; replace HB := belowThen HB hb; replace HV := HV.below hb; clear hb))
        | (go_at_call 17; ((with_reducible refine (text_nil _ _ (by omega)).mono ?_); rintro e w1 ⟨rfl, hb⟩; replace HB := belowThen HB hb; replace HV := HV.below hb; clear hb; obtain ⟨d0, d1, d2, d3, d4, d5⟩ := id HV.cells))
        | (go_at_call 13; ((with_reducible refine (value_any _ _ _ _ _ (by decide) k0 k1 n0 n1 (by omega)).mono ?_); rintro e w1 ⟨rfl, hb⟩; replace HB := belowThen HB hb; clear hb HV d0 d1 d2 d3 d4 d5; rw [ev.out]))
        | (go_at_call 19; ((with_reducible refine (open_any _ _).mono ?_); rintro e w1 ⟨rfl, rfl⟩))
        | (go_at_call 22; ((with_reducible refine (int_short _ _ SA.out).mono ?_); rintro e w1 ⟨rfl, hb⟩; replace HB := belowThen HB hb; clear hb))
        | (go_at_call 24; ((with_reducible refine (text_short _ _ SB.out).mono ?_); rintro e w1 ⟨rfl, hb⟩; replace HB := belowThen HB hb; clear hb)))
      all_goals (go_ret; (first | exact ⟨rfl, HB⟩ | exact ⟨rfl, HB.alloc HB.size _⟩))

set_option maxRecDepth 100000 in
theorem proved : Rows.WireShortSaid := by
  refine OpenClaim.holds_of_wide 8 Try.f8 rfl rfl rfl rfl rfl rfl rfl ⟨rfl, rfl, rfl, rfl, rfl⟩ rfl rfl rfl rfl rfl (by kernel_rfl) Try.func8 (by kernel_rfl)
    (of_decide_eq_true (by kernel_rfl)) (by unfold Func.isWrapper; first | (rw [if_pos (by decide +kernel)]; kernel_rfl) | (rw [if_neg (by decide +kernel)]; exact ⟨rfl, rfl⟩))
    (fun os started H enc _ => lawLifted (C := Try.checked) (F := Try.f8) (s := Rows.wireShortSpec) (conds := Rows.wireShortRow.domain) (by kernel_rfl) started (by kernel_rfl) Try.func8
      (ChangeSpec.witness6 (enc := enc) (C := Try.checked) false ⟨#[], #[.int .i64 0, .string ByteArray.empty, .agg #[.int .u8 0, .int .i64 0, .string ByteArray.empty], .int .i64 0], []⟩ 8 (by kernel_rfl) (by kernel_rfl) (by kernel_rfl) (by kernel_rfl))
      (by kernel_rfl) (by kernel_rfl) rfl Try.underlying4
      (fun ds hl => by match ds, hl with | [d0, d1, d2, d3], _ => exact ⟨rfl, rfl, rfl⟩) rfl (fun W base args ds ps hval hA hcnd hsz => ?_))
  have hpar : Try.f8.params.toList = [2, 9, 23, 3] := rfl
  rw [hpar] at hval hA hsz
  obtain ⟨v0, vs0, d0, ds0, p0, q0, hargs, rfl, rfl, h0, r0⟩ := trodAll_cons hA
  obtain ⟨v1, vs1, d1, ds1, p1, q1, rfl, rfl, rfl, h1, r1⟩ := trodAll_cons r0
  obtain ⟨v2, vs2, d2, ds2, p2, q2, rfl, rfl, rfl, h2, r2⟩ := trodAll_cons r1
  obtain ⟨v3, vs3, d3, ds3, p3, q3, rfl, rfl, rfl, h3, r3⟩ := trodAll_cons r2
  obtain ⟨rfl, rfl, rfl⟩ := trodAll_nil r3
  obtain rfl : args = #[v0, v1, v2, v3] := by cases args; simp_all
  obtain ⟨a0, rfl, rfl, rfl, w0⟩ := open_int Try.underlying2 (hval 0 2 v0 rfl rfl) h0
  obtain ⟨a1, rfl, rfl, rfl, w1⟩ := open_string Try.underlying9 (hval 1 9 v1 rfl rfl) h1
  have s1 : a1.size ≤ 140737488351232 := by have := sized_string hsz (j := 1) rfl rfl; simpa [reachBytes] using this
  obtain ⟨c2a, c2b, c2c, y2a, y2b, y2c, m2, rfl, rfl, rfl, hy2a, hy2b, hy2c⟩ := Joins.open_agg3 Try.underlying23 (by kernel_rfl) (by kernel_rfl) (hval 2 23 v2 rfl rfl) h2
  obtain ⟨k2, e2a, rfl, wk2⟩ := DataW.trod_int Try.underlying5 hy2a
  obtain ⟨n2, e2b, rfl, wn2⟩ := DataW.trod_int Try.underlying2 hy2b
  obtain ⟨t2, e2c, rfl, wt2⟩ := DataW.trod_string Try.underlying9 hy2c
  simp only [List.cons.injEq, and_true] at e2a e2b e2c
  subst e2a e2b e2c
  obtain ⟨a3, rfl, rfl, rfl, w3⟩ := open_int Try.underlying3 (hval 3 3 v3 rfl rfl) h3
  exact walk a0 w0 a1 s1 k2 n2 t2 wk2 wn2 wt2 a3 w3 W
#print axioms proved
end Go.Proofs.Ytbppibgkljjmaaa.wireShort
