/-
  CONTRACTS of the closures 'begins' and 'far'.
-/
import Derived.Test.YtbppibgkljjmaaaPre
import Derived.Test.YtbppibgkljjmaaaAw
namespace Go.Proofs.Ytbppibgkljjmaaa
open Go.RowKit
set_option linter.unusedVariables false
open Sept (sept)

theorem begins_eq (a b : ByteArray) (h : a.size ≤ b.size) : ((b.extract 0 a.size).toList == a.toList) = begins a b := by
  unfold begins
  rw [Bool.eq_iff_iff, beq_iff_eq, decide_eq_true_eq, ByteArray.toList_eq, ByteArray.toList_eq, Lib.extract_data]
  simp only [List.drop_zero, Nat.sub_zero]
  rw [← toList_size a]
  constructor
  · intro h; rw [← h]; exact List.take_prefix _ _
  · intro h; exact (List.prefix_iff_eq_take.1 h).symm

theorem begins_no (a b : ByteArray) (h : ¬ a.size ≤ b.size) : begins a b = false := by
  unfold begins
  rw [decide_eq_false_iff_not]
  intro hp
  have := hp.length_le
  rw [toList_size, toList_size] at this
  omega

theorem begins_any (a b : ByteArray) (w : World) (ha : a.size ≤ 140737488355328) (hb : b.size ≤ 140737488355328) :
    Calls Try.prog 32 #[.string a, .string b] w fun e w' => e = .returned (.bool (begins a b)) ∧ w = w' := by
  by_cases h : a.size ≤ b.size
  · have e := Lib.hid (begins_eq a b h)
    have h' : (a.size : Int) ≤ (b.size : Int) := by omega
    go_enter Try.func32, Try.ntmps32
    go_wp2
    go_ret
    exact ⟨by rw [← e.out]; rfl, rfl⟩
  · have e := Lib.hid (begins_no a b h)
    have h' : (b.size : Int) < (a.size : Int) := by omega
    go_enter Try.func32, Try.ntmps32
    go_wp2
    go_ret
    exact ⟨by rw [e.out]; rfl, rfl⟩

/-- how far from 0 -/
def far (x : Int) : Int := if x < 0 then -x else x

theorem far_any (x : Int) (w : World) (h0 : -9223372036854775808 ≤ x) (h1 : x ≤ 9223372036854775807) :
    Calls Try.prog 33 #[.int .i64 x] w fun e w' => e = .returned (.int .u64 (far x)) ∧ w = w' := by
  unfold far
  by_cases hx : x < 0
  · rw [if_pos hx]
    go_enter Try.func33, Try.ntmps33
    go_wp2
    go_ret
    exact ⟨ret_int (by omega), rfl⟩
  · rw [if_neg hx]
    have hx' : 0 ≤ x := by omega
    go_enter Try.func33, Try.ntmps33
    go_wp2
    go_ret
    exact ⟨rfl, rfl⟩

theorem far_len (x y : Int) (h : far x < far y) : (txt (sept (zig x))).size ≤ (txt (sept (zig y))).size := by
  rw [txt_size, txt_size]
  apply sept_mono
  unfold far at h
  unfold zig
  split at h <;> split at h <;> split <;> split <;> omega
end Go.Proofs.Ytbppibgkljjmaaa
