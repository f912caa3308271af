/-
  CONTRACTS: a reader of too few bytes.
-/
import Derived.Test.YtbppibgkljjmaaaRm
import Derived.Test.YtbppibgkljjmaaaBk
import Derived.Test.YtbppibgkljjmaaaTwo
namespace Go.Proofs.Ytbppibgkljjmaaa
open Go.RowKit
set_option linter.unusedVariables false
open Sept (sept)

theorem Vb.below {w w' : World} {p : Nat} {k n : Int} {t : ByteArray} (h : Vb w p k n t) (hb : Below w.heap.size w w') : Vb w' p k n t := (hb.block p h.lt).trans h

theorem int_short (s : ByteArray) (w : World) (h : ∃ L : List UInt8, s = txt L ∧ L.length ≤ 140737488355328 ∧ rdI L = (0, 8, [])) :
    Calls Try.prog 22 #[.pointer (some ⟨w.heap.size, 0, none⟩)] (w.alloc (.cells #[.string s, .int .i64 0] 68)) fun e w' => e = .returned (.tuple #[.int .i64 0, .int .i64 8]) ∧ Below w.heap.size w w' := by
  obtain ⟨L, rfl, hL, hr⟩ := h
  have h := intM_any L w.heap.size _ hL (rd_new (txt L) w)
  rw [hr] at h
  refine h.mono ?_
  rintro e w' ⟨rfl, _, hO⟩
  exact ⟨rfl, off_below hO⟩

theorem text_short (s : ByteArray) (w : World) (h : ∃ L : List UInt8, s = txt L ∧ L.length ≤ 140737488355328 ∧ (rdT 500 L).2.1 = 8) :
    Calls Try.prog 24 #[.pointer (some ⟨w.heap.size, 0, none⟩), .int .i64 500] (w.alloc (.cells #[.string s, .int .i64 0] 68)) fun e w' => e = .returned (.tuple #[.string ⟨#[]⟩, .int .i64 8]) ∧ Below w.heap.size w w' := by
  obtain ⟨L, rfl, hL, hr⟩ := h
  have h := textM_any 500 (by omega) (by omega) L w.heap.size _ hL (rd_new (txt L) w)
  rw [hr] at h
  refine h.mono ?_
  rintro e w' ⟨rfl, _, hO⟩
  exact ⟨rfl, off_below hO⟩

theorem value_short (s : ByteArray) (w : World) (h : ∃ L : List UInt8, s = txt L ∧ L.length ≤ 140737488355328 ∧ (rdV L).2.2.2.1 = 8) :
    Calls Try.prog 26 #[.pointer (some ⟨w.heap.size, 0, none⟩)] (w.alloc (.cells #[.string s, .int .i64 0] 68)) fun e w' => e = .returned (.tuple #[.agg #[.int .u8 0, .int .i64 0, .string ⟨#[]⟩], .int .i64 8]) ∧ Below w.heap.size w w' := by
  obtain ⟨L, rfl, hL, hr⟩ := h
  have h := valueM_any L w.heap.size _ hL (rd_new (txt L) w)
  rw [hr] at h
  refine h.mono ?_
  rintro e w' ⟨rfl, _, hO⟩
  exact ⟨rfl, off_below hO⟩

theorem is_int_short (x : Int) (j : Nat) (h0 : -9223372036854775808 ≤ x) (h1 : x ≤ 9223372036854775807) (hj : j < (txt (sept (zig x))).size) : ∃ L : List UInt8, (txt (sept (zig x))).extract 0 j = txt L ∧ L.length ≤ 140737488355328 ∧ rdI L = (0, 8, []) := by
  have hz := txt_size (sept (zig x))
  have := Sept.sept_le10 (zig x) (zig_lt x h0 h1)
  exact ⟨_, txt_take _ j, by simp; omega, rdI_short _ _ (zig_lt x h0 h1) (by omega)⟩

theorem txt_app (a b : List UInt8) : txt (a ++ b) = txt a ++ txt b := by
  apply ByteArray.ext; simp [txt, ByteArray.data_append]

theorem text_code (t : ByteArray) : txt (sept t.size) ++ t = txt (sept t.data.toList.length ++ t.data.toList) := by
  rw [txt_app, toList_size]
  rfl

theorem is_text_short (t : ByteArray) (j : Nat) (ht : t.size ≤ 500) (hj : j < (txt (sept t.size) ++ t).size) : ∃ L : List UInt8, (txt (sept t.size) ++ t).extract 0 j = txt L ∧ L.length ≤ 140737488355328 ∧ (rdT 500 L).2.1 = 8 := by
  rw [text_code] at hj ⊢
  have hz := txt_size (sept t.data.toList.length ++ t.data.toList)
  have h5 := toList_size t
  have := Sept.sept_le10 t.data.toList.length (by omega)
  exact ⟨_, txt_take _ j, Nat.le_trans (List.length_take_le _ _) (by rw [List.length_append] at hz; omega), rdT_short 500 _ j (by omega) (by omega) (by omega)⟩

theorem valTxt_txt (k N : Int) (T : ByteArray) : valTxt ⟨#[]⟩ k N T = txt (code k N T) := by
  apply ByteArray.ext
  apply Array.ext'
  rw [valTxt_code, txt_data]

theorem is_value_short (k N : Int) (T : ByteArray) (j : Nat) (he : enc k N T = true) (hN0 : -9223372036854775808 ≤ N) (hN1 : N ≤ 9223372036854775807) (hz : (valTxt ⟨#[]⟩ k N T).size ≤ 140737488355328) (hj : j < (valTxt ⟨#[]⟩ k N T).size) :
    ∃ L : List UInt8, (valTxt ⟨#[]⟩ k N T).extract 0 j = txt L ∧ L.length ≤ 140737488355328 ∧ (rdV L).2.2.2.1 = 8 := by
  rw [valTxt_txt] at hj hz ⊢
  rw [txt_size] at hj hz
  exact ⟨_, txt_take _ j, by simp; omega, rdV_short k N T j he hN0 hN1 hj⟩

theorem int_pos (x : Int) : 0 < (txt (sept (zig x))).size := by rw [txt_size]; exact Sept.sept_length_pos _
theorem text_pos (t : ByteArray) : 0 < (txt (sept t.size) ++ t).size := by rw [ByteArray.size_append, txt_size]; have := Sept.sept_length_pos t.size; omega
theorem value_pos (k N : Int) (T : ByteArray) : 0 < (valTxt ⟨#[]⟩ k N T).size := by
  rw [valTxt_txt, txt_size]
  unfold code
  have := Sept.sept_length_pos k.toNat
  rw [List.length_append]; omega

theorem less_mod (x s : Int) (hs : 0 < s) (hs1 : s ≤ 1000000) : ∃ J : Nat, wrap64 ((IntKind.u64.wrap x).tmod s) = (J : Int) ∧ (J : Int) < s := by
  have h0 : 0 ≤ IntKind.u64.wrap x := by
    have e : IntKind.u64.wrap x = x % 18446744073709551616 := rfl
    rw [e]; omega
  have h1 := Int.emod_nonneg (IntKind.u64.wrap x) (show s ≠ 0 by omega)
  have h2 := Int.emod_lt_of_pos (IntKind.u64.wrap x) hs
  rw [Int.tmod_eq_emod_of_nonneg h0]
  generalize IntKind.u64.wrap x % s = r at h1 h2
  refine ⟨r.toNat, ?_, by omega⟩
  unfold wrap64
  omega

end Go.Proofs.Ytbppibgkljjmaaa
