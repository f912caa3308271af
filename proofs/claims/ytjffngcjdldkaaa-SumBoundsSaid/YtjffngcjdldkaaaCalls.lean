/-
  CONTRACTS, higher up: Sum of the document's, 'both', 'works'.
-/
import Derived.Test.YtjffngcjdldkaaaBase
import Derived.Laws.Bits64
import Derived.Laws.IdiomStrings
import Derived.OwnWalk
import Derived.StillTailTactics
import Derived.Deep.CutRange
import Derived.Deep.DeepCutAuto
import Derived.Test.YtjffngcjdldkaaaParts
namespace Go.Proofs.Ytjffngcjdldkaaa
open Go.RowKit
set_option linter.unusedVariables false
open Adler (add lo hi fold)

theorem info5 : (Try.prog.info? 5).map (fun i => (i.zero, i.size, i.bytes)) = some (some (.int .u8 0), 1, 1) := by kernel_rfl

theorem belowThen {w w1 w2 : World} (h : Below w.heap.size w w1) (k : Below w1.heap.size w1 w2) : Below w.heap.size w w2 := h.trans (k.mono h.size)
theorem belowThenA {w w1 w2 : World} {o : Obj} (h : Below w.heap.size w w1) (k : Below (w1.alloc o).heap.size (w1.alloc o) w2) : Below w.heap.size w w2 := belowThen (h.alloc h.size o) k
theorem belowThenD {w w1 w2 : World} (h : Below w.heap.size w w1) (k : Below w1.heap.size w1.drew w2) : Below w.heap.size w w2 := h.drew.trans (k.mono h.size)

/-- where 'int(uint(at) % uint(n + 1))' lies -/
theorem rem_place (at_ : Int) (n : Nat) (hn : (n : Int) < 9223372036854775807) : ∃ k : Nat, k ≤ n ∧ wrap64 ((IntKind.u64.wrap at_).tmod ((n : Int) + 1)) = (k : Int) := by
  have h0 : 0 ≤ IntKind.u64.wrap at_ := by rw [IntKind.wrap_u64]; omega
  rw [Int.tmod_eq_emod_of_nonneg h0]
  have h1 := Int.emod_nonneg (IntKind.u64.wrap at_) (show ((n : Int) + 1) ≠ 0 by omega)
  have h2 := Int.emod_lt_of_pos (IntKind.u64.wrap at_) (show 0 < ((n : Int) + 1) by omega)
  refine ⟨((IntKind.u64.wrap at_) % ((n : Int) + 1)).toNat, by omega, ?_⟩
  rw [IntWalk.wrap64_in _ ⟨by omega, by omega⟩]
  omega

/-- 'make([]byte, m)', and it as a text -/
theorem zero_make (m : Nat) (hm : m < 500) (w : World) :
    (Instr.makeSlice 32 (.int .i64 (m : Int)) (.int .i64 (m : Int))).run Try.prog w = .ok (.slice (some ⟨w.heap.size, 0, none⟩) m m) (w.alloc (.cells (madeCells #[.int .u8 0] m) 5)) := by
  obtain ⟨i0, hi, hz0, hz1, hz2⟩ := info_parts info5
  have := run_make (P := Try.prog) w 32 5 i0 (.int .u8 0) Try.underlying32 hi hz0 .i64 .i64 (m : Int) (m : Int) (by omega) (by omega) (by rw [hz2]; omega) (by omega)
  rw [this, hz1]
  simp [Value.cells]

theorem madeCells_get (m j : Nat) (h : j < m) : (madeCells #[Value.int .u8 0] m)[j]? = some (.int .u8 0) := by
  simp [madeCells, h, Nat.mod_one]

theorem addr_add (b j : Nat) : (⟨b, 0, none⟩ : Addr).add j = ⟨b, j, none⟩ := by
  unfold Addr.add; split <;> simp_all

theorem zero_text (m : Nat) (w : World) :
    (convert 32 9 (.slice (some ⟨w.heap.size, 0, none⟩) m m)).run Try.prog (w.alloc (.cells (madeCells #[.int .u8 0] m) 5)) = .ok (.string ⟨Array.replicate m 0⟩) (w.alloc (.cells (madeCells #[.int .u8 0] m) 5)) := by
  have := run_convert_bytes_back (P := Try.prog) (w.alloc (.cells (madeCells #[.int .u8 0] m) 5)) 32 9 5 ⟨w.heap.size, 0, none⟩ m (List.replicate m 0) Try.underlying32 Try.underlying5 Try.underlying9 (by
    intro j hj
    have hj' : j < m := by simpa using hj
    have := World.cell?_alloc_mark w (madeCells #[.int .u8 0] m) 5 (0, 0) j
    rw [madeCells_get m j hj'] at this
    rw [addr_add, this]
    simp)
  simpa using this

theorem rem_place' (at_ : Int) (n : Nat) (h1 : 0 < n) (hn : (n : Int) < 9223372036854775807) : ∃ k : Nat, k < n ∧ wrap64 ((IntKind.u64.wrap at_).tmod (n : Int)) = (k : Int) := by
  obtain ⟨k, hk, e⟩ := rem_place at_ (n - 1) (by omega)
  have : (((n - 1 : Nat) : Int) + 1) = (n : Int) := by omega
  rw [this] at e
  exact ⟨k, by omega, e⟩

/-- the cells of '[]byte(s)' -/
theorem row_cell (s : ByteArray) (k : Nat) (hk : k < s.size) (w : World) (C : Nat) (fr : Nat × Nat) : (w.alloc (.cells (bytesRow s C) 5 fr)).cell? ⟨w.heap.size, k, none⟩ = some (.int .u8 (s.data.toList.getD k 0).toNat) := by
  have hk' : k < s.data.size := hk
  rw [World.cell?_alloc_mark, bytesRow_at s C k hk']
  simp [List.getD, Array.getElem?_eq_getElem hk']

theorem row_free (s : ByteArray) (k : Nat) (hk : k < s.size) (w : World) (C : Nat) : (w.alloc (.cells (bytesRow s C) 5 ((bytesRow s C).size, (bytesRow s C).size + 1))).frozen? ⟨w.heap.size, k, none⟩ = false := by
  rw [World.frozen?_alloc_mark]
  have hz : s.data.size = s.size := rfl
  have : s.size ≤ (bytesRow s C).size := by unfold bytesRow; simp
  simp; omega

/-- block b holds the bytes l, free to be written -/
def Bytes (w : World) (b : Nat) (l : List UInt8) : Prop := ∀ j, j < l.length → w.cell? ⟨b, j, none⟩ = some (.int .u8 (l.getD j 0).toNat) ∧ w.frozen? ⟨b, j, none⟩ = false

theorem bytes_made (s : ByteArray) (w : World) (C : Nat) : Bytes (w.alloc (.cells (bytesRow s C) 5 ((bytesRow s C).size, (bytesRow s C).size + 1))) w.heap.size s.data.toList := by
  intro j hj
  have hj' : j < s.size := by simpa using hj
  exact ⟨row_cell s j hj' w C _, row_free s j hj' w C⟩

theorem bytes_drew {w : World} {b : Nat} {l : List UInt8} (h : Bytes w b l) : Bytes w.drew b l := h

theorem bytes_below {B : Nat} {w w' : World} {b : Nat} {l : List UInt8} (hb : Below B w w') (hlt : b < B) (h : Bytes w b l) : Bytes w' b l := by
  intro j hj
  rw [hb.cell (p := ⟨b, j, none⟩) hlt, hb.frozen (p := ⟨b, j, none⟩) hlt]
  exact h j hj

theorem bytes_set {w : World} {b : Nat} {l : List UInt8} (h : Bytes w b l) (k : Nat) (hk : k < l.length) (x : Int) (h0 : 0 ≤ x) (h1 : x ≤ 255) : Bytes (w.setCell ⟨b, k, none⟩ (.int .u8 x)) b (l.set k (UInt8.ofNat x.toNat)) := by
  intro j hj
  have hj' : j < l.length := by simpa using hj
  refine ⟨?_, by rw [World.frozen?_setCell]; exact (h j hj').2⟩
  by_cases e : j = k
  · subst e
    rw [World.cell?_setCell_same _ _ _ (h j hj').1]
    simp [List.getD, hk]
    omega
  · rw [World.cell?_setCell_other _ _ _ _ (fun h => e (by have := congrArg Addr.off h; simp at this; omega))]
    rw [(h j hj').1]
    simp [List.getD, List.getElem?_set_ne (Ne.symm e)]

theorem bytes_text {w : World} {b : Nat} {l : List UInt8} (h : Bytes w b l) (n cap : Nat) (hn : n = l.length) : (convert 32 9 (.slice (some ⟨b, 0, none⟩) n cap)).run Try.prog w = .ok (.string ⟨l.toArray⟩) w := by
  subst hn
  refine run_convert_bytes_back (P := Try.prog) w 32 9 5 ⟨b, 0, none⟩ cap l Try.underlying32 Try.underlying5 Try.underlying9 ?_
  intro j hj
  rw [addr_add, (h j hj).1]
  simp [List.getD, hj]

theorem refSum_any (s : ByteArray) (w : World) (hs : s.size ≤ maxLen) :
    Calls Try.prog 14 #[.string s] w fun e w' => e = .returned (.int .u32 (add 1 s.data.toList)) ∧ w = w' := by
  go_enter Try.func14, Try.ntmps14
  go_wp2_with (first | (go_at_call 15; refine (refAdd_any 1 s _ (by omega) (by omega) hs).mono ?_; rintro e w' ⟨rfl, rfl⟩))
  go_ret
  exact ⟨rfl, rfl⟩

/-- both numbers of a sum from 1 on -/
theorem both_sum (l : List UInt8) (w : World) :
    Calls Try.prog 12 #[.int .u32 (add 1 l)] w fun e w' => e = .returned (.tuple #[.int .i64 (lo (add 1 l)), .int .i64 (hi (add 1 l))]) ∧ w = w' :=
  both_any _ w (Adler.add_bd 1 l (by omega) (by omega)).1 (Adler.add_bd 1 l (by omega) (by omega)).2

/-- 'both' says yes where the two numbers are those -/
theorem both_true (x a b : Int) (w : World) (h0 : 0 ≤ x) (h1 : x ≤ 4294967295) (ha : lo x = a) (hb : hi x = b) :
    Calls Try.prog 9 #[.int .u32 x, .int .i64 a, .int .i64 b] w fun e w' => e = .returned (.bool true) ∧ w = w' := by
  subst ha hb
  go_enter Try.func9, Try.ntmps9
  go_wp2_with (first | (go_at_call 12; refine (both_any x _ h0 h1).mono ?_; rintro e w' ⟨rfl, rfl⟩))
  go_ret
  exact ⟨rfl, rfl⟩

theorem works_any (w : World) :
    Calls Try.prog 8 #[] w fun e w' => e = .returned (.bool true) ∧ Below w.heap.size w w' := by
  have e0 : add 1 [] = 1 := by decide
  have e1 : add 1 [1] = 131074 := by decide
  have e2 : add 1 [97, 98] = 19267780 := by decide
  have e3 : add 1 [0] = 65537 := by decide
  have HB := Below.refl w.heap.size w
  go_enter Try.func8, Try.ntmps8
  go_wp2_with (first | (go_at_call 11; refine (sum_any _ _ (by decide)).mono ?_; rintro e w' ⟨rfl, hb⟩; replace HB := belowThen HB hb; clear hb) | (go_at_call 9; refine (both_true _ _ _ _ (by decide) (by decide) (by decide) (by decide)).mono ?_; rintro e w' ⟨rfl, rfl⟩))
  go_ret
  exact ⟨rfl, HB⟩

theorem names_any (w : World) :
    Calls Try.prog 3 #[] w fun e w' => e = .returned (.bool true) ∧ Below w.heap.size w w' := by
  have e0 : add 65520 [1] = 0 := by decide
  have e1 : add 4293984240 [2] = 1 := by decide
  have e2 : add 1 [97, 98] = 19267780 := by decide
  have e3 : add 1 [97] = 6422626 := by decide
  have e4 : add 6422626 [98] = 19267780 := by decide
  have e5 : add 7 [] = 7 := by decide
  have HB := Below.refl w.heap.size w
  go_enter Try.func3, Try.ntmps3
  go_wp2_with (first | (go_at_call 8; refine (works_any _).mono ?_; rintro e w' ⟨rfl, hb⟩; replace HB := belowThen HB hb; clear hb) | (go_at_call 11; refine (sum_any _ _ (by decide)).mono ?_; rintro e w' ⟨rfl, hb⟩; replace HB := belowThen HB hb; clear hb) | (go_at_call 9; refine (both_true _ _ _ _ (by decide) (by decide) (by decide) (by decide)).mono ?_; rintro e w' ⟨rfl, rfl⟩) | (go_at_call 10; refine (add_any _ _ _ (by decide) (by decide) (by decide)).mono ?_; rintro e w' ⟨rfl, hb⟩; replace HB := belowThen HB hb; clear hb) )
  go_ret
  exact ⟨rfl, HB⟩
end Go.Proofs.Ytjffngcjdldkaaa
