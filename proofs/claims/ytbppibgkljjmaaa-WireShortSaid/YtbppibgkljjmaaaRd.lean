/-
  THE READER OF NUMBERS: the model on lists of bytes; the reader's block; its contract.
-/
import Derived.Test.YtbppibgkljjmaaaWr
import Derived.Lib.IndexBytes
namespace Go.Proofs.Ytbppibgkljjmaaa
open Go.RowKit
set_option linter.unusedVariables false
open Sept (sept)

/-- what is read: the number, what is wrong (0: nothing), what is left -/
def rd (most : Nat) : Nat → Nat → List UInt8 → Nat × Nat × List UInt8
  | _, _, [] => (0, 8, [])
  | i, n, b :: r =>
    if i = 10 then (0, 4, r) else
    if 18446744073709551616 ≤ b.toNat % 128 * 2 ^ (7 * i) then (0, 4, r) else
    if most < n + b.toNat % 128 * 2 ^ (7 * i) ∨ (b.toNat = 0 ∧ 0 < i) then (0, 4, r) else
    if b.toNat < 128 then (n + b.toNat % 128 * 2 ^ (7 * i), 0, r) else rd most (i + 1) (n + b.toNat % 128 * 2 ^ (7 * i)) r

/-- the reader's block -/
def Rd (w : World) (b : Nat) (s : ByteArray) (e : Int) : Prop := w.heap[b]? = some (.cells #[.string s, .int .i64 e] 68 (0, 0))

/-- but for block b nothing that was there has turned -/
structure Off (b : Nat) (w w' : World) : Prop where
  os : w'.os = w.os
  tape : w'.tape = w.tape
  output : w'.output = w.output
  size : w.heap.size ≤ w'.heap.size
  block : ∀ k, k < w.heap.size → k ≠ b → w'.heap[k]? = w.heap[k]?

theorem Off.refl (b : Nat) (w : World) : Off b w w := ⟨rfl, rfl, rfl, Nat.le_refl _, fun _ _ _ => rfl⟩
theorem Off.trans {b : Nat} {w1 w2 w3 : World} (h : Off b w1 w2) (k : Off b w2 w3) : Off b w1 w3 :=
  ⟨k.os.trans h.os, k.tape.trans h.tape, k.output.trans h.output, Nat.le_trans h.size k.size, fun i hi hb => (k.block i (Nat.lt_of_lt_of_le hi h.size) hb).trans (h.block i hi hb)⟩
theorem Off.setCell {b : Nat} {w w' : World} (h : Off b w w') (o : Nat) (v : Value) : Off b w (w'.setCell ⟨b, o, none⟩ v) :=
  ⟨h.os, h.tape, h.output, Nat.le_trans h.size ((Below.refl 0 w').setCell (Nat.zero_le _) v).size, fun i hi hb => (Below.heap_setCell w' ⟨b, o, none⟩ v i hb).trans (h.block i hi hb)⟩
theorem Off.alloc {b : Nat} {w w' : World} (h : Off b w w') (o : Obj) : Off b w (w'.alloc o) :=
  ⟨h.os, h.tape, h.output, Nat.le_trans h.size (by show w'.heap.size ≤ (w'.heap.push o).size; simp), fun i hi hb => (Below.heap_alloc w' o i (Nat.lt_of_lt_of_le hi h.size)).trans (h.block i hi hb)⟩
theorem Off.drew {b : Nat} {w w' : World} (h : Off b w w') : Off b w w'.drew := ⟨h.os, h.tape, h.output, h.size, h.block⟩

theorem Rd.cells {w : World} {b : Nat} {s : ByteArray} {e : Int} (h : Rd w b s e) : w.cell? ⟨b, 0, none⟩ = some (.string s) ∧ w.cell? ⟨b, 1, none⟩ = some (.int .i64 e) ∧ w.frozen? ⟨b, 0, none⟩ = false ∧ w.frozen? ⟨b, 1, none⟩ = false := by
  unfold Rd at h
  refine ⟨?_, ?_, ?_, ?_⟩ <;> simp [World.cell?, World.frozen?, h]

theorem Rd.set0 {w : World} {b : Nat} {s : ByteArray} {e : Int} (h : Rd w b s e) (s' : ByteArray) : Rd (w.setCell ⟨b, 0, none⟩ (.string s')) b s' e := by
  unfold Rd at *
  simp only [World.setCell, Array.getElem?_modify, h]
  simp
theorem Rd.set1 {w : World} {b : Nat} {s : ByteArray} {e : Int} (h : Rd w b s e) (e' : Int) : Rd (w.setCell ⟨b, 1, none⟩ (.int .i64 e')) b s e' := by
  unfold Rd at *
  simp only [World.setCell, Array.getElem?_modify, h]
  simp

theorem txt_tail (b : UInt8) (r : List UInt8) : (txt (b :: r)).extract 1 (txt (b :: r)).size = txt r := by
  apply ByteArray.ext
  apply Array.ext'
  rw [Lib.extract_to_end]
  simp [txt]
end Go.Proofs.Ytbppibgkljjmaaa
