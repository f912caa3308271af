/-
  SMALL LAWS, over any program: what lies below stays; blocks of bytes that the call made; worlds that part in one block.
-/
import Derived.WalkKit
import Derived.ProofKit
import Derived.WalkSpells
import Derived.WalkLawsBesides
import Derived.Deep.LoopGhost
import Derived.Deep.Light
import Derived.Deep.RegionWith
import Derived.Deep.QuietTactic
import Derived.BigQuiet
import Derived.Deep.CutRange
import Derived.Deep.DeepCutAuto
import Derived.Outline
import Derived.Below
import Derived.IntWalk
import Derived.Lib.Hide
import Derived.OpenShut
import Derived.OwnWalk
import Derived.Laws.BitsAllLaws
import Derived.Laws.Bits64
import Derived.Laws.IdiomStrings
import Derived.Laws.NewBlocks
namespace Go.Proofs.Ytbppibgkljjmaaa
open Go.RowKit
set_option linter.unusedVariables false

theorem belowThen {w w1 w2 : World} (h : Below w.heap.size w w1) (k : Below w1.heap.size w1 w2) : Below w.heap.size w w2 := h.trans (k.mono h.size)
theorem belowThenA {w w1 w2 : World} {o : Obj} (h : Below w.heap.size w w1) (k : Below (w1.alloc o).heap.size (w1.alloc o) w2) : Below w.heap.size w w2 := belowThen (h.alloc h.size o) k
theorem belowThenD {w w1 w2 : World} (h : Below w.heap.size w w1) (k : Below w1.heap.size w1.drew w2) : Below w.heap.size w w2 := h.drew.trans (k.mono h.size)
theorem belowThenAA {w w1 w2 : World} {o o' : Obj} (h : Below w.heap.size w w1) (k : Below ((w1.alloc o).alloc o').heap.size ((w1.alloc o).alloc o') w2) : Below w.heap.size w w2 := belowThen ((h.alloc h.size o).alloc (h.alloc h.size o).size o') k
theorem belowThenAD {w w1 w2 : World} {o : Obj} (h : Below w.heap.size w w1) (k : Below (w1.alloc o).heap.size (w1.alloc o).drew w2) : Below w.heap.size w w2 := belowThenD (h.alloc h.size o) k

theorem bcell {W w1 : World} (hb : Below W.heap.size W w1) : (∀ b o, b < W.heap.size → w1.cell? ⟨b, o, none⟩ = W.cell? ⟨b, o, none⟩) ∧ (∀ b o, b < W.heap.size → w1.frozen? ⟨b, o, none⟩ = W.frozen? ⟨b, o, none⟩) :=
  ⟨fun b o h => hb.cell (p := ⟨b, o, none⟩) h, fun b o h => hb.frozen (p := ⟨b, o, none⟩) h⟩

theorem addr_add (b j : Nat) : (⟨b, 0, none⟩ : Addr).add j = ⟨b, j, none⟩ := by
  unfold Addr.add; split <;> simp_all

theorem ret_int {k : IntKind} {a b : Int} (h : a = b) : Ending.returned (.int k a) = .returned (.int k b) := by rw [h]

theorem ret_bool {a b : Bool} (h : a = b) : Ending.returned (.bool a) = .returned (.bool b) := by rw [h]

theorem isEmpty_size (T : ByteArray) : T.toList.isEmpty = decide (T.size = 0) := by
  rw [ByteArray.toList_eq, Bool.eq_iff_iff, List.isEmpty_iff, decide_eq_true_eq]
  have e : T.data.toList.length = T.size := Array.length_toList
  constructor
  · intro h; rw [h] at e; exact e.symm
  · intro h; exact List.length_eq_zero_iff.1 (e.trans h)

/-- a block with a store into it, written out -/
theorem setCell_block (w : World) (C : Array Value) (t : TypeId) (k : Nat) (v : Value) : (w.alloc (.cells C t)).setCell ⟨w.heap.size, k, none⟩ v = w.alloc (.cells (C.setIfInBounds k v) t) :=
  World.setCell_alloc_at _ _ _ _ _ rfl

/-- bytes as cells -/
def cellsOf (l : List UInt8) : List Value := l.map fun b => Value.int .u8 (b.toNat : Int)

theorem size_of_list (l : List UInt8) : (⟨l.toArray⟩ : ByteArray).size = l.length := by
  show l.toArray.size = _; simp

/-- block b holds the bytes l, free to be written -/
def Bytes (w : World) (b : Nat) (l : List UInt8) : Prop := ∀ j, j < l.length → w.cell? ⟨b, j, none⟩ = some (.int .u8 (l.getD j 0).toNat)

theorem bytes_below {B : Nat} {w w' : World} {b : Nat} {l : List UInt8} (hb : Below B w w') (hlt : b < B) (h : Bytes w b l) : Bytes w' b l := by
  intro j hj
  rw [hb.cell (p := ⟨b, j, none⟩) hlt]
  exact h j hj

theorem bytes_text {P : Program} {w : World} {b : Nat} {l : List UInt8} (h : Bytes w b l) (src dst e : TypeId) (n cap : Nat) (hn : n = l.length)
    (hs : P.underlying src = some (.slice e)) (he : P.underlying e = some (.int .u8)) (hd : P.underlying dst = some .string) : (convert src dst (.slice (some ⟨b, 0, none⟩) n cap)).run P w = .ok (.string ⟨l.toArray⟩) w := by
  subst hn
  refine run_convert_bytes_back (P := P) w src dst e ⟨b, 0, none⟩ cap l hs he hd ?_
  intro j hj
  rw [addr_add, h j hj]
  simp [List.getD, hj]

/-- a block whose first cells are those bytes -/
theorem bytes_block (w : World) (l : List UInt8) (more : List Value) (t : TypeId) (fr : Nat × Nat) : Bytes (w.alloc (.cells (cellsOf l ++ more).toArray t fr)) w.heap.size l := by
  intro j hj
  rw [World.cell?_alloc_mark]
  rw [List.getElem?_toArray, List.getElem?_append_left (by simpa [cellsOf] using hj)]
  simp [cellsOf, List.getD, hj]

end Go.Proofs.Ytbppibgkljjmaaa
