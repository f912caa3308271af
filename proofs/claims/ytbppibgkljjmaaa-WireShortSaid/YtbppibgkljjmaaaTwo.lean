/-
  Two values that were boxed at a call's start stay as they are.
-/
import Derived.Test.YtbppibgkljjmaaaAp
import Derived.Laws.StructEq
namespace Go.Proofs.Ytbppibgkljjmaaa
open Go.RowKit
set_option linter.unusedVariables false

structure Two (w wx : World) (k n : Int) (t : ByteArray) (l m : Int) (u : ByteArray) : Prop where
  a0 : wx.cell? ⟨w.heap.size, 0, none⟩ = some (.int .u8 k)
  a1 : wx.cell? ⟨w.heap.size, 1, none⟩ = some (.int .i64 n)
  a2 : wx.cell? ⟨w.heap.size, 2, none⟩ = some (.string t)
  b0 : wx.cell? ⟨w.heap.size + 1, 0, none⟩ = some (.int .u8 l)
  b1 : wx.cell? ⟨w.heap.size + 1, 1, none⟩ = some (.int .i64 m)
  b2 : wx.cell? ⟨w.heap.size + 1, 2, none⟩ = some (.string u)
  size : w.heap.size + 1 < wx.heap.size

theorem Two.below {w wx wy : World} {k n : Int} {t : ByteArray} {l m : Int} {u : ByteArray} (h : Two w wx k n t l m u) (hb : Below wx.heap.size wx wy) : Two w wy k n t l m u := by
  have hs := h.size
  have c : ∀ b j, b ≤ w.heap.size + 1 → wy.cell? ⟨b, j, none⟩ = wx.cell? ⟨b, j, none⟩ := fun b j hb' => hb.cell (p := ⟨b, j, none⟩) (by show b < _; omega)
  exact ⟨(c _ _ (by omega)).trans h.a0, (c _ _ (by omega)).trans h.a1, (c _ _ (by omega)).trans h.a2, (c _ _ (by omega)).trans h.b0, (c _ _ (by omega)).trans h.b1, (c _ _ (by omega)).trans h.b2, Nat.lt_of_lt_of_le hs hb.size⟩

theorem Two.made (w : World) (k n : Int) (t : ByteArray) (l m : Int) (u : ByteArray) : Two w ((w.alloc (.cells #[.int .u8 k, .int .i64 n, .string t] 23)).alloc (.cells #[.int .u8 l, .int .i64 m, .string u] 23)) k n t l m u := by
  have hz : (w.alloc (.cells #[.int .u8 k, .int .i64 n, .string t] 23)).heap.size = w.heap.size + 1 := by show (w.heap.push _).size = _; simp
  have c : ∀ j, ((w.alloc (.cells #[.int .u8 k, .int .i64 n, .string t] 23)).alloc (.cells #[.int .u8 l, .int .i64 m, .string u] 23)).cell? ⟨w.heap.size, j, none⟩ = (#[Value.int .u8 k, .int .i64 n, .string t] : Array Value)[j]? := by
    intro j
    rw [World.cell?_alloc_lt _ _ _ (by rw [hz]; show w.heap.size < _; omega), World.cell?_alloc_mark w _ 23 (0, 0) j]
  have d : ∀ j, ((w.alloc (.cells #[.int .u8 k, .int .i64 n, .string t] 23)).alloc (.cells #[.int .u8 l, .int .i64 m, .string u] 23)).cell? ⟨w.heap.size + 1, j, none⟩ = (#[Value.int .u8 l, .int .i64 m, .string u] : Array Value)[j]? := by
    intro j
    have := World.cell?_alloc_mark (w.alloc (.cells #[.int .u8 k, .int .i64 n, .string t] 23)) #[.int .u8 l, .int .i64 m, .string u] 23 (0, 0) j
    rw [hz] at this
    exact this
  refine ⟨c 0, c 1, c 2, d 0, d 1, d 2, ?_⟩
  show _ < ((w.heap.push _).push _).size
  simp
theorem int_nil (x : Int) (w : World) (h0 : -9223372036854775808 ≤ x) (h1 : x ≤ 9223372036854775807) :
    Calls Try.prog 15 #[.string ⟨#[]⟩, .int .i64 x] w fun e w' => e = .returned (.string (txt (Sept.sept (zig x)))) ∧ Below w.heap.size w w' := int_at x _ w h0 h1 rfl

theorem text_nil (t : ByteArray) (w : World) (ht : t.size ≤ 140737488355328) :
    Calls Try.prog 17 #[.string ⟨#[]⟩, .string t] w fun e w' => e = .returned (.string (txt (Sept.sept t.size) ++ t)) ∧ Below w.heap.size w w' := by
  refine (text_any ⟨#[]⟩ t w (by decide) ht).mono ?_
  rintro e w' ⟨rfl, hb⟩
  exact ⟨by rw [show (⟨#[]⟩ : ByteArray) = ByteArray.empty from rfl, ByteArray.empty_append], hb⟩

theorem toList_inj {a b : ByteArray} : a.toList = b.toList ↔ a = b := by
  rw [ByteArray.toList_eq, ByteArray.toList_eq]
  exact ⟨fun h => ByteArray.ext (Array.ext' h), fun h => by rw [h]⟩

theorem begins_text_eq (t u : ByteArray) : begins (txt (Sept.sept t.size) ++ t) (txt (Sept.sept u.size) ++ u) = (t.toList == u.toList) := by
  rw [begins_text, Bool.eq_iff_iff, decide_eq_true_eq, beq_iff_eq, toList_inj]

theorem val_guard (x y : Operand) (xs ys : Array Value) (w : World) : (eqGuard .eql 23 x y (.agg xs) (.agg ys)).run Try.prog w = .ok () w :=
  run_eqGuard_agg w .eql 23 x y xs ys (by kernel_rfl)

/-- what '==' says of two values -/
def sameVal (k n : Int) (t : ByteArray) (l m : Int) (u : ByteArray) : Bool := decide (k = l ∧ n = m ∧ t = u)

theorem val_eql (k n : Int) (t : ByteArray) (l m : Int) (u : ByteArray) (w : World) :
    (binOp .eql 23 (.agg #[.int .u8 k, .int .i64 n, .string t]) (.agg #[.int .u8 l, .int .i64 m, .string u])).run Try.prog w = .ok (.bool (sameVal k n t l m u)) w := by
  have ht : Try.prog.underlying 23 = some (.struct (Try.prog.fieldsOf 23)) := by kernel_rfl
  rw [run_eql_struct, run_equalIn_struct w 9999 23 _ _ ht (by kernel_rfl)]
  have h5 := Try.underlying5
  have h2 := Try.underlying2
  have h9 := Try.underlying9
  have hf : ∃ f0 f1 f2 : Field, (Try.prog.fieldsOf 23).toList = [f0, f1, f2] ∧ f0.name ≠ "_" ∧ f1.name ≠ "_" ∧ f2.name ≠ "_" ∧ f0.type = 5 ∧ f1.type = 2 ∧ f2.type = 9 ∧ f0.offset = 0 ∧ f1.offset = 1 ∧ f2.offset = 2 := by
    refine ⟨_, _, _, rfl, ?_, ?_, ?_, rfl, rfl, rfl, rfl, rfl, rfl⟩ <;> decide
  obtain ⟨f0, f1, f2, hl, n0, n1, n2, t0, t1, t2, o0, o1, o2⟩ := hf
  have p0 : ∀ (a b c : Value) (w : World), (part 5 #[a, b, c] 0).run Try.prog w = .ok a w := fun a b c w => by kernel_rfl
  have p1 : ∀ (a b c : Value) (w : World), (part 2 #[a, b, c] 1).run Try.prog w = .ok b w := fun a b c w => by kernel_rfl
  have p2 : ∀ (a b c : Value) (w : World), (part 9 #[a, b, c] 2).run Try.prog w = .ok c w := fun a b c w => by kernel_rfl
  rw [hl]
  simp only [Op.eqFields, n0, n1, n2, t0, t1, t2, o0, o1, o2, ne_eq, not_false_eq_true, if_true, Sem.run_bind, p0, Result.andThen_ok, run_equalIn_int _ _ _ _ _ _ _ h5]
  unfold sameVal
  by_cases e1 : k = l
  · by_cases e2 : n = m
    · by_cases e3 : t = u
      · simp [e1, e2, e3, Sem.run_bind, p1, p2, run_equalIn_int _ _ _ _ _ _ _ h2, run_equalIn_string _ _ _ _ _ h9, Sem.run_pure]
      · have e3' : (t.toList == u.toList) = false := by simpa [toList_inj] using e3
        simp [e1, e2, e3, e3', Sem.run_bind, p1, p2, run_equalIn_int _ _ _ _ _ _ _ h2, run_equalIn_string _ _ _ _ _ h9, Sem.run_pure]
    · simp [e1, e2, Sem.run_bind, p1, run_equalIn_int _ _ _ _ _ _ _ h2, Sem.run_pure]
  · simp [e1, Sem.run_pure]

theorem valTxt_size (k N : Int) (T : ByteArray) (hk : k ≤ 255) (hN0 : -9223372036854775808 ≤ N) (hN1 : N ≤ 9223372036854775807) (hT : T.size ≤ 9223372036854775807) : (valTxt ⟨#[]⟩ k N T).size ≤ 20 + T.size := by
  have z1 := txt_sept_size k.toNat (by omega)
  have z2 := txt_sept_size (zig N) (zig_lt N hN0 hN1)
  have z3 := txt_sept_size T.size (by omega)
  have z4 := txt_sept_size N.toNat (by omega)
  have z0 : (⟨#[]⟩ : ByteArray).size = 0 := rfl
  unfold valTxt
  split
  · simp only [ByteArray.size_append]; omega
  · split
    · simp only [ByteArray.size_append]; omega
    · split
      · simp only [ByteArray.size_append]; omega
      · simp only [ByteArray.size_append]; omega

theorem begins_same (k N k' N' : Int) (T T' : ByteArray) (h0 : 0 ≤ k) (h0' : 0 ≤ k') (he : enc k N T = true) (he' : enc k' N' T' = true) :
    begins (valTxt ⟨#[]⟩ k N T) (valTxt ⟨#[]⟩ k' N' T') = sameVal k N T k' N' T' := begins_val k N k' N' T T' h0 h0' he he'

end Go.Proofs.Ytbppibgkljjmaaa
