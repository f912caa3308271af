/-
  CONTRACTS: the reader's method for values; how many are left; its end.
-/
import Derived.Test.YtbppibgkljjmaaaRv
namespace Go.Proofs.Ytbppibgkljjmaaa
open Go.RowKit
set_option linter.unusedVariables false
open Sept (sept)

theorem Vb.alloc {w : World} {p : Nat} {k n : Int} {t : ByteArray} (h : Vb w p k n t) (o : Obj) : Vb (w.alloc o) p k n t :=
  (Below.heap_alloc w o p h.lt).trans h

theorem Vb.away {w : World} {p : Nat} {k n : Int} {t : ByteArray} (h : Vb w p k n t) (b o : Nat) (v : Value) (hne : p ≠ b) : Vb (w.setCell ⟨b, o, none⟩ v) p k n t :=
  (Below.heap_setCell w ⟨b, o, none⟩ v p hne).trans h

set_option maxRecDepth 100000 in
set_option maxHeartbeats 1000000 in
theorem takeV_any (b : Nat) (s s' : ByteArray) (k n : Int) (t : ByteArray) (er : Nat) (w : World) (hR : Rd w b s 0)
    (hc : ∀ w', Rd w' b s 0 → Calls Try.prog 48 #[.pointer (some ⟨b, 0, none⟩)] w' fun e w'' => e = .returned (.tuple #[.agg #[.int .u8 k, .int .i64 n, .string t], .int .i64 (er : Int)]) ∧ Rd w'' b s' 0 ∧ Off b w' w'') :
    Calls Try.prog 47 #[.pointer (some ⟨b, 0, none⟩), .func (Fn.func 48) #[.pointer (some ⟨b, 0, none⟩)] #[]] w fun e w' => e = .returned (.tuple #[.agg #[.int .u8 (if er = 0 then k else 0), .int .i64 (if er = 0 then n else 0), .string (if er = 0 then t else ⟨#[]⟩)], .int .i64 (er : Int)]) ∧ Rd w' b (if er = 0 then s' else ByteArray.empty) (er : Int) ∧ Off b w w' := by
  obtain ⟨c0, c1, f0, f1⟩ := hR.cells
  have hlt := hR.lt
  have neA : w.heap.size ≠ b := by omega
  have neB : w.heap.size + 1 ≠ b := by omega
  have hz : w.heap.size + 1 = (w.alloc (.cells #[.int .u8 0, .int .i64 0, .string ⟨#[]⟩] 23)).heap.size := by show _ = (w.heap.push _).size; simp
  have hO0 := ((Off.refl b w).alloc (.cells #[.int .u8 0, .int .i64 0, .string ⟨#[]⟩] 23)).alloc (.cells #[.int .u8 0, .int .i64 0, .string ⟨#[]⟩] 23)
  have hR0 := (hR.alloc (.cells #[.int .u8 0, .int .i64 0, .string ⟨#[]⟩] 23)).alloc (.cells #[.int .u8 0, .int .i64 0, .string ⟨#[]⟩] 23)
  have hA : Vb ((w.alloc (.cells #[.int .u8 0, .int .i64 0, .string ⟨#[]⟩] 23)).alloc (.cells #[.int .u8 0, .int .i64 0, .string ⟨#[]⟩] 23)) w.heap.size 0 0 ⟨#[]⟩ := (Below.heap_alloc _ _ _ (by omega)).trans (Vb.new w 0 0 ⟨#[]⟩)
  have hB : Vb ((w.alloc (.cells #[.int .u8 0, .int .i64 0, .string ⟨#[]⟩] 23)).alloc (.cells #[.int .u8 0, .int .i64 0, .string ⟨#[]⟩] 23)) (w.heap.size + 1) 0 0 ⟨#[]⟩ := by rw [hz]; exact Vb.new _ 0 0 ⟨#[]⟩
  clear hz
  by_cases he : er = 0
  · subst he
    simp only [if_true, show ((0 : Nat) : Int) = 0 from rfl] at hc ⊢
    go_enter Try.func47, Try.ntmps47
    go_wp2_with (first | (go_at_call 48; refine (hc _ hR0).mono ?_; rintro e w1 ⟨rfl, hR1, hO1⟩; have hA1 := hA.off hO1 neA; have hB1 := hB.off hO1 neB; have hO := hO0.trans hO1; obtain ⟨a0, a1, a2, g0, g1, g2⟩ := hA1.cells; have hO2 := hO.alloc (.cells #[.int .u8 k, .int .i64 n, .string t] 23); have hR2 := hR1.alloc (.cells #[.int .u8 k, .int .i64 n, .string t] 23); have hA2 := hA1.alloc (.cells #[.int .u8 k, .int .i64 n, .string t] 23); obtain ⟨j0, j1, j2, l0, l1, l2⟩ := hA2.cells; obtain ⟨b0, b1, b2, i0, i1, i2⟩ := hB1.cells))
    (try simp only [Exit.inBlock, Exit.then])
    refine value_out (g := w.heap.size) rfl rfl rfl (by with_reducible exact ((hA2.set0 _).set1 _).set2 _) ?_
    exact ⟨rfl, (by with_reducible exact ((hR2.away _ _ _ neA).away _ _ _ neA).away _ _ _ neA), (by with_reducible exact ((hO2.away _ _ _ (Nat.le_refl _)).away _ _ _ (Nat.le_refl _)).away _ _ _ (Nat.le_refl _))⟩
  · rw [if_neg he, if_neg he, if_neg he, if_neg he]
    have hb : ((er : Int) != 0) = true := by simp; omega
    go_enter Try.func47, Try.ntmps47
    go_wp2_with (first | (go_at_call 48; refine (hc _ hR0).mono ?_; rintro e w1 ⟨rfl, hR1, hO1⟩; have hA1 := hA.off hO1 neA; have hB1 := hB.off hO1 neB; have hO2 := (hO0.trans hO1).alloc (.cells #[.int .u8 k, .int .i64 n, .string t] 23); have hR2 := hR1.alloc (.cells #[.int .u8 k, .int .i64 n, .string t] 23); have hA2 := hA1.alloc (.cells #[.int .u8 k, .int .i64 n, .string t] 23); have hB2 := hB1.alloc (.cells #[.int .u8 k, .int .i64 n, .string t] 23); obtain ⟨a0, a1, a2, g0, g1, g2⟩ := hA2.cells; obtain ⟨b0, b1, b2, i0, i1, i2⟩ := hB2.cells; obtain ⟨d0, d1, e0, e1⟩ := hR2.cells; have hA3 := (hA2.away b 0 (.string ⟨#[]⟩) neA).away b 1 (.int .i64 (er : Int)) neA; have hB3 := (hB2.away b 0 (.string ⟨#[]⟩) neB).away b 1 (.int .i64 (er : Int)) neB; have hR3 := (hR2.set0 ⟨#[]⟩).set1 (er : Int); have hO3 := (hO2.setCell 0 (.string ⟨#[]⟩)).setCell 1 (.int .i64 (er : Int)); obtain ⟨j0, j1, j2, l0, l1, l2⟩ := hA3.cells; obtain ⟨m0, m1, m2, n0, n1, n2⟩ := hB3.cells))
    (try simp only [Exit.inBlock, Exit.then])
    refine value_out (g := w.heap.size) rfl rfl rfl (by with_reducible exact ((hA3.set0 _).set1 _).set2 _) ?_
    exact ⟨rfl, (by exact ((hR3.away _ _ _ neA).away _ _ _ neA).away _ _ _ neA), (by with_reducible exact ((hO3.away _ _ _ (Nat.le_refl _)).away _ _ _ (Nat.le_refl _)).away _ _ _ (Nat.le_refl _))⟩

theorem valueM_any (L : List UInt8) (b : Nat) (w : World) (hL : L.length ≤ 140737488355328) (hR : Rd w b (txt L) 0) :
    Calls Try.prog 26 #[.pointer (some ⟨b, 0, none⟩)] w fun e w' => e = .returned (.tuple #[.agg #[.int .u8 (if (rdV L).2.2.2.1 = 0 then ((rdV L).1 : Int) else 0), .int .i64 (if (rdV L).2.2.2.1 = 0 then (rdV L).2.1 else 0), .string (if (rdV L).2.2.2.1 = 0 then txt (rdV L).2.2.1 else ⟨#[]⟩)], .int .i64 ((rdV L).2.2.2.1 : Int)]) ∧ Rd w' b (if (rdV L).2.2.2.1 = 0 then txt (rdV L).2.2.2.2 else ByteArray.empty) ((rdV L).2.2.2.1 : Int) ∧ Off b w w' := by
  have hc := takeV_any b (txt L) (txt (rdV L).2.2.2.2) ((rdV L).1 : Int) (rdV L).2.1 (txt (rdV L).2.2.1) (rdV L).2.2.2.1 _ (hR.alloc (.cells #[.int .u8 0, .int .i64 0, .string ⟨#[]⟩] 23)) (fun w' h => value_read L b 0 w' hL h)
  have hlt := hR.lt
  have neA : w.heap.size ≠ b := by omega
  have hV0 := Vb.new w 0 0 ⟨#[]⟩
  have hO0 := (Off.refl b w).alloc (.cells #[.int .u8 0, .int .i64 0, .string ⟨#[]⟩] 23)
  generalize rdV L = R at hc ⊢
  generalize (if R.2.2.2.1 = 0 then (R.1 : Int) else 0) = V0 at hc ⊢
  generalize (if R.2.2.2.1 = 0 then R.2.1 else 0) = V1 at hc ⊢
  generalize (if R.2.2.2.1 = 0 then txt R.2.2.1 else ⟨#[]⟩) = V2 at hc ⊢
  generalize (if R.2.2.2.1 = 0 then txt R.2.2.2.2 else ByteArray.empty) = S at hc ⊢
  go_enter Try.func26, Try.ntmps26
  go_wp2_with (first | (go_at_call 47; refine hc.mono ?_; rintro e w1 ⟨rfl, hR1, hO1⟩; have hV1 := hV0.off hO1 neA; have hO := hO0.trans hO1; obtain ⟨a0, a1, a2, g0, g1, g2⟩ := hV1.cells))
  (try simp only [Exit.inBlock, Exit.then])
  refine value_out (g := w.heap.size) rfl rfl rfl (by with_reducible exact ((hV1.set0 _).set1 _).set2 _) ?_
  exact ⟨rfl, (by with_reducible exact ((hR1.away _ _ _ neA).away _ _ _ neA).away _ _ _ neA), (by with_reducible exact ((hO.away _ _ _ (Nat.le_refl _)).away _ _ _ (Nat.le_refl _)).away _ _ _ (Nat.le_refl _))⟩

end Go.Proofs.Ytbppibgkljjmaaa
