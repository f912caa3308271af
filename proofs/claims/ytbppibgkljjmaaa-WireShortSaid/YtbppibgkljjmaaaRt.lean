/-
  CONTRACTS: the reader's texts.
-/
import Derived.Test.YtbppibgkljjmaaaTk
namespace Go.Proofs.Ytbppibgkljjmaaa
open Go.RowKit
set_option linter.unusedVariables false
open Sept (sept)

/-- a text of at most so many bytes -/
def rdT (most : Int) (L : List UInt8) : List UInt8 × Nat × List UInt8 :=
  if (rdN L).2.1 ≠ 0 then ([], (rdN L).2.1, (rdN L).2.2)
  else if most < ((rdN L).1 : Int) then ([], 40, (rdN L).2.2)
  else if (rdN L).2.2.length < (rdN L).1 then ([], 8, (rdN L).2.2)
  else ((rdN L).2.2.take (rdN L).1, 0, (rdN L).2.2.drop (rdN L).1)

theorem txt_take (M : List UInt8) (n : Nat) : (txt M).extract 0 n = txt (M.take n) := by
  apply ByteArray.ext
  apply Array.ext'
  simp [txt]

theorem txt_drop (M : List UInt8) (n : Nat) : (txt M).extract n (txt M).size = txt (M.drop n) := by
  apply ByteArray.ext
  apply Array.ext'
  rw [Lib.extract_to_end]
  simp [txt]

set_option maxRecDepth 100000 in
set_option maxHeartbeats 2000000 in
theorem text_read (most : Int) (hm0 : -9223372036854775808 ≤ most) (hm1 : most ≤ 9223372036854775807) (L : List UInt8) (b : Nat) (e0 : Int) (w : World) (hL : L.length ≤ 140737488355328) (hR : Rd w b (txt L) e0) :
    Calls Try.prog 45 #[.pointer (some ⟨b, 0, none⟩), .int .i64 most] w fun e w' => e = .returned (.tuple #[.string (txt (rdT most L).1), .int .i64 ((rdT most L).2.1 : Int)]) ∧ Rd w' b (txt (rdT most L).2.2) e0 ∧ Off b w w' := by
  have hle := rd_le 1099511627776 L 0 0
  have hls := rd_rest 1099511627776 L 0 0
  have hc := number_any L b e0 w hL hR
  unfold rdT
  change (rdN L).1 ≤ _ at hle
  change (rdN L).2.2.length ≤ _ at hls
  generalize rdN L = R at hc hle hls ⊢
  obtain ⟨n, er, M⟩ := R
  simp only at hc hle hls ⊢
  have hz : (txt M).size = M.length := txt_size M
  have n0 : (0 : Int) ≤ (n : Int) := by omega
  have n1 : (n : Int) ≤ 1099511627776 := by omega
  by_cases h1 : er = 0
  · subst h1
    rw [if_neg (by decide)]
    by_cases h2 : most < (n : Int)
    · rw [if_pos h2]
      go_enter Try.func45, Try.ntmps45
      go_wp2_with (first | (go_at_call 39; refine hc.mono ?_; rintro e w' ⟨rfl, hR1, hO1⟩; obtain ⟨d0, d1, g0, g1⟩ := hR1.cells))
      go_ret2
      exact ⟨rfl, hR1, hO1⟩
    · rw [if_neg h2]
      by_cases h3 : M.length < n
      · rw [if_pos h3]
        go_enter Try.func45, Try.ntmps45
        go_wp2_with (first | (go_at_call 39; refine hc.mono ?_; rintro e w' ⟨rfl, hR1, hO1⟩; obtain ⟨d0, d1, g0, g1⟩ := hR1.cells))
        go_ret2
        exact ⟨rfl, hR1, hO1⟩
      · rw [if_neg h3]
        have et := txt_take M n
        have ed := txt_drop M n
        rw [hz] at ed
        go_enter Try.func45, Try.ntmps45
        go_wp2_with (first | (go_at_call 39; refine hc.mono ?_; rintro e w' ⟨rfl, hR1, hO1⟩; obtain ⟨d0, d1, g0, g1⟩ := hR1.cells))
        go_ret2
        exact ⟨rfl, hR1.set0 _, hO1.setCell _ _⟩
  · rw [if_pos h1]
    have h1' : ((er : Int) != 0) = true := by simp; omega
    go_enter Try.func45, Try.ntmps45
    go_wp2_with (first | (go_at_call 39; refine hc.mono ?_; rintro e w' ⟨rfl, hR1, hO1⟩; obtain ⟨d0, d1, g0, g1⟩ := hR1.cells))
    go_ret2
    exact ⟨rfl, hR1, hO1⟩

theorem text_closure (most : Int) (hm0 : -9223372036854775808 ≤ most) (hm1 : most ≤ 9223372036854775807) (L : List UInt8) (b p q : Nat) (w : World) (hL : L.length ≤ 140737488355328) (hR : Rd w b (txt L) 0)
    (hp : w.cell? ⟨p, 0, none⟩ = some (.pointer (some ⟨b, 0, none⟩))) (hq : w.cell? ⟨q, 0, none⟩ = some (.int .i64 most)) :
    Calls Try.prog 44 #[.pointer (some ⟨p, 0, none⟩), .pointer (some ⟨q, 0, none⟩)] w fun e w' => e = .returned (.tuple #[.string (txt (rdT most L).1), .int .i64 ((rdT most L).2.1 : Int)]) ∧ Rd w' b (txt (rdT most L).2.2) 0 ∧ Off b w w' := by
  have hc := text_read most hm0 hm1 L b 0 w hL hR
  generalize rdT most L = R at hc ⊢
  go_enter Try.func44, Try.ntmps44
  go_wp2_with (first | (go_at_call 45; refine hc.mono ?_; rintro e w' ⟨rfl, hR1, hO1⟩))
  go_ret2
  exact ⟨rfl, hR1, hO1⟩

theorem takeS_any (b : Nat) (s s' : ByteArray) (V : ByteArray) (er : Nat) (p q : Value) (w : World) (hR : Rd w b s 0)
    (hc : Calls Try.prog 44 #[p, q] w fun e w' => e = .returned (.tuple #[.string V, .int .i64 (er : Int)]) ∧ Rd w' b s' 0 ∧ Off b w w') :
    Calls Try.prog 43 #[.pointer (some ⟨b, 0, none⟩), .func (Fn.func 44) #[] #[p, q]] w fun e w' => e = .returned (.tuple #[.string (if er = 0 then V else ⟨#[]⟩), .int .i64 (er : Int)]) ∧ Rd w' b (if er = 0 then s' else ByteArray.empty) (er : Int) ∧ Off b w w' := by
  obtain ⟨c0, c1, f0, f1⟩ := hR.cells
  by_cases he : er = 0
  · subst he
    rw [if_pos rfl, if_pos rfl]
    go_enter Try.func43, Try.ntmps43
    go_wp2_with (first | (go_at_call 44; refine hc.mono ?_; rintro e w' ⟨rfl, hR1, hO1⟩))
    go_ret2
    exact ⟨rfl, hR1, hO1⟩
  · rw [if_neg he, if_neg he]
    have hb : ((er : Int) != 0) = true := by simp; omega
    go_enter Try.func43, Try.ntmps43
    go_wp2_with (first | (go_at_call 44; refine hc.mono ?_; rintro e w1 ⟨rfl, hR1, hO1⟩; obtain ⟨d0, d1, g0, g1⟩ := hR1.cells))
    go_ret2
    exact ⟨rfl, (hR1.set0 _).set1 _, (hO1.setCell _ _).setCell _ _⟩

/-- but for block b nothing below B has turned -/
theorem off_of_allocs {b : Nat} {w w' : World} {o o' : Obj} (hb : b < w.heap.size) (h : Off b ((w.alloc o).alloc o') w') : Off b w w' :=
  (((Off.refl b w).alloc o).alloc o').trans h

theorem Rd.lt {w : World} {b : Nat} {s : ByteArray} {e : Int} (h : Rd w b s e) : b < w.heap.size := by
  unfold Rd at h
  exact (Array.getElem?_eq_some_iff.1 h).1

theorem Rd.alloc {w : World} {b : Nat} {s : ByteArray} {e : Int} (h : Rd w b s e) (o : Obj) : Rd (w.alloc o) b s e := by
  unfold Rd at *
  rw [Below.heap_alloc w o b (Array.getElem?_eq_some_iff.1 h).1]
  exact h

theorem cell_one (w : World) (v : Value) (t : TypeId) (o' : Obj) : ((w.alloc (.cells #[v] t)).alloc o').cell? ⟨w.heap.size, 0, none⟩ = some v := by
  have h : ((w.alloc (.cells #[v] t)).alloc o').heap[w.heap.size]? = (w.alloc (.cells #[v] t)).heap[w.heap.size]? := Below.heap_alloc _ _ _ (by show _ < (w.heap.push _).size; simp)
  have e : ((w.alloc (.cells #[v] t)).alloc o').cell? ⟨w.heap.size, 0, none⟩ = (w.alloc (.cells #[v] t)).cell? ⟨w.heap.size, 0, none⟩ := by unfold World.cell?; rw [h]
  rw [e, World.cell?_alloc_mark w #[v] t (0, 0) 0]
  rfl

theorem cell_two (w : World) (o : Obj) (v : Value) (t : TypeId) : ((w.alloc o).alloc (.cells #[v] t)).cell? ⟨w.heap.size + 1, 0, none⟩ = some v := by
  have h : w.heap.size + 1 = (w.alloc o).heap.size := by show _ = (w.heap.push _).size; simp
  rw [h, World.cell?_alloc_mark (w.alloc o) #[v] t (0, 0) 0]
  rfl

set_option maxHeartbeats 1000000 in
theorem textM_any (most : Int) (hm0 : -9223372036854775808 ≤ most) (hm1 : most ≤ 9223372036854775807) (L : List UInt8) (b : Nat) (w : World) (hL : L.length ≤ 140737488355328) (hR : Rd w b (txt L) 0) :
    Calls Try.prog 24 #[.pointer (some ⟨b, 0, none⟩), .int .i64 most] w fun e w' => e = .returned (.tuple #[.string (if (rdT most L).2.1 = 0 then txt (rdT most L).1 else ⟨#[]⟩), .int .i64 ((rdT most L).2.1 : Int)]) ∧ Rd w' b (if (rdT most L).2.1 = 0 then txt (rdT most L).2.2 else ByteArray.empty) ((rdT most L).2.1 : Int) ∧ Off b w w' := by
  have hlt := hR.lt
  have hc := fun p q w' hR' hp hq => text_closure most hm0 hm1 L b p q w' hL hR' hp hq
  generalize rdT most L = R at hc ⊢
  have ht := takeS_any b (txt L) (txt R.2.2) (txt R.1) R.2.1 (.pointer (some ⟨w.heap.size, 0, none⟩)) (.pointer (some ⟨w.heap.size + 1, 0, none⟩)) ((w.alloc (Obj.cells #[.pointer (some ⟨b, 0, none⟩)] 33)).alloc (Obj.cells #[.int .i64 most] 3)) ((hR.alloc _).alloc _)
    (hc _ _ _ ((hR.alloc _).alloc _) (cell_one w _ 33 _) (cell_two w _ _ 3))
  generalize (if R.2.1 = 0 then txt R.1 else ⟨#[]⟩) = V at ht ⊢
  generalize (if R.2.1 = 0 then txt R.2.2 else ByteArray.empty) = S at ht ⊢
  go_enter Try.func24, Try.ntmps24
  go_wp2_with (first | (go_at_call 43; refine ht.mono ?_; rintro e w1 ⟨rfl, hR1, hO1⟩))
  go_ret2
  exact ⟨rfl, hR1, off_of_allocs hlt hO1⟩
end Go.Proofs.Ytbppibgkljjmaaa
