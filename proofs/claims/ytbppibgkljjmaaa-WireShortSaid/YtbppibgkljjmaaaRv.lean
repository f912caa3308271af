/-
  CONTRACTS: the reader's values.
-/
import Derived.Test.YtbppibgkljjmaaaRt
import Derived.Laws.ResultCell
import Derived.Laws.Rows
namespace Go.Proofs.Ytbppibgkljjmaaa
open Go.RowKit
set_option linter.unusedVariables false
open Sept (sept)

/-- a value: its kind, its number, its text, what is wrong, what is left -/
def rdV (L : List UInt8) : Nat × Int × List UInt8 × Nat × List UInt8 :=
  if (rdN L).2.1 ≠ 0 then (0, 0, [], (rdN L).2.1, (rdN L).2.2)
  else if 3 < (rdN L).1 then (0, 0, [], 4, (rdN L).2.2)
  else if (rdN L).1 = 1 then (1, uz (rdI (rdN L).2.2).1, [], (rdI (rdN L).2.2).2.1, (rdI (rdN L).2.2).2.2)
  else if (rdN L).1 = 2 then (2, ((rdN (rdN L).2.2).1 : Int), [], if 1 < (rdN (rdN L).2.2).1 then 4 else (rdN (rdN L).2.2).2.1, (rdN (rdN L).2.2).2.2)
  else if (rdN L).1 = 3 then (3, 0, (rdT 40 (rdN L).2.2).1, (rdT 40 (rdN L).2.2).2.1, (rdT 40 (rdN L).2.2).2.2)
  else (0, 0, [], 0, (rdN L).2.2)

/-- the block of a value -/
def Vb (w : World) (p : Nat) (k n : Int) (t : ByteArray) : Prop := w.heap[p]? = some (.cells #[.int .u8 k, .int .i64 n, .string t] 23 (0, 0))

theorem Vb.cells {w : World} {p : Nat} {k n : Int} {t : ByteArray} (h : Vb w p k n t) : w.cell? ⟨p, 0, none⟩ = some (.int .u8 k) ∧ w.cell? ⟨p, 1, none⟩ = some (.int .i64 n) ∧ w.cell? ⟨p, 2, none⟩ = some (.string t) ∧ w.frozen? ⟨p, 0, none⟩ = false ∧ w.frozen? ⟨p, 1, none⟩ = false ∧ w.frozen? ⟨p, 2, none⟩ = false := by
  unfold Vb at h
  refine ⟨?_, ?_, ?_, ?_, ?_, ?_⟩ <;> simp [World.cell?, World.frozen?, h]
theorem Vb.lt {w : World} {p : Nat} {k n : Int} {t : ByteArray} (h : Vb w p k n t) : p < w.heap.size := by
  unfold Vb at h
  exact (Array.getElem?_eq_some_iff.1 h).1
theorem Vb.new (w : World) (k n : Int) (t : ByteArray) : Vb (w.alloc (.cells #[.int .u8 k, .int .i64 n, .string t] 23)) w.heap.size k n t := by
  unfold Vb; show (w.heap.push _)[w.heap.size]? = _; simp
theorem Vb.off {b : Nat} {w w' : World} {p : Nat} {k n : Int} {t : ByteArray} (h : Vb w p k n t) (hO : Off b w w') (hne : p ≠ b) : Vb w' p k n t := by
  have := hO.block p h.lt hne
  unfold Vb at *
  rw [this, h]
theorem Vb.set0 {w : World} {p : Nat} {k n : Int} {t : ByteArray} (h : Vb w p k n t) (k' : Int) : Vb (w.setCell ⟨p, 0, none⟩ (.int .u8 k')) p k' n t := by
  unfold Vb at *
  simp only [World.setCell, Array.getElem?_modify, h]
  simp
theorem Vb.set1 {w : World} {p : Nat} {k n : Int} {t : ByteArray} (h : Vb w p k n t) (n' : Int) : Vb (w.setCell ⟨p, 1, none⟩ (.int .i64 n')) p k n' t := by
  unfold Vb at *
  simp only [World.setCell, Array.getElem?_modify, h]
  simp
theorem Vb.set2 {w : World} {p : Nat} {k n : Int} {t : ByteArray} (h : Vb w p k n t) (t' : ByteArray) : Vb (w.setCell ⟨p, 2, none⟩ (.string t')) p k n t' := by
  unfold Vb at *
  simp only [World.setCell, Array.getElem?_modify, h]
  simp
theorem Rd.away {w : World} {b : Nat} {s : ByteArray} {e : Int} (h : Rd w b s e) (p o : Nat) (v : Value) (hne : p ≠ b) : Rd (w.setCell ⟨p, o, none⟩ v) b s e := by
  have := Below.heap_setCell w ⟨p, o, none⟩ v b (fun h => hne h.symm)
  unfold Rd at *
  rw [this, h]
theorem Off.away {b : Nat} {w w' : World} (h : Off b w w') (p o : Nat) (v : Value) (hp : w.heap.size ≤ p) : Off b w (w'.setCell ⟨p, o, none⟩ v) :=
  ⟨h.os, h.tape, h.output, Nat.le_trans h.size ((Below.refl 0 w').setCell (Nat.zero_le _) v).size, fun i hi hb => (Below.heap_setCell w' ⟨p, o, none⟩ v i (by show i ≠ p; omega)).trans (h.block i hi hb)⟩

theorem value_out {fn : Func} {p u : Tmp} {R : Ending → World → Prop} {a : Act} {w : World} {g : Nat} {k n : Int} {t : ByteArray} (h : fn.results = #[.cell p 23, .tmp u]) (hd : a.defers = [])
    (hp : a.tmps.getD p undef = .pointer (some ⟨g, 0, none⟩)) (hV : Vb w g k n t) (hR : R (.returned (.tuple #[.agg #[.int .u8 k, .int .i64 n, .string t], a.tmps.getD u undef])) w) : bodyPost Try.prog fn R .ret a w := by
  have ht : Try.prog.underlying 23 = some (.struct (Try.prog.fieldsOf 23)) := by kernel_rfl
  have hp' : a.tmps[p]?.getD undef = .pointer (some ⟨g, 0, none⟩) := by simpa using hp
  refine bodyPost_ret (v := .tuple #[.agg #[.int .u8 k, .int .i64 n, .string t], a.tmps.getD u undef]) ?_ hd hR
  rw [results_cell_tmp h]
  simp [hp', asAddr, run_loadVar_row w g 23 23 _ (0, 0) _ hV ht rfl (by kernel_rfl), Result.andThen]

set_option maxHeartbeats 1000000 in
theorem value_read (L : List UInt8) (b : Nat) (e0 : Int) (w : World) (hL : L.length ≤ 140737488355328) (hR : Rd w b (txt L) e0) :
    Calls Try.prog 48 #[.pointer (some ⟨b, 0, none⟩)] w fun e w' => e = .returned (.tuple #[.agg #[.int .u8 ((rdV L).1 : Int), .int .i64 (rdV L).2.1, .string (txt (rdV L).2.2.1)], .int .i64 ((rdV L).2.2.2.1 : Int)]) ∧ Rd w' b (txt (rdV L).2.2.2.2) e0 ∧ Off b w w' := by
  have hlt := hR.lt
  have hne : w.heap.size ≠ b := by omega
  have hO0 := (Off.refl b w).alloc (.cells #[.int .u8 0, .int .i64 0, .string ⟨#[]⟩] 23)
  have hV0 := Vb.new w 0 0 ⟨#[]⟩
  have hc := number_any L b e0 _ hL (hR.alloc (.cells #[.int .u8 0, .int .i64 0, .string ⟨#[]⟩] 23))
  have hle := rd_le 1099511627776 L 0 0
  have hls := rd_rest 1099511627776 L 0 0
  change (rdN L).1 ≤ _ at hle
  change (rdN L).2.2.length ≤ _ at hls
  unfold rdV
  generalize rdN L = R at hc hle hls ⊢
  obtain ⟨n, er, M⟩ := R
  simp only at hc hle hls ⊢
  have n0 : (0 : Int) ≤ (n : Int) := by omega
  have n1 : (n : Int) ≤ 1099511627776 := by omega
  have hM : M.length ≤ 140737488355328 := by omega
  by_cases h1 : er = 0
  · subst h1
    rw [if_neg (by decide)]
    by_cases h2 : 3 < n
    · rw [if_pos h2]
      have h2' : (3 : Int) < (n : Int) := by omega
      go_enter Try.func48, Try.ntmps48
      go_wp2_with (first | (go_at_call 39; refine hc.mono ?_; rintro e w1 ⟨rfl, hR1, hO1⟩; have hV1 := hV0.off hO1 hne; have hO := hO0.trans hO1; obtain ⟨c0, c1, c2, f0, f1, f2⟩ := hV1.cells))
      (try simp only [Exit.inBlock, Exit.then])
      refine value_out (g := w.heap.size) rfl rfl rfl (by first | with_reducible exact hV1 | with_reducible exact ((hV1.set0 _).set1 _).set2 _ | with_reducible exact (((hV1.set0 _).set0 _).set1 _).set2 _ | with_reducible exact (((hV1.set1 _).set0 _).set1 _).set2 _ | with_reducible exact (((hV1.set2 _).set0 _).set1 _).set2 _) ?_
      exact ⟨rfl, (by first | with_reducible exact hR1 | with_reducible exact ((hR1.away _ _ _ hne).away _ _ _ hne).away _ _ _ hne | with_reducible exact (((hR1.away _ _ _ hne).away _ _ _ hne).away _ _ _ hne).away _ _ _ hne), (by first | with_reducible exact hO | with_reducible exact ((hO.away _ _ _ (Nat.le_refl _)).away _ _ _ (Nat.le_refl _)).away _ _ _ (Nat.le_refl _) | with_reducible exact (((hO.away _ _ _ (Nat.le_refl _)).away _ _ _ (Nat.le_refl _)).away _ _ _ (Nat.le_refl _)).away _ _ _ (Nat.le_refl _))⟩
    · rw [if_neg h2]
      have h2' : (n : Int) ≤ 3 := by omega
      by_cases k1 : n = 1
      · subst k1
        rw [if_pos rfl]
        have hi := fun w' h => integer_any M b e0 w' hM h
        generalize rdI M = I at hi ⊢
        go_enter Try.func48, Try.ntmps48
        go_wp2_with (first | (go_at_call 39; refine hc.mono ?_; rintro e w1 ⟨rfl, hR1, hO1⟩; have hV1 := hV0.off hO1 hne; have hO := hO0.trans hO1; obtain ⟨c0, c1, c2, f0, f1, f2⟩ := hV1.cells) | (go_at_call 42; refine (hi _ (hR1.away _ _ _ hne)).mono ?_; rintro e w2 ⟨rfl, hR2, hO2⟩; have hV2 := (hV1.set0 1).off hO2 hne; replace hO := (hO.away w.heap.size 0 (.int .u8 1) (Nat.le_refl _)).trans hO2; obtain ⟨c0, c1, c2, f0, f1, f2⟩ := hV2.cells))
        (try simp only [Exit.inBlock, Exit.then])
        refine value_out (g := w.heap.size) rfl rfl rfl (by first | with_reducible exact hV2 | with_reducible exact ((hV2.set0 _).set1 _).set2 _ | with_reducible exact (((hV2.set0 _).set0 _).set1 _).set2 _ | with_reducible exact (((hV2.set1 _).set0 _).set1 _).set2 _ | with_reducible exact (((hV2.set2 _).set0 _).set1 _).set2 _) ?_
        exact ⟨rfl, (by first | with_reducible exact hR2 | with_reducible exact ((hR2.away _ _ _ hne).away _ _ _ hne).away _ _ _ hne | with_reducible exact (((hR2.away _ _ _ hne).away _ _ _ hne).away _ _ _ hne).away _ _ _ hne), (by first | with_reducible exact hO | with_reducible exact ((hO.away _ _ _ (Nat.le_refl _)).away _ _ _ (Nat.le_refl _)).away _ _ _ (Nat.le_refl _) | with_reducible exact (((hO.away _ _ _ (Nat.le_refl _)).away _ _ _ (Nat.le_refl _)).away _ _ _ (Nat.le_refl _)).away _ _ _ (Nat.le_refl _))⟩
      · rw [if_neg k1]
        by_cases k2 : n = 2
        · subst k2
          rw [if_pos rfl]
          have hi := fun w' h => number_any M b e0 w' hM h
          have hle2 := rd_le 1099511627776 M 0 0
          change (rdN M).1 ≤ _ at hle2
          generalize rdN M = I at hi hle2 ⊢
          obtain ⟨x, er, M2⟩ := I
          simp only at hi hle2 ⊢
          have x0 : (0 : Int) ≤ (x : Int) := by omega
          have x1 : (x : Int) ≤ 1099511627776 := by omega
          by_cases hx : 1 < x
          · rw [if_pos hx]
            have hx' : (1 : Int) < (x : Int) := by omega
            go_enter Try.func48, Try.ntmps48
            go_wp2_with (first | (go_at_call 39; with_reducible refine hc.mono ?_; rintro e w1 ⟨rfl, hR1, hO1⟩; have hV1 := hV0.off hO1 hne; have hO := hO0.trans hO1; obtain ⟨c0, c1, c2, f0, f1, f2⟩ := hV1.cells) | (go_at_call 39; refine (hi _ (hR1.away _ _ _ hne)).mono ?_; rintro e w2 ⟨rfl, hR2, hO2⟩; have hV2 := (hV1.set0 2).off hO2 hne; replace hO := (hO.away w.heap.size 0 (.int .u8 2) (Nat.le_refl _)).trans hO2; obtain ⟨c0, c1, c2, f0, f1, f2⟩ := hV2.cells))
            (try simp only [Exit.inBlock, Exit.then])
            refine value_out (g := w.heap.size) rfl rfl rfl (by first | with_reducible exact hV2 | with_reducible exact ((hV2.set0 _).set1 _).set2 _ | with_reducible exact (((hV2.set0 _).set0 _).set1 _).set2 _ | with_reducible exact (((hV2.set1 _).set0 _).set1 _).set2 _ | with_reducible exact (((hV2.set2 _).set0 _).set1 _).set2 _) ?_
            exact ⟨rfl, (by first | with_reducible exact hR2 | with_reducible exact ((hR2.away _ _ _ hne).away _ _ _ hne).away _ _ _ hne | with_reducible exact (((hR2.away _ _ _ hne).away _ _ _ hne).away _ _ _ hne).away _ _ _ hne), (by first | with_reducible exact hO | with_reducible exact ((hO.away _ _ _ (Nat.le_refl _)).away _ _ _ (Nat.le_refl _)).away _ _ _ (Nat.le_refl _) | with_reducible exact (((hO.away _ _ _ (Nat.le_refl _)).away _ _ _ (Nat.le_refl _)).away _ _ _ (Nat.le_refl _)).away _ _ _ (Nat.le_refl _))⟩
          · rw [if_neg hx]
            have hx' : (x : Int) ≤ 1 := by omega
            go_enter Try.func48, Try.ntmps48
            go_wp2_with (first | (go_at_call 39; with_reducible refine hc.mono ?_; rintro e w1 ⟨rfl, hR1, hO1⟩; have hV1 := hV0.off hO1 hne; have hO := hO0.trans hO1; obtain ⟨c0, c1, c2, f0, f1, f2⟩ := hV1.cells) | (go_at_call 39; refine (hi _ (hR1.away _ _ _ hne)).mono ?_; rintro e w2 ⟨rfl, hR2, hO2⟩; have hV2 := (hV1.set0 2).off hO2 hne; replace hO := (hO.away w.heap.size 0 (.int .u8 2) (Nat.le_refl _)).trans hO2; obtain ⟨c0, c1, c2, f0, f1, f2⟩ := hV2.cells))
            (try simp only [Exit.inBlock, Exit.then])
            refine value_out (g := w.heap.size) rfl rfl rfl (by first | with_reducible exact hV2 | with_reducible exact ((hV2.set0 _).set1 _).set2 _ | with_reducible exact (((hV2.set0 _).set0 _).set1 _).set2 _ | with_reducible exact (((hV2.set1 _).set0 _).set1 _).set2 _ | with_reducible exact (((hV2.set2 _).set0 _).set1 _).set2 _) ?_
            exact ⟨rfl, (by first | with_reducible exact hR2 | with_reducible exact ((hR2.away _ _ _ hne).away _ _ _ hne).away _ _ _ hne | with_reducible exact (((hR2.away _ _ _ hne).away _ _ _ hne).away _ _ _ hne).away _ _ _ hne), (by first | with_reducible exact hO | with_reducible exact ((hO.away _ _ _ (Nat.le_refl _)).away _ _ _ (Nat.le_refl _)).away _ _ _ (Nat.le_refl _) | with_reducible exact (((hO.away _ _ _ (Nat.le_refl _)).away _ _ _ (Nat.le_refl _)).away _ _ _ (Nat.le_refl _)).away _ _ _ (Nat.le_refl _))⟩
        · rw [if_neg k2]
          by_cases k3 : n = 3
          · subst k3
            rw [if_pos rfl]
            have hi := fun w' h => text_read 40 (by omega) (by omega) M b e0 w' hM h
            generalize rdT 40 M = I at hi ⊢
            go_enter Try.func48, Try.ntmps48
            go_wp2_with (first | (go_at_call 39; with_reducible refine hc.mono ?_; rintro e w1 ⟨rfl, hR1, hO1⟩; have hV1 := hV0.off hO1 hne; have hO := hO0.trans hO1; obtain ⟨c0, c1, c2, f0, f1, f2⟩ := hV1.cells) | (go_at_call 45; refine (hi _ (hR1.away _ _ _ hne)).mono ?_; rintro e w2 ⟨rfl, hR2, hO2⟩; have hV2 := (hV1.set0 3).off hO2 hne; replace hO := (hO.away w.heap.size 0 (.int .u8 3) (Nat.le_refl _)).trans hO2; obtain ⟨c0, c1, c2, f0, f1, f2⟩ := hV2.cells))
            (try simp only [Exit.inBlock, Exit.then])
            refine value_out (g := w.heap.size) rfl rfl rfl (by first | with_reducible exact hV2 | with_reducible exact ((hV2.set0 _).set1 _).set2 _ | with_reducible exact (((hV2.set0 _).set0 _).set1 _).set2 _ | with_reducible exact (((hV2.set1 _).set0 _).set1 _).set2 _ | with_reducible exact (((hV2.set2 _).set0 _).set1 _).set2 _) ?_
            exact ⟨rfl, (by first | with_reducible exact hR2 | with_reducible exact ((hR2.away _ _ _ hne).away _ _ _ hne).away _ _ _ hne | with_reducible exact (((hR2.away _ _ _ hne).away _ _ _ hne).away _ _ _ hne).away _ _ _ hne), (by first | with_reducible exact hO | with_reducible exact ((hO.away _ _ _ (Nat.le_refl _)).away _ _ _ (Nat.le_refl _)).away _ _ _ (Nat.le_refl _) | with_reducible exact (((hO.away _ _ _ (Nat.le_refl _)).away _ _ _ (Nat.le_refl _)).away _ _ _ (Nat.le_refl _)).away _ _ _ (Nat.le_refl _))⟩
          · rw [if_neg k3]
            have k0 : n = 0 := by omega
            subst k0
            go_enter Try.func48, Try.ntmps48
            go_wp2_with (first | (go_at_call 39; with_reducible refine hc.mono ?_; rintro e w1 ⟨rfl, hR1, hO1⟩; have hV1 := hV0.off hO1 hne; have hO := hO0.trans hO1; obtain ⟨c0, c1, c2, f0, f1, f2⟩ := hV1.cells))
            (try simp only [Exit.inBlock, Exit.then])
            refine value_out (g := w.heap.size) rfl rfl rfl (by first | with_reducible exact hV1 | with_reducible exact ((hV1.set0 _).set1 _).set2 _ | with_reducible exact (((hV1.set0 _).set0 _).set1 _).set2 _ | with_reducible exact (((hV1.set1 _).set0 _).set1 _).set2 _ | with_reducible exact (((hV1.set2 _).set0 _).set1 _).set2 _) ?_
            exact ⟨rfl, (by first | with_reducible exact hR1 | with_reducible exact ((hR1.away _ _ _ hne).away _ _ _ hne).away _ _ _ hne | with_reducible exact (((hR1.away _ _ _ hne).away _ _ _ hne).away _ _ _ hne).away _ _ _ hne), (by first | with_reducible exact hO | with_reducible exact ((hO.away _ _ _ (Nat.le_refl _)).away _ _ _ (Nat.le_refl _)).away _ _ _ (Nat.le_refl _) | with_reducible exact (((hO.away _ _ _ (Nat.le_refl _)).away _ _ _ (Nat.le_refl _)).away _ _ _ (Nat.le_refl _)).away _ _ _ (Nat.le_refl _))⟩
  · rw [if_pos h1]
    have h1' : ((er : Int) != 0) = true := by simp; omega
    go_enter Try.func48, Try.ntmps48
    go_wp2_with (first | (go_at_call 39; refine hc.mono ?_; rintro e w1 ⟨rfl, hR1, hO1⟩; have hV1 := hV0.off hO1 hne; have hO := hO0.trans hO1; obtain ⟨c0, c1, c2, f0, f1, f2⟩ := hV1.cells))
    (try simp only [Exit.inBlock, Exit.then])
    refine value_out (g := w.heap.size) rfl rfl rfl (by first | with_reducible exact hV1 | with_reducible exact ((hV1.set0 _).set1 _).set2 _ | with_reducible exact (((hV1.set0 _).set0 _).set1 _).set2 _ | with_reducible exact (((hV1.set1 _).set0 _).set1 _).set2 _ | with_reducible exact (((hV1.set2 _).set0 _).set1 _).set2 _) ?_
    exact ⟨rfl, (by first | with_reducible exact hR1 | with_reducible exact ((hR1.away _ _ _ hne).away _ _ _ hne).away _ _ _ hne | with_reducible exact (((hR1.away _ _ _ hne).away _ _ _ hne).away _ _ _ hne).away _ _ _ hne), (by first | with_reducible exact hO | with_reducible exact ((hO.away _ _ _ (Nat.le_refl _)).away _ _ _ (Nat.le_refl _)).away _ _ _ (Nat.le_refl _) | with_reducible exact (((hO.away _ _ _ (Nat.le_refl _)).away _ _ _ (Nat.le_refl _)).away _ _ _ (Nat.le_refl _)).away _ _ _ (Nat.le_refl _))⟩

end Go.Proofs.Ytbppibgkljjmaaa
