/-
  SumByte: for every text, every place and every byte the law of package sum returns true: texts of one length that part in just one byte have unlike sums, and so have texts in which two unlike neighbours change places; nothing that was there is written. No condition.
-/
import Derived.Test.YtjffngcjdldkaaaRows
import Derived.WalkKit
import Derived.ProofKit
import Derived.OpenShut
import Derived.ShutString
import Derived.Test.YtjffngcjdldkaaaFrame
import Derived.Test.YtjffngcjdldkaaaCalls
namespace Go.Proofs.Ytjffngcjdldkaaa.sumByte
open Go.ChangeShapes Go.WideShapes Go.ChangeAt Go.RowKit
open Go.ChangeMaps (open_string shut_string)
set_option linter.unusedVariables false

set_option maxHeartbeats 4000000 in
set_option maxRecDepth 100000 in
theorem walk (a0 : ByteArray) (w0 : a0.size ≤ 140737488351232) (a1 : Int) (w1 : (Lit.int .i64 a1).wf = true) (a2 : Int) (w2 : (Lit.int .u8 a2).wf = true) (w : World) :
    Calls Try.prog 6 #[.string a0, .int .i64 a1, .int .u8 a2] w fun e w' => e = .returned (.bool true) ∧ Below w.heap.size w w' := by
  have hs0 : a0.size ≤ maxLen := by unfold maxLen; omega
  obtain ⟨x0, x1⟩ := bounds_u8 w2
  have HB := Below.refl w.heap.size w
  by_cases hl : 40000 < a0.size
  · go_enter Try.func6, Try.ntmps6
    go_wp2_with (first | (go_at_call 8; refine (works_any _).mono ?_; rintro e w' ⟨rfl, hb⟩; replace HB := belowThen HB hb; clear hb))
    go_ret
    exact ⟨rfl, HB⟩
  by_cases hz : a0.size = 0
  · have hz' : ((a0.size : Int) == 0) = true := by simp [hz]
    go_enter Try.func6, Try.ntmps6
    go_wp2_with (first | (go_at_call 8; refine (works_any _).mono ?_; rintro e w' ⟨rfl, hb⟩; replace HB := belowThen HB hb; clear hb))
    go_ret
    exact ⟨rfl, HB⟩
  · have hz' : ((a0.size : Int) == 0) = false := by simp; exact fun h => hz (by simp [h])
    have hz2 : (0 : Int) < a0.size := by omega
    obtain ⟨k, hk, ek⟩ := rem_place' a1 a0.size (by omega) (by omega)
    have hk' : (k : Int) < a0.size := by omega
    have hk0 : (0 : Int) ≤ k := by omega
    have hcv := fun (w : World) => run_bytes_of_string (P := Try.prog) w 9 32 5 a0 Try.underlying9 Try.underlying32 Try.underlying5
    have hcl := row_cell a0 k hk
    have hfr := row_free a0 k hk
    go_enter Try.func6, Try.ntmps6
    go_wp2_with (first | (go_at_call 8; refine (works_any _).mono ?_; rintro e w' ⟨rfl, hb⟩; replace HB := belowThen HB hb; clear hb))
    rw [ek]
    obtain ⟨w1, hw1⟩ : ∃ w1 : World, w1 = ((w'.alloc (Obj.cells (bytesRow a0 (grownCap w' a0.size 0 5)) 5 ((bytesRow a0 (grownCap w' a0.size 0 5)).size, (bytesRow a0 (grownCap w' a0.size 0 5)).size + 1))).setCell { block := w'.heap.size, off := k } (Value.int IntKind.u8 a2)).drew := ⟨_, rfl⟩
    rw [← hw1]
    have HB1 : Below w.heap.size w w1 := by rw [hw1]; exact ((HB.alloc HB.size _).setCell HB.size _).drew
    have HY : Bytes w1 w'.heap.size (a0.data.toList.set k (UInt8.ofNat a2.toNat)) := by rw [hw1]; exact bytes_drew (bytes_set (bytes_made a0 w' _) k (by simpa using hk) a2 x0 x1)
    have hlt : w'.heap.size < w1.heap.size := by rw [hw1]; show _ < ((w'.heap.push _).modify _ _).size; simp
    clear hw1 HB hcl hfr
    generalize grownCap w' a0.size 0 5 = cap
    generalize w'.heap.size = blk at HY hlt ⊢
    have hLn : (a0.data.toList.set k (UInt8.ofNat a2.toNat)).length = a0.size := by simp
    have hL8 : (⟨(a0.data.toList.set k (UInt8.ofNat a2.toNat)).toArray⟩ : ByteArray).size ≤ maxLen := by
      have : (⟨(a0.data.toList.set k (UInt8.ofNat a2.toNat)).toArray⟩ : ByteArray).size = a0.size := by show (List.toArray _).size = _; simp
      rw [this]; exact hs0
    have hsum := Adler.set_sum a0.data.toList k (by simpa using hk) (UInt8.ofNat a2.toNat)
    generalize a0.data.toList.set k (UInt8.ofNat a2.toNat) = L at HY hLn hL8 hsum
    have hconv : ∀ w2 : World, Bytes w2 blk L → (convert 32 9 (.slice (some ⟨blk, 0, none⟩) a0.size cap)).run Try.prog w2 = .ok (.string ⟨L.toArray⟩) w2 := fun w2 h => bytes_text h a0.size cap hLn.symm
    have HS := Lib.hid hsum
    clear hsum
    go_cut [45] (fun s45 wx => s45 = .bool false ∧ Below w.heap.size w wx)
    case first =>
      replace HY := bytes_drew HY
      replace HB1 := HB1.drew
      have hlt' : blk < w1.drew.heap.size := hlt
      go_region_with (first | (go_at_call 11; ((with_reducible refine (sum_any _ _ (by first | assumption | exact hs0)).mono ?_); rintro e w' ⟨rfl, hb⟩; have HY := bytes_below hb hlt' HY; have hlt' := Nat.lt_of_lt_of_le hlt' hb.size; replace HB1 := belowThen HB1 hb; clear hb)))
      all_goals (go_wp2_with fail; go_meet)
      all_goals exact ⟨by rw [ByteArray.toList_eq, HS.out]; simp, HB1⟩
    case rest =>
      obtain ⟨rfl, HB2⟩ := hcut
      clear HY HB1 hlt hconv
      by_cases hk1 : k + 1 < a0.size
      · have hk1' : (k : Int) + 1 < a0.size := by omega
        have h01 := row_cell a0 k hk
        have h11 := row_cell a0 (k + 1) hk1
        go_wp2_with fail
        obtain ⟨w2, hw2⟩ : ∃ w2 : World, w2 = (wc.alloc (Obj.cells (bytesRow a0 (grownCap wc a0.size 0 5)) 5 ((bytesRow a0 (grownCap wc a0.size 0 5)).size, (bytesRow a0 (grownCap wc a0.size 0 5)).size + 1))).drew := ⟨_, rfl⟩
        rw [← hw2]
        have HB3 : Below w.heap.size w w2 := by rw [hw2]; exact (HB2.alloc HB2.size _).drew
        have HY : Bytes w2 wc.heap.size a0.data.toList := by rw [hw2]; exact bytes_drew (bytes_made a0 wc _)
        have hlt : wc.heap.size < w2.heap.size := by rw [hw2]; show _ < (wc.heap.push _).size; simp
        have hge : w.heap.size ≤ wc.heap.size := HB2.size
        clear hw2 HB2 h01 h11 hcv
        generalize grownCap wc a0.size 0 5 = cap2
        generalize wc.heap.size = bl2 at HY hlt hge ⊢
        obtain ⟨c0, f0⟩ := HY k (by simpa using hk)
        obtain ⟨c1, f1⟩ := HY (k + 1) (by simpa using hk1)
        obtain ⟨v0, hv0⟩ : ∃ v : Int, v = ((a0.data.toList.getD k 0).toNat : Int) := ⟨_, rfl⟩
        obtain ⟨v1, hv1⟩ : ∃ v : Int, v = ((a0.data.toList.getD (k + 1) 0).toNat : Int) := ⟨_, rfl⟩
        rw [← hv0] at c0
        rw [← hv1] at c1
        have HV0 := Lib.hid hv0
        have HV1 := Lib.hid hv1
        clear hv0 hv1
        go_region
        go_wp2_with fail
        obtain ⟨w3, hw3⟩ : ∃ w3 : World, w3 = ((w2.setCell { block := bl2, off := k } (Value.int IntKind.u8 v1)).setCell { block := bl2, off := k + 1 } (Value.int IntKind.u8 v0)).drew := ⟨_, rfl⟩
        rw [← hw3]
        have b0 : v0.toNat < 256 ∧ 0 ≤ v0 := by rw [HV0.out]; have := (a0.data.toList.getD k 0).toNat_lt; omega
        have b1 : v1.toNat < 256 ∧ 0 ≤ v1 := by rw [HV1.out]; have := (a0.data.toList.getD (k + 1) 0).toNat_lt; omega
        have e0 : UInt8.ofNat v0.toNat = a0.data.toList.getD k 0 := by rw [HV0.out]; simp
        have e1 : UInt8.ofNat v1.toNat = a0.data.toList.getD (k + 1) 0 := by rw [HV1.out]; simp
        have HY3 : Bytes w3 bl2 ((a0.data.toList.set k (a0.data.toList.getD (k + 1) 0)).set (k + 1) (a0.data.toList.getD k 0)) := by
          rw [hw3, ← e0, ← e1]
          exact bytes_drew (bytes_set (bytes_set HY k (by simpa using hk) v1 b1.2 (by omega)) (k + 1) (by simpa using hk1) v0 b0.2 (by omega))
        have HB4 : Below w.heap.size w w3 := by rw [hw3]; exact ((HB3.setCell hge _).setCell hge _).drew
        have hlt3 : bl2 < w3.heap.size := by rw [hw3]; exact Nat.lt_of_lt_of_le hlt (((Below.refl 0 w2).setCell (Nat.zero_le _) _).setCell (Nat.zero_le _) _).drew.size
        have hsum := Adler.swap_sum a0.data.toList k (by simpa using hk1)
        have hLn3 : ((a0.data.toList.set k (a0.data.toList.getD (k + 1) 0)).set (k + 1) (a0.data.toList.getD k 0)).length = a0.size := by simp
        clear hw3 HY HB3 hlt c0 c1 f0 f1 HV0 HV1 b0 b1 e0 e1 HS hLn hL8
        generalize (a0.data.toList.set k (a0.data.toList.getD (k + 1) 0)).set (k + 1) (a0.data.toList.getD k 0) = M at HY3 hsum hLn3
        have hM8 : (⟨M.toArray⟩ : ByteArray).size ≤ maxLen := by
          have : (⟨M.toArray⟩ : ByteArray).size = a0.size := by show (List.toArray _).size = _; simpa using hLn3
          rw [this]; exact hs0
        have hconv : ∀ wx : World, Bytes wx bl2 M → (convert 32 9 (.slice (some ⟨bl2, 0, none⟩) a0.size cap2)).run Try.prog wx = .ok (.string ⟨M.toArray⟩) wx := fun wx h => bytes_text h a0.size cap2 hLn3.symm
        have HS := Lib.hid hsum
        clear hsum
        go_cut [6] (fun s6 wx => s6 = .bool true ∧ Below w.heap.size w wx)
        case first =>
          replace HY3 := bytes_drew HY3
          replace HB4 := HB4.drew
          have hlt' : bl2 < w3.drew.heap.size := hlt3
          go_region_with (first | (go_at_call 11; ((with_reducible refine (sum_any _ _ (by first | assumption | exact hs0)).mono ?_); rintro e w' ⟨rfl, hb⟩; have HY3 := bytes_below hb hlt' HY3; have hlt' := Nat.lt_of_lt_of_le hlt' hb.size; replace HB4 := belowThen HB4 hb; clear hb)))
          all_goals (go_wp2_with fail; go_meet)
          all_goals exact ⟨by rw [ByteArray.toList_eq, HS.out]; simp, HB4⟩
        case rest =>
          obtain ⟨rfl, HB5⟩ := hcut
          go_wp2_with fail
          go_ret
          exact ⟨rfl, HB5⟩
      · have hk1' : (a0.size : Int) ≤ (k : Int) + 1 := by omega
        go_wp2_with fail
        go_ret
        exact ⟨rfl, HB2⟩

set_option maxRecDepth 100000 in
theorem proved : Rows.SumByteSaid := by
  refine OpenClaim.holds_of_wide 6 Try.f6 rfl rfl rfl rfl rfl rfl rfl ⟨rfl, rfl, rfl, rfl, rfl⟩ rfl rfl rfl rfl rfl (by kernel_rfl) Try.func6 (by kernel_rfl)
    (of_decide_eq_true (by kernel_rfl)) (by unfold Func.isWrapper; first | (rw [if_pos (by decide +kernel)]; kernel_rfl) | (rw [if_neg (by decide +kernel)]; exact ⟨rfl, rfl⟩))
    (fun os started H enc _ => lawLifted (C := Try.checked) (F := Try.f6) (s := Rows.sumByteSpec) (conds := Rows.sumByteRow.domain) (by kernel_rfl) started (by kernel_rfl) Try.func6
      (ChangeSpec.witness6 (enc := enc) (C := Try.checked) false ⟨#[], #[.string ByteArray.empty, .int .i64 0, .int .u8 0], []⟩ 8 (by kernel_rfl) (by kernel_rfl) (by kernel_rfl) (by kernel_rfl))
      (by kernel_rfl) (by kernel_rfl) rfl Try.underlying4
      (fun ds hl => by match ds, hl with | [d0, d1, d2], _ => exact ⟨rfl, rfl, rfl⟩) rfl (fun W base args ds ps hval hA hcnd hsz => ?_))
  have hpar : Try.f6.params.toList = [9, 3, 5] := rfl
  rw [hpar] at hval hA hsz
  obtain ⟨v0, vs0, d0, ds0, p0, q0, hargs, rfl, rfl, h0, r0⟩ := trodAll_cons hA
  obtain ⟨v1, vs1, d1, ds1, p1, q1, rfl, rfl, rfl, h1, r1⟩ := trodAll_cons r0
  obtain ⟨v2, vs2, d2, ds2, p2, q2, rfl, rfl, rfl, h2, r2⟩ := trodAll_cons r1
  obtain ⟨rfl, rfl, rfl⟩ := trodAll_nil r2
  obtain rfl : args = #[v0, v1, v2] := by cases args; simp_all
  obtain ⟨a0, rfl, rfl, rfl, w0⟩ := open_string Try.underlying9 (hval 0 9 v0 rfl rfl) h0
  have s0 : a0.size ≤ 140737488351232 := by have := sized_string hsz (j := 0) rfl rfl; simpa [reachBytes] using this
  obtain ⟨a1, rfl, rfl, rfl, w1⟩ := open_int Try.underlying3 (hval 1 3 v1 rfl rfl) h1
  obtain ⟨a2, rfl, rfl, rfl, w2⟩ := open_int Try.underlying5 (hval 2 5 v2 rfl rfl) h2
  exact walk a0 s0 a1 w1 a2 w2 W
#print axioms proved
end Go.Proofs.Ytjffngcjdldkaaa.sumByte
