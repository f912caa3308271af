/-
  CONTRACTS of package sum and of the document's layer 1, over any world.
-/
import Derived.Test.YtjffngcjdldkaaaRows
import Derived.Test.YtjffngcjdldkaaaAdler
import Derived.WalkKit
import Derived.ProofKit
import Derived.WalkSpells
import Derived.WalkLawsBesides
import Derived.Deep.LoopGhost
import Derived.Outline
import Derived.Below
import Derived.IntWalk
import Derived.Lib.Hide
import Derived.Laws.BitsAllLaws
import Derived.Deep.Light
import Derived.Deep.RegionWith
import Derived.Deep.QuietTactic
import Derived.BigQuiet
namespace Go.Proofs.Ytjffngcjdldkaaa
open Go.RowKit
set_option linter.unusedVariables false
open Adler (add lo hi fold)


theorem and_ffff (x : Int) (h0 : 0 ≤ x) (h1 : x ≤ 4294967295) : bits .and .u32 x 65535 = x % 65536 := by
  have := u32_and x 65535 h0 (by omega) (by omega) (by omega)
  rw [this, show (65535 : Int).toNat = 2 ^ 16 - 1 from rfl, Nat.and_two_pow_sub_one_eq_mod]
  omega

theorem both_any (x : Int) (w : World) (h0 : 0 ≤ x) (h1 : x ≤ 4294967295) :
    Calls Try.prog 12 #[.int .u32 x] w fun e w' => e = .returned (.tuple #[.int .i64 (lo x), .int .i64 (hi x)]) ∧ w = w' := by
  have hb := and_ffff x h0 h1
  go_enter Try.func12, Try.ntmps12
  go_wp2
  go_ret2
  exact ⟨rfl, rfl⟩

theorem refBoth_any (x : Int) (w : World) (h0 : 0 ≤ x) (h1 : x ≤ 4294967295) :
    Calls Try.prog 13 #[.int .u32 x] w fun e w' => e = .returned (.tuple #[.int .i64 (lo x), .int .i64 (hi x)]) ∧ w = w' := by
  go_enter Try.func13, Try.ntmps13
  go_wp2
  go_ret2
  exact ⟨rfl, rfl⟩

theorem ret_int {k : IntKind} {a b : Int} (h : a = b) : Ending.returned (.int k a) = .returned (.int k b) := by rw [h]



theorem or_join (f g : Int) (f0 : 0 ≤ f) (f1 : f ≤ 65535) (g0 : 0 ≤ g) (g1 : g ≤ 65535) : bits .or .u32 (g * 65536) f = g * 65536 + f := by
  have := u32_or (g * 65536) f (by omega) (by omega) f0 (by omega)
  rw [this, nat_join 16 (g * 65536).toNat f.toNat (by omega) (by omega)]
  omega

/-- the words of the loops' relations -/
def outer (x : Int) (l : List UInt8) (f g i : Value) : Prop :=
  (f = .int .u32 (lo x) ∧ g = .int .u32 (hi x) ∧ i = .int .i64 0) ∨ (f = .int .u32 (fold l (lo x, hi x)).1 ∧ g = .int .u32 (fold l (lo x, hi x)).2 ∧ i = .int .i64 1)

theorem fold_lohi (x : Int) (l : List UInt8) (h0 : 0 ≤ x) (h1 : x ≤ 4294967295) : 
    0 ≤ (fold l (lo x, hi x)).1 ∧ (fold l (lo x, hi x)).1 ≤ 65535 ∧ 0 ≤ (fold l (lo x, hi x)).2 ∧ (fold l (lo x, hi x)).2 ≤ 65535 :=
  Adler.fold_bd l (lo x, hi x) (by simp only [lo]; omega) (by simp only [lo]; omega) (by simp only [hi]; omega) (by simp only [hi]; omega)

theorem over_any (x : Int) (s : ByteArray) (a : Addr) (w : World) (h0 : 0 ≤ x) (h1 : x ≤ 4294967295) (hs : s.size ≤ maxLen) (hc : w.cell? a = some (.string s)) :
    Calls Try.prog 16 #[.int .u32 x, .slice (some a) 1 1] w fun e w' => e = .returned (.int .u32 (add x s.data.toList)) ∧ w = w' := by
  unfold maxLen at hs
  have hb := and_ffff x h0 h1
  go_enter Try.func16, Try.ntmps16
  go_wp2
  go_loop [5, 6, 16] (fun f g i => outer x s.data.toList f g i) (fun _ _ i => 1 - (intOf i).toNat)
  case atStart => exact .inl ⟨rfl, rfl, rfl⟩
  case round =>
    rcases hrel with ⟨rfl, rfl, rfl⟩ | ⟨rfl, rfl, rfl⟩
    · go_wp2
      go_loop [5, 6, 22] (fun f g i => ∃ k : Nat, k ≤ s.size ∧ i = .int .i64 k ∧ f = .int .u32 (fold (s.data.toList.take k) (lo x, hi x)).1 ∧ g = .int .u32 (fold (s.data.toList.take k) (lo x, hi x)).2) (fun _ _ i => s.size - (intOf i).toNat)
      case atStart => exact ⟨0, Nat.zero_le _, rfl, rfl, rfl⟩
      case round =>
        obtain ⟨k, hk, rfl, rfl, rfl⟩ := hrel
        obtain ⟨b1, b2, b3, b4⟩ := fold_lohi x (s.data.toList.take k) h0 h1
        by_cases hlt : k < s.size
        · go_wp2
          go_round
          case rel =>
            go_light
            have ft := Adler.fold_take s k hlt (lo x, hi x)
            refine ⟨k + 1, hlt, by go_num, ?_, ?_⟩ <;> rw [ft]
            · have hc8 : s[k].toNat < 256 := s[k].toNat_lt
              have e : ((fold (List.take k s.data.toList) (lo x, hi x)).fst + (s[k].toNat : Int)) % 4294967296 = (fold (List.take k s.data.toList) (lo x, hi x)).fst + (s[k].toNat : Int) := by omega
              simp only [Adler.stepA, e]
            · have hc8 : s[k].toNat < 256 := s[k].toNat_lt
              have e : ((fold (List.take k s.data.toList) (lo x, hi x)).fst + (s[k].toNat : Int)) % 4294967296 = (fold (List.take k s.data.toList) (lo x, hi x)).fst + (s[k].toNat : Int) := by omega
              simp only [Adler.stepA, Adler.stepB, e]
          case measure => simp [intOf]; omega
        · go_wp2
          go_round
          case rel =>
            go_light
            have ek : s.data.toList.take k = s.data.toList := List.take_of_length_le (by simp; omega)
            exact .inr ⟨by rw [ek], by rw [ek], rfl⟩
          case measure => simp [intOf]
    · obtain ⟨b1, b2, b3, b4⟩ := fold_lohi x s.data.toList h0 h1
      have hj := or_join _ _ b1 b2 b3 b4
      go_wp2
      go_ret
      exact ⟨ret_int rfl, rfl⟩

theorem add_any (x : Int) (s : ByteArray) (w : World) (h0 : 0 ≤ x) (h1 : x ≤ 4294967295) (hs : s.size ≤ maxLen) :
    Calls Try.prog 10 #[.int .u32 x, .string s] w fun e w' => e = .returned (.int .u32 (add x s.data.toList)) ∧ Below w.heap.size w w' := by
  go_enter Try.func10, Try.ntmps10
  go_wp2_with (first | (go_at_call 16; refine (over_any x s _ _ h0 h1 hs (by go_simp)).mono ?_; rintro e w' ⟨rfl, rfl⟩))
  go_ret
  exact ⟨rfl, (Below.refl _ _).alloc (Nat.le_refl _) _⟩

theorem sum_any (s : ByteArray) (w : World) (hs : s.size ≤ maxLen) :
    Calls Try.prog 11 #[.string s] w fun e w' => e = .returned (.int .u32 (add 1 s.data.toList)) ∧ Below w.heap.size w w' := by
  go_enter Try.func11, Try.ntmps11
  go_wp2_with (first | (go_at_call 16; refine (over_any 1 s _ _ (by omega) (by omega) hs (by go_simp)).mono ?_; rintro e w' ⟨rfl, rfl⟩))
  go_ret
  exact ⟨rfl, (Below.refl _ _).alloc (Nat.le_refl _) _⟩

theorem refAdd_any (x : Int) (s : ByteArray) (w : World) (h0 : 0 ≤ x) (h1 : x ≤ 4294967295) (hs : s.size ≤ maxLen) :
    Calls Try.prog 15 #[.int .u32 x, .string s] w fun e w' => e = .returned (.int .u32 (add x s.data.toList)) ∧ w = w' := by
  unfold maxLen at hs
  go_enter Try.func15, Try.ntmps15
  go_wp2_with (first | (go_at_call 13; refine (refBoth_any x _ h0 h1).mono ?_; rintro e w' ⟨rfl, rfl⟩))
  go_loop [5, 6, 7] (fun f g i => ∃ k : Nat, k ≤ s.size ∧ i = .int .i64 k ∧ f = .int .i64 (fold (s.data.toList.take k) (lo x, hi x)).1 ∧ g = .int .i64 (fold (s.data.toList.take k) (lo x, hi x)).2) (fun _ _ i => s.size - (intOf i).toNat)
  case atStart => exact ⟨0, Nat.zero_le _, rfl, rfl, rfl⟩
  case round =>
    obtain ⟨k, hk, rfl, rfl, rfl⟩ := hrel
    obtain ⟨b1, b2, b3, b4⟩ := fold_lohi x (s.data.toList.take k) h0 h1
    by_cases hlt : k < s.size
    · have c1 : (0 : Int) ≤ (s[k].toNat : Int) := Int.natCast_nonneg _
      have c2 : (s[k].toNat : Int) ≤ 255 := by have := s[k].toNat_lt; omega
      go_wp2
      go_round
      case rel =>
        go_light
        have ft := Adler.fold_take s k hlt (lo x, hi x)
        refine ⟨k + 1, hlt, by go_num, ?_, ?_⟩ <;> rw [ft] <;> simp only [Adler.stepA, Adler.stepB]
      case measure => simp [intOf]; omega
    · have ek : s.data.toList.take k = s.data.toList := List.take_of_length_le (by simp; omega)
      rw [ek] at b1 b2 b3 b4
      have ab := Adler.add_bd x s.data.toList h0 h1
      simp only [ek]
      go_wp2
      go_ret
      exact ⟨ret_int (by unfold add; omega), rfl⟩

end Go.Proofs.Ytjffngcjdldkaaa
