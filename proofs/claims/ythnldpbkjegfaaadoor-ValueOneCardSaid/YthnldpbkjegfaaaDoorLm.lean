/-
  The law ValueMay of package value: of values that may be what an operator comes to may be.
-/
import Derived.Test.YthnldpbkjegfaaaDoorTb
import Derived.Test.YthnldpbkjegfaaaDoorVal
import Derived.Test.YthnldpbkjegfaaaDoorFi
import Derived.Test.YthnldpbkjegfaaaDoorSr
import Derived.Test.YthnldpbkjegfaaaDoorProg
import Derived.Test.YthnldpbkjegfaaaDoorSe
set_option linter.unusedVariables false
set_option linter.unusedSimpArgs false
noncomputable section
namespace Go.Proofs.YthnldpbkjegfaaaDoor
open Go Go.RowKit Go.Proofs Go.Proofs.YthnldpbkjegfaaaDoor.Sv
instance (n : Int) : Decidable (I64 n) := inferInstanceAs (Decidable (_ ∧ _))
instance (n : Int) : Decidable (U8 n) := inferInstanceAs (Decidable (_ ∧ _))
instance (x : Vl) : Decidable (VlOk x) := decidable_of_iff (U8 x.k ∧ I64 x.n ∧ x.t.length ≤ 140737488351232) ⟨fun h => ⟨h.1, h.2.1, h.2.2⟩, fun h => ⟨h.k, h.n, h.t⟩⟩
noncomputable def es_works : List Ent := [e_two]
theorem es_works_ok : EntsOk Tryd.prog tabS es_works := ⟨two_ok, trivial⟩
set_option maxRecDepth 100000 in
theorem works_vc  :
    ((U8 (8 : Int) ∧ VlOk { k := (1 : Int), n := (9223372036854775807 : Int), t := List.map UInt8.ofNat (bs { data := #[] }) } ∧ VlOk { k := (1 : Int), n := (1 : Int), t := List.map UInt8.ofNat (bs { data := #[] }) }) ∧ (decide ((vTwo (8 : Int) { k := (1 : Int), n := (9223372036854775807 : Int), t := List.map UInt8.ofNat (bs { data := #[] }) } { k := (1 : Int), n := (1 : Int), t := List.map UInt8.ofNat (bs { data := #[] }) }).snd = (20 : Int)) = true → ((decide ((vTwo (8 : Int) { k := (1 : Int), n := (9223372036854775807 : Int), t := List.map UInt8.ofNat (bs { data := #[] }) } { k := (1 : Int), n := (1 : Int), t := List.map UInt8.ofNat (bs { data := #[] }) }).fst.k = (0 : Int)) && (decide ((vTwo (8 : Int) { k := (1 : Int), n := (9223372036854775807 : Int), t := List.map UInt8.ofNat (bs { data := #[] }) } { k := (1 : Int), n := (1 : Int), t := List.map UInt8.ofNat (bs { data := #[] }) }).fst.n = (0 : Int)) && (decide ((vTwo (8 : Int) { k := (1 : Int), n := (9223372036854775807 : Int), t := List.map UInt8.ofNat (bs { data := #[] }) } { k := (1 : Int), n := (1 : Int), t := List.map UInt8.ofNat (bs { data := #[] }) }).fst.t = List.map UInt8.ofNat (bs { data := #[] })) && true))) = true → (U8 (6 : Int) ∧ VlOk { k := (1 : Int), n := (-7 : Int), t := List.map UInt8.ofNat (bs { data := #[] }) } ∧ VlOk { k := (1 : Int), n := (2 : Int), t := List.map UInt8.ofNat (bs { data := #[] }) }) ∧
      (decide ((vTwo (6 : Int) { k := (1 : Int), n := (-7 : Int), t := List.map UInt8.ofNat (bs { data := #[] }) } { k := (1 : Int), n := (2 : Int), t := List.map UInt8.ofNat (bs { data := #[] }) }).snd = (0 : Int)) = true → ((decide ((vTwo (6 : Int) { k := (1 : Int), n := (-7 : Int), t := List.map UInt8.ofNat (bs { data := #[] }) } { k := (1 : Int), n := (2 : Int), t := List.map UInt8.ofNat (bs { data := #[] }) }).fst.k = (1 : Int)) && (decide ((vTwo (6 : Int) { k := (1 : Int), n := (-7 : Int), t := List.map UInt8.ofNat (bs { data := #[] }) } { k := (1 : Int), n := (2 : Int), t := List.map UInt8.ofNat (bs { data := #[] }) }).fst.n = (-3 : Int)) && (decide ((vTwo (6 : Int) { k := (1 : Int), n := (-7 : Int), t := List.map UInt8.ofNat (bs { data := #[] }) } { k := (1 : Int), n := (2 : Int), t := List.map UInt8.ofNat (bs { data := #[] }) }).fst.t = List.map UInt8.ofNat (bs { data := #[] })) && true))) = true → (U8 (7 : Int) ∧ VlOk { k := (1 : Int), n := (-7 : Int), t := List.map UInt8.ofNat (bs { data := #[] }) } ∧ VlOk { k := (1 : Int), n := (2 : Int), t := List.map UInt8.ofNat (bs { data := #[] }) }) ∧ (decide ((vTwo (7 : Int) { k := (1 : Int), n := (-7 : Int), t := List.map UInt8.ofNat (bs { data := #[] }) } { k := (1 : Int), n := (2 : Int), t := List.map UInt8.ofNat (bs { data := #[] }) }).snd = (0 : Int)) = true →
      ((decide ((vTwo (7 : Int) { k := (1 : Int), n := (-7 : Int), t := List.map UInt8.ofNat (bs { data := #[] }) } { k := (1 : Int), n := (2 : Int), t := List.map UInt8.ofNat (bs { data := #[] }) }).fst.k = (1 : Int)) && (decide ((vTwo (7 : Int) { k := (1 : Int), n := (-7 : Int), t := List.map UInt8.ofNat (bs { data := #[] }) } { k := (1 : Int), n := (2 : Int), t := List.map UInt8.ofNat (bs { data := #[] }) }).fst.n = (-1 : Int)) && (decide ((vTwo (7 : Int) { k := (1 : Int), n := (-7 : Int), t := List.map UInt8.ofNat (bs { data := #[] }) } { k := (1 : Int), n := (2 : Int), t := List.map UInt8.ofNat (bs { data := #[] }) }).fst.t = List.map UInt8.ofNat (bs { data := #[] })) && true))) = true → (U8 (6 : Int) ∧ VlOk { k := (1 : Int), n := (-9223372036854775808 : Int), t := List.map UInt8.ofNat (bs { data := #[] }) } ∧ VlOk { k := (1 : Int), n := (-1 : Int), t := List.map UInt8.ofNat (bs { data := #[] }) }) ∧ (decide ((vTwo (6 : Int) { k := (1 : Int), n := (-9223372036854775808 : Int), t := List.map UInt8.ofNat (bs { data := #[] }) } { k := (1 : Int), n := (-1 : Int), t := List.map UInt8.ofNat (bs { data := #[] }) }).snd = (20 : Int)) = true →
      ((decide ((vTwo (6 : Int) { k := (1 : Int), n := (-9223372036854775808 : Int), t := List.map UInt8.ofNat (bs { data := #[] }) } { k := (1 : Int), n := (-1 : Int), t := List.map UInt8.ofNat (bs { data := #[] }) }).fst.k = (0 : Int)) && (decide ((vTwo (6 : Int) { k := (1 : Int), n := (-9223372036854775808 : Int), t := List.map UInt8.ofNat (bs { data := #[] }) } { k := (1 : Int), n := (-1 : Int), t := List.map UInt8.ofNat (bs { data := #[] }) }).fst.n = (0 : Int)) && (decide ((vTwo (6 : Int) { k := (1 : Int), n := (-9223372036854775808 : Int), t := List.map UInt8.ofNat (bs { data := #[] }) } { k := (1 : Int), n := (-1 : Int), t := List.map UInt8.ofNat (bs { data := #[] }) }).fst.t = List.map UInt8.ofNat (bs { data := #[] })) && true))) = true → (U8 (6 : Int) ∧ VlOk { k := (1 : Int), n := (1 : Int), t := List.map UInt8.ofNat (bs { data := #[] }) } ∧ VlOk { k := (1 : Int), n := (0 : Int), t := List.map UInt8.ofNat (bs { data := #[] }) }) ∧ (decide ((vTwo (6 : Int) { k := (1 : Int), n := (1 : Int), t := List.map UInt8.ofNat (bs { data := #[] }) } { k := (1 : Int), n := (0 : Int), t := List.map UInt8.ofNat (bs { data := #[] }) }).snd = (21 : Int)) = true →
      ((decide ((vTwo (6 : Int) { k := (1 : Int), n := (1 : Int), t := List.map UInt8.ofNat (bs { data := #[] }) } { k := (1 : Int), n := (0 : Int), t := List.map UInt8.ofNat (bs { data := #[] }) }).fst.k = (0 : Int)) && (decide ((vTwo (6 : Int) { k := (1 : Int), n := (1 : Int), t := List.map UInt8.ofNat (bs { data := #[] }) } { k := (1 : Int), n := (0 : Int), t := List.map UInt8.ofNat (bs { data := #[] }) }).fst.n = (0 : Int)) && (decide ((vTwo (6 : Int) { k := (1 : Int), n := (1 : Int), t := List.map UInt8.ofNat (bs { data := #[] }) } { k := (1 : Int), n := (0 : Int), t := List.map UInt8.ofNat (bs { data := #[] }) }).fst.t = List.map UInt8.ofNat (bs { data := #[] })) && true))) = true → (U8 (8 : Int) ∧ VlOk { k := (3 : Int), n := (0 : Int), t := List.map UInt8.ofNat (bs { data := #[(97 : UInt8)] }) } ∧ VlOk { k := (3 : Int), n := (0 : Int), t := List.map UInt8.ofNat (bs { data := #[(98 : UInt8)] }) }) ∧ (decide ((vTwo (8 : Int) { k := (3 : Int), n := (0 : Int), t := List.map UInt8.ofNat (bs { data := #[(97 : UInt8)] }) } { k := (3 : Int), n := (0 : Int), t := List.map UInt8.ofNat (bs { data := #[(98 : UInt8)] }) }).snd = (0 : Int)) = true →
      ((decide ((vTwo (8 : Int) { k := (3 : Int), n := (0 : Int), t := List.map UInt8.ofNat (bs { data := #[(97 : UInt8)] }) } { k := (3 : Int), n := (0 : Int), t := List.map UInt8.ofNat (bs { data := #[(98 : UInt8)] }) }).fst.k = (3 : Int)) && (decide ((vTwo (8 : Int) { k := (3 : Int), n := (0 : Int), t := List.map UInt8.ofNat (bs { data := #[(97 : UInt8)] }) } { k := (3 : Int), n := (0 : Int), t := List.map UInt8.ofNat (bs { data := #[(98 : UInt8)] }) }).fst.n = (0 : Int)) && (decide ((vTwo (8 : Int) { k := (3 : Int), n := (0 : Int), t := List.map UInt8.ofNat (bs { data := #[(97 : UInt8)] }) } { k := (3 : Int), n := (0 : Int), t := List.map UInt8.ofNat (bs { data := #[(98 : UInt8)] }) }).fst.t = List.map UInt8.ofNat (bs { data := #[(97 : UInt8), (98 : UInt8)] })) && true))) = true → (U8 (9 : Int) ∧ VlOk { k := (1 : Int), n := (1 : Int), t := List.map UInt8.ofNat (bs { data := #[] }) } ∧ VlOk { k := (3 : Int), n := (0 : Int), t := List.map UInt8.ofNat (bs { data := #[(97 : UInt8)] }) }) ∧ (decide ((vTwo (9 : Int) { k := (1 : Int), n := (1 : Int), t := List.map UInt8.ofNat (bs { data := #[] }) } { k := (3 : Int), n := (0 : Int), t := List.map UInt8.ofNat (bs { data := #[(97 : UInt8)] }) }).snd = (23 : Int)) = true →
      (decide ((vTwo (9 : Int) { k := (1 : Int), n := (1 : Int), t := List.map UInt8.ofNat (bs { data := #[] }) } { k := (3 : Int), n := (0 : Int), t := List.map UInt8.ofNat (bs { data := #[(97 : UInt8)] }) }).fst.k = (0 : Int)) && (decide ((vTwo (9 : Int) { k := (1 : Int), n := (1 : Int), t := List.map UInt8.ofNat (bs { data := #[] }) } { k := (3 : Int), n := (0 : Int), t := List.map UInt8.ofNat (bs { data := #[(97 : UInt8)] }) }).fst.n = (0 : Int)) && (decide ((vTwo (9 : Int) { k := (1 : Int), n := (1 : Int), t := List.map UInt8.ofNat (bs { data := #[] }) } { k := (3 : Int), n := (0 : Int), t := List.map UInt8.ofNat (bs { data := #[(97 : UInt8)] }) }).fst.t = List.map UInt8.ofNat (bs { data := #[] })) && true))) = true) ∧ (decide ((vTwo (9 : Int) { k := (1 : Int), n := (1 : Int), t := List.map UInt8.ofNat (bs { data := #[] }) } { k := (3 : Int), n := (0 : Int), t := List.map UInt8.ofNat (bs { data := #[(97 : UInt8)] }) }).snd = (23 : Int)) = false → false = true)) ∧
      ((decide ((vTwo (8 : Int) { k := (3 : Int), n := (0 : Int), t := List.map UInt8.ofNat (bs { data := #[(97 : UInt8)] }) } { k := (3 : Int), n := (0 : Int), t := List.map UInt8.ofNat (bs { data := #[(98 : UInt8)] }) }).fst.k = (3 : Int)) && (decide ((vTwo (8 : Int) { k := (3 : Int), n := (0 : Int), t := List.map UInt8.ofNat (bs { data := #[(97 : UInt8)] }) } { k := (3 : Int), n := (0 : Int), t := List.map UInt8.ofNat (bs { data := #[(98 : UInt8)] }) }).fst.n = (0 : Int)) && (decide ((vTwo (8 : Int) { k := (3 : Int), n := (0 : Int), t := List.map UInt8.ofNat (bs { data := #[(97 : UInt8)] }) } { k := (3 : Int), n := (0 : Int), t := List.map UInt8.ofNat (bs { data := #[(98 : UInt8)] }) }).fst.t = List.map UInt8.ofNat (bs { data := #[(97 : UInt8), (98 : UInt8)] })) && true))) = false → false = true)) ∧ (decide ((vTwo (8 : Int) { k := (3 : Int), n := (0 : Int), t := List.map UInt8.ofNat (bs { data := #[(97 : UInt8)] }) } { k := (3 : Int), n := (0 : Int), t := List.map UInt8.ofNat (bs { data := #[(98 : UInt8)] }) }).snd = (0 : Int)) = false → false = true)) ∧
      ((decide ((vTwo (6 : Int) { k := (1 : Int), n := (1 : Int), t := List.map UInt8.ofNat (bs { data := #[] }) } { k := (1 : Int), n := (0 : Int), t := List.map UInt8.ofNat (bs { data := #[] }) }).fst.k = (0 : Int)) && (decide ((vTwo (6 : Int) { k := (1 : Int), n := (1 : Int), t := List.map UInt8.ofNat (bs { data := #[] }) } { k := (1 : Int), n := (0 : Int), t := List.map UInt8.ofNat (bs { data := #[] }) }).fst.n = (0 : Int)) && (decide ((vTwo (6 : Int) { k := (1 : Int), n := (1 : Int), t := List.map UInt8.ofNat (bs { data := #[] }) } { k := (1 : Int), n := (0 : Int), t := List.map UInt8.ofNat (bs { data := #[] }) }).fst.t = List.map UInt8.ofNat (bs { data := #[] })) && true))) = false → false = true)) ∧ (decide ((vTwo (6 : Int) { k := (1 : Int), n := (1 : Int), t := List.map UInt8.ofNat (bs { data := #[] }) } { k := (1 : Int), n := (0 : Int), t := List.map UInt8.ofNat (bs { data := #[] }) }).snd = (21 : Int)) = false → false = true)) ∧
      ((decide ((vTwo (6 : Int) { k := (1 : Int), n := (-9223372036854775808 : Int), t := List.map UInt8.ofNat (bs { data := #[] }) } { k := (1 : Int), n := (-1 : Int), t := List.map UInt8.ofNat (bs { data := #[] }) }).fst.k = (0 : Int)) && (decide ((vTwo (6 : Int) { k := (1 : Int), n := (-9223372036854775808 : Int), t := List.map UInt8.ofNat (bs { data := #[] }) } { k := (1 : Int), n := (-1 : Int), t := List.map UInt8.ofNat (bs { data := #[] }) }).fst.n = (0 : Int)) && (decide ((vTwo (6 : Int) { k := (1 : Int), n := (-9223372036854775808 : Int), t := List.map UInt8.ofNat (bs { data := #[] }) } { k := (1 : Int), n := (-1 : Int), t := List.map UInt8.ofNat (bs { data := #[] }) }).fst.t = List.map UInt8.ofNat (bs { data := #[] })) && true))) = false → false = true)) ∧ (decide ((vTwo (6 : Int) { k := (1 : Int), n := (-9223372036854775808 : Int), t := List.map UInt8.ofNat (bs { data := #[] }) } { k := (1 : Int), n := (-1 : Int), t := List.map UInt8.ofNat (bs { data := #[] }) }).snd = (20 : Int)) = false → false = true)) ∧
      ((decide ((vTwo (7 : Int) { k := (1 : Int), n := (-7 : Int), t := List.map UInt8.ofNat (bs { data := #[] }) } { k := (1 : Int), n := (2 : Int), t := List.map UInt8.ofNat (bs { data := #[] }) }).fst.k = (1 : Int)) && (decide ((vTwo (7 : Int) { k := (1 : Int), n := (-7 : Int), t := List.map UInt8.ofNat (bs { data := #[] }) } { k := (1 : Int), n := (2 : Int), t := List.map UInt8.ofNat (bs { data := #[] }) }).fst.n = (-1 : Int)) && (decide ((vTwo (7 : Int) { k := (1 : Int), n := (-7 : Int), t := List.map UInt8.ofNat (bs { data := #[] }) } { k := (1 : Int), n := (2 : Int), t := List.map UInt8.ofNat (bs { data := #[] }) }).fst.t = List.map UInt8.ofNat (bs { data := #[] })) && true))) = false → false = true)) ∧ (decide ((vTwo (7 : Int) { k := (1 : Int), n := (-7 : Int), t := List.map UInt8.ofNat (bs { data := #[] }) } { k := (1 : Int), n := (2 : Int), t := List.map UInt8.ofNat (bs { data := #[] }) }).snd = (0 : Int)) = false → false = true)) ∧
      ((decide ((vTwo (6 : Int) { k := (1 : Int), n := (-7 : Int), t := List.map UInt8.ofNat (bs { data := #[] }) } { k := (1 : Int), n := (2 : Int), t := List.map UInt8.ofNat (bs { data := #[] }) }).fst.k = (1 : Int)) && (decide ((vTwo (6 : Int) { k := (1 : Int), n := (-7 : Int), t := List.map UInt8.ofNat (bs { data := #[] }) } { k := (1 : Int), n := (2 : Int), t := List.map UInt8.ofNat (bs { data := #[] }) }).fst.n = (-3 : Int)) && (decide ((vTwo (6 : Int) { k := (1 : Int), n := (-7 : Int), t := List.map UInt8.ofNat (bs { data := #[] }) } { k := (1 : Int), n := (2 : Int), t := List.map UInt8.ofNat (bs { data := #[] }) }).fst.t = List.map UInt8.ofNat (bs { data := #[] })) && true))) = false → false = true)) ∧ (decide ((vTwo (6 : Int) { k := (1 : Int), n := (-7 : Int), t := List.map UInt8.ofNat (bs { data := #[] }) } { k := (1 : Int), n := (2 : Int), t := List.map UInt8.ofNat (bs { data := #[] }) }).snd = (0 : Int)) = false → false = true)) ∧
      ((decide ((vTwo (8 : Int) { k := (1 : Int), n := (9223372036854775807 : Int), t := List.map UInt8.ofNat (bs { data := #[] }) } { k := (1 : Int), n := (1 : Int), t := List.map UInt8.ofNat (bs { data := #[] }) }).fst.k = (0 : Int)) && (decide ((vTwo (8 : Int) { k := (1 : Int), n := (9223372036854775807 : Int), t := List.map UInt8.ofNat (bs { data := #[] }) } { k := (1 : Int), n := (1 : Int), t := List.map UInt8.ofNat (bs { data := #[] }) }).fst.n = (0 : Int)) && (decide ((vTwo (8 : Int) { k := (1 : Int), n := (9223372036854775807 : Int), t := List.map UInt8.ofNat (bs { data := #[] }) } { k := (1 : Int), n := (1 : Int), t := List.map UInt8.ofNat (bs { data := #[] }) }).fst.t = List.map UInt8.ofNat (bs { data := #[] })) && true))) = false → false = true)) ∧ (decide ((vTwo (8 : Int) { k := (1 : Int), n := (9223372036854775807 : Int), t := List.map UInt8.ofNat (bs { data := #[] }) } { k := (1 : Int), n := (1 : Int), t := List.map UInt8.ofNat (bs { data := #[] }) }).snd = (20 : Int)) = false → false = true)) →
    vcF Tryd.prog tabS (specs es_works) [29, 31, 30, 28] (noAnn) Tryd.f19 [] (.sb true) := fun h => Eq.mpr (by kernel_rfl) h
set_option maxRecDepth 100000 in
theorem works_ct   : Ct Tryd.prog tabS 19 [] (.sb true) := Ct.of_vcF (specs_ok es_works_ok) Tryd.func19 (by kernel_rfl) (works_vc  (by
  repeat' (first | exact trivial | apply And.intro | (intro h; first | (exact absurd h (by decide +kernel)) | skip) | decide +kernel)))
noncomputable def e_works : Ent := ent0 19 (.sb true)
theorem works_ok : e_works.ok Tryd.prog tabS := ent0_ok works_ct
def okC (b : UInt8) : Bool := decide (32 ≤ (b.toNat : Int)) && decide ((b.toNat : Int) ≤ 126) && !decide ((b.toNat : Int) = 39)
def plainS (s : List UInt8) : Bool := (List.range s.length).all fun i => okC (s.getD i 0)
theorem all_succ (f : Nat → Bool) (a : Nat) : (List.range (a + 1)).all f = ((List.range a).all f && f a) := by
  rw [List.range_succ, List.all_append]; simp
theorem all_false {f : Nat → Bool} {a n : Nat} (h : a < n) (hf : f a = false) : (List.range n).all f = false := by
  rw [Bool.eq_false_iff]; intro h2
  have := List.all_eq_true.1 h2 a (List.mem_range.2 h)
  rw [hf] at this; cases this
noncomputable def es_plain : List Ent := []
theorem es_plain_ok : EntsOk Tryd.prog tabS es_plain := trivial
set_option maxRecDepth 100000 in
theorem plain_vc (s : List UInt8) :
    ((∃ (a : Nat), (a ≤ s.length ∧ ((List.range a).all fun (i : Nat) => okC (s.getD i (0 : UInt8))) = true) ∧ tabG = tabG ∧ (s = s ∧ (↑s.length : Int) = (↑s.length : Int) ∧ (0 : Int) = (↑a : Int)) ∧ True) ∧ ∀ (a : Nat), a ≤ s.length ∧ ((List.range a).all fun (i : Nat) => okC (s.getD i (0 : UInt8))) = true → (decide ((↑a : Int) < (↑s.length : Int)) = true → ((0 : Int) ≤ (↑a : Int) ∧ (↑a : Int) < (↑s.length : Int)) ∧ (decide ((↑(s.getD (↑a : Int).toNat (0 : UInt8)).toNat : Int) < (32 : Int)) = true → false = plainS s) ∧ (decide ((↑(s.getD (↑a : Int).toNat (0 : UInt8)).toNat : Int) < (32 : Int)) = false → ((0 : Int) ≤ (↑a : Int) ∧ (↑a : Int) < (↑s.length : Int)) ∧ (decide ((126 : Int) < (↑(s.getD (↑a : Int).toNat (0 : UInt8)).toNat : Int)) = true → false = plainS s) ∧ (decide ((126 : Int) < (↑(s.getD (↑a : Int).toNat (0 : UInt8)).toNat : Int)) = false → ((0 : Int) ≤ (↑a : Int) ∧ (↑a : Int) < (↑s.length : Int)) ∧ (decide ((↑(s.getD (↑a : Int).toNat (0 : UInt8)).toNat : Int) = (39 : Int)) = true → false = plainS s) ∧ (decide ((↑(s.getD (↑a : Int).toNat (0 : UInt8)).toNat : Int) = (39 : Int)) = false → ∃ (a' : Nat), (a' ≤ s.length ∧ ((List.range a').all fun (i : Nat) => okC (s.getD i (0 : UInt8))) = true) ∧ s.length - a' < s.length - a ∧ tabG = tabG ∧ (s = s ∧ (↑s.length : Int) = (↑s.length : Int) ∧ IntKind.i64.wrap ((↑a : Int) + (1 : Int)) = (↑a' : Int)) ∧ True)))) ∧ (decide ((↑a : Int) < (↑s.length : Int)) = false → true = plainS s)) →
    vcF Tryd.prog tabS (specs es_plain) [] (({ loops := loopsAt [(2, { α := Nat, inv := fun i fm st => ({ fm with tm := fm.tm.set 6 (some (.si .i64 (i : Int))) }, st), pre := fun i => i ≤ s.length ∧ (List.range i).all (fun i => okC (s.getD i 0)) = true, mu := fun i => s.length - i })] } : Ann)) Tryd.f25 [.ss s] (.sb (plainS s)) := fun h => Eq.mpr (by kernel_rfl) h
set_option maxRecDepth 100000 in
theorem plain_ct (s : List UInt8) (h : s.length ≤ 140737488351232) : Ct Tryd.prog tabS 25 [.ss s] (.sb (plainS s)) := Ct.of_vcF (specs_ok es_plain_ok) Tryd.func25 (by kernel_rfl) (plain_vc s (by
  simp only [true_and, and_true, eq_self, implies_true, and_self, Int.toNat_natCast]
  refine ⟨⟨0, ⟨Nat.zero_le _, rfl⟩, rfl⟩, fun a ha => ⟨fun c => ?_, fun c => ?_⟩⟩
  · obtain ⟨h1, h2⟩ := ha
    have hlt : a < s.length := by have := of_decide_eq_true c; omega
    have no : okC (s.getD a 0) = false → false = plainS s := fun e => (all_false (f := fun i => okC (s.getD i 0)) hlt e).symm
    refine ⟨⟨by omega, by omega⟩, fun d => no ?_, fun d1 => ⟨⟨by omega, by omega⟩, fun d => no ?_, fun d2 => ⟨⟨by omega, by omega⟩, fun d => no ?_, fun d3 => ⟨a + 1, ⟨hlt, ?_⟩, by omega, ?_⟩⟩⟩⟩
    · have := of_decide_eq_true d
      have e : decide (32 ≤ ((s.getD a 0).toNat : Int)) = false := decide_eq_false (by omega)
      simp only [okC, e, Bool.false_and]
    · have := of_decide_eq_true d
      have e : decide (((s.getD a 0).toNat : Int) ≤ 126) = false := decide_eq_false (by omega)
      simp only [okC, e, Bool.and_false, Bool.false_and]
    · simp only [okC, d, Bool.not_true, Bool.and_false]
    · rw [all_succ, h2]
      have := of_decide_eq_false d1
      have := of_decide_eq_false d2
      have e1 : decide (32 ≤ ((s.getD a 0).toNat : Int)) = true := decide_eq_true (by omega)
      have e2 : decide (((s.getD a 0).toNat : Int) ≤ 126) = true := decide_eq_true (by omega)
      simp only [okC, e1, e2, d3, Bool.not_false, Bool.and_true]
    · rw [wrap_i64 (by unfold I64; omega)]; omega
  · obtain ⟨h1, h2⟩ := ha
    have : a = s.length := by have := of_decide_eq_false c; omega
    subst this
    exact h2.symm))
noncomputable def e_plain : Ent := ent1 25 tS (fun s => s.length ≤ 140737488351232) (fun s => .sb (plainS s))
theorem plain_ok : e_plain.ok Tryd.prog tabS := ent1_ok fun s h => plain_ct s h
def vMay (x : Vl) : Bool :=
  if x.k = 0 then decide (x = zv) else if x.k = 1 then decide (x = vNum x.n) else if x.k = 2 then decide (x = vTruth true) || decide (x = vTruth false)
  else if x.k = 3 then decide (x = vText x.t) && (decide ((x.t.length : Int) ≤ 40) && plainS x.t) else false
noncomputable def es_may : List Ent := [e_num, e_truth, e_text, e_plain]
theorem es_may_ok : EntsOk Tryd.prog tabS es_may := ⟨num_ok, truth_ok, text_ok, plain_ok, trivial⟩
set_option maxRecDepth 100000 in
theorem may_vc (x : Vl) :
    ((decide (x.k = (0 : Int)) = true → (decide (x.k = (0 : Int)) && (decide (x.n = (0 : Int)) && (decide (x.t = List.map UInt8.ofNat (bs { data := #[] })) && true))) = vMay x) ∧ (decide (x.k = (0 : Int)) = false → (decide (x.k = (1 : Int)) = true → True ∧ (decide (x.k = (vNum x.n).k) && (decide (x.n = (vNum x.n).n) && (decide (x.t = (vNum x.n).t) && true))) = vMay x) ∧ (decide (x.k = (1 : Int)) = false → (decide (x.k = (2 : Int)) = true → True ∧ ((decide (x.k = (vTruth true).k) && (decide (x.n = (vTruth true).n) && (decide (x.t = (vTruth true).t) && true))) = true → true = vMay x) ∧ ((decide (x.k = (vTruth true).k) && (decide (x.n = (vTruth true).n) && (decide (x.t = (vTruth true).t) && true))) = false → True ∧ (decide (x.k = (vTruth false).k) && (decide (x.n = (vTruth false).n) && (decide (x.t = (vTruth false).t) && true))) = vMay x)) ∧ (decide (x.k = (2 : Int)) = false → (decide (x.k = (3 : Int)) = true → True ∧ ((decide (x.k = (vText x.t).k) && (decide (x.n = (vText x.t).n) && (decide (x.t = (vText x.t).t) && true))) = true → (decide ((↑x.t.length : Int) ≤ (40 : Int)) = true → x.t.length ≤ (140737488351232 : Nat) ∧ plainS x.t = vMay x) ∧ (decide ((↑x.t.length : Int) ≤ (40 : Int)) = false → false = vMay x)) ∧ ((decide (x.k = (vText x.t).k) && (decide (x.n = (vText x.t).n) && (decide (x.t = (vText x.t).t) && true))) = false → false = vMay x)) ∧ (decide (x.k = (3 : Int)) = false → false = vMay x))))) →
    vcF Tryd.prog tabS (specs es_may) [] (noAnn) Tryd.f7 [x.v] (.sb (vMay x)) := fun h => Eq.mpr (by kernel_rfl) h
set_option maxRecDepth 100000 in
theorem may_ct (x : Vl) (h : x.t.length ≤ 140737488351232) : Ct Tryd.prog tabS 7 [x.v] (.sb (vMay x)) := Ct.of_vcF (specs_ok es_may_ok) Tryd.func7 (by kernel_rfl) (may_vc x (by
  have e0 : List.map UInt8.ofNat (bs { data := #[] }) = [] := rfl
  simp only [e0, eqVl, true_and, and_true]
  unfold vMay
  refine ⟨fun c => ?_, fun c0 => ⟨fun c => ?_, fun c1 => ⟨fun c => ⟨fun d => ?_, fun d => ?_⟩, fun c2 => ⟨fun c => ⟨fun d => ⟨fun e => ⟨h, ?_⟩, fun e => ?_⟩, fun d => ?_⟩, fun c3 => ?_⟩⟩⟩⟩ <;> (try simp_all [zv, vNum, vTruth, vText]) <;> (try (cases x; simp_all)) <;> (try omega)))
noncomputable def e_may : Ent := ent1 7 tVl (fun x => x.t.length ≤ 140737488351232) (fun x => .sb (vMay x))
theorem may_ok : e_may.ok Tryd.prog tabS := ent1_ok fun x h => may_ct x h
noncomputable def es_is : List Ent := [e_may]
theorem es_is_ok : EntsOk Tryd.prog tabS es_is := ⟨may_ok, trivial⟩
set_option maxRecDepth 100000 in
theorem is_vc (x : Vl) (k : Int) :
    (x.t.length ≤ (140737488351232 : Nat) ∧ (vMay x = true → decide (x.k = k) = (vMay x && decide (x.k = k))) ∧ (vMay x = false → false = (vMay x && decide (x.k = k)))) →
    vcF Tryd.prog tabS (specs es_is) [] (noAnn) Tryd.f9 [x.v, .si .u8 k] (.sb (vMay x && decide (x.k = k))) := fun h => Eq.mpr (by kernel_rfl) h
set_option maxRecDepth 100000 in
theorem is_ct (x : Vl) (k : Int) (h : x.t.length ≤ 140737488351232) : Ct Tryd.prog tabS 9 [x.v, .si .u8 k] (.sb (vMay x && decide (x.k = k))) := Ct.of_vcF (specs_ok es_is_ok) Tryd.func9 (by kernel_rfl) (is_vc x k (by
  refine ⟨h, fun c => ?_, fun c => ?_⟩ <;> simp [c]))
noncomputable def e_is : Ent := ent2 9 tVl (tI .u8) (fun x _ => x.t.length ≤ 140737488351232) (fun x k => .sb (vMay x && decide (x.k = k)))
theorem is_ok : e_is.ok Tryd.prog tabS := ent2_ok fun x k h => is_ct x k h
theorem fmt_ct (n : Int) (h : I64 n) : Ct Tryd.prog tabS 26 [.si .i64 n, .si .i64 10] (.ss (Lib.itoa n)) := by
  refine Ct.of_calls Tryd.func26 (by kernel_rfl) fun w xs fz hT hfz ha => ?_
  have hx : xs = #[.int .i64 n, .int .i64 10] := by
    simp only [RVs, RV] at ha
    obtain ⟨a, r, e1, rfl, b, r2, rfl, rfl, rfl⟩ := ha
    exact Array.toList_inj.1 e1
  subst hx
  have htab : Lib.TabIs Tryd.prog w "internal/strconv.uint64pow10" .u64 Lib.pow10Tab := hT.ok w (Below.refl _ _)
  refine (Any.strconv_FormatInt_10 Tryd.lays173 n h.1 h.2 w htab).mono ?_
  rintro e w' ⟨rfl, k, os, rfl⟩
  refine ⟨_, rfl, by simp only [RV], ⟨rfl, rfl, rfl, ?_, fun j hj => ?_⟩⟩
  · simp [Sort.grow, World.drewN]
  · simp only [Sort.grow, World.drewN]; rw [Array.getElem?_append_left (by exact hj)]
noncomputable def e_fmt : Ent := ent2 26 (tI .i64) (tI .i64) (fun n b => I64 n ∧ b = 10) (fun n _ => .ss (Lib.itoa n))
theorem fmt_ok : e_fmt.ok Tryd.prog tabS := ent2_ok fun n b h => by obtain ⟨h, rfl⟩ := h; exact fmt_ct n h
def vShow (x : Vl) : List UInt8 :=
  if x.k = 1 then Lib.itoa x.n else if x.k = 2 then (if vYes x then [121, 101, 115] else [110, 111]) else if x.k = 3 then [39] ++ x.t ++ [39] else [110, 111, 110, 101]
noncomputable def es_shw : List Ent := [e_yes, e_fmt]
theorem es_shw_ok : EntsOk Tryd.prog tabS es_shw := ⟨yes_ok, fmt_ok, trivial⟩
set_option maxRecDepth 100000 in
theorem shw_vc (x : Vl) :
    ((decide (x.k = (1 : Int)) = true → (I64 x.n ∧ (10 : Int) = (10 : Int)) ∧ Lib.itoa x.n = vShow x) ∧ (decide (x.k = (1 : Int)) = false → (decide (x.k = (2 : Int)) = true → True ∧ (vYes x = true → List.map UInt8.ofNat (bs { data := #[(121 : UInt8), (101 : UInt8), (115 : UInt8)] }) = vShow x) ∧ (vYes x = false → List.map UInt8.ofNat (bs { data := #[(110 : UInt8), (111 : UInt8)] }) = vShow x)) ∧ (decide (x.k = (2 : Int)) = false → (decide (x.k = (3 : Int)) = true → (List.map UInt8.ofNat (bs { data := #[(39 : UInt8)] })).length + x.t.length ≤ (9223372036854775807 : Nat) ∧ (List.map UInt8.ofNat (bs { data := #[(39 : UInt8)] }) ++ x.t).length + (List.map UInt8.ofNat (bs { data := #[(39 : UInt8)] })).length ≤ (9223372036854775807 : Nat) ∧ List.map UInt8.ofNat (bs { data := #[(39 : UInt8)] }) ++ x.t ++ List.map UInt8.ofNat (bs { data := #[(39 : UInt8)] }) = vShow x) ∧ (decide (x.k = (3 : Int)) = false → List.map UInt8.ofNat (bs { data := #[(110 : UInt8), (111 : UInt8), (110 : UInt8), (101 : UInt8)] }) = vShow x)))) →
    vcF Tryd.prog tabS (specs es_shw) [] (noAnn) Tryd.f13 [x.v] (.ss (vShow x)) := fun h => Eq.mpr (by kernel_rfl) h
set_option maxRecDepth 100000 in
theorem shw_ct (x : Vl) (hn : I64 x.n) (h : x.t.length ≤ 140737488351232) : Ct Tryd.prog tabS 13 [x.v] (.ss (vShow x)) := Ct.of_vcF (specs_ok es_shw_ok) Tryd.func13 (by kernel_rfl) (shw_vc x (by
  have e0 : List.map UInt8.ofNat (bs { data := #[39] }) = [39] := rfl
  have e1 : List.map UInt8.ofNat (bs { data := #[121, 101, 115] }) = [121, 101, 115] := rfl
  have e2 : List.map UInt8.ofNat (bs { data := #[110, 111] }) = [110, 111] := rfl
  have e3 : List.map UInt8.ofNat (bs { data := #[110, 111, 110, 101] }) = [110, 111, 110, 101] := rfl
  simp only [e0, e1, e2, e3, true_and, and_true]
  unfold vShow
  refine ⟨fun c => ⟨hn, ?_⟩, fun c1 => ⟨fun c => ⟨fun d => ?_, fun d => ?_⟩, fun c2 => ⟨fun c => ⟨by simp; omega, by simp; omega, ?_⟩, fun c3 => ?_⟩⟩⟩ <;> simp_all))
noncomputable def e_shw : Ent := ent1 13 tVl (fun x => I64 x.n ∧ x.t.length ≤ 140737488351232) (fun x => .ss (vShow x))
theorem shw_ok : e_shw.ok Tryd.prog tabS := ent1_ok fun x h => shw_ct x h.1 h.2
theorem vMay_cases {x : Vl} (h : vMay x = true) : x = zv ∨ (∃ n, x = vNum n) ∨ (∃ b, x = vTruth b) ∨ ∃ t, x = vText t ∧ t.length ≤ 40 ∧ plainS t = true := by
  unfold vMay at h
  split at h
  · exact .inl (of_decide_eq_true h)
  · split at h
    · exact .inr (.inl ⟨_, of_decide_eq_true h⟩)
    · split at h
      · rw [Bool.or_eq_true] at h
        rcases h with h | h
        · exact .inr (.inr (.inl ⟨_, of_decide_eq_true h⟩))
        · exact .inr (.inr (.inl ⟨_, of_decide_eq_true h⟩))
      · split at h
        · simp only [Bool.and_eq_true, decide_eq_true_eq] at h
          exact .inr (.inr (.inr ⟨_, h.1, by omega, h.2.2⟩))
        · cases h
theorem may_zv : vMay zv = true := by simp [vMay, zv]
theorem may_num (n : Int) : vMay (vNum n) = true := by simp [vMay, vNum]
theorem may_truth (b : Bool) : vMay (vTruth b) = true := by cases b <;> simp [vMay, vTruth]
theorem may_text {t : List UInt8} (h : t.length ≤ 40) (k : plainS t = true) : vMay (vText t) = true := by
  have : (t.length : Int) ≤ 40 := by omega
  simp [vMay, vText, k, this]
theorem plain_mem {t : List UInt8} : plainS t = true ↔ ∀ b ∈ t, okC b = true := by
  unfold plainS
  rw [List.all_eq_true]
  constructor
  · intro h b hb
    obtain ⟨i, hi, rfl⟩ := List.getElem_of_mem hb
    have := h i (List.mem_range.2 hi)
    rwa [List.getD_eq_getElem?_getD, List.getElem?_eq_getElem hi] at this
  · intro h i hi
    have hi := List.mem_range.1 hi
    rw [List.getD_eq_getElem?_getD, List.getElem?_eq_getElem hi]
    exact h _ (List.getElem_mem hi)
theorem plain_app {a b : List UInt8} (h : plainS a = true) (k : plainS b = true) : plainS (a ++ b) = true := by
  rw [plain_mem] at *
  intro x hx
  rcases List.mem_append.1 hx with hx | hx
  · exact h x hx
  · exact k x hx
theorem told_or (n : Int) : vTold n = (vNum n, 0) ∨ vTold n = (zv, 20) := by unfold vTold; split <;> simp
theorem ite_p {α : Type} (P : α → Prop) {c : Prop} [Decidable c] {x y : α} (h1 : c → P x) (h2 : ¬ c → P y) : P (if c then x else y) := by
  by_cases h : c
  · rw [if_pos h]; exact h1 h
  · rw [if_neg h]; exact h2 h
/-- what an operator comes to: a value that may be, or none, with its error -/
def fine (p : Vl × Int) : Prop := (p.2 ≠ 0 ∧ p.1 = zv) ∨ (p.2 = 0 ∧ p.1.k ≠ 0)
theorem fine_told (n : Int) : fine (vTold n) := by
  rcases told_or n with h | h <;> rw [h]
  · right; simp [vNum]
  · left; simp
theorem fine_ok (x : Vl) (h : x.k ≠ 0) : fine (x, 0) := .inr ⟨rfl, h⟩
theorem fine_no (e : Int) (h : e ≠ 0) : fine (zv, e) := .inl ⟨h, rfl⟩
theorem two_fine (op : Int) (a b : Vl) : fine (vTwo op a b) := by
  unfold vTwo vTT vTx
  repeat' refine ite_p fine (fun _ => ?_) (fun _ => ?_)
  all_goals first
    | exact fine_told _
    | exact fine_ok _ (by simp [vTruth, vNum, vText])
    | (refine fine_no _ ?_; decide)
theorem one_fine (op : Int) (a : Vl) : fine (vOne op a) := by
  unfold vOne
  repeat' refine ite_p fine (fun _ => ?_) (fun _ => ?_)
  all_goals first
    | exact fine_told _
    | exact fine_ok _ (by simp [vTruth, vNum, vText])
    | (refine fine_no _ ?_; decide)
theorem may_told (n : Int) : vMay (vTold n).1 = true := by
  rcases told_or n with h | h <;> rw [h]
  · exact may_num n
  · exact may_zv
theorem two_may (op : Int) {a b : Vl} (ha : vMay a = true) (hb : vMay b = true) : vMay (vTwo op a b).1 = true := by
  have key : ∀ x y : List UInt8, plainS x = true → plainS y = true → vMay (vTx op x y).1 = true := by
    intro x y hx hy
    unfold vTx
    repeat' refine ite_p (fun p : Vl × Int => vMay p.1 = true) (fun _ => ?_) (fun _ => ?_)
    all_goals first
      | exact may_zv
      | exact may_truth _
      | (refine may_text ?_ (plain_app hx hy); rw [List.length_append]; assumption)
  have k2 : a.k ≠ 1 → a.k ≠ 2 → 1 ≤ a.k → a.k ≤ 3 → b.k = a.k → vMay (vTx op a.t b.t).1 = true := by
    intro h1 h2 h3 h4 h5
    rcases vMay_cases ha with rfl | ⟨n, rfl⟩ | ⟨x, rfl⟩ | ⟨t, rfl, _, p⟩
    · simp [zv] at h3
    · simp [vNum] at h1
    · simp [vTruth] at h2
    · rcases vMay_cases hb with rfl | ⟨n, rfl⟩ | ⟨x, rfl⟩ | ⟨t', rfl, _, p'⟩
      · simp [vText, zv] at h5
      · simp [vText, vNum] at h5
      · simp [vText, vTruth] at h5
      · exact key _ _ p p'
  unfold vTwo vTT
  repeat' first | refine k2 ?_ ?_ ?_ ?_ ?_ | refine ite_p (fun p : Vl × Int => vMay p.1 = true) (fun _ => ?_) (fun _ => ?_)
  all_goals first
    | exact may_told _
    | exact may_zv
    | exact may_truth _
    | exact may_num _
    | omega
theorem one_may (op : Int) (a : Vl) : vMay (vOne op a).1 = true := by
  unfold vOne
  repeat' refine ite_p (fun p : Vl × Int => vMay p.1 = true) (fun _ => ?_) (fun _ => ?_)
  all_goals first
    | exact may_told _
    | exact may_zv
    | exact may_truth _
    | exact may_num _
theorem may_len {x : Vl} (h : vMay x = true) : x.t.length ≤ 140737488351232 := by
  rcases vMay_cases h with rfl | ⟨n, rfl⟩ | ⟨x, rfl⟩ | ⟨t, rfl, p, _⟩
  · simp [zv]
  · simp [vNum]
  · simp [vTruth]
  · simp [vText]; omega
/-- the digits read back -/
def undig (l : List UInt8) : Nat := l.foldl (fun n b => n * 10 + (b.toNat - 48)) 0
theorem undig_dec (u : Nat) : undig (Lib.decDigits u) = u := by
  induction u using Nat.strongRecOn with
  | _ u ih =>
    rw [Lib.decDigits]
    split
    · rename_i h
      simp only [undig, List.foldl_cons, List.foldl_nil, UInt8.toNat_ofNat']; omega
    · rename_i h
      have := ih (u / 10) (by omega)
      unfold undig at this ⊢
      rw [List.foldl_append, this]
      simp only [List.foldl_cons, List.foldl_nil, UInt8.toNat_ofNat']; omega
theorem dec_head (u : Nat) : ∃ b t, Lib.decDigits u = b :: t ∧ 48 ≤ b.toNat ∧ b.toNat ≤ 57 := by
  induction u using Nat.strongRecOn with
  | _ u ih =>
    rw [Lib.decDigits]
    split
    · exact ⟨_, _, rfl, by rw [UInt8.toNat_ofNat']; omega, by rw [UInt8.toNat_ofNat']; omega⟩
    · obtain ⟨b, t, e, h⟩ := ih (u / 10) (by omega)
      exact ⟨b, t ++ _, by rw [e]; rfl, h⟩
theorem itoa_head (n : Int) : ∃ b t, Lib.itoa n = b :: t ∧ (b.toNat = 45 ∨ 48 ≤ b.toNat ∧ b.toNat ≤ 57) := by
  unfold Lib.itoa
  split
  · exact ⟨_, _, rfl, .inl rfl⟩
  · obtain ⟨b, t, e, h⟩ := dec_head n.toNat
    exact ⟨b, t, e, .inr h⟩
theorem itoa_inj {n m : Int} (h : Lib.itoa n = Lib.itoa m) : n = m := by
  unfold Lib.itoa at h
  have no : ∀ u : Nat, ∀ l, Lib.decDigits u ≠ 45 :: l := by
    intro u l e
    obtain ⟨b, t, e2, h2, _⟩ := dec_head u
    rw [e] at e2; injection e2 with e3; subst e3; simp at h2
  split at h <;> split at h
  · injection h with _ h
    have := congrArg undig h
    rw [undig_dec, undig_dec] at this; omega
  · exact absurd h.symm (no _ _)
  · exact absurd h (no _ _)
  · have := congrArg undig h
    rw [undig_dec, undig_dec] at this; omega
theorem show_inj {a b : Vl} (ha : vMay a = true) (hb : vMay b = true) : decide (vShow a = vShow b) = decide (a = b) := by
  have s0 : vShow zv = [110, 111, 110, 101] := by simp [vShow, zv]
  have s1 : ∀ n, vShow (vNum n) = Lib.itoa n := fun n => by simp [vShow, vNum]
  have s2 : ∀ x, vShow (vTruth x) = if x then [121, 101, 115] else [110, 111] := fun x => by cases x <;> simp [vShow, vTruth, vYes]
  have s3 : ∀ t, vShow (vText t) = 39 :: (t ++ [39]) := fun t => by simp [vShow, vText]
  have hd : ∀ (n : Int) (c : UInt8) (l : List UInt8), c.toNat ≠ 45 → ¬ (48 ≤ c.toNat ∧ c.toNat ≤ 57) → Lib.itoa n ≠ c :: l := by
    intro n c l h1 h2 e
    obtain ⟨b, t, e2, h⟩ := itoa_head n
    rw [e2] at e; injection e with e3; subst e3
    rcases h with h | h
    · exact h1 h
    · exact h2 h
  have q : (vShow a = vShow b) ↔ a = b := by
    constructor
    rotate_left
    · rintro rfl; rfl
    rcases vMay_cases ha with rfl | ⟨n, rfl⟩ | ⟨x, rfl⟩ | ⟨t, rfl, _⟩ <;> rcases vMay_cases hb with rfl | ⟨m, rfl⟩ | ⟨y, rfl⟩ | ⟨u, rfl, _⟩ <;>
      simp only [s0, s1, s2, s3] <;> intro e
    · trivial
    · exact absurd e.symm (hd _ _ _ (by decide) (by decide))
    · cases y <;> simp at e
    · simp at e
    · exact absurd e (hd _ _ _ (by decide) (by decide))
    · rw [itoa_inj e]
    · cases y
      · exact absurd e (hd _ _ _ (by decide) (by decide))
      · exact absurd e (hd _ _ _ (by decide) (by decide))
    · exact absurd e (hd _ _ _ (by decide) (by decide))
    · cases x <;> simp at e
    · cases x
      · exact absurd e.symm (hd _ _ _ (by decide) (by decide))
      · exact absurd e.symm (hd _ _ _ (by decide) (by decide))
    · cases x <;> cases y <;> simp at e ⊢
    · cases x <;> simp at e
    · simp at e
    · exact absurd e.symm (hd _ _ _ (by decide) (by decide))
    · cases y <;> simp at e
    · injection e with _ e
      rw [List.append_cancel_right e]
  exact decide_eq_decide.2 q
noncomputable def es_law : List Ent := [e_works, e_two, e_one, e_may, e_is, e_shw]
theorem es_law_ok : EntsOk Tryd.prog tabS es_law := ⟨works_ok, two_ok, one_ok, may_ok, is_ok, shw_ok, trivial⟩
set_option maxRecDepth 100000 in
theorem law_vc (op : Int) (a b : Vl) :
    (True ∧ ((!true) = true → True ∧ true = true) ∧ ((!true) = false → (decide ((2000 : Int) < (↑a.t.length : Int)) = true → True ∧ true = true) ∧ (decide ((2000 : Int) < (↑a.t.length : Int)) = false → (decide ((2000 : Int) < (↑b.t.length : Int)) = true → True ∧ true = true) ∧ (decide ((2000 : Int) < (↑b.t.length : Int)) = false → (U8 op ∧ VlOk a ∧ VlOk b) ∧ (U8 op ∧ VlOk a) ∧ ((!decide ((vTwo op a b).snd = (0 : Int))) = true → ((!(decide ((vTwo op a b).fst.k = (0 : Int)) && (decide ((vTwo op a b).fst.n = (0 : Int)) && (decide ((vTwo op a b).fst.t = List.map UInt8.ofNat (bs { data := #[] })) && true)))) = true → false = true) ∧ ((!(decide ((vTwo op a b).fst.k = (0 : Int)) && (decide ((vTwo op a b).fst.n = (0 : Int)) && (decide ((vTwo op a b).fst.t = List.map UInt8.ofNat (bs { data := #[] })) && true)))) = false → ((!decide ((vOne op a).snd = (0 : Int))) = true → ((!(decide ((vOne op a).fst.k = (0 : Int)) && (decide ((vOne op a).fst.n = (0 : Int)) && (decide ((vOne op a).fst.t = List.map UInt8.ofNat (bs { data := #[] })) && true)))) = true → false = true) ∧ ((!(decide ((vOne op a).fst.k = (0 : Int)) && (decide ((vOne op a).fst.n = (0 : Int)) && (decide ((vOne op a).fst.t = List.map UInt8.ofNat (bs { data := #[] })) && true)))) = false → a.t.length ≤ (140737488351232 : Nat) ∧ ((!vMay a) = true → true = true) ∧ ((!vMay a) = false → b.t.length ≤ (140737488351232 : Nat) ∧ ((!vMay b) = true → true = true) ∧ ((!vMay b) = false →
      (vTwo op a b).fst.t.length ≤ (140737488351232 : Nat) ∧ (vMay (vTwo op a b).fst = true → (vOne op a).fst.t.length ≤ (140737488351232 : Nat) ∧ (vMay (vOne op a).fst = true → ((!decide ((vTwo op a b).snd = (0 : Int))) = true → (I64 a.n ∧ a.t.length ≤ (140737488351232 : Nat)) ∧ (I64 b.n ∧ b.t.length ≤ (140737488351232 : Nat)) ∧ ((decide (vShow a = vShow b) == (decide (a.k = b.k) && (decide (a.n = b.n) && (decide (a.t = b.t) && true)))) = true → a.t.length ≤ (140737488351232 : Nat) ∧ ((vMay a && decide (a.k = a.k)) = true → a.t.length ≤ (140737488351232 : Nat) ∧ (!(vMay a && decide (a.k = IntKind.u8.wrap (a.k + (1 : Int))))) = true) ∧ ((vMay a && decide (a.k = a.k)) = false → false = true)) ∧ ((decide (vShow a = vShow b) == (decide (a.k = b.k) && (decide (a.n = b.n) && (decide (a.t = b.t) && true)))) = false → false = true)) ∧ ((!decide ((vTwo op a b).snd = (0 : Int))) = false → ((!decide ((vTwo op a b).fst.k = (0 : Int))) = true → (I64 a.n ∧ a.t.length ≤ (140737488351232 : Nat)) ∧ (I64 b.n ∧ b.t.length ≤ (140737488351232 : Nat)) ∧ ((decide (vShow a = vShow b) == (decide (a.k = b.k) && (decide (a.n = b.n) && (decide (a.t = b.t) && true)))) = true → a.t.length ≤ (140737488351232 : Nat) ∧ ((vMay a && decide (a.k = a.k)) = true → a.t.length ≤ (140737488351232 : Nat) ∧ (!(vMay a && decide (a.k = IntKind.u8.wrap (a.k + (1 : Int))))) = true) ∧ ((vMay a && decide (a.k = a.k)) = false → false = true)) ∧
      ((decide (vShow a = vShow b) == (decide (a.k = b.k) && (decide (a.n = b.n) && (decide (a.t = b.t) && true)))) = false → false = true)) ∧ ((!decide ((vTwo op a b).fst.k = (0 : Int))) = false → false = true))) ∧ (vMay (vOne op a).fst = false → false = true)) ∧ (vMay (vTwo op a b).fst = false → false = true))))) ∧ ((!decide ((vOne op a).snd = (0 : Int))) = false → a.t.length ≤ (140737488351232 : Nat) ∧ ((!vMay a) = true → true = true) ∧ ((!vMay a) = false → b.t.length ≤ (140737488351232 : Nat) ∧ ((!vMay b) = true → true = true) ∧ ((!vMay b) = false → (vTwo op a b).fst.t.length ≤ (140737488351232 : Nat) ∧ (vMay (vTwo op a b).fst = true → (vOne op a).fst.t.length ≤ (140737488351232 : Nat) ∧ (vMay (vOne op a).fst = true → ((!decide ((vTwo op a b).snd = (0 : Int))) = true → (I64 a.n ∧ a.t.length ≤ (140737488351232 : Nat)) ∧ (I64 b.n ∧ b.t.length ≤ (140737488351232 : Nat)) ∧ ((decide (vShow a = vShow b) == (decide (a.k = b.k) && (decide (a.n = b.n) && (decide (a.t = b.t) && true)))) = true → a.t.length ≤ (140737488351232 : Nat) ∧ ((vMay a && decide (a.k = a.k)) = true → a.t.length ≤ (140737488351232 : Nat) ∧ (!(vMay a && decide (a.k = IntKind.u8.wrap (a.k + (1 : Int))))) = true) ∧ ((vMay a && decide (a.k = a.k)) = false → false = true)) ∧ ((decide (vShow a = vShow b) == (decide (a.k = b.k) && (decide (a.n = b.n) && (decide (a.t = b.t) && true)))) = false → false = true)) ∧ ((!decide ((vTwo op a b).snd = (0 : Int))) = false → ((!decide ((vTwo op a b).fst.k = (0 : Int))) = true →
      (I64 a.n ∧ a.t.length ≤ (140737488351232 : Nat)) ∧ (I64 b.n ∧ b.t.length ≤ (140737488351232 : Nat)) ∧ ((decide (vShow a = vShow b) == (decide (a.k = b.k) && (decide (a.n = b.n) && (decide (a.t = b.t) && true)))) = true → a.t.length ≤ (140737488351232 : Nat) ∧ ((vMay a && decide (a.k = a.k)) = true → a.t.length ≤ (140737488351232 : Nat) ∧ (!(vMay a && decide (a.k = IntKind.u8.wrap (a.k + (1 : Int))))) = true) ∧ ((vMay a && decide (a.k = a.k)) = false → false = true)) ∧ ((decide (vShow a = vShow b) == (decide (a.k = b.k) && (decide (a.n = b.n) && (decide (a.t = b.t) && true)))) = false → false = true)) ∧ ((!decide ((vTwo op a b).fst.k = (0 : Int))) = false → false = true))) ∧ (vMay (vOne op a).fst = false → false = true)) ∧ (vMay (vTwo op a b).fst = false → false = true)))))) ∧ ((!decide ((vTwo op a b).snd = (0 : Int))) = false → ((!decide ((vOne op a).snd = (0 : Int))) = true → ((!(decide ((vOne op a).fst.k = (0 : Int)) && (decide ((vOne op a).fst.n = (0 : Int)) && (decide ((vOne op a).fst.t = List.map UInt8.ofNat (bs { data := #[] })) && true)))) = true → false = true) ∧ ((!(decide ((vOne op a).fst.k = (0 : Int)) && (decide ((vOne op a).fst.n = (0 : Int)) && (decide ((vOne op a).fst.t = List.map UInt8.ofNat (bs { data := #[] })) && true)))) = false → a.t.length ≤ (140737488351232 : Nat) ∧ ((!vMay a) = true → true = true) ∧ ((!vMay a) = false → b.t.length ≤ (140737488351232 : Nat) ∧ ((!vMay b) = true → true = true) ∧ ((!vMay b) = false →
      (vTwo op a b).fst.t.length ≤ (140737488351232 : Nat) ∧ (vMay (vTwo op a b).fst = true → (vOne op a).fst.t.length ≤ (140737488351232 : Nat) ∧ (vMay (vOne op a).fst = true → ((!decide ((vTwo op a b).snd = (0 : Int))) = true → (I64 a.n ∧ a.t.length ≤ (140737488351232 : Nat)) ∧ (I64 b.n ∧ b.t.length ≤ (140737488351232 : Nat)) ∧ ((decide (vShow a = vShow b) == (decide (a.k = b.k) && (decide (a.n = b.n) && (decide (a.t = b.t) && true)))) = true → a.t.length ≤ (140737488351232 : Nat) ∧ ((vMay a && decide (a.k = a.k)) = true → a.t.length ≤ (140737488351232 : Nat) ∧ (!(vMay a && decide (a.k = IntKind.u8.wrap (a.k + (1 : Int))))) = true) ∧ ((vMay a && decide (a.k = a.k)) = false → false = true)) ∧ ((decide (vShow a = vShow b) == (decide (a.k = b.k) && (decide (a.n = b.n) && (decide (a.t = b.t) && true)))) = false → false = true)) ∧ ((!decide ((vTwo op a b).snd = (0 : Int))) = false → ((!decide ((vTwo op a b).fst.k = (0 : Int))) = true → (I64 a.n ∧ a.t.length ≤ (140737488351232 : Nat)) ∧ (I64 b.n ∧ b.t.length ≤ (140737488351232 : Nat)) ∧ ((decide (vShow a = vShow b) == (decide (a.k = b.k) && (decide (a.n = b.n) && (decide (a.t = b.t) && true)))) = true → a.t.length ≤ (140737488351232 : Nat) ∧ ((vMay a && decide (a.k = a.k)) = true → a.t.length ≤ (140737488351232 : Nat) ∧ (!(vMay a && decide (a.k = IntKind.u8.wrap (a.k + (1 : Int))))) = true) ∧ ((vMay a && decide (a.k = a.k)) = false → false = true)) ∧
      ((decide (vShow a = vShow b) == (decide (a.k = b.k) && (decide (a.n = b.n) && (decide (a.t = b.t) && true)))) = false → false = true)) ∧ ((!decide ((vTwo op a b).fst.k = (0 : Int))) = false → false = true))) ∧ (vMay (vOne op a).fst = false → false = true)) ∧ (vMay (vTwo op a b).fst = false → false = true))))) ∧ ((!decide ((vOne op a).snd = (0 : Int))) = false → a.t.length ≤ (140737488351232 : Nat) ∧ ((!vMay a) = true → true = true) ∧ ((!vMay a) = false → b.t.length ≤ (140737488351232 : Nat) ∧ ((!vMay b) = true → true = true) ∧ ((!vMay b) = false → (vTwo op a b).fst.t.length ≤ (140737488351232 : Nat) ∧ (vMay (vTwo op a b).fst = true → (vOne op a).fst.t.length ≤ (140737488351232 : Nat) ∧ (vMay (vOne op a).fst = true → ((!decide ((vTwo op a b).snd = (0 : Int))) = true → (I64 a.n ∧ a.t.length ≤ (140737488351232 : Nat)) ∧ (I64 b.n ∧ b.t.length ≤ (140737488351232 : Nat)) ∧ ((decide (vShow a = vShow b) == (decide (a.k = b.k) && (decide (a.n = b.n) && (decide (a.t = b.t) && true)))) = true → a.t.length ≤ (140737488351232 : Nat) ∧ ((vMay a && decide (a.k = a.k)) = true → a.t.length ≤ (140737488351232 : Nat) ∧ (!(vMay a && decide (a.k = IntKind.u8.wrap (a.k + (1 : Int))))) = true) ∧ ((vMay a && decide (a.k = a.k)) = false → false = true)) ∧ ((decide (vShow a = vShow b) == (decide (a.k = b.k) && (decide (a.n = b.n) && (decide (a.t = b.t) && true)))) = false → false = true)) ∧ ((!decide ((vTwo op a b).snd = (0 : Int))) = false → ((!decide ((vTwo op a b).fst.k = (0 : Int))) = true →
      (I64 a.n ∧ a.t.length ≤ (140737488351232 : Nat)) ∧ (I64 b.n ∧ b.t.length ≤ (140737488351232 : Nat)) ∧ ((decide (vShow a = vShow b) == (decide (a.k = b.k) && (decide (a.n = b.n) && (decide (a.t = b.t) && true)))) = true → a.t.length ≤ (140737488351232 : Nat) ∧ ((vMay a && decide (a.k = a.k)) = true → a.t.length ≤ (140737488351232 : Nat) ∧ (!(vMay a && decide (a.k = IntKind.u8.wrap (a.k + (1 : Int))))) = true) ∧ ((vMay a && decide (a.k = a.k)) = false → false = true)) ∧ ((decide (vShow a = vShow b) == (decide (a.k = b.k) && (decide (a.n = b.n) && (decide (a.t = b.t) && true)))) = false → false = true)) ∧ ((!decide ((vTwo op a b).fst.k = (0 : Int))) = false → false = true))) ∧ (vMay (vOne op a).fst = false → false = true)) ∧ (vMay (vTwo op a b).fst = false → false = true))))))))) →
    vcF Tryd.prog tabS (specs es_law) [] (noAnn) Tryd.f4 [.si .u8 op, a.v, b.v] (.sb true) := fun h => Eq.mpr (by kernel_rfl) h
set_option maxRecDepth 100000 in
theorem law_ct (op : Int) (a b : Vl) (ho : U8 op) (ha : VlOk a) (hb : VlOk b) : Ct Tryd.prog tabS 4 [.si .u8 op, a.v, b.v] (.sb true) := Ct.of_vcF (specs_ok es_law_ok) Tryd.func4 (by kernel_rfl) (law_vc op a b (by
  have e0 : List.map UInt8.ofNat (bs { data := #[] }) = [] := rfl
  have t1 := two_fine op a b
  have t2 : vMay a = true → vMay b = true → vMay (vTwo op a b).1 = true := fun h k => two_may op h k
  have o1 := one_fine op a
  have o2 := one_may op a
  have o3 := may_len o2
  have t3 : vMay (vTwo op a b).1 = true → (vTwo op a b).1.t.length ≤ 140737488351232 := may_len
  have sj : vMay a = true → vMay b = true → decide (vShow a = vShow b) = decide (a = b) := show_inj
  have hk : a.k ≠ IntKind.u8.wrap (a.k + 1) := by
    have := ha.k; unfold U8 at this; rw [IntKind.wrap_u8]; omega
  have an : I64 a.n ∧ a.t.length ≤ 140737488351232 := ⟨ha.n, ha.t⟩
  have bn : I64 b.n ∧ b.t.length ≤ 140737488351232 := ⟨hb.n, hb.t⟩
  have a1 : -9223372036854775808 ≤ a.n := ha.n.1
  have a2 : a.n ≤ 9223372036854775807 := ha.n.2
  have b1 : -9223372036854775808 ≤ b.n := hb.n.1
  have b2 : b.n ≤ 9223372036854775807 := hb.n.2
  have at_ := ha.t
  have bt_ := hb.t
  refine ⟨trivial, fun c => ⟨trivial, rfl⟩, fun _ => ⟨fun _ => ⟨trivial, rfl⟩, fun _ => ⟨fun _ => ⟨trivial, rfl⟩, fun _ => ⟨⟨ho, ha, hb⟩, ⟨ho, ha⟩, ?_⟩⟩⟩⟩
  simp only [e0, eqVl]
  generalize vTwo op a b = T at *
  generalize vOne op a = O at *
  clear ho ha hb
  unfold fine at t1 o1
  repeat' (first | exact trivial | apply And.intro | intro _)
  all_goals first | assumption | (simp_all [zv]; done) | grind [zv]))
end Go.Proofs.YthnldpbkjegfaaaDoor
