/-
  Two runs of append.
-/
import Derived.Below
import Derived.Laws.Append
import Derived.KernelRfl
set_option linter.unusedVariables false
set_option linter.unusedSimpArgs false
set_option linter.unnecessarySimpa false
noncomputable section
namespace Go.Proofs.YthnldpbkjegfaaaDoor.Sv
open Go Go.RowKit

def notInt : TypeDesc → Bool
  | .int _ => false
  | _ => true

set_option maxHeartbeats 4000000 in
theorem run_append_room {P : Program} {ts : Array TypeId} {t0 t1 ty e : TypeId} {d1 : TypeDesc} {inf : TypeInfo} {u : Value} {n len cap : Nat} {base : Option Addr} {xs : Array Value} {w w' : World}
    (h0 : ts[0]? = some t0) (h1 : ts[1]? = some t1) (ht0 : P.underlying t0 = some (.slice e)) (ht1 : P.underlying t1 = some d1) (hd : notInt d1 = true) (hi : P.info? e = some inf)
    (hlen : ∀ w, (Builtin.lenOf u).run P w = .ok n w) (hx : (Builtin.firstCells inf.size n u).run P w = .ok xs w) (hle : len + n ≤ cap)
    (hst : (match base with | some a => storeCells (a.add (len * inf.size)) xs.toList | none => pure () : Sem Unit).run P w = .ok () w') :
    (Builtin.append_ ts ty #[.slice base len cap, u]).run P w = .ok (.slice base (len + n) cap) w' := by
  have hsome : ∀ a, base = some a → (storeCells (a.add (len * inf.size)) xs.toList).run P w = .ok () w' := fun a e => by subst e; exact hst
  have hnone : base = none → w' = w := fun e => by subst e; simp only [Sem.run_pure] at hst; injection hst with _ hst; exact hst.symm
  clear hst
  cases base with
  | none =>
    obtain rfl := hnone rfl
    cases d1 <;> first | (simp [notInt] at hd; done) | simp [Builtin.append_, h0, h1, run_underlying ht0, run_underlying ht1, sizeOf, typeInfo, hi, hlen, hle, hx]
  | some a =>
    have hst := hsome a rfl
    cases d1 <;> first | (simp [notInt] at hd; done) | simp [Builtin.append_, h0, h1, run_underlying ht0, run_underlying ht1, sizeOf, typeInfo, hi, hlen, hle, hx, hst]

set_option maxHeartbeats 4000000 in
theorem run_append_new {P : Program} {ts : Array TypeId} {t0 t1 ty e : TypeId} {d1 : TypeDesc} {inf : TypeInfo} {z u : Value} {n len cap : Nat} {base : Option Addr} {os xs : Array Value} {w : World}
    (h0 : ts[0]? = some t0) (h1 : ts[1]? = some t1) (ht0 : P.underlying t0 = some (.slice e)) (ht1 : P.underlying t1 = some d1) (hd : notInt d1 = true) (hi : P.info? e = some inf) (hzr : inf.zero = some z)
    (hlen : ∀ w, (Builtin.lenOf u).run P w = .ok n w) (hx : ∀ w', w'.heap = w.heap → (Builtin.firstCells inf.size n u).run P w' = .ok xs w')
    (ho : ∀ w', w'.heap = w.heap → (Builtin.firstCells inf.size len (.slice base len cap)).run P w' = .ok os w') (hlt : cap < len + n)
    (h63 : len + n ≤ 9223372036854775807) (hb : (len + n) * inf.bytes ≤ 140737488355328) :
    ∃ newCap, len + n ≤ newCap ∧ (Builtin.append_ ts ty #[.slice base len cap, u]).run P w = .ok (.slice (some ⟨w.heap.size, 0, none⟩) (len + n) newCap)
      { w with drawn := w.drawn + 1, heap := w.heap.push (.cells (os ++ xs ++ Builtin.zeroCells z.cells (newCap - (len + n))) e (0, 0)) } := by
  refine ⟨grownCap w (len + n) cap e, by simp [grownCap, Question.cut], ?_⟩
  have hn : ¬ (len + n ≤ cap) := by omega
  have h63' : ¬ (9223372036854775807 < ((len : Int) + (n : Int))) := by omega
  have h48' : ¬ (281474976710656 < Builtin.nextslicecap (len + n) cap * inf.bytes) := by have := growslice_fits (bytes := inf.bytes) hlt hb; omega
  have hx' := hx w.drew rfl
  have ho' := ho w.drew rfl
  cases d1 <;> first | (simp [notInt] at hd; done) | (simp [Builtin.append_, h0, h1, run_underlying ht0, run_underlying ht1, sizeOf, typeInfo, zeroValue, hi, hzr, hlen, hn, h63', h48', Question.forced, hx', ho', newRow, grownCap]; done) | (simp [Builtin.append_, h0, h1, run_underlying ht0, run_underlying ht1, sizeOf, typeInfo, zeroValue, hi, hzr, hlen, hn, h63', h48', Question.forced, hx', ho', newRow, grownCap]; rfl)

end Go.Proofs.YthnldpbkjegfaaaDoor.Sv

namespace Go.Proofs.YthnldpbkjegfaaaDoor.Sv
open Go Go.RowKit

set_option maxHeartbeats 4000000 in
theorem run_append_zeros {P : Program} {ts : Array TypeId} {t0 t1 ty e : TypeId} {k k' : IntKind} {inf : TypeInfo} {z : Value} {n len cap : Nat} {base : Option Addr} {os : Array Value} {w : World}
    (h0 : ts[0]? = some t0) (h1 : ts[1]? = some t1) (ht0 : P.underlying t0 = some (.slice e)) (ht1 : P.underlying t1 = some (.int k)) (hi : P.info? e = some inf) (hzr : inf.zero = some z)
    (hn0 : n * inf.size ≠ 0) (ho : ∀ w', w'.heap = w.heap → (Builtin.firstCells inf.size len (.slice base len cap)).run P w' = .ok os w') (hlt : cap < len + n)
    (h63 : len + n ≤ 9223372036854775807) (hb : (len + n) * inf.bytes ≤ 140737488355328) :
    ∃ newCap, len + n ≤ newCap ∧ (Builtin.append_ ts ty #[.slice base len cap, .int k' (n : Int)]).run P w = .ok (.slice (some ⟨w.heap.size, 0, none⟩) (len + n) newCap)
      { w with drawn := w.drawn + 1, heap := w.heap.push (.cells (os ++ Builtin.zeroCells z.cells n ++ Builtin.zeroCells z.cells (newCap - (len + n))) e (0, 0)) } := by
  refine ⟨grownCap w (len + n) cap e, by simp [grownCap, Question.cut], ?_⟩
  have hn : ¬ (len + n ≤ cap) := by omega
  have hw : IntKind.i64.wrap (n : Int) = n := by
    rw [IntKind.wrap_i64]; omega
  have hneg : ¬ ((n : Int) < 0) := by omega
  have hnb : n * inf.bytes ≤ 140737488355328 := Nat.le_trans (Nat.mul_le_mul_right _ (by omega)) hb
  have hbig : ¬ (281474976710656 < (n : Int) * (inf.bytes : Int)) := by
    have : ((n * inf.bytes : Nat) : Int) ≤ 140737488355328 := by exact Int.ofNat_le.2 hnb
    simp at this; omega
  have h63' : ¬ (9223372036854775807 < ((len : Int) + (n : Int))) := by omega
  have h48' : ¬ (281474976710656 < Builtin.nextslicecap (len + n) cap * inf.bytes) := by have := growslice_fits (bytes := inf.bytes) hlt hb; omega
  have ho' := ho w.drew rfl
  have hn1 : n ≠ 0 := fun h => hn0 (by rw [h]; simp)
  have hn2 : inf.size ≠ 0 := fun h => hn0 (by rw [h]; simp)
  simp [Builtin.append_, h0, h1, run_underlying ht0, run_underlying ht1, sizeOf, typeInfo, zeroValue, hi, hzr, asInt, asIntOf, hw, hneg, hbig, hn, h63', h48', hn1, hn2, Question.forced, ho', newRow, grownCap]
  rw [if_neg hn0]
  rfl
end Go.Proofs.YthnldpbkjegfaaaDoor.Sv
