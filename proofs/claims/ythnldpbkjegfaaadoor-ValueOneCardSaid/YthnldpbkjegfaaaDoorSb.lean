/-
  Operations on memory.
-/
import Derived.Maps.RangeRun
import Derived.Test.YthnldpbkjegfaaaDoorSa
import Derived.Test.YthnldpbkjegfaaaDoorSf
set_option linter.unusedVariables false
set_option linter.unusedSimpArgs false
set_option linter.unnecessarySimpa false
noncomputable section
namespace Go.Proofs.YthnldpbkjegfaaaDoor.Sv
open Go Go.RowKit

mutual
def V.same : V → V → Bool
  | .bool a, .bool b => a == b
  | .int j a, .int k b => decide (j = k) && eqI a b
  | .str a, .str b => eqN a b
  | .nilp, .nilp => true
  | .ptr i o, .ptr j q => Nat.beq i j && Nat.beq o q
  | .nils, .nils => true
  | .slice i o n (.known c), .slice j q m (.known d) => Nat.beq i j && Nat.beq o q && Nat.beq n m && Nat.beq c d
  | .slice i o n (.opn c), .slice j q m (.opn d) => Nat.beq i j && Nat.beq o q && Nat.beq n m && Nat.beq c d
  | .nilmap, .nilmap => true
  | .map i, .map j => Nat.beq i j
  | .func (.func f) a b, .func (.func g) c d => Nat.beq f g && sames a c && sames b d
  | .yield i, .yield j => Nat.beq i j
  | .nilFunc, .nilFunc => true
  | .iface t v, .iface u x => Nat.beq t u && V.same v x
  | .nilIface, .nilIface => true
  | .agg a, .agg b => sames a b
  | .tuple a, .tuple b => sames a b
  | .glob i o, .glob j q => Nat.beq i j && Nat.beq o q
  | _, _ => false
def sames : List V → List V → Bool
  | [], [] => true
  | a :: x, b :: y => V.same a b && sames x y
  | _, _ => false
end

theorem same_sound_aux : (∀ x : V, ∀ y, V.same x y = true → x = y) := by
  intro x
  refine V.rec (motive_1 := fun x => ∀ y, V.same x y = true → x = y) (motive_2 := fun l => ∀ m, sames l m = true → l = m) ?_ ?_ ?_ ?_ ?_ ?_ ?_ ?_ ?_ ?_ ?_ ?_ ?_ ?_ ?_ ?_ ?_ ?_ ?_ ?_ ?_ ?_ ?_ ?_ ?_ ?_ x
  · intro a y h; cases y <;> simp [V.same] at h; subst h; rfl
  · intro k a y h; cases y <;> simp [V.same] at h; obtain ⟨rfl, h⟩ := h; rw [eqI_eq] at h; simp at h; subst h; rfl
  · intro a y h; cases y <;> simp [V.same] at h; rw [eqN_iff] at h; subst h; rfl
  · intro y h; cases y <;> simp [V.same] at h; rfl
  · intro i o y h; cases y <;> simp [V.same] at h; obtain ⟨h1, h2⟩ := h; subst h1 h2; rfl
  · intro y h; cases y <;> simp [V.same] at h; rfl
  · intro i o n c y h
    cases c <;> cases y <;> (try (simp [V.same] at h; done)) <;> (rename_i c2; cases c2 <;> simp [V.same] at h) <;> (obtain ⟨⟨⟨h1, h2⟩, h3⟩, h4⟩ := h; subst h1 h2 h3 h4; rfl)
  · intro y h; cases y <;> simp [V.same] at h; rfl
  · intro i y h; cases y <;> simp [V.same] at h; subst h; rfl
  · intro f a b iha ihb y h
    cases f <;> cases y <;> (try (simp [V.same] at h; done))
    rename_i f g c d
    cases g <;> simp [V.same] at h
    obtain ⟨⟨h1, h2⟩, h3⟩ := h
    subst h1; rw [iha _ h2, ihb _ h3]
  · intro i y h; cases y <;> simp [V.same] at h; subst h; rfl
  · intro y h; cases y <;> simp [V.same] at h; rfl
  · intro t v ih y h; cases y <;> simp [V.same] at h; obtain ⟨h1, h2⟩ := h; subst h1; rw [ih _ h2]
  · intro y h; cases y <;> simp [V.same] at h; rfl
  · intro a ih y h; cases y <;> simp [V.same] at h; rw [ih _ h]
  · intro a ih y h; cases y <;> simp [V.same] at h; rw [ih _ h]
  · intro i o y h; cases y <;> simp [V.same] at h; obtain ⟨h1, h2⟩ := h; subst h1 h2; rfl
  · intro b y h; simp [V.same] at h
  · intro k n y h; simp [V.same] at h
  · intro l y h; simp [V.same] at h
  · intro a n s es ih y h; simp [V.same] at h
  · intro n s es i f ih y h; simp [V.same] at h
  · intro i s ns es ih y h; simp [V.same] at h
  · intro g i o n k y h; simp [V.same] at h
  · intro m h; cases m <;> simp [sames] at h; rfl
  · intro v l ihv ihl m h; cases m <;> simp [sames] at h; obtain ⟨h1, h2⟩ := h; rw [ihv _ h1, ihl _ h2]

theorem same_sound {x y : V} (h : V.same x y = true) : x = y := same_sound_aux x y h

/-! ### operations that read memory -/
/-- cells that nobody writes -/
theorem fz_read {W0 : World} {σ : Sg} {st : St} {w : World} (h : Rel W0 σ st w) {b o sz k n : Nat} {y : Value} {v : V} (hf : FzAt σ.fz b o sz y) (hv : RV σ v y) (hk : k + n ≤ sz) (hn : 0 < n) (P : Program) :
    v.cells.length = sz ∧ ∃ xs, (loadCells ⟨b, o + k, none⟩ n).run P w = .ok xs w ∧ RVs σ ((v.cells.take (k + n)).drop k) xs.toList ∧
      ∃ cs e fz, w.heap[b]? = some (.cells cs e fz) ∧ o + k + n ≤ cs.size ∧ xs = cs.extract (o + k) (o + k + n) := by
  have hc := hv.cells
  have hlen : v.cells.length = sz := by have := hc.length; rw [← this]; simpa using hf.1
  have hin : ∀ j, j < n → ∃ x, y.cells[k + j]? = some x ∧ w.cell? ⟨b, o + k + j, none⟩ = some x := by
    intro j hj
    have hx : y.cells[k + j]? = some (y.cells[k + j]'(by rw [hf.1]; omega)) := Array.getElem?_eq_getElem _
    have := (h.frz _ _ _ (hf.2 _ _ hx).1).1
    exact ⟨_, hx, by rw [Nat.add_assoc]; exact this⟩
  obtain ⟨cs, e, fz, h1⟩ : ∃ cs e fz, w.heap[b]? = some (.cells cs e fz) := by
    obtain ⟨x, _, hc⟩ := hin 0 hn
    unfold World.cell? at hc
    simp only at hc
    split at hc
    · rename_i hh; exact ⟨_, _, _, hh⟩
    · cases hc
  obtain ⟨x, _, hlast⟩ := hin (n - 1) (by omega)
  rw [cell_of h1] at hlast
  have hle : o + k + n ≤ cs.size := by have := (Array.getElem?_eq_some_iff.1 hlast).1; omega
  refine ⟨hlen, _, run_loadCells h1 hle, ?_, cs, e, fz, h1, hle, rfl⟩
  refine RVs.of_get (by simp [Array.size_extract, hlen]; omega) fun j u x hu hx => ?_
  have hj : j < n := by have := (List.getElem?_eq_some_iff.1 hu).1; simp at this; omega
  obtain ⟨x', hx1, hx2⟩ := hin j hj
  rw [List.getElem?_drop, List.getElem?_take, if_pos (by omega)] at hu
  obtain ⟨x'', hx3, hr⟩ := hc.get hu
  have e1 : x'' = x' := by rw [Array.getElem?_toList, hx1] at hx3; exact (Option.some.inj hx3).symm
  rw [cell_of h1] at hx2
  have e2 : x = x' := by
    have hx4 : (cs.extract (o + k) (o + k + n))[j]? = some x := by rw [← Array.getElem?_toList]; exact hx
    rw [Array.getElem?_extract_of_lt (by omega)] at hx4
    have hx5 : cs[o + k + j]? = some x := by rw [Array.getElem?_eq_getElem (by omega)]; exact hx4
    rw [hx2] at hx5
    exact (Option.some.inj hx5).symm
  rw [e2, ← e1]; exact hr

def loadV (P : Program) (st : St) (t : TypeId) (x : Option V) : Option V :=
  match x with
  | some (.ptr i o) => match P.underlying t with
    | none => none
    | some d => match aggD d with
      | true => match P.info? t with
        | some inf => match st.read i o inf.size with
          | some vs => some (.agg vs)
          | none => none
        | none => none
      | false => match st.read i o 1 with
        | some [v] => some v
        | _ => none
  | some (.glob g o) => match P.underlying t with
    | none => none
    | some d => match aggD d with
      | true => match P.info? t with
        | some inf => match st.gread g o inf.size with
          | some vs => some (.agg vs)
          | none => none
        | none => none
      | false => match st.gread g o 1 with
        | some [v] => some v
        | _ => none
  | some (.rp n sz es i f) => match P.underlying t with
    | none => none
    | some d => match aggD d with
      | true => match P.info? t with
        | some inf => match Nat.ble (f + inf.size) sz, Nat.ble 1 inf.size with
          | true, true => some (.agg (((es i).cells.take (f + inf.size)).drop f))
          | _, _ => none
        | none => none
      | false => match Nat.ble (f + 1) sz with
        | true => ((es i).cells)[f]?
        | false => none
  | some (.px g i o n k) => match P.underlying t with
    | none => none
    | some d => match aggD d, (match g with | true => st.gread i o n | false => st.read i o n) with
      | false, some vs => match kindOf vs with
        | some kd => match intsOf kd vs with
          | some ns => some (.si kd (ns.getD k 0))
          | none => none
        | none => none
      | _, _ => none
  | _ => none

theorem loadV_sound {P : Program} {W0 : World} {σ : Sg} {st : St} {w : World} {t : TypeId} {x : Option V} {u : Value} {v : V} (hR : Rel W0 σ st w)
    (h : loadV P st t x = some v) (hx : ∀ a, x = some a → RV σ a u) : ∃ z, (Instr.loadAt t u).run P w = .ok z w ∧ RV σ v z := by
  unfold loadV at h
  split at h
  · rename_i i o
    have hu := hx _ rfl
    simp only [RV] at hu
    obtain ⟨p, hp, rfl⟩ := hu
    split at h
    · cases h
    · rename_i d ht
      split at h
      · rename_i ha
        split at h
        · rename_i inf hi
          split at h
          · rename_i vs hv
            obtain rfl := Option.some.inj h
            obtain ⟨xs, e, hr, _⟩ := read_sound hR hp hv P
            refine ⟨.agg xs, ?_, by simp only [RV]; exact ⟨xs, rfl, hr⟩⟩
            simp [Instr.loadAt, Instr.sureAddr, loadVar, run_isAgg ht, ha, sizeOf, typeInfo, hi, e]
          · cases h
        · cases h
      · rename_i ha
        split at h
        · rename_i v' hv
          obtain rfl := Option.some.inj h
          obtain ⟨xs, e, hr, _, _, hc⟩ := read_sound hR hp hv P
          simp only [RVs] at hr
          obtain ⟨z, r, e1, hz, rfl⟩ := hr
          obtain ⟨cs, e0, fz, h1, h2, h3⟩ := hc (by simp)
          have hcell : w.cell? ⟨p.blk, p.base + o, none⟩ = some z := by
            rw [cell_of h1]
            have : xs[0]? = some z := by rw [← Array.getElem?_toList, e1]; rfl
            rw [h3, Array.getElem?_extract_of_lt (by omega)] at this
            rw [Array.getElem?_eq_getElem (by omega)]; exact this
          refine ⟨z, ?_, hz⟩
          simp [Instr.loadAt, Instr.sureAddr, loadVar, run_isAgg ht, ha, hcell]
        · cases h
  · rename_i g o
    have hu := hx _ rfl
    simp only [RV] at hu
    subst hu
    split at h
    · cases h
    · rename_i d ht
      split at h
      · rename_i ha
        split at h
        · rename_i inf hi
          split at h
          · rename_i vs hv
            obtain rfl := Option.some.inj h
            obtain ⟨xs, e, hr, _⟩ := gread_sound hR hv P
            refine ⟨.agg xs, ?_, by simp only [RV]; exact ⟨xs, rfl, hr⟩⟩
            simp [Instr.loadAt, Instr.sureAddr, loadVar, run_isAgg ht, ha, sizeOf, typeInfo, hi, e]
          · cases h
        · cases h
      · rename_i ha
        split at h
        · rename_i v' hv
          obtain rfl := Option.some.inj h
          obtain ⟨xs, e, hr, cs, e0, fz, h1, h2, h3⟩ := gread_sound hR hv P
          simp only [RVs] at hr
          obtain ⟨z, r, e1, hz, rfl⟩ := hr
          have hcell : w.cell? ⟨g, o, none⟩ = some z := by
            rw [cell_of h1]
            have : xs[0]? = some z := by rw [← Array.getElem?_toList, e1]; rfl
            rw [h3, Array.getElem?_extract_of_lt (by omega)] at this
            rw [Array.getElem?_eq_getElem (by omega)]; exact this
          refine ⟨z, ?_, hz⟩
          simp [Instr.loadAt, Instr.sureAddr, loadVar, run_isAgg ht, ha, hcell]
        · cases h
  · rename_i n sz es i f
    have hu := hx _ rfl
    simp only [RV] at hu
    obtain ⟨hi', b, o, rfl, h4⟩ := hu
    obtain ⟨y, hy, hfz⟩ := h4 i hi'
    have hy := RV.mono (Le.of_free σ) _ _ hy
    split at h
    · cases h
    · rename_i d ht
      split at h
      · rename_i ha
        split at h
        · rename_i inf hi
          split at h
          · rename_i hle h1
            have hle := Nat.le_of_ble_eq_true hle
            have h1 := Nat.le_of_ble_eq_true h1
            obtain rfl := Option.some.inj h
            obtain ⟨_, xs, e, hr, _⟩ := fz_read hR hfz hy hle h1 P
            refine ⟨.agg xs, ?_, by simp only [RV]; exact ⟨xs, rfl, hr⟩⟩
            simp [Instr.loadAt, Instr.sureAddr, loadVar, run_isAgg ht, ha, sizeOf, typeInfo, hi, e]
          · cases h
        · cases h
      · rename_i ha
        split at h
        · rename_i hle
          have hle := Nat.le_of_ble_eq_true hle
          obtain ⟨hl, xs, e, hr, cs, e0, fz, h1, h2, h3⟩ := fz_read hR hfz hy hle (by omega) P
          have hv : (((es i).cells.take (f + 1)).drop f)[0]? = some v := by rw [List.getElem?_drop, List.getElem?_take, if_pos (by omega)]; simpa using h
          obtain ⟨z, hz, hzr⟩ := hr.get hv
          have hcell : w.cell? ⟨b, o + i * sz + f, none⟩ = some z := by
            rw [cell_of h1]
            rw [Array.getElem?_toList, h3, Array.getElem?_extract_of_lt (by omega)] at hz
            rw [Array.getElem?_eq_getElem (by omega)]; exact hz
          refine ⟨z, ?_, hzr⟩
          simp [Instr.loadAt, Instr.sureAddr, loadVar, run_isAgg ht, ha, hcell]
        · cases h
  · rename_i g i o n k
    have hu := hx _ rfl
    split at h
    · cases h
    · rename_i d ht
      split at h
      · rename_i vs ha hvs
        split at h
        · rename_i kd hkd
          split at h
          · rename_i ns hns
            obtain rfl := Option.some.inj h
            have fin : ∀ (b q : Nat) (xs : List Value) (cs : Array Value) e fz, u = .pointer (some ⟨b, q + k, none⟩) → k < n → RVs σ vs xs → w.heap[b]? = some (.cells cs e fz) → q + n ≤ cs.size → xs = (cs.extract q (q + n)).toList →
                ∃ z, (Instr.loadAt t u).run P w = .ok z w ∧ RV σ (.si kd (ns.getD k 0)) z := by
              intro b q xs cs e fz hu hk hr h1 h2 h3
              have hl := intsOf_sound hns hr
              have hlen : ns.length = n := by
                have := congrArg List.length (hl.symm.trans h3)
                simp [Array.size_extract] at this; omega
              have hcell : w.cell? ⟨b, q + k, none⟩ = some (.int kd (ns.getD k 0)) := by
                rw [cell_of h1]
                have e1 : xs[k]? = some (.int kd (ns.getD k 0)) := by
                  rw [hl, List.getElem?_map, List.getElem?_eq_getElem (by omega)]
                  simp [List.getD_eq_getElem?_getD, List.getElem?_eq_getElem (show k < ns.length by omega)]
                rw [h3, Array.getElem?_toList, Array.getElem?_extract_of_lt (by omega)] at e1
                rw [Array.getElem?_eq_getElem (by omega)]; exact e1
              refine ⟨.int kd (ns.getD k 0), ?_, by simp only [RV]⟩
              subst hu
              simp [Instr.loadAt, Instr.sureAddr, loadVar, run_isAgg ht, ha, hcell]
            cases g with
            | true =>
              simp only [RV] at hu
              obtain ⟨hk, hu⟩ := hu
              obtain ⟨xs, e, hr, cs, e0, fz, h1, h2, h3⟩ := gread_sound hR hvs P
              exact fin i o _ cs e0 fz hu hk hr h1 h2 (by rw [h3])
            | false =>
              simp only [RV] at hu
              obtain ⟨hk, p, hp, hu⟩ := hu
              obtain ⟨xs, e, hr, _, _, hc⟩ := read_sound hR hp hvs P
              obtain ⟨cs, e0, fz, h1, h2, h3⟩ := hc (by omega)
              exact fin p.blk (p.base + o) _ cs e0 fz (by rw [hu, Nat.add_assoc]) hk hr h1 h2 (by rw [h3])
          · cases h
        · cases h
      · cases h
  · cases h

def bytesV : List V → Option (List Nat)
  | [] => some []
  | .int .u8 (.ofNat n) :: vs => match Nat.ble n 255, bytesV vs with
    | true, some ns => some (n :: ns)
    | _, _ => none
  | _ => none

def toStrV (P : Program) (st : St) (src dst : TypeId) (x : Option V) : Option V :=
  match P.underlying src with
  | some (.slice e) => match P.underlying e, P.underlying dst with
    | some (.int .u8), some .string => match x with
      | some .nils => some (.str [])
      | some (.slice i o n c) => match n with
        | 0 => some (.str [])
        | n + 1 => match st.read i o (n + 1) with
          | some vs => match bytesV vs with
            | some s => some (.str s)
            | none => none
          | none => none
      | _ => none
    | _, _ => none
  | _ => none

theorem bytesV_sound {σ : Sg} : ∀ {vs : List V} {ns : List Nat} {xs : List Value}, bytesV vs = some ns → RVs σ vs xs →
    xs = (ns.map (fun n : Nat => (n : Int))).map (Value.int .u8) ∧ ∀ n ∈ ns, n ≤ 255
  | [], ns, xs, h, hr => by simp [bytesV] at h; subst h; simp only [RVs] at hr; subst hr; simp
  | v :: vs, ns, xs, h, hr => by
    simp only [RVs] at hr
    obtain ⟨x, r, rfl, h1, h2⟩ := hr
    unfold bytesV at h
    split at h
    · rename_i e; cases e
    · rename_i n vs' e
      injection e with e1 e2
      subst e1 e2
      split at h
      · rename_i ms hle hms
        obtain rfl := Option.some.inj h
        obtain ⟨e3, e4⟩ := bytesV_sound hms h2
        simp only [RV] at h1
        subst h1 e3
        refine ⟨by simp, fun m hm => ?_⟩
        rcases List.mem_cons.1 hm with rfl | hm
        · exact Nat.le_of_ble_eq_true hle
        · exact e4 m hm
      · cases h
    · cases h

theorem bs_fold : ∀ (ns : List Nat) (s : ByteArray), (∀ n ∈ ns, n ≤ 255) →
    bs ((ns.map (fun n : Nat => (n : Int))).foldl (fun r n => r.push (UInt8.ofNat n.toNat)) s) = bs s ++ ns := by
  intro ns
  induction ns with
  | nil => intro s _; simp
  | cons n ns ih =>
    intro s h
    simp only [List.map_cons, List.foldl_cons]
    rw [ih _ fun m hm => h m (by simp [hm])]
    have hn := h n (by simp)
    have : bs (s.push (UInt8.ofNat (n : Int).toNat)) = bs s ++ [n] := by
      unfold bs
      simp [ByteArray.push]
      omega
    rw [this]; simp

theorem toStrV_sound {P : Program} {W0 : World} {σ : Sg} {st : St} {w : World} {s d : TypeId} {x : Option V} {u : Value} {v : V} (hR : Rel W0 σ st w)
    (h : toStrV P st s d x = some v) (hx : ∀ a, x = some a → RV σ a u) : ∃ z, (convert s d u).run P w = .ok z w ∧ RV σ v z := by
  unfold toStrV at h
  split at h
  · rename_i e hs
    split at h
    · rename_i he hd
      split at h
      · obtain rfl := Option.some.inj h
        have hu := hx _ rfl; simp only [RV] at hu; subst hu
        refine ⟨.string .empty, ?_, by simp only [RV]; exact ⟨_, rfl, rfl⟩⟩
        rw [run_convert_bytes_string w s d e _ _ _ hs he hd]; rfl
      · rename_i i o n c
        have hu := hx _ rfl
        cases n with
        | zero =>
          obtain rfl := Option.some.inj h
          have : ∃ a c', u = .slice (some a) 0 c' := by
            cases c with
            | known c => simp only [RV] at hu; obtain ⟨_, _, rfl⟩ := hu; exact ⟨_, _, rfl⟩
            | opn sz => simp only [RV] at hu; obtain ⟨_, _, _, _, _, rfl, _⟩ := hu; exact ⟨_, _, rfl⟩
          obtain ⟨a, c', rfl⟩ := this
          refine ⟨.string .empty, ?_, by simp only [RV]; exact ⟨_, rfl, rfl⟩⟩
          rw [run_convert_bytes_string w s d e _ _ _ hs he hd, run_bytesToString w a 0 c' [] (run_loadCells_zero a)]
          rfl
        | succ n =>
          simp only at h
          split at h
          · rename_i vs hv
            split at h
            · rename_i ns hn
              obtain rfl := Option.some.inj h
              have : ∃ p c', σ i = some p ∧ u = .slice (some ⟨p.blk, p.base + o, none⟩) (n + 1) c' := by
                cases c with
                | known c => simp only [RV] at hu; obtain ⟨p, hp, rfl⟩ := hu; exact ⟨p, _, hp, rfl⟩
                | opn sz =>
                  simp only [RV] at hu
                  obtain ⟨_, p, a, c, hp, rfl, _, _, rfl | ⟨h0, _⟩⟩ := hu
                  · exact ⟨p, _, hp, rfl⟩
                  · omega
              obtain ⟨p, c', hp, rfl⟩ := this
              obtain ⟨xs, er, hr, _⟩ := read_sound hR hp hv P
              obtain ⟨e1, e2⟩ := bytesV_sound hn hr
              refine ⟨.string ((ns.map (fun n : Nat => (n : Int))).foldl (fun r n => r.push (UInt8.ofNat n.toNat)) ByteArray.empty), ?_, ?_⟩
              · rw [run_convert_bytes_string w s d e _ _ _ hs he hd, run_bytesToString w _ (n + 1) c' (ns.map fun n : Nat => (n : Int))]
                rw [er, ← e1]
              · simp only [RV]; exact ⟨_, rfl, by rw [bs_fold _ _ e2]; rfl⟩
            · cases h
          · cases h
      · cases h
    · cases h
  · cases h

/-! ### maps: what is asked of them -/
def sameKeyV : TypeDesc → V → V → Option Bool
  | .int _, .int k a, .int k' b => if k = k' then some (eqI a b) else none
  | .string, .str a, .str b => some (eqN a b)
  | .bool, .bool a, .bool b => some (a == b)
  | _, _, _ => none

/-- two keys of a type -/
def keyCmp (P : Program) (kt : TypeId) (d : TypeDesc) (x y : V) : Option Bool :=
  match d with
  | .struct _ => match equalV P Op.maxDepth kt x y with
    | some true => match V.same x y with
      | true => some true
      | false => none
    | r => r
  | d => sameKeyV d x y

def findV (P : Program) (kt : TypeId) (d : TypeDesc) (k : V) : List (V × V × Nat) → Nat → Option (Option (Nat × V))
  | [], _ => some none
  | (k', v, _) :: es, i => match keyCmp P kt d k k' with
    | some true => some (some (i, v))
    | some false => findV P kt d k es (i + 1)
    | none => none

theorem sameKeyV_sound {σ : Sg} {d : TypeDesc} {x y : V} {u v : Value} {b : Bool} (h : sameKeyV d x y = some b) (hx : RV σ x u) (hy : RV σ y v) : Instr.sameNow d u v = some b := by
  unfold sameKeyV at h
  split at h
  · split at h <;> cases h
    rename_i e; subst e
    simp only [RV] at hx hy; subst hx hy
    simp [Instr.sameNow, eqI_eq]
  · cases h
    simp only [RV] at hx hy
    obtain ⟨s1, rfl, rfl⟩ := hx
    obtain ⟨s2, rfl, rfl⟩ := hy
    simp only [Instr.sameNow, eqN_bs, beq_toListBytes]
  · cases h
    simp only [RV] at hx hy; subst hx hy
    simp [Instr.sameNow]
  · cases h

theorem sameKeyV_eq {d : TypeDesc} {x y : V} (h : sameKeyV d x y = some true) : x = y := by
  unfold sameKeyV at h
  split at h
  · split at h
    · rename_i e; subst e
      simp only [Option.some.injEq] at h
      rw [eqI_eq] at h
      rw [beq_iff_eq.1 h]
    · cases h
  · simp only [Option.some.injEq] at h
    rw [eqN_iff] at h; rw [h]
  · simp only [Option.some.injEq] at h
    rw [beq_iff_eq.1 h]
  · cases h

theorem keyCmp_eq {P : Program} {kt : TypeId} {d : TypeDesc} {x y : V} (h : keyCmp P kt d x y = some true) : x = y := by
  unfold keyCmp at h
  split at h
  · split at h
    · split at h
      · rename_i hs; exact same_sound hs
      · cases h
    · rename_i hne; exact absurd h hne
  · exact sameKeyV_eq h

def FoundOk (σ : Sg) (k : V) (l : List MapEntry) (n i : Nat) : Option (Nat × V) → Option (Nat × Value) → Prop
  | none, none => True
  | some (j, v), some (j', x) => j = j' ∧ RV σ v x ∧ i ≤ j ∧ j < i + n ∧ ∃ en, l[j - i]? = some en ∧ en.val = x ∧ RV σ k en.key
  | _, _ => False

theorem FoundOk.skip {σ : Sg} {k : V} {e : MapEntry} {l : List MapEntry} {n i : Nat} {r : Option (Nat × V)} {r' : Option (Nat × Value)} (h : FoundOk σ k l n (i + 1) r r') : FoundOk σ k (e :: l) (n + 1) i r r' := by
  cases r with
  | none => cases r' <;> simp only [FoundOk] at h ⊢
  | some p => cases r' with
    | none => simp only [FoundOk] at h
    | some q =>
      obtain ⟨j, v⟩ := p
      obtain ⟨j', x⟩ := q
      simp only [FoundOk] at h ⊢
      obtain ⟨m1, m2, m3, m4, en, m5, m6⟩ := h
      exact ⟨m1, m2, by omega, by omega, en, by rw [show j - i = (j - (i + 1)) + 1 by omega]; simpa using m5, m6⟩

theorem findV_now {P : Program} {σ : Sg} {kt : TypeId} {d : TypeDesc} {k : V} {ku : Value} (hd : ∀ fs, d ≠ .struct fs) (hk : RV σ k ku) :
    ∀ {es : List (V × V × Nat)} {l : List MapEntry} {i : Nat} {r : Option (Nat × V)}, findV P kt d k es i = some r → REs σ es l →
      ∃ r', Instr.findNow d ku l i = some r' ∧ FoundOk σ k l es.length i r r'
  | [], l, i, r, h, hr => by
    simp only [REs] at hr; subst hr
    simp only [findV, Option.some.injEq] at h; subst h
    exact ⟨none, rfl, trivial⟩
  | (k', v, b) :: es, l, i, r, h, hr => by
    simp only [REs] at hr
    obtain ⟨x, y, l', rfl, h1, h2, h3⟩ := hr
    have hc : keyCmp P kt d k k' = sameKeyV d k k' := by
      unfold keyCmp
      split
      · exact absurd rfl (hd _)
      · rfl
    simp only [findV, hc] at h
    split at h
    · rename_i hs
      obtain rfl := Option.some.inj h
      have := sameKeyV_sound hs hk h1
      obtain rfl := sameKeyV_eq hs
      exact ⟨some (i, y), by simp [Instr.findNow, this], rfl, h2, Nat.le_refl _, by simp, { key := x, val := y, born := b }, by simp, rfl, h1⟩
    · rename_i hs
      have := sameKeyV_sound hs hk h1
      obtain ⟨r', e, m⟩ := findV_now hd hk h h3
      exact ⟨r', by simp [Instr.findNow, this, e], m.skip⟩
    · cases h

theorem findV_ask {P : Program} {σ : Sg} {kt : TypeId} {fs : Array Field} {k : V} {ku : Value} (hk : RV σ k ku) :
    ∀ {es : List (V × V × Nat)} {l : List MapEntry} {i : Nat} {r : Option (Nat × V)}, findV P kt (.struct fs) k es i = some r → REs σ es l →
      ∃ r', (∀ w, (Instr.findAsking kt ku l i).run P w = .ok r' w) ∧ FoundOk σ k l es.length i r r'
  | [], l, i, r, h, hr => by
    simp only [REs] at hr; subst hr
    simp only [findV, Option.some.injEq] at h; subst h
    exact ⟨none, fun w => by simp [Instr.findAsking], trivial⟩
  | (k', v, b) :: es, l, i, r, h, hr => by
    simp only [REs] at hr
    obtain ⟨x, y, l', rfl, h1, h2, h3⟩ := hr
    simp only [findV] at h
    split at h
    · rename_i hs
      obtain rfl := Option.some.inj h
      obtain rfl := keyCmp_eq hs
      have he : equalV P Op.maxDepth kt k k = some true := by
        simp only [keyCmp] at hs
        split at hs
        · assumption
        · assumption
      have := equalV_sound _ _ _ _ _ _ _ he hk h1
      exact ⟨some (i, y), fun w => by simp [Instr.findAsking, Op.equal, this w], rfl, h2, Nat.le_refl _, by simp, { key := x, val := y, born := b }, by simp, rfl, h1⟩
    · rename_i hs
      have he : equalV P Op.maxDepth kt k k' = some false := by
        simp only [keyCmp] at hs
        split at hs
        · split at hs <;> cases hs
        · assumption
      have := equalV_sound _ _ _ _ _ _ _ he hk h1
      obtain ⟨r', e, m⟩ := findV_ask hk h h3
      exact ⟨r', fun w => by simp [Instr.findAsking, Op.equal, this w, e w], m.skip⟩
    · cases h

theorem findKey_run {P : Program} {σ : Sg} {kt : TypeId} {d : TypeDesc} {k : V} {ku : Value} (hd : P.underlying kt = some d) (hk : RV σ k ku) {es : List (V × V × Nat)} {l : List MapEntry} {r : Option (Nat × V)}
    (h : findV P kt d k es 0 = some r) (hr : REs σ es l) : ∃ r', (∀ w, (Instr.findKey kt ku l).run P w = .ok r' w) ∧ FoundOk σ k l es.length 0 r r' := by
  by_cases hs : ∃ fs, d = .struct fs
  · obtain ⟨fs, rfl⟩ := hs
    obtain ⟨r', e, m⟩ := findV_ask hk h hr
    refine ⟨r', fun w => ?_, m⟩
    simp only [Instr.findKey, Sem.run_bind, run_underlying hd, Result.andThen_ok]
    cases l with
    | nil =>
      have := e w
      simp only [Instr.findAsking] at this
      simpa [Instr.findNow] using this
    | cons x l => simpa [Instr.findNow, Instr.sameNow] using e w
  · obtain ⟨r', e, m⟩ := findV_now (P := P) (kt := kt) (fun fs hf => hs ⟨fs, hf⟩) hk h hr
    exact ⟨r', fun w => by simp only [Instr.findKey, Sem.run_bind, run_underlying hd, Result.andThen_ok, e, Sem.run_pure], m⟩

theorem keyStays {P : Program} {σ : Sg} {k : V} {a b : Value} (h1 : RV σ k a) (h2 : RV σ k b) (w : World) :
    ∃ key w1, (Instr.keyThatStays a b).run P w = .ok key w1 ∧ (w1 = w ∨ w1 = { w with drawn := w.drawn + 1 }) ∧ RV σ k key := by
  unfold Instr.keyThatStays
  split
  · exact ⟨b, w, rfl, .inl rfl, h2⟩
  · simp only [Sem.run_bind, choose, Sem.run, Question.forced]
    refine ⟨_, _, rfl, .inr rfl, ?_⟩
    split
    · exact h2
    · exact h1

/-- keys of which nothing need be asked -/
def plainKey : TypeDesc → Bool
  | .int _ | .string | .bool => true
  | _ => false

theorem run_checkKey {P : Program} {t : TypeId} {d : TypeDesc} (h : P.underlying t = some d) (hd : plainKey d = true) (b : Bool) (v : Value) (w : World) :
    (Instr.checkKey b 10000 t v).run P w = .ok () w := by
  have key : ∀ n, (Instr.checkKey b (n + 1) t v).run P w = .ok () w := by
    intro n
    simp only [Instr.checkKey, Sem.run_bind, run_underlying h, Result.andThen_ok]
    cases d <;> simp [plainKey] at hd <;> rfl
  exact key 9999

def structOk (P : Program) (cs : List V) : List Field → Bool
  | [] => true
  | f :: fs => match partV P f.type cs f.offset, P.underlying f.type with
    | some _, some d => match plainKey d with
      | true => structOk P cs fs
      | false => false
    | _, _ => false

def keyOk (P : Program) (d : TypeDesc) (k : V) : Bool :=
  match plainKey d with
  | true => true
  | false => match d, k with
    | .struct fs, .agg cs => structOk P cs fs.toList
    | _, _ => false

theorem run_checkKeyV {P : Program} {σ : Sg} {t : TypeId} {d : TypeDesc} {kv : V} {v : Value} (h : P.underlying t = some d) (hd : keyOk P d kv = true) (hv : RV σ kv v) (b : Bool) (w : World) :
    (Instr.checkKey b 10000 t v).run P w = .ok () w := by
  unfold keyOk at hd
  split at hd
  · rename_i hp; exact run_checkKey h hp b v w
  · split at hd
    · rename_i fs cs _
      simp only [RV] at hv
      obtain ⟨a, rfl, hr⟩ := hv
      have key : ∀ (n : Nat) (l : List Field), structOk P cs l = true → ∀ w, (forIn l PUnit.unit (fun f _ => do
          if f.name ≠ "_" then Instr.checkKey b (n + 1) f.type (← part f.type a f.offset)
          pure (ForInStep.yield PUnit.unit) : Field → PUnit → Sem (ForInStep PUnit))).run P w = .ok PUnit.unit w := by
        intro n l
        induction l with
        | nil => intro _ w; simp
        | cons f l ih =>
          intro hl w
          simp only [structOk] at hl
          split at hl
          · rename_i pv pd hpv hpd
            split at hl
            · rename_i hpk
              obtain ⟨z, ez, _⟩ := partV_sound hpv hr
              have hck : ∀ w, (Instr.checkKey b (n + 1) f.type z).run P w = .ok () w := by
                intro w
                simp only [Instr.checkKey, Sem.run_bind, run_underlying hpd, Result.andThen_ok]
                cases pd <;> simp [plainKey] at hpk <;> rfl
              have ih := ih hl w
              rw [List.forIn_cons]
              by_cases hn : f.name = "_"
              · simpa [hn] using ih
              · simpa [hn, ez w, hck w] using ih
            · cases hl
          · cases hl
      have all : ∀ n, (Instr.checkKey b (n + 2) t (.agg a)).run P w = .ok () w := by
        intro n
        have := key n fs.toList hd w
        rw [Array.forIn_toList] at this
        rw [Instr.checkKey]
        simp only [Sem.run_bind, run_underlying h, Result.andThen_ok]
        simp only [this, Result.andThen_ok, Sem.run_pure]
      exact all 9998
    · cases hd

theorem run_findKey {P : Program} {t : TypeId} {d : TypeDesc} (h : P.underlying t = some d) {v : Value} {es : List MapEntry} {r : Option (Nat × Value)}
    (hf : Instr.findNow d v es 0 = some r) (w : World) : (Instr.findKey t v es).run P w = .ok r w := by
  simp only [Instr.findKey, Sem.run_bind, run_underlying h, Result.andThen_ok, hf, Sem.run_pure]

def lookupV (P : Program) (st : St) (t : TypeId) (x k : Option V) (ok : Bool) : Option V :=
  match P.underlying t with
  | some (.map kt et) => match P.underlying kt, k with
    | some d, some kv => match keyOk P d kv with
      | true => match (match x with
          | some .nilmap => some []
          | some (.map i) => match st.mem.get i with
            | some (.map es _) => some es
            | _ => none
          | _ => none : Option (List (V × V × Nat))) with
        | some es => match findV P kt d kv es 0 with
          | some (some (_, v)) => some (match ok with | true => .tuple [v, .bool true] | false => v)
          | some none => match zeroV P et with
            | some z => some (match ok with | true => .tuple [z, .bool false] | false => z)
            | none => none
          | none => none
        | none => none
      | false => none
    | _, _ => none
  | _ => none

theorem lookupV_sound {P : Program} {W0 : World} {σ : Sg} {st : St} {w : World} {t : TypeId} {x k : Option V} {u y : Value} {ok : Bool} {v : V} (hR : Rel W0 σ st w)
    (h : lookupV P st t x k ok = some v) (hx : ∀ a, x = some a → RV σ a u) (hk : ∀ a, k = some a → RV σ a y) :
    ∃ z, (Instr.lookup t u y ok).run P w = .ok z w ∧ RV σ v z := by
  unfold lookupV at h
  split at h
  · rename_i kt et ht
    split at h
    · rename_i d kv hd
      have hkv := hk _ rfl
      split at h
      · rename_i hp
        split at h
        · rename_i es hes
          have key : ∃ es' : Array MapEntry, REs σ es es'.toList ∧ ((u = .map none ∧ es' = #[]) ∨ ∃ r clock, u = .map (some r) ∧ w.heap[r]? = some (.map es' clock)) := by
            split at hes
            · obtain rfl := Option.some.inj hes
              have hu := hx _ rfl; simp only [RV] at hu; subst hu
              exact ⟨#[], by simp [REs], .inl ⟨rfl, rfl⟩⟩
            · rename_i i
              split at hes
              · rename_i es0 clock hg
                obtain rfl := Option.some.inj hes
                have hu := hx _ rfl; simp only [RV] at hu; obtain ⟨p, hp', rfl⟩ := hu
                have ho := hR.obj i p _ hp' hg
                simp only [ObjOk] at ho
                obtain ⟨es', h1, h2, _⟩ := ho
                exact ⟨es', h2, .inr ⟨_, _, rfl, h1⟩⟩
              · cases hes
            · cases hes
          obtain ⟨es', hre, hcase⟩ := key
          clear hx
          have hstep : ∀ r', (∀ w, (Instr.findKey kt y es'.toList).run P w = .ok r' w) → (Instr.lookup t u y ok).run P w =
              ((match r' with
                | some (_, v) => pure (v, true)
                | none => do pure (← zeroValue et, false) : Sem (Value × Bool)).run P w).andThen fun p w' => .ok (if ok then .tuple #[p.1, .bool p.2] else p.1) w' := by
            intro r' hf
            rcases hcase with ⟨rfl, rfl⟩ | ⟨r, clock, rfl, hh⟩
            · simp only [Instr.lookup, Sem.run_bind, run_underlying ht, Result.andThen_ok, Sem.run_pure, run_checkKeyV hd hp hkv, hf]
              cases r' <;> simp [Result.andThen] <;> (cases Sem.run P (zeroValue et) w <;> rfl)
            · have hg : (getObj r).run P w = .ok (.map es' clock) w := by simp [getObj, Sem.run, hh]
              simp only [Instr.lookup, Sem.run_bind, run_underlying ht, Result.andThen_ok, Sem.run_pure, hg, run_checkKeyV hd hp hkv, hf]
              cases r' <;> simp [Result.andThen] <;> (cases Sem.run P (zeroValue et) w <;> rfl)
          split at h
          · rename_i j v' hf
            obtain rfl := Option.some.inj h
            obtain ⟨r', e, m⟩ := findKey_run hd hkv hf hre
            cases r' with
            | none => simp only [FoundOk] at m
            | some q =>
              obtain ⟨j', x'⟩ := q
              simp only [FoundOk] at m
              rw [hstep _ e]
              cases ok with
              | true => exact ⟨.tuple #[x', .bool true], rfl, RV.pair m.2.1 (by simp only [RV])⟩
              | false => exact ⟨x', rfl, m.2.1⟩
          · rename_i hf
            obtain ⟨r', e, m⟩ := findKey_run hd hkv hf hre
            cases r' with
            | some q => simp only [FoundOk] at m
            | none =>
              split at h
              · rename_i z hz
                obtain rfl := Option.some.inj h
                obtain ⟨z', ez, rz⟩ := zeroV_sound (σ := σ) hz
                rw [hstep _ e]
                cases ok with
                | true => exact ⟨.tuple #[z', .bool false], by simp [ez], RV.pair rz (by simp only [RV])⟩
                | false => exact ⟨z', by simp [ez], rz⟩
              · cases h
          · cases h
        · cases h
      · cases h
    · cases h
  · cases h

def mapLenV (P : Program) (st : St) (t : TypeId) (x : Option V) : Option V :=
  match P.underlying t, x with
  | some (.map _ _), some (.map i) => match st.mem.get i with
    | some (.map es _) => some (.int .i64 (.ofNat es.length))
    | _ => none
  | _, _ => none

theorem REs.length {σ : Sg} : ∀ {es : List (V × V × Nat)} {l : List MapEntry}, REs σ es l → l.length = es.length
  | [], l, h => by simp only [REs] at h; simp [h]
  | (_, _, _) :: es, l, h => by simp only [REs] at h; obtain ⟨_, _, r, rfl, _, _, h3⟩ := h; simp [REs.length h3]

/-! ### what only reads -/
/-- a slice beyond its length, within the room that its row is known to have -/
def sliceL (P : Program) (st : St) (ρ : Rho) (t : TypeId) (x : Operand) (lo hi mx : Option Operand) : Option V :=
  match mx, hi, P.underlying t with
  | none, some hx, some (.slice e) => match P.info? e, ρ x with
    | some inf, some (.slice i o n (.opn sz)) => match st.mem.get i, Nat.beq sz inf.size with
      | some (.row nr _ _ _ _), true => match bnds ρ lo (some hx) none n ((nr - o) / sz) ((nr - o) / sz) with
        | some (l, h, _) => match Nat.ble l h, Nat.ble 1 h with
          | true, true => some (.slice i (o + l * sz) (h - l) (.opn sz))
          | _, _ => none
        | none => none
      | _, _ => none
    | _, _ => none
  | _, _, _ => none

theorem sliceL_sound {P : Program} {W0 : World} {σ : Sg} {st : St} {w : World} {ρ : Rho} {ρ' : Operand → Value} {t : TypeId} {x : Operand} {lo hi mx : Option Operand} {v : V} (hR : Rel W0 σ st w)
    (h : sliceL P st ρ t x lo hi mx = some v) (hx : ∀ u, ρ x = some u → RV σ u (ρ' x)) (hr : ∀ y, (lo = some y ∨ hi = some y ∨ mx = some y) → ∀ u, ρ y = some u → RV σ u (ρ' y)) :
    ∃ z, (∀ w, (Instr.sliceAt t (ρ' x) (lo.map ρ') (hi.map ρ') (mx.map ρ')).run P w = .ok z w) ∧ RV σ v z := by
  unfold sliceL at h
  split at h
  · rename_i hiv e ht
    split at h
    · rename_i inf i o n sz hinf hs
      have hsz : ∀ w, (sizeOf e).run P w = .ok inf.size w := fun w => by simp [sizeOf, typeInfo, hinf]
      split at h
      · rename_i nr cl op ti pe hg hse
        obtain rfl := Nat.eq_of_beq_eq_true hse
        split at h
        · rename_i l hh m hb
          split at h <;> cases h
          rename_i hle hh1
          have hle := Nat.le_of_ble_eq_true hle
          have hh1 := Nat.le_of_ble_eq_true hh1
          have hxr := hx _ hs
          simp only [RV] at hxr
          obtain ⟨h0, p, a, c, hp, e', hnc, htot, hd⟩ := hxr
          have hob := hR.obj i p _ hp hg
          simp only [ObjOk] at hob
          obtain ⟨_, _, _, _, _, hnr, _⟩ := hob
          have hk : (nr - o) / inf.size ≤ c := by
            rw [Nat.div_le_iff_le_mul_add_pred h0]
            have : inf.size * c = c * inf.size := Nat.mul_comm _ _
            omega
          have hrun := fun w => (bnds_sound (P := P) (capr := c) true hb hk (fun _ => .inr trivial) (fun y hy => hr y (by rcases hy with hy | hy | hy <;> simp_all)) w).1
          have hbb := (bnds_sound (P := P) (capr := c) true hb hk (fun _ => .inr trivial) (fun y hy => hr y (by rcases hy with hy | hy | hy <;> simp_all)) default).2
          have hhc : hh ≤ (nr - o) / inf.size := hbb.2.1 (by simp) rfl
          have ha : a = ⟨p.blk, p.base + o, none⟩ := by rcases hd with rfl | ⟨_, h1⟩ <;> first | rfl | omega
          subst ha
          rw [e']
          simp only [if_true, Option.map_none, Option.map_some] at hrun
          by_cases ec : c = l
          · subst ec
            refine ⟨.slice (some ⟨p.blk, p.base + o, none⟩) (hh - c) (c - c), fun w => ?_, ?_⟩
            · simp [Instr.sliceAt, Instr.slice, run_underlying ht, hrun, hsz]
            · simp only [RV]
              exact ⟨h0, p, _, c - c, hp, rfl, by omega, by simp; omega, .inr ⟨by omega, by omega⟩⟩
          · refine ⟨.slice (some ((⟨p.blk, p.base + o, none⟩ : Addr).add (l * inf.size))) (hh - l) (c - l), fun w => ?_, ?_⟩
            · simp [Instr.sliceAt, Instr.slice, run_underlying ht, hrun, hsz, ec]
            · simp only [RV]
              have : c * inf.size = l * inf.size + (c - l) * inf.size := by rw [← Nat.add_mul]; congr 1; omega
              exact ⟨h0, p, _, c - l, hp, rfl, by omega, by omega, .inl (by rw [addr_add, Nat.add_assoc])⟩
        · cases h
      · cases h
    · cases h
  · cases h

def evalL (P : Program) (st : St) (ρ : Rho) (o : Oper) : Option V :=
  match o.op with
  | .load t a => loadV P st t (ρ a)
  | .convert s d x => toStrV P st s d (ρ x)
  | .lookup t x k ok => lookupV P st t (ρ x) (ρ k) ok
  | .slice t x lo hi mx => sliceL P st ρ t x lo hi mx
  | .call c => match c.callee with
    | .builtin .len => match c.args.toList, c.argTypes[0]? with
      | [x], some t => mapLenV P st t (ρ x)
      | _, _ => none
    | _ => none
  | _ => none

theorem evalL_sound {P : Program} {W0 : World} {σ : Sg} {st : St} {w : World} {ρ : Rho} {ρ' : Operand → Value} {o : Oper} {v : V} (hR : Rel W0 σ st w) (h : evalL P st ρ o = some v)
    (hr : ∀ x ∈ o.op.operands, ∀ u, ρ x = some u → RV σ u (ρ' x)) :
    ∃ z, (execOp ρ' o).run P w = .ok (.value z) w ∧ RV σ v z := by
  unfold evalL at h
  unfold execOp
  split at h
  case h_6 => cases h
  all_goals (rename_i hop; simp only [hop]; rw [hop] at hr; simp only [Op.operands] at hr)
  case h_1 t a =>
    obtain ⟨z, e, r⟩ := loadV_sound (u := ρ' a) hR h (hr a (by simp))
    exact ⟨z, run_v e, r⟩
  case h_2 s d x =>
    obtain ⟨z, e, r⟩ := toStrV_sound (u := ρ' x) hR h (hr x (by simp))
    exact ⟨z, run_v e, r⟩
  case h_3 t x k ok =>
    obtain ⟨z, e, r⟩ := lookupV_sound (u := ρ' x) (y := ρ' k) hR h (hr x (by simp)) (hr k (by simp))
    exact ⟨z, run_v e, r⟩
  case h_4 t x lo hi mx =>
    obtain ⟨z, e, r⟩ := sliceL_sound (ρ' := ρ') hR h (hr x (by simp)) (by
      rintro y (rfl | rfl | rfl) <;> exact hr y (by simp))
    exact ⟨z, run_v (e w), r⟩
  case h_5 c =>
    split at h
    · rename_i hc
      split at h
      · rename_i x t ha ht0
        have ha := toList_eq_one ha
        unfold mapLenV at h
        split at h
        · rename_i kt et i ht hx
          split at h
          · rename_i es clock hg
            obtain rfl := Option.some.inj h
            have hu := hr x (by simp [Call.operands, hc, ha]) _ hx
            simp only [RV] at hu
            obtain ⟨p, hp, hu⟩ := hu
            have ho := hR.obj i p _ hp hg
            simp only [ObjOk] at ho
            obtain ⟨es', h1, h2, _⟩ := ho
            have hl : es'.size = es.length := by have := h2.length; simpa using this
            refine ⟨.int .i64 es.length, ?_, by simp only [RV]; rfl⟩
            simp [resolve, hc, ha, invoke, builtin, Builtin.len_, ht0, hu, run_underlying ht, getObj, Sem.run, h1, goInt, hl]
          · cases h
        · cases h
      · cases h
    · cases h
end Go.Proofs.YthnldpbkjegfaaaDoor.Sv

namespace Go.Proofs.YthnldpbkjegfaaaDoor.Sv
open Go Go.RowKit

/-! ### operations that make a block and do nothing else -/
def rowV (vs : List V) : Option O :=
  match vs.all V.isFlat with
  | true => some (.row vs.length (Tri.ofList vs 0 .nil) false true [])
  | false => none

theorem rowV_place {W0 : World} {σ : Sg} {st : St} {w : World} (hR : Rel W0 σ st w) {x : Nat} (hx : x < st.next) (hs : σ x = none) {vs : List V} {ob : O} {cs : Array Value}
    (ho : rowV vs = some ob) (hg : st.mem.get x = some ob) (hr : RVs σ vs cs.toList) (e : TypeId) :
    Rel W0 (σ.put x ⟨w.heap.size, 0, cs.size⟩) st { w with heap := w.heap.push (.cells cs e (0, 0)) } := by
  unfold rowV at ho
  split at ho <;> cases ho
  rename_i hfl
  have hl : cs.size = vs.length := by have := hr.length; simpa using this
  refine hR.place hx hs hg ?_
  simp only [ObjOk]
  refine ⟨cs, e, (0, 0), heap_push_eq _ _, by simp, by omega, fun _ => hl.symm, fun k v hk => ?_, .inl rfl, by simp⟩
  rw [Tri.get_ofList] at hk
  split at hk
  · rename_i hin
    simp only [Nat.sub_zero] at hk
    obtain ⟨y, hy, hry⟩ := hr.get hk
    refine ⟨by omega, List.all_eq_true.1 hfl _ (List.mem_of_getElem? hk), y, by rw [← Array.getElem?_toList]; simpa using hy, RV.mono (Sg.le_put hs) _ _ hry⟩
  · simp at hk

def zerosV (zs : List V) (n : Nat) : List V := (List.range n).map fun i => zs.getD (i % zs.length) (.tuple [])

theorem zerosV_sound {σ : Sg} {zs : List V} {z : Array Value} (h : RVs σ zs z.toList) (n : Nat) (h0 : n = 0 ∨ 0 < zs.length) :
    RVs σ (zerosV zs n) ((Array.range n).map (z[· % z.size]!)).toList := by
  have hl : z.size = zs.length := by have := h.length; simpa using this
  refine RVs.of_get (by simp [zerosV]) fun k v x hv hx => ?_
  simp only [zerosV, List.getElem?_map] at hv
  have hk : k < n := by
    by_cases hk : k < n
    · exact hk
    · rw [List.getElem?_eq_none (by simp; omega)] at hv; cases hv
  have hp : 0 < zs.length := by omega
  rw [List.getElem?_range hk] at hv
  simp only [Option.map_some, Option.some.injEq] at hv
  have hm : k % zs.length < zs.length := Nat.mod_lt _ hp
  rw [List.getD_eq_getElem?_getD, List.getElem?_eq_getElem hm, Option.getD_some] at hv
  obtain ⟨y, hy, hr⟩ := h.get (List.getElem?_eq_getElem hm)
  simp only [Array.getElem?_toList, Array.getElem?_map] at hx
  rw [Array.getElem?_range, if_pos hk] at hx
  simp only [Option.map_some, Option.some.injEq] at hx
  rw [hl] at hx
  have hy' : z[k % zs.length]? = some y := by rw [← Array.getElem?_toList]; exact hy
  rw [getElem!_def, hy'] at hx
  simp only at hx
  subst hx hv
  exact hr

/-- numbers that are all the same -/
def sameI : V → V → Bool
  | .int j a, .int k b => decide (j = k) && eqI a b
  | _, _ => false
def allSame (z : V) : List V → Bool
  | [] => true
  | x :: l => match sameI z x with
    | true => allSame z l
    | false => false
theorem allSame_get {z : V} : ∀ {l : List V}, allSame z l = true → ∀ x ∈ l, x = z
  | [], _, x, hx => by cases hx
  | y :: l, h, x, hx => by
    simp only [allSame] at h
    split at h
    · rename_i hy
      rcases List.mem_cons.1 hx with rfl | hx
      · unfold sameI at hy
        split at hy
        · simp only [Bool.and_eq_true, decide_eq_true_eq] at hy
          obtain ⟨rfl, h2⟩ := hy
          rw [eqI_eq] at h2
          have := beq_iff_eq.1 h2
          subst this; rfl
        · cases hy
      · exact allSame_get h x hx
    · cases h

def rowZ (zs : List V) (n : Nat) : Option O :=
  match zs with
  | z :: rest => match z.isFlat, allSame z rest, Nat.ble n 1099511627776 with
    | true, true, true => some (.row n (Tri.full z 64 n) false true [])
    | _, _, _ => rowV (zerosV (z :: rest) n)
  | [] => rowV (zerosV [] n)

theorem rowZ_place {W0 : World} {σ : Sg} {st : St} {w : World} (hR : Rel W0 σ st w) {x : Nat} (hx : x < st.next) (hs : σ x = none) {zs : List V} {n : Nat} {ob : O} {cs : Array Value}
    (ho : rowZ zs n = some ob) (hg : st.mem.get x = some ob) (hr : RVs σ (zerosV zs n) cs.toList) (e : TypeId) :
    Rel W0 (σ.put x ⟨w.heap.size, 0, cs.size⟩) st { w with heap := w.heap.push (.cells cs e (0, 0)) } := by
  unfold rowZ at ho
  split at ho
  · rename_i z rest
    split at ho
    · rename_i hf ha hn
      cases ho
      have hn := Nat.le_of_ble_eq_true hn
      have hl : cs.size = n := by have := hr.length; simpa [zerosV] using this
      have hz : ∀ k, k < n → (zerosV (z :: rest) n)[k]? = some z := by
        intro k hk
        unfold zerosV
        rw [List.getElem?_map, List.getElem?_range hk]
        simp only [Option.map_some, Option.some.injEq]
        have hm : k % (z :: rest).length < (z :: rest).length := Nat.mod_lt _ (by simp)
        rw [List.getD_eq_getElem?_getD, List.getElem?_eq_getElem hm, Option.getD_some]
        have : ∀ y ∈ z :: rest, y = z := fun y hy => by
          rcases List.mem_cons.1 hy with rfl | hy
          · rfl
          · exact allSame_get ha y hy
        exact this _ (List.getElem_mem _)
      refine hR.place hx hs hg ?_
      simp only [ObjOk]
      refine ⟨cs, e, (0, 0), heap_push_eq _ _, by simp, by omega, fun _ => hl.symm, fun k v hk => ?_, .inl rfl, by simp⟩
      rw [Tri.full_get z 64 n k (by omega)] at hk
      split at hk
      · rename_i hkn
        obtain rfl := Option.some.inj hk
        obtain ⟨y, hy, hry⟩ := hr.get (hz k hkn)
        exact ⟨hkn, hf, y, by rw [← Array.getElem?_toList]; simpa using hy, RV.mono (Sg.le_put hs) _ _ hry⟩
      · cases hk
    · exact rowV_place hR hx hs ho hg hr e
  · exact rowV_place hR hx hs ho hg hr e

def bytes2V (ns : List Nat) : List V := ns.map fun n => .int .u8 (.ofNat n)

theorem bytes2V_sound {σ : Sg} (s : ByteArray) : RVs σ (bytes2V (bs s)) (s.data.map fun b => Value.int .u8 b.toNat).toList := by
  unfold bytes2V bs
  rw [Array.toList_map, List.map_map]
  generalize s.data.toList = l
  induction l with
  | nil => simp [RVs]
  | cons b l ih => simp only [List.map_cons, RVs]; exact ⟨_, _, rfl, by show RV σ (V.int .u8 (Int.ofNat b.toNat)) _; simp only [RV]; rfl, ih⟩

theorem modify_push {α : Type} (a : Array α) (x : α) (f : α → α) : (a.push x).modify a.size f = a.push (f x) := by
  apply Array.ext
  · simp
  · intro i h1 h2
    simp only [Array.getElem_modify, Array.getElem_push]
    have hi : i < a.size + 1 := by simpa using h1
    by_cases h : i < a.size
    · simp [h, Nat.ne_of_gt h]
    · have : a.size = i := by omega
      simp [this]

def evalA (P : Program) (ρ : Rho) (o : Oper) : Option (O × (Nat → V)) :=
  match o.op with
  | .alloc e => match zeroV P e with
    | some z => match rowV z.cells with
      | some ob => some (ob, fun x => .ptr x 0)
      | none => none
    | none => none
  | .box _ v => match ρ v with
    | some v => match rowV v.cells with
      | some ob => some (ob, fun x => .ptr x 0)
      | none => none
    | none => none
  | .buildSlice t len parts => match P.underlying t with
    | some (.slice e) => match P.info? e, zeroV P e with
      | some inf, some z => match Nat.ble (len * inf.size) 16777216, Nat.beq z.cells.length inf.size, Nat.beq inf.size 0 with
        | true, true, false => match fillV (fun i => some (i * inf.size, inf.size)) (zerosV z.cells (len * inf.size)) (parts.toList.map fun p => (p.1, ρ p.2)) with
          | some vs => match rowV vs with
            | some ob => some (ob, fun x => .slice x 0 len (.known len))
            | none => none
          | none => none
        | _, _, _ => none
      | _, _ => none
    | _ => none
  | .makeSlice t l c => match P.underlying t with
    | some (.slice e) => match P.info? e, zeroV P e, ρ l, ρ c with
      | some inf, some z, some (.int _ (.ofNat l)), some (.int _ (.ofNat c)) => match Nat.ble l c, Nat.ble c 1099511627776, Nat.ble (inf.bytes * c) 281474976710656, Nat.beq z.cells.length inf.size, Nat.beq inf.size 0 with
        | true, true, true, true, false => match rowZ z.cells (c * inf.size) with
          | some ob => some (ob, fun x => .slice x 0 l (.known c))
          | none => none
        | _, _, _, _, _ => none
      | _, _, _, _ => none
    | _ => none
  | .makeMap t r => match r with
    | none => some (.map [] 0, fun x => .map x)
    | some h => match P.underlying t, ρ h with
      | some (.map _ _), some (.int _ _) => some (.map [] 0, fun x => .map x)
      | _, _ => none
  | .convert s d x => match P.underlying s, P.underlying d, ρ x with
    | some _, some (.slice e), some (.str ns) => match P.underlying e, P.info? e with
      | some (.int .u8), some inf => match Nat.beq inf.size 1 with
        | true => some (.row ns.length (Tri.ofList (bytes2V ns) 0 .nil) true true [], fun x => .slice x 0 ns.length (.opn 1))
        | false => none
      | _, _ => none
    | _, _, _ => none
  | _ => none

theorem put_le {σ : Sg} {x : Nat} {p : Pl} (hs : σ x = none) {v : V} {z : Value} (h : RV σ v z) : RV (σ.put x p) v z := RV.mono (Sg.le_put hs) _ _ h

set_option maxHeartbeats 2000000 in
theorem evalA_sound {P : Program} {W0 : World} {σ : Sg} {st : St} {w : World} {ρ : Rho} {ρ' : Operand → Value} {o : Oper} {ob : O} {mk : Nat → V} {x : Nat} (hR : Rel W0 σ st w)
    (h : evalA P ρ o = some (ob, mk)) (hr : ∀ x ∈ o.op.operands, ∀ u, ρ x = some u → RV σ u (ρ' x))
    (hx : x < st.next) (hs : σ x = none) (hg : st.mem.get x = some ob) :
    ∃ z w' p, (execOp ρ' o).run P w = .ok (.value z) w' ∧ Rel W0 (σ.put x p) st w' ∧ RV (σ.put x p) (mk x) z := by
  unfold evalA at h
  unfold execOp
  split at h
  case h_7 => cases h
  all_goals (rename_i hop; simp only [hop]; rw [hop] at hr; simp only [Op.operands] at hr)
  case h_1 e =>
    split at h
    · rename_i z hz
      split at h <;> cases h
      rename_i hrow
      obtain ⟨z', ez, rz⟩ := zeroV_sound (σ := σ) hz
      refine ⟨.pointer (some ⟨w.heap.size, 0, none⟩), { w with heap := w.heap.push (.cells z'.cells e (0, 0)) }, _, run_v ?_, rowV_place hR hx hs hrow hg rz.cells e, ?_⟩
      · simp only [Instr.alloc, Sem.run_bind, ez, Result.andThen_ok]; rfl
      · simp only [RV]; exact ⟨_, Sg.put_same _ _ _, by simp⟩
    · cases h
  case h_2 e v =>
    split at h
    · rename_i v' hv
      split at h <;> cases h
      rename_i hrow
      have rz := hr v (by simp) _ hv
      refine ⟨.pointer (some ⟨w.heap.size, 0, none⟩), { w with heap := w.heap.push (.cells (ρ' v).cells e (0, 0)) }, _, run_v ?_, rowV_place hR hx hs hrow hg rz.cells e, ?_⟩
      · rfl
      · simp only [RV]; exact ⟨_, Sg.put_same _ _ _, by simp⟩
    · cases h
  case h_3 t len parts =>
    split at h
    · rename_i e ht
      split at h
      · rename_i inf z hi hz
        split at h
        · rename_i h1 h2 h3
          have h1 := Nat.le_of_ble_eq_true h1
          have h2 := Nat.eq_of_beq_eq_true h2
          have h3 := Nat.ne_of_beq_eq_false h3
          split at h
          · rename_i vs hf
            split at h <;> cases h
            rename_i hrow
            obtain ⟨z', ez, rz⟩ := zeroV_sound (σ := σ) hz
            have hzs := zerosV_sound (σ := σ) rz.cells (len * inf.size) (.inr (by omega))
            obtain ⟨b, hb, hrb⟩ := fillV_sound parts.toList _ _ _ hf hzs (fun p hp => hr p.2 (by simp; exact ⟨p.1, by simpa using hp⟩))
            have hzl : z'.cells.size = inf.size := by have := rz.cells.length; simp at this; omega
            have hbs : b.size = len * inf.size := by
              have e1 := hrb.length
              have : vs.length = len * inf.size := by
                have key : ∀ (ps : List (Nat × Option V)) (cells vs : List V), fillV (fun i => some (i * inf.size, inf.size)) cells ps = some vs → vs.length = cells.length := by
                  intro ps
                  induction ps with
                  | nil => intro cells vs h; simp [fillV] at h; subst h; rfl
                  | cons p ps ih =>
                    intro cells vs h
                    simp only [fillV] at h
                    split at h
                    · split at h
                      · rename_i g1 g2
                        have g2 := Nat.le_of_ble_eq_true g2
                        rw [ih _ _ h]; simp; omega
                      · cases h
                    · cases h
                rw [key _ _ _ hf]; simp [zerosV]
              simp at e1; omega
            refine ⟨.slice (some ⟨w.heap.size, 0, none⟩) len len, { w with heap := w.heap.push (.cells b e (0, 0)) }, _, run_v ?_, rowV_place hR hx hs hrow hg hrb e, ?_⟩
            · have hparts : (parts.map fun x => match x with | (i, x) => (i, ρ' x)).toList = (parts.toList.map fun p => (p.1, ρ' p.2)) := by simp
              have hle : ¬ (len * inf.size > 16777216) := by omega
              simp only [Instr.buildSlice, Sem.run_bind, run_underlying ht, Result.andThen_ok, sizeOf, typeInfo, run_program, hi, Sem.run_pure]
              rw [hparts]
              by_cases h0 : len * inf.size = 0
              · have e0 : ∀ f : Nat → Value, (Array.range 0).map f = #[] := fun _ => by rw [Array.range_zero']; simp
                simp only [h0, e0] at hb
                simp [h0, e0, hb, newRow]
              · simp [h0, hle, ez, hb, newRow]
            · simp only [RV]; exact ⟨_, Sg.put_same _ _ _, by simp⟩
          · cases h
        · cases h
      · cases h
    · cases h
  case h_4 t l c =>
    split at h
    · rename_i e ht
      split at h
      · rename_i inf z kl ln kc cn hi hz hl hc
        split at h
        · rename_i h1 h2 h3 h4 h5
          have h1 := Nat.le_of_ble_eq_true h1
          have h2 := Nat.le_of_ble_eq_true h2
          have h3 := Nat.le_of_ble_eq_true h3
          have h4 := Nat.eq_of_beq_eq_true h4
          have h5 := Nat.ne_of_beq_eq_false h5
          split at h <;> cases h
          rename_i hrow
          have el := hr l (by simp) _ hl
          have ec := hr c (by simp) _ hc
          simp only [RV] at el ec
          obtain ⟨z', ez, rz⟩ := zeroV_sound (σ := σ) hz
          have hzs := zerosV_sound (σ := σ) rz.cells (cn * inf.size) (.inr (by omega))
          refine ⟨.slice (some ⟨w.heap.size, 0, none⟩) ln cn, { w with heap := w.heap.push (.cells ((Array.range (cn * inf.size)).map (z'.cells[· % z'.cells.size]!)) e (0, 0)) }, _, run_v ?_, rowZ_place hR hx hs hrow hg hzs e, ?_⟩
          · have en : ∀ m : Nat, Int.ofNat m = (m : Int) := fun _ => rfl
            have w1 : IntKind.i64.wrap (ln : Int) = ln := IntWalk.i64_in _ (by omega)
            have w2 : IntKind.i64.wrap (cn : Int) = cn := IntWalk.i64_in _ (by omega)
            have b0 : ((inf.bytes : Int) * cn) ≤ 281474976710656 := by
              have := Int.ofNat_le.2 h3; simpa using this
            have t1 : ¬ ((cn : Int) < 0) := by omega
            have t2 : ¬ ((inf.bytes : Int) * cn > 281474976710656) := by omega
            have t3 : ¬ ((ln : Int) < 0) := by omega
            have t4 : ¬ ((ln : Int) > cn) := by omega
            have hn0 : cn * inf.size = 0 → cn = 0 := fun h => by
              rcases Nat.mul_eq_zero.1 h with h | h
              · exact h
              · exact absurd h h5
            simp [Instr.makeSlice, run_underlying ht, el, ec, asInt, asIntOf, en, typeInfo, hi, w1, w2, sizeOf, t1, t2, t3, t4, ez, newRow]
            intro h; rw [h, Array.range_zero']; simp
          · simp only [RV]; exact ⟨_, Sg.put_same _ _ _, by simp⟩
        · cases h
      · cases h
    · cases h
  case h_5 t r =>
    have fin : (mk = fun x => V.map x) ∧ ob = .map [] 0 ∧ (∀ w, (Instr.makeMap t (r.map ρ')).run P w = .ok (.map (some w.heap.size)) { w with heap := w.heap.push (.map #[] 0) }) := by
      split at h
      · cases h; exact ⟨rfl, rfl, fun w => rfl⟩
      · rename_i hh
        split at h <;> cases h
        rename_i k v ht hv
        have e := hr hh (by simp) _ hv
        simp only [RV] at e
        exact ⟨rfl, rfl, fun w => by simp [Instr.makeMap, run_underlying ht, e, asInt, asIntOf]⟩
    obtain ⟨rfl, rfl, hrun⟩ := fin
    refine ⟨.map (some w.heap.size), { w with heap := w.heap.push (.map #[] 0) }, ⟨w.heap.size, 0, 0⟩, run_v (hrun w), hR.place (tot := 0) hx hs hg ?_, ?_⟩
    · simp only [ObjOk]; exact ⟨#[], heap_push_eq _ _, by simp [REs], trivial⟩
    · simp only [RV]; exact ⟨_, Sg.put_same _ _ _, rfl⟩
  case h_6 s d y =>
    split at h
    · rename_i sd e ns hsd hdd hy
      split at h
      · rename_i inf he hi
        split at h <;> cases h
        rename_i hsz
        have eu := hr y (by simp) _ hy
        simp only [RV] at eu
        obtain ⟨s', eu, rfl⟩ := eu
        obtain ⟨cap, hcap⟩ : ∃ cap, cap = (Question.appendCap s'.size 0 e).cut (w.tape w.drawn (.appendCap s'.size 0 e)) := ⟨_, rfl⟩
        have hle : s'.size ≤ cap := by rw [hcap]; simp [Question.cut]
        obtain ⟨cs, hcs⟩ : ∃ cs, cs = (s'.data.map fun b => Value.int .u8 b.toNat) ++ Array.replicate (cap - s'.size) (Value.int .u8 0) := ⟨_, rfl⟩
        have hcl : cs.size = cap := by rw [hcs]; simp; have : s'.data.size = s'.size := rfl; omega
        refine ⟨.slice (some ⟨w.heap.size, 0, none⟩) s'.size cap, { w with drawn := w.drawn + 1, heap := w.heap.push (.cells cs e (cap, cap + 1)) }, ⟨w.heap.size, 0, cap⟩, run_v ?_, ?_, ?_⟩
        · rw [eu]
          have hshape : ({ w with drawn := w.drawn + 1, heap := w.heap.push (.cells cs e (0, 0)) } : World).shape? w.heap.size = some (e, cs.size) := by
            simp [World.shape?]
          have hfr : (({ w with drawn := w.drawn + 1, heap := w.heap.push (.cells cs e (0, 0)) } : World).freeze { block := w.heap.size, off := cs.size } 1) = { w with drawn := w.drawn + 1, heap := w.heap.push (.cells cs e (cap, cap + 1)) } := by
            simp only [World.freeze]
            rw [if_neg (by simp), modify_push]
            simp [hcl]
          have hfinal : (do markStringish ⟨w.heap.size, 0, none⟩; pure (Value.slice (some ⟨w.heap.size, 0, none⟩) s'.size cap) : Sem Value).run P { w with drawn := w.drawn + 1, heap := w.heap.push (.cells cs e (0, 0)) } =
              .ok (.slice (some ⟨w.heap.size, 0, none⟩) s'.size cap) { w with drawn := w.drawn + 1, heap := w.heap.push (.cells cs e (cap, cap + 1)) } := by
            simp only [markStringish, Sem.run_bind, run_shape, Result.andThen_ok, hshape, run_freeze, Sem.run_pure]
            rw [hfr]
          have hq : (Question.appendCap s'.size 0 e).cut (w.tape w.drawn (.appendCap s'.size 0 e)) = cap := hcap.symm
          simp only [convert, Sem.run_bind, run_underlying hsd, run_underlying hdd, run_underlying he, Result.andThen_ok, Conv.stringToBytes, run_choose, Question.forced, Bool.false_eq_true, if_false, hq, ← hcs, newRow, run_newObj, Sem.run_pure]
          simp only [Sem.run_bind, Sem.run_pure] at hfinal
          exact hfinal
        · have hR' : Rel W0 σ st { w with drawn := w.drawn + 1 } := hR.drew _
          refine hR'.place (w := { w with drawn := w.drawn + 1 }) hx hs hg ?_
          simp only [ObjOk]
          refine ⟨cs, e, (cap, cap + 1), heap_push_eq _ _, by simp [hcl], by rw [bs_length]; exact hle, by simp, fun k v hk => ?_, .inr (by simp [hcl]), by simp⟩
          rw [Tri.get_ofList] at hk
          split at hk
          · rename_i hin
            simp only [Nat.sub_zero] at hk
            have hb := bytes2V_sound (σ := σ) s'
            obtain ⟨z, hz, hrz⟩ := hb.get hk
            have hkl : k < s'.size := by simp [bytes2V, bs_length] at hin; exact hin
            refine ⟨by rw [bs_length]; exact hkl, ?_, z, ?_, put_le hs hrz⟩
            · simp only [bytes2V, List.getElem?_map] at hk
              cases hbk : (bs s')[k]? with
              | none => rw [hbk] at hk; cases hk
              | some b => rw [hbk] at hk; simp at hk; subst hk; rfl
            · simp only [Nat.zero_add]
              rw [hcs, Array.getElem?_append_left (by simp; exact hkl), ← Array.getElem?_toList]; exact hz
          · simp at hk
        · simp only [RV]
          rw [bs_length]
          exact ⟨by omega, ⟨w.heap.size, 0, cap⟩, ⟨w.heap.size, 0, none⟩, cap, Sg.put_same _ _ _, rfl, hle, by simp, .inl (by simp)⟩
      · cases h
    · cases h
theorem rowV_waits {vs : List V} {ob : O} (h : rowV vs = some ob) : ob.waits = true := by
  unfold rowV at h
  split at h <;> cases h
  rfl

theorem rowZ_waits {zs : List V} {n : Nat} {ob : O} (h : rowZ zs n = some ob) : ob.waits = true := by
  unfold rowZ at h
  split at h
  · split at h
    · cases h; rfl
    · exact rowV_waits h
  · exact rowV_waits h

theorem evalA_waits {P : Program} {ρ : Rho} {o : Oper} {ob : O} {mk : Nat → V} (h : evalA P ρ o = some (ob, mk)) : ob.waits = true := by
  unfold evalA at h
  repeat' (split at h)
  all_goals first
    | (cases h; done)
    | (cases h; rfl)
    | (cases h; rename_i hr; exact rowV_waits hr)
    | (cases h; exact rowV_waits (by assumption))
    | (cases h; exact rowZ_waits (by assumption))
end Go.Proofs.YthnldpbkjegfaaaDoor.Sv

namespace Go.Proofs.YthnldpbkjegfaaaDoor.Sv
open Go Go.RowKit

/-! ### store -/
/-- of a row's cells less is known, or the same otherwise -/
theorem Rel.cells {W0 : World} {σ : Sg} {st : St} {w : World} (h : Rel W0 σ st w) {i n : Nat} {cells cells' : Tri V} {opn tip : Bool} {pe : List Nat} (hg : st.mem.get i = some (.row n cells opn tip pe))
    (hc : ∀ k v', cells'.get k = some v' → ∃ v, cells.get k = some v ∧ (v.isFlat = true → v'.isFlat = true) ∧ ∀ x, RV σ v x → RV σ v' x) {mem' : Tri O}
    (hm : ∀ j, mem'.get j = if j = i then some (.row n cells' opn tip pe) else st.mem.get j) : Rel W0 σ { st with mem := mem' } w := by
  have key : ∀ j o, mem'.get j = some o → ∃ o0, st.mem.get j = some o0 ∧ o.still = o0.still ∧ o.isTip = o0.isTip ∧ (∀ p, ObjOk σ p w o0 → ObjOk σ p w o) ∧
      (∀ p j' q o', Sh p o0 j' q o' → Sh p o j' q o') ∧ (∀ p j' q o', Sh q o' j' p o0 → Sh q o' j' p o) := by
    intro j o e
    rw [hm] at e
    split at e
    · rename_i hj; subst hj
      cases e
      refine ⟨_, hg, ?_, rfl, fun p ho => ?_, fun p j' q o' hs => ?_, fun p j' q o' hs => ?_⟩
      · cases tip <;> rfl
      · simp only [ObjOk] at ho ⊢
        obtain ⟨cs, e, fz, h1, h2, h3, h4, h5, h6, h7⟩ := ho
        refine ⟨cs, e, fz, h1, h2, h3, h4, fun k v' hk => ?_, h6, h7⟩
        obtain ⟨v, g1, g2, g3⟩ := hc k v' hk
        obtain ⟨a, b, x, c, d⟩ := h5 k v g1
        exact ⟨a, g2 b, x, c, g3 x d⟩
      · cases o' <;> simp only [Sh] at hs ⊢ <;> exact hs
      · cases o' <;> simp only [Sh] at hs ⊢ <;> exact hs
    · exact ⟨o, e, rfl, rfl, fun _ h => h, fun _ _ _ _ h => h, fun _ _ _ _ h => h⟩
  refine ⟨h.below, h.dom, fun j p e => ?_, fun j p o e ho => ?_, fun j j' p q o o' hij ei ej gi gj hb => ?_, h.glob, fun b o v e => ?_⟩
  · obtain ⟨h1, h2⟩ := h.blk j p e
    refine ⟨h1.imp id fun h1 o ho => ?_, h2⟩
    obtain ⟨o0, k1, k2, _⟩ := key j o ho
    rw [k2]; exact h1 o0 k1
  · obtain ⟨o0, k1, _, _, k2, _⟩ := key j o ho
    exact k2 p (h.obj j p o0 e k1)
  · obtain ⟨o0, k1, _, _, _, k2, _⟩ := key j o gi
    obtain ⟨o0', k1', _, _, _, _, k2'⟩ := key j' o' gj
    exact k2' _ _ _ _ (k2 _ _ _ _ (h.sep j j' p q o0 o0' hij ei ej k1 k1' hb))
  · obtain ⟨h1, h2, h0, h3⟩ := h.frz b o v e
    refine ⟨h1, h2, h0, fun j p ob ei hob hst => ?_⟩
    obtain ⟨o0, k1, k2, k3, _⟩ := key j ob hob
    rw [k2] at hst
    rw [k3]
    exact h3 j p o0 ei k1 hst

/-- one of n numbers is another one -/
def putN (kd : IntKind) (n k : Nat) (m : Int) (ns : List Int) : List V := (List.range n).map fun j => V.si kd (if k = j then m else ns.getD j 0)
def storeE (P : Program) (st : St) (t : TypeId) (a x : Option V) : Option St :=
  match a, x, P.info? t with
  | some (.ptr i o), some v, some inf => match Nat.beq v.cells.length inf.size with
    | true => st.write i o v.cells
    | false => none
  | some (.px false i o n k), some v, some inf => match v.asI, Nat.beq inf.size 1, st.mem.get i, st.read i o n with
    | some (kd, m), true, some (.row N cells opn true pe), some vs => match intsOf kd vs, Nat.ble (o + n) N with
      | some ns, true => some { st with mem := (killAll st.mem pe).set i (some (.row N (Tri.ofList (putN kd n k m ns) o cells) opn true [])) }
      | _, _ => none
    | _, _, _, _ => none
  | _, _, _ => none

theorem storeE_sound {P : Program} {W0 : World} {σ : Sg} {st st' : St} {w : World} {t : TypeId} {a x : Option V} {ua ux : Value} (hR : Rel W0 σ st w)
    (h : storeE P st t a x = some st') (ha : ∀ v, a = some v → RV σ v ua) (hx : ∀ v, x = some v → RV σ v ux) :
    ∃ w', (Instr.storeAt t ua ux).run P w = .ok () w' ∧ Rel W0 σ st' w' ∧ Post σ st σ st' := by
  unfold storeE at h
  split at h
  · rename_i i o v inf hi
    split at h
    · rename_i hl
      have hl := Nat.eq_of_beq_eq_true hl
      have hua := ha _ rfl
      simp only [RV] at hua
      obtain ⟨p, hp, rfl⟩ := hua
      have hv := (hx _ rfl).cells
      have hsz : ux.cells.size = inf.size := by have := hv.length; simp at this; omega
      obtain ⟨w', e, r, q⟩ := write_sound hR hp h hv P
      refine ⟨w', ?_, r, q⟩
      simp [Instr.storeAt, Instr.sureAddr, storeVar, sizeOf, typeInfo, hi, hsz, e]
    · cases h
  · rename_i i o n k v inf hi
    split at h
    · rename_i kd m N cells opn pe vs hv hs hg hr
      split at h
      · rename_i ns hns hle
        obtain rfl := Option.some.inj h
        have hle := Nat.le_of_ble_eq_true hle
        have hs := Nat.eq_of_beq_eq_true hs
        have hua := ha _ rfl
        simp only [RV] at hua
        obtain ⟨hk, p, hp, rfl⟩ := hua
        obtain rfl := asI_sound hv (hx _ rfl)
        have hvf : v.isFlat = true := by cases v <;> simp [V.asI] at hv <;> rfl
        have hw1 : st.write i (o + k) [v] = some { st with mem := (killAll st.mem pe).set i (some (.row N (Tri.ofList [v] (o + k) cells) opn true [])) } := by
          have e1 : Nat.ble (o + k + 1) N = true := Nat.ble_eq_true_of_le (by omega)
          simp only [St.write, hg, List.length_singleton, e1, List.all_cons, hvf, List.all_nil, Bool.and_true]
        obtain ⟨w', e, r, q⟩ := write_sound hR hp hw1 (xs := [.int kd m]) (by simp only [RVs]; exact ⟨_, _, rfl, hx _ rfl, rfl⟩) P
        refine ⟨w', ?_, ?_, ?_⟩
        · have hsz : (Value.int kd m).cells.size = inf.size := by rw [hs]; rfl
          have hcl : (Value.int kd m).cells.toList = [.int kd m] := rfl
          simp [Instr.storeAt, Instr.sureAddr, storeVar, sizeOf, typeInfo, hi, hsz, hcl, e]
        · have hlen : ns.length = n := by
            obtain ⟨xs, _, hrr, hl, _⟩ := read_sound hR hp hr P
            have := intsOf_sound hns hrr
            have := congrArg List.length this
            rw [hrr.length, hl] at this; simpa using this.symm
          refine Rel.cells r (i := i) (n := N) (cells := Tri.ofList [v] (o + k) cells) (opn := opn) (tip := true) (pe := []) (by simp only; rw [Tri.get_set, if_pos rfl]) (cells' := Tri.ofList (putN kd n k m ns) o cells) (fun j v' hj => ?_) (fun j => ?_)
          · rw [Tri.get_ofList] at hj
            have hln : (putN kd n k m ns).length = n := by simp [putN]
            rw [hln] at hj
            split at hj
            · rename_i hin
              have hv' : v' = .si kd (if k = j - o then m else ns.getD (j - o) 0) := by
                rw [putN, List.getElem?_map, List.getElem?_range (by omega)] at hj
                exact (Option.some.inj hj).symm
              subst hv'
              by_cases hkj : k = j - o
              · refine ⟨v, ?_, fun _ => rfl, fun x hx' => ?_⟩
                · rw [Tri.get_ofList, if_pos (by simp; omega)]
                  rw [show j - (o + k) = 0 by omega]; rfl
                · rw [if_pos hkj]; simp only [RV]; exact asI_sound hv hx'
              · obtain ⟨hl, hget⟩ : ∃ (_ : vs.length = n), ∀ j, j < n → cells.get (o + j) = vs[j]? := by
                  cases n with
                  | zero => omega
                  | succ n =>
                    simp only [St.read, hg] at hr
                    obtain ⟨a, b⟩ := Tri.take_spec _ _ _ _ hr
                    exact ⟨a, b⟩
                have hjn : j - o < vs.length := by omega
                refine ⟨vs[j - o], ?_, fun _ => rfl, fun x hx' => ?_⟩
                · rw [Tri.get_ofList, if_neg (by simp; omega)]
                  have := hget (j - o) (by omega)
                  rw [show o + (j - o) = j by omega] at this
                  rw [this, List.getElem?_eq_getElem hjn]
                · rw [if_neg hkj]
                  obtain ⟨nn, a1, a2⟩ := intsOf_get hns (j - o) hjn
                  simp only [RV]
                  rw [a2]; exact asI_sound a1 hx'
            · rename_i hout
              refine ⟨v', ?_, id, fun x hx' => hx'⟩
              rw [Tri.get_ofList, if_neg (by simp; omega)]
              exact hj
          · simp only; rw [Tri.get_set, Tri.get_set]; split <;> rfl
        · refine ⟨q.le, q.nxt, fun j hj e' => ⟨(q.pend j hj e').1, fun ob hwt hob => ?_⟩⟩
          have := (q.pend j hj e').2 ob hwt hob
          simp only at this ⊢
          have hji : j ≠ i := fun e0 => by subst e0; rw [hp] at e'; cases e'
          rw [Tri.get_set, if_neg hji] at this ⊢
          exact this
      · cases h
    · cases h
  · cases h

/-! ### what a slice, or a text, has -/
def elemsV (st : St) (sz : Nat) (n : Nat) (x : Option V) : Option (List V) :=
  match x with
  | some .nils => match n with | 0 => some [] | _ => none
  | some (.slice i o m _) => match Nat.ble n m with
    | true => match n with
      | 0 => some []
      | n + 1 => st.read i o ((n + 1) * sz)
    | false => none
  | some (.str s) => match Nat.ble n s.length with
    | true => some (bytes2V (s.take n))
    | false => none
  | _ => none

def sliceLenV (x : Option V) : Option Nat :=
  match x with
  | some .nils => some 0
  | some (.slice _ _ n _) => some n
  | some (.str s) => some s.length
  | _ => none

theorem sliceLenV_sound {P : Program} {σ : Sg} {x : Option V} {u : Value} {n : Nat} (h : sliceLenV x = some n) (hx : ∀ v, x = some v → RV σ v u) (w : World) :
    (Builtin.lenOf u).run P w = .ok n w := by
  unfold sliceLenV at h
  split at h <;> cases h
  · have hu := hx _ rfl; simp only [RV] at hu; subst hu; rfl
  · rename_i i o n c
    have hu := hx _ rfl
    cases c with
    | known c => simp only [RV] at hu; obtain ⟨_, _, rfl⟩ := hu; rfl
    | opn sz => simp only [RV] at hu; obtain ⟨_, _, _, _, _, rfl, _⟩ := hu; rfl
  · have hu := hx _ rfl; simp only [RV] at hu; obtain ⟨s, rfl, rfl⟩ := hu; simp [Builtin.lenOf, bs_length]

theorem slice_exact {σ : Sg} {i o n : Nat} {c : Cap} {u : Value} (h : RV σ (.slice i o n c) u) (hn : n ≠ 0) :
    ∃ p c', σ i = some p ∧ u = .slice (some ⟨p.blk, p.base + o, none⟩) n c' := by
  cases c with
  | known c => simp only [RV] at h; obtain ⟨p, hp, rfl⟩ := h; exact ⟨p, _, hp, rfl⟩
  | opn sz =>
    simp only [RV] at h
    obtain ⟨_, p, a, c, hp, rfl, _, _, rfl | ⟨h0, _⟩⟩ := h
    · exact ⟨p, _, hp, rfl⟩
    · omega

theorem slice_any {σ : Sg} {i o n : Nat} {c : Cap} {u : Value} (h : RV σ (.slice i o n c) u) : ∃ a c', u = .slice (some a) n c' := by
  cases c with
  | known c => simp only [RV] at h; obtain ⟨p, hp, rfl⟩ := h; exact ⟨_, _, rfl⟩
  | opn sz => simp only [RV] at h; obtain ⟨_, p, a, c, hp, rfl, _⟩ := h; exact ⟨_, _, rfl⟩

theorem elemsV_sound {P : Program} {W0 : World} {σ : Sg} {st : St} {w : World} {sz n : Nat} {x : Option V} {u : Value} {vs : List V} (hR : Rel W0 σ st w)
    (h : elemsV st sz n x = some vs) (hx : ∀ v, x = some v → RV σ v u) :
    ∃ xs, (∀ w', w'.heap = w.heap → (Builtin.firstCells sz n u).run P w' = .ok xs w') ∧ RVs σ vs xs.toList ∧ (vs.all V.isFlat = true) := by
  unfold elemsV at h
  split at h
  · split at h
    · obtain rfl := Option.some.inj h
      have hu := hx _ rfl; simp only [RV] at hu; subst hu
      exact ⟨#[], fun w' _ => by simp [Builtin.firstCells], by simp [RVs], rfl⟩
    · cases h
  · rename_i i o m c
    split at h
    · rename_i hle
      have hle := Nat.le_of_ble_eq_true hle
      have hu := hx _ rfl
      cases n with
      | zero =>
        simp only at h
        obtain rfl := Option.some.inj h
        obtain ⟨a, c', rfl⟩ := slice_any hu
        exact ⟨#[], fun w' _ => by simp [Builtin.firstCells, run_loadCells_zero], by simp [RVs], rfl⟩
      | succ n =>
        simp only at h
        obtain ⟨p, c', hp, rfl⟩ := slice_exact hu (by omega)
        obtain ⟨xs, e, hr, _, hf, hc⟩ := read_sound hR hp h P
        refine ⟨xs, fun w' hw => ?_, hr, List.all_eq_true.2 hf⟩
        simp only [Builtin.firstCells]
        by_cases h0 : (n + 1) * sz = 0
        · rw [h0, run_loadCells_zero] at e
          rw [h0, run_loadCells_zero]
          injection e with e1 e2; rw [e1]
        · obtain ⟨cs, e0, fz, h1, h2, h3⟩ := hc h0
          rw [h3]
          exact run_loadCells (by rw [hw]; exact h1) h2
    · cases h
  · rename_i s
    split at h
    · rename_i hle
      obtain rfl := Option.some.inj h
      have hle := Nat.le_of_ble_eq_true hle
      have hu := hx _ rfl; simp only [RV] at hu; obtain ⟨s', rfl, rfl⟩ := hu
      rw [bs_length] at hle
      refine ⟨((s'.extract 0 n).data.map fun b => Value.int .u8 b.toNat), fun w' _ => rfl, ?_, ?_⟩
      · have := bytes2V_sound (σ := σ) (s'.extract 0 n)
        rwa [bs_extract s' 0 n (Nat.zero_le _) hle, List.drop_zero] at this
      · simp only [bytes2V, List.all_map, List.all_eq_true]; intro x hx; rfl
    · cases h
  · cases h
end Go.Proofs.YthnldpbkjegfaaaDoor.Sv

namespace Go.Proofs.YthnldpbkjegfaaaDoor.Sv
open Go Go.RowKit

/-- a new block for what was there, and what comes -/
def growE (st : St) (need sz bytes : Nat) (cells : List V) : Option (V × St) :=
  match Nat.beq cells.length (need * sz), Nat.beq sz 0, Nat.ble (need * bytes) 140737488355328, Nat.ble need 4611686018427387904 with
  | true, false, true, true => some (.slice st.next 0 need (.opn sz), st.add (.row (need * sz) (Tri.ofList cells 0 .nil) true true []))
  | _, _, _, _ => none

theorem growRow {W0 : World} {σ : Sg} {st : St} {w : World} (hR : Rel W0 σ st w) {x : Nat} (hx : x < st.next) (hs : σ x = none) {vs : List V} {peers : List Nat} {cs : Array Value} {tot : Nat}
    (hpe : ∀ j, j ∈ peers → ∃ q, σ j = some q) (hg : st.mem.get x = some (.row vs.length (Tri.ofList vs 0 .nil) true true peers)) (hf : vs.all V.isFlat = true) (hc : cs.size = tot) (hle : vs.length ≤ tot)
    (hr : ∀ (k : Nat) (v : V), vs[k]? = some v → ∃ y, cs[k]? = some y ∧ RV σ v y) (e : TypeId) :
    Rel W0 (σ.put x ⟨w.heap.size, 0, tot⟩) st { w with heap := w.heap.push (.cells cs e (0, 0)) } := by
  refine hR.place hx hs hg ?_
  simp only [ObjOk]
  refine ⟨cs, e, (0, 0), heap_push_eq _ _, by simp [hc], hle, by simp, fun k v hk => ?_, .inl rfl, fun j hj => ?_⟩
  · rw [Tri.get_ofList] at hk
    split at hk
    · rename_i hin
      simp only [Nat.sub_zero] at hk
      obtain ⟨y, hy, hry⟩ := hr k v hk
      exact ⟨by omega, List.all_eq_true.1 hf _ (List.mem_of_getElem? hk), y, by simpa using hy, RV.mono (Sg.le_put hs) _ _ hry⟩
    · simp at hk
  · obtain ⟨q, hq⟩ := hpe j hj; exact ⟨q, Sg.le_put hs _ _ hq⟩

theorem zeroCells_size (z : Array Value) (n : Nat) : (Builtin.zeroCells z n).size = n * z.size := by simp [Builtin.zeroCells]

theorem Post.put {σ : Sg} {st : St} {o : O} {p : Pl} (hs : σ st.next = none) : Post σ st (σ.put st.next p) (st.add o) where
  le := Sg.le_put hs
  nxt := Nat.le_succ _
  pend i hi e := ⟨by rw [Sg.put_ne (by omega)]; exact e, fun o _ ho => by simp only [St.add]; rw [Tri.get_set, if_neg (by omega)]; exact ho⟩

theorem growE_core {W0 : World} {σ : Sg} {st st' : St} {w : World} {e : TypeId} {inf : TypeInfo} {z : Value} {need : Nat}
    {os xs : Array Value} {vo vn : List V} {r : V} {R : Result Value} (hR : Rel W0 σ st w) (hzl : z.cells.size = inf.size)
    (hvo : RVs σ vo os.toList) (hvn : RVs σ vn xs.toList) (hfo : vo.all V.isFlat = true) (hfn : vn.all V.isFlat = true)
    (hrun : need ≤ 9223372036854775807 → need * inf.bytes ≤ 140737488355328 → ∃ newCap, need ≤ newCap ∧ R = .ok (.slice (some ⟨w.heap.size, 0, none⟩) need newCap)
      { w with drawn := w.drawn + 1, heap := w.heap.push (.cells (os ++ xs ++ Builtin.zeroCells z.cells (newCap - need)) e (0, 0)) })
    (h : growE st need inf.size inf.bytes (vo ++ vn) = some (r, st')) :
    ∃ σ' zv w', R = .ok zv w' ∧ RV σ' r zv ∧ Rel W0 σ' st' w' ∧ Post σ st σ' st' := by
  unfold growE at h
  split at h <;> cases h
  rename_i hl hsz hb hn
  have hl := Nat.eq_of_beq_eq_true hl
  have hsz := Nat.ne_of_beq_eq_false hsz
  have hb := Nat.le_of_ble_eq_true hb
  have hn := Nat.le_of_ble_eq_true hn
  obtain ⟨newCap, hc, hrun⟩ := hrun (by omega) hb
  obtain ⟨cs, hcs⟩ : ∃ cs, cs = os ++ xs ++ Builtin.zeroCells z.cells (newCap - need) := ⟨_, rfl⟩
  rw [← hcs] at hrun
  have hov := hvo.append hvn
  have hos : os.size + xs.size = need * inf.size := by have := hov.length; simp at this hl; omega
  have hcsz : cs.size = newCap * inf.size := by
    rw [hcs, Array.size_append, Array.size_append, zeroCells_size, hzl, hos, ← Nat.add_mul]; congr 1; omega
  have hle : (vo ++ vn).length ≤ newCap * inf.size := by rw [hl]; exact Nat.mul_le_mul_right _ hc
  have hfresh := hR.fresh
  have hA := hR.add (.row (need * inf.size) (Tri.ofList (vo ++ vn) 0 .nil) true true [])
  have hD := hA.drew (w.drawn + 1)
  refine ⟨σ.put st.next ⟨w.heap.size, 0, newCap * inf.size⟩, _, _, hrun, ?_, ?_, Post.put hfresh⟩
  · simp only [RV]
    exact ⟨by omega, _, _, newCap, Sg.put_same _ _ _, rfl, hc, by simp, .inl (by simp)⟩
  · refine growRow (w := { w with drawn := w.drawn + 1 }) (vs := vo ++ vn) (peers := []) hD (by simp [St.add]) hfresh (by simp) ?_ (by rw [List.all_append, hfo, hfn]; rfl) hcsz hle ?_ e
    · simp only [St.add]; rw [Tri.get_set, if_pos rfl, hl]
    · intro k v hk
      obtain ⟨y, hy, hry⟩ := hov.get hk
      refine ⟨y, ?_, hry⟩
      have hkl : k < (vo ++ vn).length := (List.getElem?_eq_some_iff.1 hk).1
      rw [hcs, Array.getElem?_append_left (by simp; omega)]
      rw [← Array.getElem?_toList, Array.toList_append]; exact hy

theorem growE_sound {P : Program} {W0 : World} {σ : Sg} {st st' : St} {w : World} {ts : Array TypeId} {t0 t1 ty e : TypeId} {d1 : TypeDesc} {inf : TypeInfo} {z u : Value} {n len cap : Nat}
    {base : Option Addr} {os xs : Array Value} {vo vn : List V} {r : V} (hR : Rel W0 σ st w)
    (h0 : ts[0]? = some t0) (h1 : ts[1]? = some t1) (ht0 : P.underlying t0 = some (.slice e)) (ht1 : P.underlying t1 = some d1) (hd : notInt d1 = true) (hi : P.info? e = some inf) (hzr : inf.zero = some z) (hzl : z.cells.size = inf.size)
    (hlen : ∀ w, (Builtin.lenOf u).run P w = .ok n w) (hx : ∀ w', w'.heap = w.heap → (Builtin.firstCells inf.size n u).run P w' = .ok xs w')
    (ho : ∀ w', w'.heap = w.heap → (Builtin.firstCells inf.size len (.slice base len cap)).run P w' = .ok os w') (hlt : cap < len + n)
    (hvo : RVs σ vo os.toList) (hvn : RVs σ vn xs.toList) (hfo : vo.all V.isFlat = true) (hfn : vn.all V.isFlat = true)
    (h : growE st (len + n) inf.size inf.bytes (vo ++ vn) = some (r, st')) :
    ∃ σ' zv w', (Builtin.append_ ts ty #[.slice base len cap, u]).run P w = .ok zv w' ∧ RV σ' r zv ∧ Rel W0 σ' st' w' ∧ Post σ st σ' st' :=
  growE_core hR hzl hvo hvn hfo hfn (fun g1 g2 => run_append_new (ty := ty) h0 h1 ht0 ht1 hd hi hzr hlen hx ho hlt g1 g2) h

/-! ### an append behind the end of a row whose room nobody knows -/
def St.untip (st : St) (i : Nat) : St :=
  match st.mem.get i with
  | some (.row n cells opn _ peers) => { st with mem := st.mem.set i (some (.row n cells opn false peers)) }
  | _ => st

theorem Rel.untip {W0 : World} {σ : Sg} {st : St} {w : World} (h : Rel W0 σ st w) (i : Nat) : Rel W0 σ (st.untip i) w := by
  unfold St.untip
  split
  · rename_i n cells opn tip peers hg
    refine ⟨h.below, h.dom, fun j q hq => ⟨(h.blk j q hq).1.imp id fun h1 o hg' => ?_, (h.blk j q hq).2⟩, fun j q o hq ho => ?_, fun a b pa pb oa ob hab ea eb ga gb hbb => ?_, h.glob, fun b k v e => ?_⟩
    · simp only at hg'
      rw [Tri.get_set] at hg'
      split at hg'
      · obtain rfl := Option.some.inj hg'; rfl
      · exact h1 o hg'
    · simp only at ho
      rw [Tri.get_set] at ho
      split at ho
      · rename_i e; subst e; obtain rfl := Option.some.inj ho; exact h.obj j q (.row n cells opn tip peers) hq hg
      · exact h.obj j q o hq ho
    · simp only at ga gb
      rw [Tri.get_set] at ga gb
      split at ga
      · rename_i e; subst e; obtain rfl := Option.some.inj ga
        rw [if_neg (Ne.symm hab)] at gb
        have := h.sep a b pa pb _ ob hab ea eb hg gb hbb
        cases ob <;> simp only [Sh] at this ⊢
        intro h; cases h
      · split at gb
        · rename_i e; subst e; obtain rfl := Option.some.inj gb
          have := h.sep a b pa pb oa _ hab ea eb ga hg hbb
          cases oa <;> simp only [Sh] at this ⊢
          intro ht; exact ⟨(this ht).1, (this ht).2.1, trivial⟩
        · exact h.sep a b pa pb oa ob hab ea eb ga gb hbb
    · obtain ⟨h1, h2, h0, h3⟩ := h.frz b k v e
      refine ⟨h1, h2, h0, fun j p ob ej hg' hst => ?_⟩
      simp only at hg'
      rw [Tri.get_set] at hg'
      split at hg'
      · obtain rfl := Option.some.inj hg'; cases hst
      · exact h3 j p ob ej hg' hst
  · exact h

theorem untip_get {st : St} {i : Nat} (j : Nat) (h : j ≠ i) : (st.untip i).mem.get j = st.mem.get j := by
  unfold St.untip; split
  · simp only; rw [Tri.get_set, if_neg h]
  · rfl

theorem untip_next (st : St) (i : Nat) : (st.untip i).next = st.next := by unfold St.untip; split <;> rfl

theorem Post.untip {σ : Sg} {st : St} {i : Nat} {p : Pl} (hp : σ i = some p) : Post σ st σ (st.untip i) where
  le := .refl _
  nxt := by rw [untip_next]; exact Nat.le_refl _
  pend j _ e := ⟨e, fun o _ ho => by rw [untip_get j (fun h => by subst h; rw [hp] at e; cases e)]; exact ho⟩

def endE (st : St) (i o : Nat) (need sz bytes : Nat) (olds news : List V) : Option (V × St) :=
  match st.mem.get i with
  | some (.row n _ true true peers) =>
    match Nat.beq (o + olds.length) n, Nat.beq (olds.length + news.length) (need * sz), Nat.beq sz 0, Nat.ble (need * bytes) 140737488355328, Nat.ble need 4611686018427387904 with
    | true, true, false, true, true => some (.slice st.next 0 need (.opn sz), (st.untip i).add (.row (need * sz) (Tri.ofList (olds ++ news) 0 .nil) true true (i :: peers)))
    | _, _, _, _, _ => none
  | _ => none
end Go.Proofs.YthnldpbkjegfaaaDoor.Sv

namespace Go.Proofs.YthnldpbkjegfaaaDoor.Sv
open Go Go.RowKit

theorem untip_get_same {st : St} {i n : Nat} {cells : Tri V} {opn tip : Bool} {peers : List Nat} (h : st.mem.get i = some (.row n cells opn tip peers)) :
    (st.untip i).mem.get i = some (.row n cells opn false peers) := by
  unfold St.untip; rw [h]; simp only; rw [Tri.get_set, if_pos rfl]

/-- in place, behind the end -/
theorem end_room {W0 : World} {σ : Sg} {st : St} {w w' : World} (hR : Rel W0 σ st w) {i n o : Nat} {cells : Tri V} {peers : List Nat} {p : Pl}
    (hp : σ i = some p) (hg : st.mem.get i = some (.row n cells true true peers)) {olds news : List V} (ho : o + olds.length = n)
    (hold : ∀ (k : Nat) (v : V), olds[k]? = some v → cells.get (o + k) = some v) (hfn : news.all V.isFlat = true)
    {cs cs' : Array Value} {e : TypeId} {fz : Nat × Nat} (h1 : w.heap[p.blk]? = some (.cells cs e fz)) (hroom : n + news.length ≤ p.tot)
    {xs : List Value} (hn : RVs σ news xs) (h2 : w'.heap[p.blk]? = some (.cells cs' e fz)) (hsz : cs'.size = cs.size)
    (hc : ∀ k, cs'[k]? = if p.base + n ≤ k ∧ k < p.base + n + xs.length then xs[k - (p.base + n)]? else cs[k]?)
    (hk : ∀ b, b ≠ p.blk → w'.heap[b]? = w.heap[b]?) (hs : w'.heap.size = w.heap.size) (hW : Below W0.heap.size W0 w') :
    Rel W0 (σ.put st.next ⟨p.blk, p.base + o, p.tot - o⟩) ((st.untip i).add (.row (olds.length + news.length) (Tri.ofList (olds ++ news) 0 .nil) true true (i :: peers))) w' := by
  have hfresh := hR.fresh
  have hlt := hR.dom i p hp
  have hne : i ≠ st.next := by omega
  have hoi := hR.obj i p _ hp hg
  simp only [ObjOk] at hoi
  obtain ⟨cs0, e0, fz0, g1, g2, g3, g4, g5, g6, g7⟩ := hoi
  rw [h1] at g1; injection g1 with g1; injection g1 with q1 q2 q3; subst q1 q2 q3
  have hxl : xs.length = news.length := hn.length
  have hU := hR.untip i
  have hget : ∀ j, j ≠ st.next → ((st.untip i).add (.row (olds.length + news.length) (Tri.ofList (olds ++ news) 0 .nil) true true (i :: peers))).mem.get j = (st.untip i).mem.get j := by
    intro j hj; simp only [St.add, untip_next]; rw [Tri.get_set, if_neg hj]
  have hgetx : ((st.untip i).add (.row (olds.length + news.length) (Tri.ofList (olds ++ news) 0 .nil) true true (i :: peers))).mem.get st.next = some (.row (olds.length + news.length) (Tri.ofList (olds ++ news) 0 .nil) true true (i :: peers)) := by
    simp only [St.add, untip_next]; rw [Tri.get_set, if_pos rfl]
  have hig := untip_get_same hg
  have le := Sg.le_put (σ := σ) (p := ⟨p.blk, p.base + o, p.tot - o⟩) hfresh
  -- whoever shares the block has no cell behind the end
  have hshare : ∀ j q oj, j ≠ i → σ j = some q → st.mem.get j = some oj → q.blk = p.blk → ∃ m cl op pe, oj = .row m cl op false pe ∧ j ∈ peers ∧ q.base + m ≤ p.base + n := by
    intro j q oj hj hq hgj hb
    have := hR.sep i j p q _ oj (Ne.symm hj) hp hq hg hgj hb.symm
    cases oj <;> simp only [Sh] at this
    obtain ⟨a, b, c⟩ := this trivial
    subst c; exact ⟨_, _, _, _, rfl, a, b⟩
  -- an object of the block, whose cells are ahead of the end, is as it was
  have hstay : ∀ (q : Pl) (m : Nat) (cl : Tri V) (op ti : Bool) (pe : List Nat), q.blk = p.blk → q.base + m ≤ p.base + n → ObjOk σ q w (.row m cl op ti pe) → ObjOk σ q w' (.row m cl op ti pe) := by
    intro q m cl op ti pe hb hm hok
    simp only [ObjOk] at hok ⊢
    obtain ⟨a1, a2, a3, b1, b2, b3, b4, b5, b6, b7⟩ := hok
    rw [hb, h1] at b1; injection b1 with b1; injection b1 with r1 r2 r3; subst r1 r2 r3
    refine ⟨cs', _, _, by rw [hb]; exact h2, by omega, b3, b4, fun k v hkv => ?_, by rw [hsz]; exact b6, b7⟩
    obtain ⟨c1, c2, x, c3, c4⟩ := b5 k v hkv
    exact ⟨c1, c2, x, by rw [hc, if_neg (by omega)]; exact c3, c4⟩
  refine ⟨hW, fun j q hq => ?_, fun j q hq => ?_, fun j q oj hq hgj => ?_, fun a b pa pb oa ob hab ea eb ga gb hbb => ?_, hU.glob.mono le, fun b' k' v' e' => ?_⟩
  · simp only [St.add, untip_next]
    by_cases hj : j = st.next
    · omega
    · rw [Sg.put_ne hj] at hq; have := hR.dom j q hq; omega
  · rw [hs]
    by_cases hj : j = st.next
    · subst hj; rw [Sg.put_same] at hq; obtain rfl := Option.some.inj hq; exact ⟨.inl (show W0.heap.size ≤ p.blk from (hR.own hp hg rfl rfl).le), (hR.blk i p hp).2⟩
    · rw [Sg.put_ne hj] at hq
      refine ⟨(hU.blk j q hq).1.imp id fun h1 o' hg' => ?_, (hR.blk j q hq).2⟩
      rw [hget j hj] at hg'; exact h1 o' hg'
  · by_cases hj : j = st.next
    · subst hj
      rw [Sg.put_same] at hq; obtain rfl := Option.some.inj hq
      rw [hgetx] at hgj; obtain rfl := Option.some.inj hgj
      simp only [ObjOk]
      refine ⟨cs', e, fz, h2, by omega, by omega, by simp, fun k v hkv => ?_, by rw [hsz]; exact g6, fun j hj => ?_⟩
      · rw [Tri.get_ofList] at hkv
        split at hkv
        · rename_i hin
          simp only [List.length_append, Nat.sub_zero, Nat.zero_add] at hin hkv
          refine ⟨hin.2, ?_⟩
          by_cases hko : k < olds.length
          · rw [List.getElem?_append_left hko] at hkv
            obtain ⟨c1, c2, x, c3, c4⟩ := g5 _ v (hold k v hkv)
            refine ⟨c2, x, ?_, RV.mono le _ _ c4⟩
            rw [hc, if_neg (by omega), show p.base + o + k = p.base + (o + k) by omega]; exact c3
          · rw [List.getElem?_append_right (by omega)] at hkv
            obtain ⟨x, hx, hr⟩ := hn.get hkv
            refine ⟨List.all_eq_true.1 hfn _ (List.mem_of_getElem? hkv), x, ?_, RV.mono le _ _ hr⟩
            rw [hc, if_pos (by omega), show p.base + o + k - (p.base + n) = k - olds.length by omega]; exact hx
        · simp at hkv
      · rcases List.mem_cons.1 hj with rfl | hj
        · exact ⟨p, le _ _ hp⟩
        · obtain ⟨q, hq⟩ := g7 j hj; exact ⟨q, le _ _ hq⟩
    · rw [Sg.put_ne hj] at hq
      rw [hget j hj] at hgj
      by_cases hji : j = i
      · subst hji
        rw [hp] at hq; obtain rfl := Option.some.inj hq
        rw [hig] at hgj; obtain rfl := Option.some.inj hgj
        exact (hstay p n cells true false peers rfl (Nat.le_refl _) (hU.obj j p _ hp hig)).mono le
      · rw [untip_get j hji] at hgj
        by_cases hb : q.blk = p.blk
        · obtain ⟨m, cl, op, pe, rfl, _, hm⟩ := hshare j q oj hji hq hgj hb
          exact (hstay q m cl op false pe hb hm (hR.obj j q _ hq hgj)).mono le
        · exact ((hR.obj j q oj hq hgj).congr (hk _ hb)).mono le
  · by_cases ha : a = st.next
    · subst ha
      rw [Sg.put_same] at ea; obtain rfl := Option.some.inj ea
      rw [hgetx] at ga; obtain rfl := Option.some.inj ga
      rw [Sg.put_ne (Ne.symm hab)] at eb
      rw [hget b (Ne.symm hab)] at gb
      simp only at hbb
      by_cases hbi : b = i
      · subst hbi
        rw [hp] at eb; obtain rfl := Option.some.inj eb
        rw [hig] at gb; obtain rfl := Option.some.inj gb
        simp only [Sh]; intro _; exact ⟨by simp, by omega, trivial⟩
      · rw [untip_get b hbi] at gb
        obtain ⟨m, cl, op, pe, rfl, hmem, hm⟩ := hshare b pb ob hbi eb gb hbb.symm
        simp only [Sh]; intro _; exact ⟨by simp [hmem], by omega, trivial⟩
    · rw [Sg.put_ne ha] at ea
      rw [hget a ha] at ga
      by_cases hb : b = st.next
      · subst hb
        rw [Sg.put_same] at eb; obtain rfl := Option.some.inj eb
        rw [hgetx] at gb; obtain rfl := Option.some.inj gb
        simp only at hbb
        by_cases hai : a = i
        · subst hai
          rw [hig] at ga; obtain rfl := Option.some.inj ga
          simp only [Sh]; intro h; cases h
        · rw [untip_get a hai] at ga
          obtain ⟨m, cl, op, pe, rfl, hmem, hm⟩ := hshare a pa oa hai ea ga hbb
          simp only [Sh]; intro h; cases h
      · rw [Sg.put_ne hb] at eb
        rw [hget b hb] at gb
        exact hU.sep a b pa pb oa ob hab ea eb ga gb hbb
  · obtain ⟨f1, f2, f0, f3⟩ := hR.frz b' k' v' e'
    have hnb := (hR.own hp hg rfl rfl).fz b' k' v' e'
    refine ⟨(World.cell?_of_block (w := w) (w' := w') (a := ⟨b', k', none⟩) (hk b' (Ne.symm hnb))).trans f1, by rw [hs]; exact f2, f0, fun j q ob ej hg' hst => ?_⟩
    by_cases hj : j = st.next
    · subst hj; rw [Sg.put_same] at ej; obtain rfl := Option.some.inj ej; exact .inl hnb
    · rw [Sg.put_ne hj] at ej
      rw [hget j hj] at hg'
      by_cases hji : j = i
      · subst hji; rw [hp] at ej; obtain rfl := Option.some.inj ej; exact .inl hnb
      · rw [untip_get j hji] at hg'; exact f3 j q ob ej hg' hst

theorem all_length_take {olds : List V} {cells : Tri V} {o m : Nat} (h : cells.take o m = some olds) : ∀ (k : Nat) (v : V), olds[k]? = some v → cells.get (o + k) = some v := by
  obtain ⟨h1, h2⟩ := Tri.take_spec _ _ _ _ h
  intro k v hk
  have := (List.getElem?_eq_some_iff.1 hk).1
  rw [h2 k (by omega)]; exact hk

theorem elemsV_slice {st : St} {sz len i o : Nat} {c : Cap} {vs : List V} (h : elemsV st sz len (some (.slice i o len c)) = some vs) {n : Nat} {cells : Tri V} {op ti : Bool} {pe : List Nat}
    (hg : st.mem.get i = some (.row n cells op ti pe)) (h0 : 0 < sz) : ∀ (k : Nat) (v : V), vs[k]? = some v → cells.get (o + k) = some v := by
  unfold elemsV at h
  simp only at h
  have : Nat.ble len len = true := Nat.ble_eq_true_of_le (Nat.le_refl _)
  rw [this] at h
  simp only at h
  cases len with
  | zero => simp only at h; obtain rfl := Option.some.inj h; intro k v hk; simp at hk
  | succ len =>
    simp only at h
    cases hm : (len + 1) * sz with
    | zero => rcases Nat.mul_eq_zero.1 hm with h | h <;> omega
    | succ m =>
      rw [hm] at h
      simp only [St.read, hg] at h
      exact all_length_take h

set_option maxHeartbeats 1000000 in
theorem endE_sound {P : Program} {W0 : World} {σ : Sg} {st st' : St} {w : World} {ts : Array TypeId} {t0 t1 ty e : TypeId} {d1 : TypeDesc} {inf : TypeInfo} {z u us : Value} {n len i o : Nat}
    {vo vn : List V} {r : V} {xs : Array Value} (hR : Rel W0 σ st w)
    (h0 : ts[0]? = some t0) (h1 : ts[1]? = some t1) (ht0 : P.underlying t0 = some (.slice e)) (ht1 : P.underlying t1 = some d1) (hd : notInt d1 = true) (hi : P.info? e = some inf) (hzr : inf.zero = some z) (hzl : z.cells.size = inf.size)
    (hlen : ∀ w, (Builtin.lenOf u).run P w = .ok n w) (hx : ∀ w', w'.heap = w.heap → (Builtin.firstCells inf.size n u).run P w' = .ok xs w')
    (hus : RV σ (.slice i o len (.opn inf.size)) us) (hn0 : n ≠ 0)
    (hvo : elemsV st inf.size len (some (.slice i o len (.opn inf.size))) = some vo) (hvn : RVs σ vn xs.toList) (hfn : vn.all V.isFlat = true)
    (hvol : vo.length = len * inf.size)
    (h : endE st i o (len + n) inf.size inf.bytes vo vn = some (r, st')) :
    ∃ σ' zv w', (Builtin.append_ ts ty #[us, u]).run P w = .ok zv w' ∧ RV σ' r zv ∧ Rel W0 σ' st' w' ∧ Post σ st σ' st' := by
  unfold endE at h
  split at h
  · rename_i nr cells peers hg
    split at h <;> cases h
    rename_i g1 g2 g3 g4 g5
    have g1 := Nat.eq_of_beq_eq_true g1
    have g2 := Nat.eq_of_beq_eq_true g2
    have g3 := Nat.ne_of_beq_eq_false g3
    have g4 := Nat.le_of_ble_eq_true g4
    have g5 := Nat.le_of_ble_eq_true g5
    have hus' := hus
    simp only [RV] at hus
    obtain ⟨hs0, p, a, c, hp, rfl, hlc, htot, ha⟩ := hus
    have hold := elemsV_slice hvo hg hs0
    have hxl : xs.size = vn.length := by have := hvn.length; simpa using this
    have hxn : xs.size = n * inf.size := by
      have e1 : (len + n) * inf.size = len * inf.size + n * inf.size := Nat.add_mul _ _ _
      omega
    by_cases hroom : len + n ≤ c
    · -- there is room
      have hax : a = ⟨p.blk, p.base + o, none⟩ := by
        rcases ha with ha | ⟨_, hc0⟩
        · exact ha
        · omega
      subst hax
      have hoi := hR.obj i p _ hp hg
      simp only [ObjOk] at hoi
      obtain ⟨cs, e0, fz, b1, b2, b3, b4, b5, b6, b7⟩ := hoi
      have hcm : (len + n) * inf.size ≤ c * inf.size := Nat.mul_le_mul_right _ hroom
      have hroom' : nr + vn.length ≤ p.tot := by omega
      have hflx : ∀ x ∈ xs.toList, (∀ a, x ≠ .agg a) ∧ (∀ a, x ≠ .tuple a) := by
        intro x hx
        obtain ⟨j, hj, rfl⟩ := List.getElem_of_mem hx
        have hjv : j < vn.length := by simp at hj; omega
        obtain ⟨x', e1, e2⟩ := hvn.get (List.getElem?_eq_getElem hjv)
        rw [List.getElem?_eq_getElem hj] at e1; obtain rfl := Option.some.inj e1
        exact flat_not_agg e2 (List.all_eq_true.1 hfn _ (List.getElem_mem _))
      obtain ⟨w', cs', r, hb, hs, hc, hk, hsz, e1, e2, e3⟩ := run_storeCells (P := P) (o := p.base + nr) xs.toList 0 w cs e0 fz b1 b6 (by simp; omega) hflx
      have hrun := run_append_room (ty := ty) (w' := w') (base := some ⟨p.blk, p.base + o, none⟩) (cap := c) (len := len) h0 h1 ht0 ht1 hd hi hlen (hx w rfl) hroom (by
        simp only [addr_add]
        rw [show p.base + o + len * inf.size = p.base + nr by omega]; exact r)
      have hW : Below W0.heap.size W0 w' := ⟨e1.trans hR.below.os, e2.trans hR.below.tape, e3.trans hR.below.output, by rw [hsz]; exact hR.below.size, fun b hb => by
          rw [hk b (by have := (hR.own hp hg rfl rfl).le; omega)]; exact hR.below.block b hb⟩
      have hrel := end_room (o := o) hR hp hg g1 hold hfn b1 hroom' hvn hb hs (by intro k; rw [hc]; simp) hk hsz hW
      rw [← g2]
      refine ⟨_, _, _, hrun, ?_, hrel, (Post.untip hp).trans ?_⟩
      · simp only [RV]
        exact ⟨hs0, _, _, c, Sg.put_same _ _ _, rfl, hroom, by simp; omega, .inl (by simp)⟩
      · have := Post.put (σ := σ) (st := st.untip i) (o := .row (vo.length + vn.length) (Tri.ofList (vo ++ vn) 0 .nil) true true (i :: peers)) (p := ⟨p.blk, p.base + o, p.tot - o⟩) (by rw [untip_next]; exact hR.fresh)
        rwa [untip_next] at this
    · -- there is none
      have hU := hR.untip i
      obtain ⟨os, hos, hros, hfo⟩ := elemsV_sound (P := P) (u := .slice (some a) len c) hR hvo (fun v hv => by cases hv; exact hus')
      obtain ⟨newCap, hc, hrun⟩ := run_append_new (ty := ty) (base := some a) (cap := c) (len := len) h0 h1 ht0 ht1 hd hi hzr hlen hx hos (by omega) (by omega) g4
      obtain ⟨cs, hcs⟩ : ∃ cs, cs = os ++ xs ++ Builtin.zeroCells z.cells (newCap - (len + n)) := ⟨_, rfl⟩
      rw [← hcs] at hrun
      have hov := hros.append hvn
      have hosz : os.size + xs.size = (len + n) * inf.size := by have := hov.length; simp at this; omega
      have hcsz : cs.size = newCap * inf.size := by
        rw [hcs, Array.size_append, Array.size_append, zeroCells_size, hzl, hosz, ← Nat.add_mul]; congr 1; omega
      have hle : (vo ++ vn).length ≤ newCap * inf.size := by rw [List.length_append, g2]; exact Nat.mul_le_mul_right _ hc
      have hoi := hR.obj i p _ hp hg
      simp only [ObjOk] at hoi
      obtain ⟨_, _, _, _, _, _, _, _, _, hpe⟩ := hoi
      have hA := hU.add (.row ((len + n) * inf.size) (Tri.ofList (vo ++ vn) 0 .nil) true true (i :: peers))
      have hD := hA.drew (w.drawn + 1)
      have hfr : σ (st.untip i).next = none := by rw [untip_next]; exact hR.fresh
      refine ⟨σ.put st.next ⟨w.heap.size, 0, newCap * inf.size⟩, _, _, hrun, ?_, ?_, (Post.untip hp).trans ?_⟩
      · simp only [RV]
        exact ⟨hs0, _, _, newCap, Sg.put_same _ _ _, rfl, hc, by simp, .inl (by simp)⟩
      · refine growRow (w := { w with drawn := w.drawn + 1 }) (vs := vo ++ vn) (peers := i :: peers) hD (by simp [St.add, untip_next]) hR.fresh ?_ ?_ (by rw [List.all_append, hfo, hfn]; rfl) hcsz hle ?_ e
        · intro j hj
          rcases List.mem_cons.1 hj with rfl | hj
          · exact ⟨p, hp⟩
          · exact hpe j hj
        · simp only [St.add, untip_next]; rw [Tri.get_set, if_pos rfl, List.length_append, g2]
        · intro k v hk
          obtain ⟨y, hy, hry⟩ := hov.get hk
          refine ⟨y, ?_, hry⟩
          have hkl : k < (vo ++ vn).length := (List.getElem?_eq_some_iff.1 hk).1
          simp only [List.length_append] at hkl
          rw [hcs, Array.getElem?_append_left (by simp; omega)]
          rw [← Array.getElem?_toList, Array.toList_append]; exact hy
      · have := Post.put (σ := σ) (st := st.untip i) (o := .row ((len + n) * inf.size) (Tri.ofList (vo ++ vn) 0 .nil) true true (i :: peers)) (p := ⟨w.heap.size, 0, newCap * inf.size⟩) hfr
        rwa [untip_next] at this
  · cases h
end Go.Proofs.YthnldpbkjegfaaaDoor.Sv

namespace Go.Proofs.YthnldpbkjegfaaaDoor.Sv
open Go Go.RowKit

/-- what lies behind a place of an open row is forgotten -/
def St.cut (st : St) (i m : Nat) : Option St :=
  match st.mem.get i with
  | some (.row n cells true true peers) => match Nat.beq n m with
    | true => some st
    | false => match Nat.ble m n, cells.take 0 m with
      | true, some vs => some { st with mem := (killAll st.mem peers).set i (some (.row m (Tri.ofList vs 0 .nil) true true [])) }
      | _, _ => none
  | _ => some st

theorem cut_sound {W0 : World} {σ : Sg} {st st' : St} {w : World} (h : Rel W0 σ st w) {i m : Nat} {p : Pl} (hp : σ i = some p) (hr : st.cut i m = some st') :
    Rel W0 σ st' w ∧ Post σ st σ st' := by
  unfold St.cut at hr
  split at hr
  · rename_i n cells peers hg
    split at hr
    · cases hr; exact ⟨h, .refl _ _⟩
    · split at hr
      · rename_i vs hle htk
        cases hr
        have hle := Nat.le_of_ble_eq_true hle
        obtain ⟨hl, hget⟩ := Tri.take_spec _ _ _ _ htk
        have ho := h.obj i p _ hp hg
        simp only [ObjOk] at ho
        obtain ⟨cs, e, fz, h1, h2, h3, h4, h5, h6, h7⟩ := ho
        have hno : ∀ j q, j ≠ i → σ j = some q → q.blk = p.blk → ((killAll st.mem peers).set i (some (O.row m (Tri.ofList vs 0 .nil) true true []))).get j = none := by
          intro j q hj hq hbq
          rw [Tri.get_set, if_neg hj, get_killAll]
          split
          · rfl
          · rename_i hjp
            cases hgj : st.mem.get j with
            | none => rfl
            | some oj =>
              have := h.sep i j p q _ oj (Ne.symm hj) hp hq hg hgj hbq.symm
              cases oj <;> simp only [Sh] at this
              simp only [true_implies] at this; exact absurd this.1 hjp
        refine ⟨h.turn hp (h.own hp hg rfl rfl) h.below rfl (fun _ _ => rfl) (o' := .row m (Tri.ofList vs 0 .nil) true true []) (by rw [Tri.get_set, if_pos rfl]) ?_ hno ?_, Post.turn (i := i) (p := p) hp ?_⟩
        · intro j hj
          rw [Tri.get_set, if_neg hj, get_killAll]
          split <;> simp
        · simp only [ObjOk]
          refine ⟨cs, e, fz, h1, h2, by omega, by simp, fun k v hk => ?_, h6, by simp⟩
          rw [Tri.get_ofList] at hk
          split at hk
          · rename_i hin
            have := hget k (by omega)
            rw [Nat.zero_add] at this
            rw [Nat.sub_zero] at hk
            obtain ⟨a, b, c⟩ := h5 k v (this.trans hk)
            exact ⟨by omega, b, c⟩
          · simp at hk
        · intro j hj
          rw [Tri.get_set, if_neg (fun e => by subst e; rw [hp] at hj; cases hj), get_killAll]
          split
          · rename_i hjp; obtain ⟨q, hq⟩ := h7 j hjp; rw [hj] at hq; cases hq
          · rfl
      · cases hr
  · cases hr; exact ⟨h, .refl _ _⟩

def appendTo (st : St) (inf : TypeInfo) (n : Nat) (news : List V) (s : Option V) : Option (V × St) :=
  match s with
  | some .nils => match n with
    | 0 => some (.nils, st)
    | n + 1 => growE st (n + 1) inf.size inf.bytes news
  | some (.slice i o len (.known c)) => match Nat.ble (len + n) c with
    | true => match st.write i (o + len * inf.size) news with
      | some st' => some (.slice i o (len + n) (.known c), st')
      | none => none
    | false => match elemsV st inf.size len (some (.slice i o len (.known c))) with
      | some olds => growE st (len + n) inf.size inf.bytes (olds ++ news)
      | none => none
  | some (.slice i o len (.opn sz)) => match Nat.beq sz inf.size with
    | true => match n with
      | 0 => some (.slice i o len (.opn sz), st)
      | n + 1 => match st.mem.get i with
        | some (.row nr _ _ _ _) => match Nat.ble (o + (len + (n + 1)) * sz) nr with
          | true => match st.write i (o + len * sz) news with
            | some st' => some (.slice i o (len + (n + 1)) (.opn sz), st')
            | none => none
          | false => match st.cut i (o + len * sz) with
            | some st1 => match elemsV st1 sz len (some (.slice i o len (.opn sz))) with
              | some olds => match Nat.beq olds.length (len * sz) with
                | true => endE st1 i o (len + (n + 1)) sz inf.bytes olds news
                | false => none
              | none => none
            | none => none
        | _ => none
    | false => none
  | _ => none

/-- append of so many zeros, where there is no room -/
def appendZ (P : Program) (st : St) (e : TypeId) (inf : TypeInfo) (s x : Option V) : Option (V × St) :=
  match x, zeroV P e with
  | some (.int _ (.ofNat n)), some zv => match Nat.beq zv.cells.length inf.size, Nat.beq (n * inf.size) 0, zv.cells.all V.isFlat with
    | true, false, true => match s with
      | some .nils => growE st (0 + n) inf.size inf.bytes ([] ++ zerosV zv.cells (n * inf.size))
      | some (.slice i o len (.known c)) => match Nat.ble (len + n) c, elemsV st inf.size len (some (.slice i o len (.known c))) with
        | false, some olds => growE st (len + n) inf.size inf.bytes (olds ++ zerosV zv.cells (n * inf.size))
        | _, _ => none
      | _ => none
    | _, _, _ => none
  | _, _ => none

def isIntD : TypeDesc → Bool
  | .int _ => true
  | _ => false

def appendE (P : Program) (st : St) (ts : Array TypeId) (s x : Option V) : Option (V × St) :=
  match ts[0]?, ts[1]? with
  | some t0, some t1 => match P.underlying t0, P.underlying t1 with
    | some (.slice e), some d1 => match notInt d1, P.info? e with
      | true, some inf => match inf.zero with
        | some z => match Nat.beq z.cells.size inf.size, sliceLenV x with
          | true, some n => match elemsV st inf.size n x with
            | some news => match Nat.beq news.length (n * inf.size) with
              | true => appendTo st inf n news s
              | false => none
            | none => none
          | _, _ => none
        | none => none
      | false, some inf => match isIntD d1, inf.zero with
        | true, some z => match Nat.beq z.cells.size inf.size with
          | true => appendZ P st e inf s x
          | false => none
        | _, _ => none
      | _, _ => none
    | _, _ => none
  | _, _ => none

theorem zeroCells_eq (z : Array Value) (n : Nat) : Builtin.zeroCells z n = (Array.range (n * z.size)).map (z[· % z.size]!) := rfl

theorem zerosV_flat {zs : List V} (h : zs.all V.isFlat = true) (n : Nat) (h0 : 0 < zs.length) : (zerosV zs n).all V.isFlat = true := by
  unfold zerosV
  rw [List.all_eq_true]
  intro v hv
  obtain ⟨i, _, rfl⟩ := List.mem_map.1 hv
  have hm : i % zs.length < zs.length := Nat.mod_lt _ h0
  rw [List.getD_eq_getElem?_getD, List.getElem?_eq_getElem hm, Option.getD_some]
  exact List.all_eq_true.1 h _ (List.getElem_mem _)

theorem zeroV_eq {P : Program} {σ : Sg} {t : TypeId} {v : V} {inf : TypeInfo} {z : Value} (h : zeroV P t = some v) (hi : P.info? t = some inf) (hz : inf.zero = some z) : RV σ v z := by
  unfold zeroV at h
  rw [hi] at h; simp only at h; rw [hz] at h
  exact ofValue_sound h

theorem appendZ_sound {P : Program} {W0 : World} {σ : Sg} {st st' : St} {w : World} {ts : Array TypeId} {t0 t1 ty e : TypeId} {k : IntKind} {inf : TypeInfo} {z : Value} {s x : Option V} {us u : Value} {r : V} (hR : Rel W0 σ st w)
    (h0 : ts[0]? = some t0) (h1 : ts[1]? = some t1) (ht0 : P.underlying t0 = some (.slice e)) (ht1 : P.underlying t1 = some (.int k)) (hi : P.info? e = some inf) (hzr : inf.zero = some z) (hzl : z.cells.size = inf.size)
    (h : appendZ P st e inf s x = some (r, st')) (hs : ∀ v, s = some v → RV σ v us) (hx : ∀ v, x = some v → RV σ v u) :
    ∃ σ' zv w', (Builtin.append_ ts ty #[us, u]).run P w = .ok zv w' ∧ RV σ' r zv ∧ Rel W0 σ' st' w' ∧ Post σ st σ' st' := by
  unfold appendZ at h
  split at h
  · rename_i k' n zv hzv
    have hu := hx _ rfl
    simp only [RV] at hu
    have hu : u = .int k' (n : Int) := hu
    subst hu
    have rz := zeroV_eq (σ := σ) hzv hi hzr
    split at h
    · rename_i g1 g2 g3
      have g1 := Nat.eq_of_beq_eq_true g1
      have g2 := Nat.ne_of_beq_eq_false g2
      have hpos : 0 < zv.cells.length := by
        rw [g1]
        rcases Nat.eq_zero_or_pos inf.size with h' | h'
        · rw [h'] at g2; simp at g2
        · exact h'
      have hzs := zerosV_sound (σ := σ) rz.cells (n * inf.size) (.inr hpos)
      rw [← hzl, ← zeroCells_eq] at hzs
      rw [hzl] at hzs
      have hzf := zerosV_flat g3 (n * inf.size) hpos
      split at h
      · have hus := hs _ rfl
        simp only [RV] at hus; subst hus
        have hn0 : n ≠ 0 := by rintro rfl; simp at g2
        have := growE_core (os := #[]) (vo := []) (R := (Builtin.append_ ts ty #[.slice none 0 0, .int k' (n : Int)]).run P w) hR hzl (by simp [RVs]) hzs rfl hzf (fun q1 q2 => run_append_zeros (ty := ty) h0 h1 ht0 ht1 hi hzr g2 (fun w' _ => by simp [Builtin.firstCells]) (by omega) q1 q2) h
        exact this
      · rename_i i o len c
        have hus := hs _ rfl
        have hus' := hus
        simp only [RV] at hus
        obtain ⟨p, hp, rfl⟩ := hus
        split at h
        · rename_i olds hle ho
          have hle : ¬ (len + n ≤ c) := fun h' => by
            have := Nat.ble_eq_true_of_le h'; rw [this] at hle; cases hle
          obtain ⟨os, hos, hros, hfo⟩ := elemsV_sound (P := P) (u := .slice (some ⟨p.blk, p.base + o, none⟩) len c) hR ho (fun v hv => by cases hv; exact hus')
          exact growE_core hR hzl hros hzs hfo hzf (fun q1 q2 => run_append_zeros (ty := ty) h0 h1 ht0 ht1 hi hzr g2 hos (by omega) q1 q2) h
        · cases h
      · cases h
    · cases h
  · cases h

theorem write_flat {st st' : St} {i k : Nat} {v : V} {vs : List V} (h : st.write i k (v :: vs) = some st') : ∃ n cells opn peers, st.mem.get i = some (.row n cells opn true peers) ∧ k + (v :: vs).length ≤ n := by
  simp only [St.write] at h
  split at h
  · rename_i n cells opn peers hg
    split at h
    · rename_i h1 h2; exact ⟨_, _, _, _, hg, Nat.le_of_ble_eq_true h1⟩
    · cases h
  · cases h

set_option maxHeartbeats 1000000 in
theorem appendE_sound {P : Program} {W0 : World} {σ : Sg} {st st' : St} {w : World} {ts : Array TypeId} {ty : TypeId} {s x : Option V} {us u : Value} {r : V} (hR : Rel W0 σ st w)
    (h : appendE P st ts s x = some (r, st')) (hs : ∀ v, s = some v → RV σ v us) (hx : ∀ v, x = some v → RV σ v u) :
    ∃ σ' zv w', (Builtin.append_ ts ty #[us, u]).run P w = .ok zv w' ∧ RV σ' r zv ∧ Rel W0 σ' st' w' ∧ Post σ st σ' st' := by
  unfold appendE at h
  split at h
  · rename_i t0 t1 h0 h1
    split at h
    · rename_i e d1 ht0 ht1
      split at h
      · rename_i inf hd hi
        split at h
        · rename_i z hzr
          split at h
          · rename_i n hzl hn
            have hzl := Nat.eq_of_beq_eq_true hzl
            split at h
            · rename_i news hnews
              split at h
              · rename_i hnl
                have hnl := Nat.eq_of_beq_eq_true hnl
                have hlen := sliceLenV_sound (P := P) hn hx
                obtain ⟨xs, hxs, hrn, hfn⟩ := elemsV_sound (P := P) hR hnews hx
                have hxl : xs.size = n * inf.size := by have := hrn.length; simp at this; omega
                unfold appendTo at h
                split at h
                · -- nil
                  have hus := hs _ rfl
                  simp only [RV] at hus; subst hus
                  split at h
                  · cases h
                    have hrun := run_append_room (ty := ty) (w := w) (w' := w) (base := none) (cap := 0) (len := 0) h0 h1 ht0 ht1 hd hi hlen (hxs w rfl) (by omega) rfl
                    exact ⟨σ, _, w, hrun, by simp only [RV], hR, .refl _ _⟩
                  · rename_i n
                    have := growE_sound (ty := ty) (base := none) (cap := 0) (len := 0) (os := #[]) (vo := []) (vn := news) hR h0 h1 ht0 ht1 hd hi hzr hzl hlen hxs (fun w' _ => by simp [Builtin.firstCells]) (by omega) (by simp [RVs]) hrn rfl hfn (r := r) (st' := st') (by simpa using h)
                    simpa using this
                · rename_i i o len c
                  have hus := hs _ rfl
                  have hus' := hus
                  simp only [RV] at hus
                  obtain ⟨p, hp, rfl⟩ := hus
                  split at h
                  · rename_i hle
                    have hle := Nat.le_of_ble_eq_true hle
                    split at h
                    · rename_i st1 hw1
                      cases h
                      obtain ⟨w', e1, r1, q1⟩ := write_sound hR hp hw1 hrn P
                      have hrun := run_append_room (ty := ty) (w' := w') (base := some ⟨p.blk, p.base + o, none⟩) (cap := c) (len := len) h0 h1 ht0 ht1 hd hi hlen (hxs w rfl) hle (by
                        simp only [addr_add]; rw [Nat.add_assoc]; exact e1)
                      exact ⟨σ, _, w', hrun, by simp only [RV]; exact ⟨p, hp, rfl⟩, r1, q1⟩
                    · cases h
                  · rename_i hle
                    have hle : ¬ (len + n ≤ c) := fun h' => by
                      have := Nat.ble_eq_true_of_le h'; rw [this] at hle; cases hle
                    split at h
                    · rename_i olds ho
                      obtain ⟨os, hos, hros, hfo⟩ := elemsV_sound (P := P) (u := .slice (some ⟨p.blk, p.base + o, none⟩) len c) hR ho (fun v hv => by cases hv; exact hus')
                      exact growE_sound (ty := ty) (cap := c) (len := len) hR h0 h1 ht0 ht1 hd hi hzr hzl hlen hxs hos (by omega) hros hrn hfo hfn h
                    · cases h
                · rename_i i o len sz
                  have hus := hs _ rfl
                  have hus' := hus
                  split at h
                  · rename_i hsz
                    obtain rfl := Nat.eq_of_beq_eq_true hsz
                    simp only [RV] at hus
                    obtain ⟨hs0, p, a, c, hp, rfl, hlc, htot, ha⟩ := hus
                    cases n with
                    | zero =>
                      simp only at h
                      cases h
                      have hxs0 : xs = #[] := by have : xs.size = 0 := by simpa using hxl
                                                 exact Array.eq_empty_of_size_eq_zero this
                      have hrun := run_append_room (ty := ty) (w' := w) (base := some a) (cap := c) (len := len) h0 h1 ht0 ht1 hd hi hlen (hxs w rfl) (by omega) (by rw [hxs0]; rfl)
                      exact ⟨σ, _, w, hrun, hus', hR, .refl _ _⟩
                    | succ n =>
                      simp only at h
                      split at h
                      · rename_i nr cells opn tip peers hg
                        split at h
                        · rename_i hle
                          have hle := Nat.le_of_ble_eq_true hle
                          split at h
                          · rename_i st1 hw1
                            cases h
                            have hoi := hR.obj i p _ hp hg
                            simp only [ObjOk] at hoi
                            obtain ⟨_, _, _, _, _, b3, _⟩ := hoi
                            have hroom : len + (n + 1) ≤ c := by
                              have : (len + (n + 1)) * inf.size ≤ c * inf.size := by omega
                              exact Nat.le_of_mul_le_mul_right this hs0
                            have hax : a = ⟨p.blk, p.base + o, none⟩ := by
                              rcases ha with ha | ⟨_, hc0⟩
                              · exact ha
                              · omega
                            subst hax
                            obtain ⟨w', e1, r1, q1⟩ := write_sound hR hp hw1 hrn P
                            have hrun := run_append_room (ty := ty) (w' := w') (base := some ⟨p.blk, p.base + o, none⟩) (cap := c) (len := len) h0 h1 ht0 ht1 hd hi hlen (hxs w rfl) hroom (by
                              simp only [addr_add]; rw [Nat.add_assoc]; exact e1)
                            exact ⟨σ, _, w', hrun, by simp only [RV]; exact ⟨hs0, p, _, c, hp, rfl, hroom, htot, .inl rfl⟩, r1, q1⟩
                          · cases h
                        · split at h
                          · rename_i st1 hcut
                            obtain ⟨hR1, hP1⟩ := cut_sound hR hp hcut
                            split at h
                            · rename_i olds ho
                              split at h
                              · rename_i hol
                                have hol := Nat.eq_of_beq_eq_true hol
                                obtain ⟨σ', z', w', q1, q2, q3, q4⟩ := endE_sound (ty := ty) (z := z) hR1 h0 h1 ht0 ht1 hd hi hzr hzl hlen hxs hus' (by omega) ho hrn hfn hol h
                                exact ⟨σ', z', w', q1, q2, q3, hP1.trans q4⟩
                              · cases h
                            · cases h
                          · cases h
                      · cases h
                  · cases h
                · cases h
              · cases h
            · cases h
          · cases h
        · cases h
      · rename_i inf hd hi
        split at h
        · rename_i z hii hzr
          split at h
          · rename_i hzl
            have hzl := Nat.eq_of_beq_eq_true hzl
            cases d1 <;> simp only [isIntD] at hii <;> (try cases hii)
            exact appendZ_sound (ty := ty) hR h0 h1 ht0 ht1 hi hzr hzl h hs hx
          · cases h
        · cases h
      · cases h
    · cases h
  · cases h

/-! ### copy -/
def copyE (P : Program) (st : St) (ts : Array TypeId) (d s : Option V) : Option (V × St) :=
  match ts[0]? with
  | some t0 => match P.underlying t0 with
    | some (.slice e) => match P.info? e, sliceLenV d, sliceLenV s with
      | some inf, some n, some m =>
        let k := Nat.min m n
        match elemsV st inf.size k s with
        | some vs => match d with
          | some .nils => some (.int .i64 (.ofNat k), st)
          | some (.slice i o _ _) => match k, vs with
            | 0, [] => some (.int .i64 (.ofNat 0), st)
            | k + 1, vs => match st.write i o vs with
              | some st' => some (.int .i64 (.ofNat (k + 1)), st')
              | none => none
            | _, _ => none
          | _ => none
        | none => none
      | _, _, _ => none
    | _ => none
  | none => none

theorem copyE_sound {P : Program} {W0 : World} {σ : Sg} {st st' : St} {w : World} {ts : Array TypeId} {ty : TypeId} {d s : Option V} {ud us : Value} {r : V} (hR : Rel W0 σ st w)
    (h : copyE P st ts d s = some (r, st')) (hd : ∀ v, d = some v → RV σ v ud) (hs : ∀ v, s = some v → RV σ v us) :
    ∃ zv w', (Builtin.copy_ ts ty #[ud, us]).run P w = .ok zv w' ∧ RV σ r zv ∧ Rel W0 σ st' w' ∧ Post σ st σ st' := by
  unfold copyE at h
  split at h
  · rename_i t0 h0
    split at h
    · rename_i e ht
      split at h
      · rename_i inf n m hi hn hm
        simp only at h
        split at h
        · rename_i vs hv
          have hl := sliceLenV_sound (P := P) hm hs w
          obtain ⟨xs, hxs, hr, hf⟩ := elemsV_sound (P := P) hR hv hs
          split at h
          · cases h
            have hu := hd _ rfl; simp only [RV] at hu; subst hu
            have hn0 : n = 0 := by simp [sliceLenV] at hn; exact hn.symm
            subst hn0
            have hx := hxs w rfl
            refine ⟨.int .i64 (Nat.min m 0 : Nat), w, ?_, by simp only [RV]; rfl, hR, .refl _ _⟩
            simp [Builtin.copy_, h0, run_underlying ht, hl, sizeOf, typeInfo, hi, goInt]
            simp at hx
            rw [hx]; rfl
          · rename_i i o len c
            have hu := hd _ rfl
            have hlen : n = len := by simp [sliceLenV] at hn; exact hn.symm
            subst hlen
            split at h
            · rename_i hk
              cases h
              obtain ⟨a, c', rfl⟩ := slice_any hu
              have hx := hxs w rfl
              simp only [RVs] at hr
              have hx0 : xs = #[] := Array.toList_eq_nil_iff.1 hr
              refine ⟨.int .i64 0, w, ?_, by simp only [RV]; rfl, hR, .refl _ _⟩
              simp only [Builtin.copy_]
              rw [hk] at hx
              simp [h0, run_underlying ht, hl, sizeOf, typeInfo, hi, goInt]
              rw [hk, hx, hx0]
              simp [storeCells]
            · rename_i k hk
              split at h
              · rename_i st1 hw1
                cases h
                have hn0 : n ≠ 0 := by
                  intro h0'; subst h0'
                  have : Nat.min m 0 = 0 := Nat.min_zero m
                  omega
                obtain ⟨p, c', hp, rfl⟩ := slice_exact hu hn0
                have hx := hxs w rfl
                obtain ⟨w', e1, r1, q1⟩ := write_sound hR hp hw1 hr P
                refine ⟨.int .i64 (k + 1 : Nat), w', ?_, by simp only [RV]; rfl, r1, q1⟩
                rw [hk] at hx
                simp [Builtin.copy_, h0, run_underlying ht, hl, sizeOf, typeInfo, hi, goInt]
                rw [hk, hx]
                simp [e1]
              · cases h
            · cases h
          · cases h
        · cases h
      · cases h
    · cases h
  · cases h
end Go.Proofs.YthnldpbkjegfaaaDoor.Sv

namespace Go.Proofs.YthnldpbkjegfaaaDoor.Sv
open Go Go.RowKit

/-! ### maps: what is written -/
theorem map_turn {W0 : World} {σ : Sg} {st : St} {w : World} (hR : Rel W0 σ st w) {i : Nat} {p : Pl} {es es1 : List (V × V × Nat)} {clock c1 : Nat} {es2 : Array MapEntry}
    (hp : σ i = some p) (hg : st.mem.get i = some (.map es clock)) (hr : REs σ es1 es2.toList) :
    Rel W0 σ { st with mem := st.mem.set i (some (.map es1 c1)) } { w with heap := w.heap.setIfInBounds p.blk (.map es2 c1) } ∧
      Post σ st σ { st with mem := st.mem.set i (some (.map es1 c1)) } := by
  have hb := hR.blk i p hp
  have hown := hR.own hp hg rfl rfl; have hownl := hown.le
  have ho := hR.obj i p _ hp hg
  simp only [ObjOk] at ho
  obtain ⟨_, _, _, h0⟩ := ho
  refine ⟨hR.turn hp (hR.own hp hg rfl rfl) ⟨hR.below.os, hR.below.tape, hR.below.output, by simp; exact hR.below.size, fun k hk => ?_⟩ (by simp) (fun b hb' => ?_) (o' := .map es1 c1) (by rw [Tri.get_set, if_pos rfl]) (fun j hj => ?_) (fun j q hj hq hbq => ?_) ?_, Post.turn hp fun j hj => ?_⟩
  · rw [Array.getElem?_setIfInBounds, if_neg (by omega)]; exact hR.below.block k hk
  · rw [Array.getElem?_setIfInBounds, if_neg (Ne.symm hb')]
  · rw [Tri.get_set, if_neg hj]; exact .inl rfl
  · rw [Tri.get_set, if_neg hj]
    cases hgj : st.mem.get j with
    | none => rfl
    | some oj =>
      have := hR.sep i j p q _ oj (Ne.symm hj) hp hq hg hgj hbq.symm
      simp only [Sh] at this
  · simp only [ObjOk]
    exact ⟨es2, by rw [Array.getElem?_setIfInBounds, if_pos rfl, if_pos hb.2], hr, h0⟩
  · rw [Tri.get_set, if_neg (fun e => by subst e; rw [hp] at hj; cases hj)]

theorem REs.append {σ : Sg} : ∀ {es es' : List (V × V × Nat)} {l l' : List MapEntry}, REs σ es l → REs σ es' l' → REs σ (es ++ es') (l ++ l')
  | [], es', l, l', h, k => by simp only [REs] at h; subst h; simpa using k
  | (a, b, c) :: es, es', l, l', h, k => by
    simp only [REs] at h; obtain ⟨x, y, r, rfl, h1, h2, h3⟩ := h
    simp only [List.cons_append, REs]; exact ⟨x, y, _, rfl, h1, h2, REs.append h3 k⟩

theorem REs.modify {σ : Sg} (f : V × V × Nat → V × V × Nat) (g : MapEntry → MapEntry)
    (hfg : ∀ k v b x y, RV σ k x → RV σ v y → ∃ x' y', g { key := x, val := y, born := b } = { key := x', val := y', born := (f (k, v, b)).2.2 } ∧ RV σ (f (k, v, b)).1 x' ∧ RV σ (f (k, v, b)).2.1 y') :
    ∀ {es : List (V × V × Nat)} {l : List MapEntry} (j : Nat), REs σ es l → REs σ (es.modify j f) (l.modify j g)
  | [], l, j, h => by simp only [REs] at h; subst h; cases j <;> simp [REs]
  | (a, b, c) :: es, l, 0, h => by
    simp only [REs] at h; obtain ⟨x, y, r, rfl, h1, h2, h3⟩ := h
    obtain ⟨x', y', e, k1, k2⟩ := hfg a b c x y h1 h2
    simp only [List.modify_zero_cons, e]
    generalize f (a, b, c) = q at *
    obtain ⟨q1, q2, q3⟩ := q
    simp only [REs]; exact ⟨x', y', r, rfl, k1, k2, h3⟩
  | (a, b, c) :: es, l, j + 1, h => by
    simp only [REs] at h; obtain ⟨x, y, r, rfl, h1, h2, h3⟩ := h
    simp only [List.modify_succ_cons, REs]
    exact ⟨x, y, _, rfl, h1, h2, REs.modify f g hfg j h3⟩

theorem REs.eraseIdx {σ : Sg} : ∀ {es : List (V × V × Nat)} {l : List MapEntry} (j : Nat), REs σ es l → REs σ (es.eraseIdx j) (l.eraseIdx j)
  | [], l, j, h => by simp only [REs] at h; subst h; simp [REs]
  | (a, b, c) :: es, l, 0, h => by simp only [REs] at h; obtain ⟨x, y, r, rfl, h1, h2, h3⟩ := h; simpa using h3
  | (a, b, c) :: es, l, j + 1, h => by
    simp only [REs] at h; obtain ⟨x, y, r, rfl, h1, h2, h3⟩ := h
    simp only [List.eraseIdx_cons_succ, REs]; exact ⟨x, y, _, rfl, h1, h2, REs.eraseIdx j h3⟩

theorem findNow_spec {d : TypeDesc} {k : Value} : ∀ {l : List MapEntry} {i j : Nat} {x : Value}, Instr.findNow d k l i = some (some (j, x)) →
    i ≤ j ∧ ∃ en, l[j - i]? = some en ∧ en.val = x ∧ Instr.sameNow d k en.key = some true
  | [], i, j, x, h => by simp [Instr.findNow] at h
  | e :: l, i, j, x, h => by
    simp only [Instr.findNow] at h
    split at h
    · rename_i hs
      simp only [Option.some.injEq, Prod.mk.injEq] at h
      obtain ⟨rfl, rfl⟩ := h
      exact ⟨Nat.le_refl _, e, by simp, rfl, hs⟩
    · obtain ⟨h1, en, h2, h3, h4⟩ := findNow_spec h
      exact ⟨by omega, en, by rw [show j - i = (j - (i + 1)) + 1 by omega]; simpa using h2, h3, h4⟩
    · cases h

theorem sameNow_eq {d : TypeDesc} {a b : Value} (h : Instr.sameNow d a b = some true) : b = a ∧ Instr.sameBits 10000 a a = true := by
  unfold Instr.sameNow at h
  split at h
  · split at h
    · rename_i e; subst e; simp at h; subst h; exact ⟨rfl, by simp [Instr.sameBits]⟩
    · cases h
  · rename_i s t
    rw [beq_toListBytes] at h
    simp at h
    rw [ByteArray.toList_eq, ByteArray.toList_eq] at h
    have : s = t := by cases s; cases t; simp at h ⊢; exact h
    subst this
    refine ⟨rfl, ?_⟩
    simp only [Instr.sameBits]; rw [beq_toListBytes]; simp
  · simp at h; subst h; exact ⟨rfl, by simp [Instr.sameBits]⟩
  · cases h

theorem run_keyThatStays {P : Program} {a : Value} (h : Instr.sameBits 10000 a a = true) (w : World) : (Instr.keyThatStays a a).run P w = .ok a w := by
  unfold Instr.keyThatStays
  rw [h]; rfl

theorem run_getObj_map {P : Program} {w : World} {r : Nat} {es : Array MapEntry} {c : Nat} (h : w.heap[r]? = some (.map es c)) : (getObj r).run P w = .ok (.map es c) w := by
  simp [getObj, Sem.run, h]
theorem run_setObj_map {P : Program} {w : World} {r : Nat} {es : Array MapEntry} {c : Nat} (h : w.heap[r]? = some (.map es c)) (o : Obj) :
    (setObj r o).run P w = .ok () { w with heap := w.heap.setIfInBounds r o } := by
  simp [setObj, Sem.run, h]

def clearE (P : Program) (st : St) (ts : Array TypeId) (x : Option V) : Option St :=
  match ts[0]? with
  | some t => match P.underlying t with
    | some (.slice e) => match x with
      | some .nils => some st
      | some (.slice i o n _) => match n with
        | 0 => some st
        | k + 1 => match zeroV P e with
          | some z => match Nat.beq z.cells.length 0 with
            | false => st.write i o (zerosV z.cells ((k + 1) * z.cells.length))
            | true => none
          | none => none
      | _ => none
    | some (.map _ _) => match x with
      | some .nilmap => some st
      | some (.map i) => match st.mem.get i with
        | some (.map _ clock) => some { st with mem := st.mem.set i (some (.map [] clock)) }
        | _ => none
      | _ => none
    | _ => none
  | none => none

theorem clearE_sound {P : Program} {W0 : World} {σ : Sg} {st st' : St} {w : World} {ts : Array TypeId} {ty : TypeId} {x : Option V} {u : Value} (hR : Rel W0 σ st w)
    (h : clearE P st ts x = some st') (hx : ∀ v, x = some v → RV σ v u) : ∃ w', (Builtin.clear_ ts ty #[u]).run P w = .ok undef w' ∧ Rel W0 σ st' w' ∧ Post σ st σ st' := by
  unfold clearE at h
  split at h
  · rename_i t h0
    split at h
    · rename_i e ht
      split at h
      · cases h
        have hu := hx _ rfl; simp only [RV] at hu; subst hu
        exact ⟨w, by simp [Builtin.clear_, h0, run_underlying ht]; rfl, hR, .refl _ _⟩
      · rename_i i o n c
        have hu := hx _ rfl
        split at h
        · cases h
          obtain ⟨a, c', rfl⟩ := slice_any hu
          exact ⟨w, by simp [Builtin.clear_, h0, run_underlying ht]; rfl, hR, .refl _ _⟩
        · rename_i k
          split at h
          · rename_i z hz
            split at h
            · rename_i hz0
              obtain ⟨p, c', hp, rfl⟩ := slice_exact hu (by omega)
              obtain ⟨zv, ez, rz⟩ := zeroV_sound (σ := σ) hz
              have hl : zv.cells.size = z.cells.length := by have := rz.cells.length; simpa using this
              have hzs := zerosV_sound (σ := σ) rz.cells ((k + 1) * z.cells.length) (.inr (by have := Nat.ne_of_beq_eq_false hz0; omega))
              rw [← hl, ← zeroCells_eq] at hzs
              rw [← hl] at h
              obtain ⟨w', e1, r1, q1⟩ := write_sound hR hp h hzs P
              refine ⟨w', ?_, r1, q1⟩
              simp [Builtin.clear_, h0, run_underlying ht, ez w, e1]; rfl
            · cases h
          · cases h
      · cases h
    · rename_i kt et ht
      split at h
      · cases h
        have hu := hx _ rfl; simp only [RV] at hu; subst hu
        exact ⟨w, by simp [Builtin.clear_, h0, run_underlying ht]; rfl, hR, .refl _ _⟩
      · rename_i i
        split at h
        · rename_i es clock hg
          cases h
          have hu := hx _ rfl; simp only [RV] at hu
          obtain ⟨p, hp, rfl⟩ := hu
          have ho := hR.obj i p _ hp hg
          simp only [ObjOk] at ho
          obtain ⟨es', h1, h2, _⟩ := ho
          obtain ⟨r1, q1⟩ := map_turn (es1 := []) (c1 := clock) (es2 := #[]) hR hp hg (by simp [REs])
          refine ⟨_, ?_, r1, q1⟩
          simp [Builtin.clear_, h0, run_underlying ht, run_getObj_map h1, run_setObj_map h1]; rfl
        · cases h
      · cases h
    · cases h
  · cases h

def mapUpdateE (P : Program) (st : St) (t : TypeId) (m k x : Option V) : Option St :=
  match P.underlying t, m, k, x with
  | some (.map kt _), some (.map i), some kv, some xv => match P.underlying kt, st.mem.get i with
    | some d, some (.map es clock) => match keyOk P d kv with
      | true => match findV P kt d kv es 0 with
        | some (some (j, _)) => some { st with mem := st.mem.set i (some (.map (es.modify j fun e => (kv, xv, e.2.2)) clock)) }
        | some none => some { st with mem := st.mem.set i (some (.map (es ++ [(kv, xv, clock)]) (clock + 1))) }
        | none => none
      | false => none
    | _, _ => none
  | _, _, _, _ => none

theorem mapUpdateE_sound {P : Program} {W0 : World} {σ : Sg} {st st' : St} {w : World} {t : TypeId} {m k x : Option V} {um uk ux : Value} (hR : Rel W0 σ st w)
    (h : mapUpdateE P st t m k x = some st') (hm : ∀ v, m = some v → RV σ v um) (hk : ∀ v, k = some v → RV σ v uk) (hx : ∀ v, x = some v → RV σ v ux) :
    ∃ w', (Instr.mapUpdate t um uk ux).run P w = .ok () w' ∧ Rel W0 σ st' w' ∧ Post σ st σ st' := by
  unfold mapUpdateE at h
  split at h
  · rename_i kt et i kv xv ht
    split at h
    · rename_i d es clock hd hg
      split at h
      · rename_i hpk
        have hum := hm _ rfl
        simp only [RV] at hum
        obtain ⟨p, hp, rfl⟩ := hum
        have hkv := hk _ rfl
        have hxv := hx _ rfl
        have ho := hR.obj i p _ hp hg
        simp only [ObjOk] at ho
        obtain ⟨es', h1, h2, _⟩ := ho
        split at h
        · rename_i j v' hf
          cases h
          obtain ⟨r', e, mm⟩ := findKey_run hd hkv hf h2
          cases r' with
          | none => simp only [FoundOk] at mm
          | some q =>
            obtain ⟨j', y⟩ := q
            simp only [FoundOk] at mm
            obtain ⟨rfl, _, _, _, en, e1, _, e2⟩ := mm
            have e1 : es'[j]? = some en := by rw [← Array.getElem?_toList]; simpa using e1
            obtain ⟨key, w1, ek, hw1, hkk⟩ := keyStays (P := P) e2 hkv w
            have hR1 : Rel W0 σ st w1 := by rcases hw1 with rfl | rfl <;> first | exact hR | exact hR.drew _
            have h1' : w1.heap[p.blk]? = some (.map es' clock) := by rcases hw1 with rfl | rfl <;> exact h1
            obtain ⟨r1, q1⟩ := map_turn (es1 := es.modify j fun e => (kv, xv, e.2.2)) (c1 := clock) (es2 := es'.modify j fun e => { e with key := key, val := ux }) hR1 hp hg (by
              rw [Array.toList_modify]
              exact REs.modify _ _ (fun k v b x y _ _ => ⟨key, ux, rfl, hkk, hxv⟩) j h2)
            refine ⟨_, ?_, r1, q1⟩
            simp only [Instr.mapUpdate, Sem.run_bind, run_underlying ht, Result.andThen_ok, run_getObj_map h1, run_checkKeyV hd hpk hkv, e, e1, Option.map_some, Option.getD_some, ek, run_setObj_map h1']
        · rename_i hf
          cases h
          obtain ⟨r', e, mm⟩ := findKey_run hd hkv hf h2
          cases r' with
          | some q => simp only [FoundOk] at mm
          | none =>
            obtain ⟨r1, q1⟩ := map_turn (es1 := es ++ [(kv, xv, clock)]) (c1 := clock + 1) (es2 := es'.push { key := uk, val := ux, born := clock }) hR hp hg (by
              rw [Array.toList_push]
              exact REs.append h2 (by simp only [REs]; exact ⟨uk, ux, [], rfl, hkv, hxv, rfl⟩))
            refine ⟨_, ?_, r1, q1⟩
            simp only [Instr.mapUpdate, Sem.run_bind, run_underlying ht, Result.andThen_ok, run_getObj_map h1, run_checkKeyV hd hpk hkv, e, run_setObj_map h1]
        · cases h
      · cases h
    · cases h
  · cases h

def deleteE (P : Program) (st : St) (ts : Array TypeId) (m k : Option V) : Option St :=
  match ts[0]? with
  | some t => match P.underlying t, k with
    | some (.map kt _), some kv => match P.underlying kt with
      | some d => match keyOk P d kv with
        | true => match m with
          | some .nilmap => some st
          | some (.map i) => match st.mem.get i with
            | some (.map es clock) => match findV P kt d kv es 0 with
              | some (some (j, _)) => some { st with mem := st.mem.set i (some (.map (es.eraseIdx j) clock)) }
              | some none => some { st with mem := st.mem.set i (some (.map es clock)) }
              | none => none
            | _ => none
          | _ => none
        | false => none
      | none => none
    | _, _ => none
  | none => none

theorem deleteE_sound {P : Program} {W0 : World} {σ : Sg} {st st' : St} {w : World} {ts : Array TypeId} {ty : TypeId} {m k : Option V} {um uk : Value} (hR : Rel W0 σ st w)
    (h : deleteE P st ts m k = some st') (hm : ∀ v, m = some v → RV σ v um) (hk : ∀ v, k = some v → RV σ v uk) :
    ∃ w', (Builtin.delete_ ts ty #[um, uk]).run P w = .ok (.tuple #[]) w' ∧ Rel W0 σ st' w' ∧ Post σ st σ st' := by
  unfold deleteE at h
  split at h
  · rename_i t h0
    split at h
    · rename_i kt et kv ht
      have hkv := hk _ rfl
      split at h
      · rename_i d hd
        split at h
        · rename_i hpk
          split at h
          · cases h
            have hum := hm _ rfl
            simp only [RV] at hum; subst hum
            refine ⟨w, ?_, hR, .refl _ _⟩
            simp [Builtin.delete_, h0, run_underlying ht, run_checkKeyV hd hpk hkv]
          · rename_i i
            have hum := hm _ rfl
            simp only [RV] at hum
            obtain ⟨p, hp, rfl⟩ := hum
            split at h
            · rename_i es clock hg
              have ho := hR.obj i p _ hp hg
              simp only [ObjOk] at ho
              obtain ⟨es', h1, h2, _⟩ := ho
              split at h
              · rename_i j v' hf
                cases h
                obtain ⟨r', e, mm⟩ := findKey_run hd hkv hf h2
                cases r' with
                | none => simp only [FoundOk] at mm
                | some q =>
                  obtain ⟨j', y⟩ := q
                  simp only [FoundOk] at mm
                  obtain ⟨rfl, _⟩ := mm
                  obtain ⟨r1, q1⟩ := map_turn (es1 := es.eraseIdx j) (c1 := clock) (es2 := es'.eraseIdxIfInBounds j) hR hp hg (by
                    have : (es'.eraseIdxIfInBounds j).toList = es'.toList.eraseIdx j := by
                      unfold Array.eraseIdxIfInBounds
                      split
                      · simp
                      · rename_i hlt; rw [List.eraseIdx_of_length_le (by simp; omega)]
                    rw [this]; exact REs.eraseIdx j h2)
                  refine ⟨_, ?_, r1, q1⟩
                  simp [Builtin.delete_, h0, run_underlying ht, run_getObj_map h1, run_checkKeyV hd hpk hkv, e, run_setObj_map h1]
              · rename_i hf
                cases h
                obtain ⟨r', e, mm⟩ := findKey_run hd hkv hf h2
                cases r' with
                | some q => simp only [FoundOk] at mm
                | none =>
                  obtain ⟨r1, q1⟩ := map_turn (es1 := es) (c1 := clock) (es2 := es') hR hp hg h2
                  refine ⟨_, ?_, r1, q1⟩
                  simp [Builtin.delete_, h0, run_underlying ht, run_getObj_map h1, run_checkKeyV hd hpk hkv, e, run_setObj_map h1]
              · cases h
            · cases h
          · cases h
        · cases h
      · cases h
    · cases h
  · cases h

def mapEntryE (P : Program) (st : St) (t : TypeId) (m k : Option V) : Option (V × St) :=
  match P.underlying t, m, k with
  | some (.map kt et), some (.map i), some kv => match P.underlying kt, st.mem.get i with
    | some d, some (.map es clock) => match keyOk P d kv with
      | true => match findV P kt d kv es 0 with
        | some (some (j, v)) => match es[j]? with
          | some e => some (.tuple [v, .int .i64 (.ofNat e.2.2)], { st with mem := st.mem.set i (some (.map (es.modify j fun e => (kv, e.2.1, e.2.2)) clock)) })
          | none => none
        | some none => match zeroV P et with
          | some z => some (.tuple [z, .int .i64 (.ofNat clock)], { st with mem := st.mem.set i (some (.map (es ++ [(kv, z, clock)]) (clock + 1))) })
          | none => none
        | none => none
      | false => none
    | _, _ => none
  | _, _, _ => none

theorem REs.get {σ : Sg} : ∀ {es : List (V × V × Nat)} {l : List MapEntry} {j : Nat} {e : V × V × Nat}, REs σ es l → es[j]? = some e →
    ∃ en, l[j]? = some en ∧ en.born = e.2.2 ∧ RV σ e.1 en.key ∧ RV σ e.2.1 en.val
  | [], l, j, e, h, k => by simp at k
  | (a, b, c) :: es, l, 0, e, h, k => by
    simp only [REs] at h; obtain ⟨x, y, r, rfl, h1, h2, h3⟩ := h
    simp at k; subst k; exact ⟨{ key := x, val := y, born := c }, by simp, rfl, h1, h2⟩
  | (a, b, c) :: es, l, j + 1, e, h, k => by
    simp only [REs] at h; obtain ⟨x, y, r, rfl, h1, h2, h3⟩ := h
    simp at k; obtain ⟨en, e1, e2⟩ := REs.get h3 k; exact ⟨en, by simpa using e1, e2⟩

theorem mapEntryE_sound {P : Program} {W0 : World} {σ : Sg} {st st' : St} {w : World} {t : TypeId} {m k : Option V} {um uk : Value} {r : V} (hR : Rel W0 σ st w)
    (h : mapEntryE P st t m k = some (r, st')) (hm : ∀ v, m = some v → RV σ v um) (hk : ∀ v, k = some v → RV σ v uk) :
    ∃ z w', (Instr.mapEntry t um uk).run P w = .ok z w' ∧ RV σ r z ∧ Rel W0 σ st' w' ∧ Post σ st σ st' := by
  unfold mapEntryE at h
  split at h
  · rename_i kt et i kv ht
    split at h
    · rename_i d es clock hd hg
      split at h
      · rename_i hpk
        have hum := hm _ rfl
        simp only [RV] at hum
        obtain ⟨p, hp, rfl⟩ := hum
        have hkv := hk _ rfl
        have ho := hR.obj i p _ hp hg
        simp only [ObjOk] at ho
        obtain ⟨es', h1, h2, _⟩ := ho
        split at h
        · rename_i j v' hf
          split at h
          · rename_i ev hev
            cases h
            obtain ⟨r', e, mm⟩ := findKey_run hd hkv hf h2
            cases r' with
            | none => simp only [FoundOk] at mm
            | some q =>
              obtain ⟨j', y⟩ := q
              simp only [FoundOk] at mm
              obtain ⟨rfl, hy, _, _, en, e1, _, e2⟩ := mm
              have hen : es'[j]? = some en := by rw [← Array.getElem?_toList]; simpa using e1
              obtain ⟨en', f1, f2, _⟩ := h2.get hev
              rw [Array.getElem?_toList, hen] at f1; obtain rfl := Option.some.inj f1
              obtain ⟨key, w1, ek, hw1, hkk⟩ := keyStays (P := P) e2 hkv w
              have hR1 : Rel W0 σ st w1 := by rcases hw1 with rfl | rfl <;> first | exact hR | exact hR.drew _
              have h1' : w1.heap[p.blk]? = some (.map es' clock) := by rcases hw1 with rfl | rfl <;> exact h1
              obtain ⟨r1, q1⟩ := map_turn (es1 := es.modify j fun e => (kv, e.2.1, e.2.2)) (c1 := clock) (es2 := es'.modify j fun e => { e with key := key }) hR1 hp hg (by
                rw [Array.toList_modify]
                exact REs.modify _ _ (fun k v b x y _ hv => ⟨key, y, rfl, hkk, hv⟩) j h2)
              refine ⟨.tuple #[y, goInt en.born], _, ?_, RV.pair hy (by simp only [RV, f2]; rfl), r1, q1⟩
              simp only [Instr.mapEntry, Sem.run_bind, run_underlying ht, Result.andThen_ok, run_getObj_map h1, run_checkKeyV hd hpk hkv, e, hen, Option.map_some, Option.getD_some, ek, run_setObj_map h1', Sem.run_pure]
          · cases h
        · rename_i hf
          split at h
          · rename_i z hz
            cases h
            obtain ⟨r', e, mm⟩ := findKey_run hd hkv hf h2
            obtain ⟨z', ez, rz⟩ := zeroV_sound (σ := σ) hz
            cases r' with
            | some q => simp only [FoundOk] at mm
            | none =>
              obtain ⟨r1, q1⟩ := map_turn (es1 := es ++ [(kv, z, clock)]) (c1 := clock + 1) (es2 := es'.push { key := uk, val := z', born := clock }) hR hp hg (by
                rw [Array.toList_push]
                exact REs.append h2 (by simp only [REs]; exact ⟨uk, z', [], rfl, hkv, rz, rfl⟩))
              refine ⟨.tuple #[z', goInt clock], _, ?_, RV.pair rz (by simp only [RV]; rfl), r1, q1⟩
              simp only [Instr.mapEntry, Sem.run_bind, run_underlying ht, Result.andThen_ok, run_getObj_map h1, run_checkKeyV hd hpk hkv, e, ez, run_setObj_map h1, Sem.run_pure]
          · cases h
        · cases h
      · cases h
    · cases h
  · cases h

def findBorn (b : Nat) : List (V × V × Nat) → Nat → Option Nat
  | [], _ => none
  | (_, _, c) :: es, i => match Nat.beq c b with
    | true => some i
    | false => findBorn b es (i + 1)

theorem findBorn_sound {σ : Sg} {b : Nat} : ∀ {es : List (V × V × Nat)} {l : List MapEntry} {i j : Nat}, REs σ es l → findBorn b es i = some j →
    ∃ j', j = i + j' ∧ l.findIdx? (fun e => (e.born : Int) == (b : Int)) = some j'
  | [], l, i, j, h, k => by simp [findBorn] at k
  | (x, y, c) :: es, l, i, j, h, k => by
    simp only [REs] at h; obtain ⟨u, v, r, rfl, h1, h2, h3⟩ := h
    simp only [findBorn] at k
    split at k
    · rename_i e; have e := Nat.eq_of_beq_eq_true e; subst e
      obtain rfl := Option.some.inj k
      exact ⟨0, rfl, by simp [List.findIdx?_cons]⟩
    · rename_i e; have e := Nat.ne_of_beq_eq_false e
      obtain ⟨j', e1, e2⟩ := findBorn_sound h3 k
      refine ⟨j' + 1, by omega, ?_⟩
      rw [List.findIdx?_cons]
      have : ((c : Int) == (b : Int)) = false := by simp; omega
      simp only [this, Bool.false_eq_true, if_false, e2]; rfl

def entryStoreE (st : St) (m s x : Option V) : Option St :=
  match m, s, x with
  | some (.map i), some (.int _ (.ofNat b)), some xv => match st.mem.get i with
    | some (.map es clock) => match findBorn b es 0 with
      | some j => some { st with mem := st.mem.set i (some (.map (es.modify j fun e => (e.1, xv, e.2.2)) clock)) }
      | none => none
    | _ => none
  | _, _, _ => none

theorem entryStoreE_sound {P : Program} {W0 : World} {σ : Sg} {st st' : St} {w : World} {t : TypeId} {m s x : Option V} {um us ux : Value} (hR : Rel W0 σ st w)
    (h : entryStoreE st m s x = some st') (hm : ∀ v, m = some v → RV σ v um) (hs : ∀ v, s = some v → RV σ v us) (hx : ∀ v, x = some v → RV σ v ux) :
    ∃ w', (Instr.entryStore t um us ux).run P w = .ok () w' ∧ Rel W0 σ st' w' ∧ Post σ st σ st' := by
  unfold entryStoreE at h
  split at h
  · rename_i i k b xv
    split at h
    · rename_i es clock hg
      split at h
      · rename_i j hf
        cases h
        have hum := hm _ rfl
        simp only [RV] at hum
        obtain ⟨p, hp, rfl⟩ := hum
        have hus := hs _ rfl
        simp only [RV] at hus; subst hus
        have hxv := hx _ rfl
        have ho := hR.obj i p _ hp hg
        simp only [ObjOk] at ho
        obtain ⟨es', h1, h2, _⟩ := ho
        obtain ⟨j', rfl, e2⟩ := findBorn_sound h2 hf
        obtain ⟨r1, q1⟩ := map_turn (es1 := es.modify (0 + j') fun e => (e.1, xv, e.2.2)) (c1 := clock) (es2 := es'.modify j' fun e => { e with val := ux }) hR hp hg (by
          rw [Array.toList_modify, Nat.zero_add]
          exact REs.modify _ _ (fun k v b x y hk _ => ⟨x, ux, rfl, hk, hxv⟩) j' h2)
        refine ⟨_, ?_, r1, q1⟩
        have hfi : es'.findIdx? (fun e => (e.born : Int) == Int.ofNat b) = some j' := by
          have : es' = es'.toList.toArray := by simp
          rw [this, List.findIdx?_toArray]; exact e2
        simp only [Instr.entryStore, Sem.run_bind, run_getObj_map h1, Result.andThen_ok, asInt, asIntOf, Sem.run_pure, hfi, run_setObj_map h1]
      · cases h
    · cases h
  · cases h
end Go.Proofs.YthnldpbkjegfaaaDoor.Sv

namespace Go.Proofs.YthnldpbkjegfaaaDoor.Sv
open Go Go.RowKit

/-- an object that is no row is another one -/
theorem obj_turn {W0 : World} {σ : Sg} {st : St} {w : World} (hR : Rel W0 σ st w) {i : Nat} {p : Pl} {o o' : O} {ob : Obj} (hp : σ i = some p) (hg : st.mem.get i = some o)
    (ho : ∀ n c op ti pe, o ≠ .row n c op ti pe) (hok : ObjOk σ p { w with heap := w.heap.setIfInBounds p.blk ob } o') (htp : o.isTip = false := by rfl) (hst : o.still = false := by rfl) :
    Rel W0 σ { st with mem := st.mem.set i (some o') } { w with heap := w.heap.setIfInBounds p.blk ob } ∧ Post σ st σ { st with mem := st.mem.set i (some o') } := by
  have hb := hR.blk i p hp
  have hown := hR.own hp hg hst htp; have hownl := hown.le
  refine ⟨hR.turn hp hown ⟨hR.below.os, hR.below.tape, hR.below.output, by simp; exact hR.below.size, fun k hk => ?_⟩ (by simp) (fun b hb' => ?_) (o' := o') (by rw [Tri.get_set, if_pos rfl]) (fun j hj => ?_) (fun j q hj hq hbq => ?_) hok, Post.turn hp fun j hj => ?_⟩
  · rw [Array.getElem?_setIfInBounds, if_neg (by omega)]; exact hR.below.block k hk
  · rw [Array.getElem?_setIfInBounds, if_neg (Ne.symm hb')]
  · rw [Tri.get_set, if_neg hj]; exact .inl rfl
  · rw [Tri.get_set, if_neg hj]
    cases hgj : st.mem.get j with
    | none => rfl
    | some oj =>
      exfalso
      have := hR.sep i j p q _ oj (Ne.symm hj) hp hq hg hgj hbq.symm
      cases o <;> first | exact ho _ _ _ _ _ rfl | (simp only [Sh] at this)
  · rw [Tri.get_set, if_neg (fun e => by subst e; rw [hp] at hj; cases hj)]

/-! ### iteration over a map -/
def memN (b : Nat) : List Nat → Bool
  | [] => false
  | x :: l => match Nat.beq b x with
    | true => true
    | false => memN b l
theorem memN_iff (b : Nat) : ∀ l, memN b l = true ↔ b ∈ l
  | [] => by simp [memN]
  | x :: l => by
    simp only [memN]
    split
    · rename_i h; simp [Nat.eq_of_beq_eq_true h]
    · rename_i h; rw [memN_iff b l]; have := Nat.ne_of_beq_eq_false h; simp [this]

def insN (b : Nat) : List Nat → List Nat
  | [] => [b]
  | x :: l => match Nat.ble b x with
    | true => b :: x :: l
    | false => x :: insN b l
theorem mem_insN (b c : Nat) : ∀ l, c ∈ insN b l ↔ c = b ∨ c ∈ l
  | [] => by simp [insN]
  | x :: l => by
    simp only [insN]
    split
    · simp
    · simp only [List.mem_cons, mem_insN b c l]
      constructor
      · rintro (h | h | h) <;> simp [h]
      · rintro (h | h | h) <;> simp [h]

def leftsV (seen : List Nat) (es : List (V × V × Nat)) : List (V × V × Nat) := es.filter fun e => !memN e.2.2 seen

def allOld (since : Nat) : List (V × V × Nat) → Bool
  | [] => true
  | e :: es => match Nat.ble (e.2.2 + 1) since with
    | true => allOld since es
    | false => false
theorem allOld_spec {σ : Sg} {since : Nat} : ∀ {es : List (V × V × Nat)} {l : List MapEntry}, allOld since es = true → REs σ es l → ∀ x ∈ l, x.born < since
  | [], l, _, h => by simp only [REs] at h; subst h; simp
  | (k, v, b) :: es, l, h, hr => by
    simp only [REs] at hr
    obtain ⟨x, y, r, rfl, _, _, h3⟩ := hr
    simp only [allOld] at h
    split at h
    · rename_i hb
      have hb := Nat.le_of_ble_eq_true hb
      intro z hz
      rcases List.mem_cons.1 hz with rfl | hz
      · exact hb
      · exact allOld_spec h h3 z hz
    · cases h

theorem REs.mem {σ : Sg} : ∀ {es : List (V × V × Nat)} {l : List MapEntry}, REs σ es l → ∀ x ∈ l, ∃ e ∈ es, e.2.2 = x.born ∧ RV σ e.1 x.key ∧ RV σ e.2.1 x.val
  | [], l, h => by simp only [REs] at h; subst h; simp
  | (k, v, b) :: es, l, hr => by
    simp only [REs] at hr
    obtain ⟨x, y, r, rfl, h1, h2, h3⟩ := hr
    intro z hz
    rcases List.mem_cons.1 hz with rfl | hz
    · exact ⟨(k, v, b), by simp, rfl, h1, h2⟩
    · obtain ⟨e, he, h⟩ := REs.mem h3 z hz; exact ⟨e, by simp [he], h⟩

theorem REs.borns {σ : Sg} : ∀ {es : List (V × V × Nat)} {l : List MapEntry}, REs σ es l → l.map (·.born) = es.map (·.2.2)
  | [], l, h => by simp only [REs] at h; subst h; rfl
  | (k, v, b) :: es, l, hr => by
    simp only [REs] at hr
    obtain ⟨x, y, r, rfl, h1, h2, h3⟩ := hr
    simp [REs.borns h3]

/-- the iterator behind a step -/
def stepSt (st : St) (i m since : Nat) (seen : List Nat) (b clock : Nat) : St := { st with mem := st.mem.set i (some (.mIter m since (insN b seen) (some b) clock)) }

theorem next_any {P : Program} {W0 : World} {σ : Sg} {st : St} {w : World} (hR : Rel W0 σ st w) {i m since last clock : Nat} {seen : List Nat} {cur : Option Nat} {es : List (V × V × Nat)} {p : Pl} (hp : σ i = some p)
    (hg : st.mem.get i = some (.mIter m since seen cur last)) (hm : st.mem.get m = some (.map es clock)) (ho : allOld since es = true) (hs : since ≤ last) (ty : TypeId) :
    p.base = 0 ∧ ((leftsV seen es = [] ∧ (Instr.next (.pointer (some ⟨p.blk, 0, none⟩)) false ty).run P w = .ok (.tuple #[.bool false]) w) ∨
      ∃ e ∈ leftsV seen es, ∃ x y w', (Instr.next (.pointer (some ⟨p.blk, 0, none⟩)) false ty).run P w = .ok (.tuple #[.bool true, x, y]) w' ∧ RV σ e.1 x ∧ RV σ e.2.1 y ∧
        Rel W0 σ (stepSt st i m since seen e.2.2 clock) w' ∧ Post σ st σ (stepSt st i m since seen e.2.2 clock)) := by
  have h := hR.obj i p _ hp hg
  simp only [ObjOk] at h
  obtain ⟨q, sa, h1, ⟨r, h2, rfl⟩, h4, h5, _⟩ := h
  have hmo := hR.obj m r _ h2 hm
  simp only [ObjOk] at hmo
  obtain ⟨es', k1, k2, _⟩ := hmo
  refine ⟨h4, ?_⟩
  have hold := allOld_spec ho k2
  have hleft : ∀ x ∈ es'.toList, (sa.contains x.born = memN x.born seen) := by
    intro x _
    rw [Bool.eq_iff_iff, memN_iff, ← h5]; simp
  rcases run_next_at (P := P) w ty p.blk r.blk since last sa es' clock h1 k1 hold hs with ⟨e0, hrun⟩ | ⟨e, he, w1, hw1, hrun⟩
  · left
    refine ⟨?_, hrun⟩
    have : (leftOf es' sa) = #[] := Array.eq_empty_of_size_eq_zero e0
    unfold leftOf at this
    rw [Array.filter_eq_empty_iff] at this
    unfold leftsV
    rw [List.filter_eq_nil_iff]
    intro a ha hn
    have hb : a.2.2 ∈ es'.toList.map (·.born) := by rw [k2.borns]; exact List.mem_map_of_mem ha
    obtain ⟨x, hx, hxb⟩ := List.mem_map.1 hb
    have := this x (by simpa using hx)
    rw [hleft x hx, hxb] at this
    exact this hn
  · right
    unfold leftOf at he
    have he' : e ∈ es'.toList ∧ sa.contains e.born = false := by simp at he ⊢; exact he
    obtain ⟨a, ha, hb, r1, r2⟩ := REs.mem k2 e he'.1
    refine ⟨a, ?_, e.key, e.val, _, hrun, r1, r2, ?_⟩
    · unfold leftsV
      rw [List.mem_filter]
      refine ⟨ha, ?_⟩
      have := hleft e he'.1
      rw [he'.2] at this
      rw [hb, ← this]; rfl
    · have hR1 : Rel W0 σ st w1 := by
        rcases hw1 with rfl | rfl
        · exact hR
        · exact hR.drew _
      have hh1 : w1.heap = w.heap := by rcases hw1 with rfl | rfl <;> rfl
      refine obj_turn (o := .mIter m since seen cur last) (o' := .mIter m since (insN a.2.2 seen) (some a.2.2) clock) (ob := .mapIter (some r.blk) since (sa.push e.born) clock) hR1 hp hg (by intros; simp) ?_
      simp only [ObjOk]
      refine ⟨r.blk, sa.push e.born, ?_, ⟨r, h2, rfl⟩, h4, fun b => ?_, fun b hb' => ?_⟩
      · have := (hR1.blk i p hp).2
        rw [Array.getElem?_setIfInBounds, if_pos rfl, if_pos this]
      · rw [mem_insN, Array.mem_push, h5, hb, or_comm]
      · cases hb'; rw [hb]; simp

/-- nothing is left -/
def overE (st : St) (it : Option V) : Bool :=
  match it with
  | some (.ptr i 0) => match st.mem.get i with
    | some .nilIter => true
    | some (.mIter m since seen _ last) => match st.mem.get m with
      | some (.map es _) => match leftsV seen es, allOld since es, Nat.ble since last with
        | [], true, true => true
        | _, _, _ => false
      | _ => false
    | _ => false
  | _ => false

theorem overE_sound {P : Program} {W0 : World} {σ : Sg} {st : St} {w : World} {it : Option V} {u : Value} (hR : Rel W0 σ st w) (h : overE st it = true) (hx : ∀ v, it = some v → RV σ v u) (ty : TypeId) :
    (Instr.next u false ty).run P w = .ok (.tuple #[.bool false]) w := by
  unfold overE at h
  split at h
  · rename_i i
    have hu := hx _ rfl
    simp only [RV] at hu
    obtain ⟨p, hp, rfl⟩ := hu
    split at h
    · rename_i hg
      have ho := hR.obj i p _ hp hg
      simp only [ObjOk] at ho
      rw [ho.2]
      simp [Instr.next, getObj, Sem.run, ho.1]
    · rename_i m since seen cur last hg
      split at h
      · rename_i es clock hm
        split at h
        · rename_i hl ho hs
          obtain ⟨hb, hc⟩ := next_any (P := P) hR hp hg hm ho (Nat.le_of_ble_eq_true hs) ty
          rw [hb]
          rcases hc with ⟨_, hrun⟩ | ⟨e, he, _⟩
          · exact hrun
          · rw [hl] at he; cases he
        · cases h
      · cases h
    · cases h
  · cases h

/-- one alone is left -/
def oneE (st : St) (it : Option V) : Option (V × St) :=
  match it with
  | some (.ptr i 0) => match st.mem.get i with
    | some (.mIter m since seen _ last) => match st.mem.get m with
      | some (.map es clock) => match leftsV seen es, allOld since es, Nat.ble since last with
        | [e], true, true => some (.tuple [.bool true, e.1, e.2.1], stepSt st i m since seen e.2.2 clock)
        | _, _, _ => none
      | _ => none
    | _ => none
  | _ => none

theorem oneE_sound {P : Program} {W0 : World} {σ : Sg} {st st' : St} {w : World} {it : Option V} {u : Value} {v : V} (hR : Rel W0 σ st w) (h : oneE st it = some (v, st')) (hx : ∀ v, it = some v → RV σ v u) (ty : TypeId) :
    ∃ z w', (Instr.next u false ty).run P w = .ok z w' ∧ RV σ v z ∧ Rel W0 σ st' w' ∧ Post σ st σ st' := by
  unfold oneE at h
  split at h
  · rename_i i
    have hu := hx _ rfl
    simp only [RV] at hu
    obtain ⟨p, hp, rfl⟩ := hu
    split at h
    · rename_i m since seen cur last hg
      split at h
      · rename_i es clock hm
        split at h
        · rename_i e hl ho hs
          cases h
          obtain ⟨hb, hc⟩ := next_any (P := P) hR hp hg hm ho (Nat.le_of_ble_eq_true hs) ty
          rw [hb]
          rcases hc with ⟨h0, _⟩ | ⟨e', he, x, y, w', hrun, r1, r2, r3, r4⟩
          · rw [hl] at h0; cases h0
          · rw [hl] at he
            obtain rfl := List.mem_singleton.1 he
            refine ⟨_, w', hrun, ?_, r3, r4⟩
            simp only [RV]; exact ⟨_, rfl, by simp only [RVs, RV]; exact ⟨_, _, rfl, rfl, _, _, rfl, r1, _, _, rfl, r2, rfl⟩⟩
        · cases h
      · cases h
    · cases h
  · cases h

def rangeE (P : Program) (st : St) (t : TypeId) (x : Option V) : Option (V × St) :=
  match P.underlying t, x with
  | some (.map _ _), some .nilmap => some (.ptr st.next 0, st.add .nilIter)
  | some (.map _ _), some (.map i) => match st.mem.get i with
    | some (.map _ clock) => some (.ptr st.next 0, st.add (.mIter i clock [] none clock))
    | _ => none
  | _, _ => none

theorem rangeE_sound {P : Program} {W0 : World} {σ : Sg} {st st' : St} {w : World} {t : TypeId} {x : Option V} {u : Value} {v : V} (hR : Rel W0 σ st w) (h : rangeE P st t x = some (v, st')) (hx : ∀ v, x = some v → RV σ v u) :
    ∃ σ' z w', (Instr.range t u).run P w = .ok z w' ∧ RV σ' v z ∧ Rel W0 σ' st' w' ∧ Post σ st σ' st' := by
  have hfr := hR.fresh
  unfold rangeE at h
  split at h
  · rename_i kt et ht
    cases h
    have hu := hx _ rfl; simp only [RV] at hu; subst hu
    refine ⟨σ.put st.next ⟨w.heap.size, 0, 0⟩, .pointer (some ⟨w.heap.size, 0, none⟩), _, ?_, by simp only [RV]; exact ⟨_, Sg.put_same _ _ _, rfl⟩,
      (hR.add .nilIter).place (x := st.next) (ob := .mapIter none 0 #[] 0) (by simp [St.add]) hfr (by simp only [St.add]; rw [Tri.get_set, if_pos rfl]) ?_, Post.put hfr⟩
    · simp [Instr.range, run_underlying ht, newObj, Sem.run]
    · simp only [ObjOk]; exact ⟨heap_push_eq _ _, trivial⟩
  · rename_i kt et i ht
    split at h
    · rename_i es clock hg
      cases h
      have hu := hx _ rfl; simp only [RV] at hu
      obtain ⟨p, hp, rfl⟩ := hu
      have ho := hR.obj i p _ hp hg
      simp only [ObjOk] at ho
      obtain ⟨es', h1, _, _⟩ := ho
      refine ⟨σ.put st.next ⟨w.heap.size, 0, 0⟩, .pointer (some ⟨w.heap.size, 0, none⟩), _, ?_, by simp only [RV]; exact ⟨_, Sg.put_same _ _ _, rfl⟩,
        (hR.add (.mIter i clock [] none clock)).place (x := st.next) (ob := .mapIter (some p.blk) clock #[] clock) (by simp [St.add]) hfr (by simp only [St.add]; rw [Tri.get_set, if_pos rfl]) ?_, Post.put hfr⟩
      · simp [Instr.range, run_underlying ht, run_getObj_map h1, newObj, Sem.run]
      · simp only [ObjOk]
        exact ⟨p.blk, #[], heap_push_eq _ _, ⟨p, Sg.le_put hfr _ _ hp, rfl⟩, trivial, by simp, by simp⟩
    · cases h
  · cases h

def bornsN : List (V × V × Nat) → List Nat → Bool
  | [], _ => true
  | e :: es, l => match memN e.2.2 l with
    | true => false
    | false => bornsN es (e.2.2 :: l)
theorem bornsN_spec : ∀ (es : List (V × V × Nat)) (l : List Nat), bornsN es l = true → (es.map (·.2.2)).Nodup ∧ ∀ b ∈ es.map (·.2.2), b ∉ l
  | [], l, _ => by simp
  | e :: es, l, h => by
    simp only [bornsN] at h
    split at h
    · cases h
    · rename_i hm
      have hm' : e.2.2 ∉ l := fun hl => by rw [(memN_iff _ _).2 hl] at hm; cases hm
      obtain ⟨h1, h2⟩ := bornsN_spec es _ h
      simp only [List.map_cons, List.nodup_cons]
      refine ⟨⟨fun hin => ?_, h1⟩, fun b hb => ?_⟩
      · exact h2 _ hin (by simp)
      · rcases List.mem_cons.1 hb with rfl | hb
        · exact hm'
        · intro hl; exact h2 b hb (by simp [hl])

def findB (b : Nat) : List (V × V × Nat) → Option (V × V)
  | [] => none
  | e :: es => match Nat.beq e.2.2 b with
    | true => some (e.1, e.2.1)
    | false => findB b es

def entryE (st : St) (it : Option V) : Option V :=
  match it with
  | some (.ptr i 0) => match st.mem.get i with
    | some (.mIter m _ _ (some b) last) => match st.mem.get m with
      | some (.map es clock) => match Nat.beq last clock, bornsN es [], findB b es with
        | true, true, some (k, v) => some (.tuple [k, v])
        | _, _, _ => none
      | _ => none
    | _ => none
  | _ => none

theorem findB_spec {σ : Sg} {b : Nat} : ∀ {es : List (V × V × Nat)} {l : List MapEntry} {k v : V}, findB b es = some (k, v) → REs σ es l → ∃ e ∈ l, e.born = b ∧ RV σ k e.key ∧ RV σ v e.val
  | [], l, k, v, h, _ => by cases h
  | (k', v', b') :: es, l, k, v, h, hr => by
    simp only [REs] at hr
    obtain ⟨x, y, r, rfl, h1, h2, h3⟩ := hr
    simp only [findB] at h
    split at h
    · rename_i hb
      simp only [Option.some.injEq, Prod.mk.injEq] at h
      obtain ⟨rfl, rfl⟩ := h
      exact ⟨_, List.mem_cons_self .., Nat.eq_of_beq_eq_true hb, h1, h2⟩
    · obtain ⟨e, he, h⟩ := findB_spec h h3; exact ⟨e, List.mem_cons_of_mem _ he, h⟩

theorem entryE_sound {P : Program} {W0 : World} {σ : Sg} {st : St} {w : World} {it : Option V} {u : Value} {v : V} (hR : Rel W0 σ st w) (h : entryE st it = some v) (hx : ∀ v, it = some v → RV σ v u) :
    ∃ z, (Instr.entry u).run P w = .ok z w ∧ RV σ v z := by
  unfold entryE at h
  split at h
  · rename_i i
    have hu := hx _ rfl
    simp only [RV] at hu
    obtain ⟨p, hp, rfl⟩ := hu
    split at h
    · rename_i m since seen b last hg
      split at h
      · rename_i es clock hm
        split at h
        · rename_i k v' hl hn hf
          obtain rfl := Option.some.inj h
          obtain rfl := Nat.eq_of_beq_eq_true hl
          have ho := hR.obj i p _ hp hg
          simp only [ObjOk] at ho
          obtain ⟨q, sa, h1, ⟨r, h2, rfl⟩, h4, h5, h6⟩ := ho
          have hmo := hR.obj m r _ h2 hm
          simp only [ObjOk] at hmo
          obtain ⟨es', k1, k2, _⟩ := hmo
          obtain ⟨e, he, rfl, r1, r2⟩ := findB_spec hf k2
          have hback := h6 _ rfl
          obtain ⟨sb, rfl⟩ : ∃ sb : Array Nat, sa = sb.push e.born := by
            rw [Array.back?_eq_some_iff] at hback
            obtain ⟨sb, hsb⟩ := hback
            exact ⟨sb, hsb⟩
          have hnd : (es'.toList.map (·.born)).Nodup := by rw [k2.borns]; exact (bornsN_spec es [] hn).1
          rw [h4]
          refine ⟨.tuple #[e.key, e.val], run_entry_at w p.blk r.blk since sb es' last e h1 k1 he hnd, ?_⟩
          simp only [RV]; exact ⟨_, rfl, by simp only [RVs]; exact ⟨_, _, rfl, r1, _, _, rfl, r2, rfl⟩⟩
        · cases h
      · cases h
    · cases h
  · cases h
end Go.Proofs.YthnldpbkjegfaaaDoor.Sv

namespace Go.Proofs.YthnldpbkjegfaaaDoor.Sv
open Go Go.RowKit

/-! ### appends to a slice of which not all is known by numerals -/
/-- cells that hold a slice's pieces, one behind the other -/
structure ElsIn (σ : Sg) (sz : Nat) (ns : List (Option Nat)) (es : Nat → Nat → V) (xs : Array Value) : Prop where
  size : xs.size = totN ns * sz
  flat : ∀ x ∈ xs.toList, flatX x
  el : ∀ j s, ns[j]? = some s → ∀ k, k < segN s → ∃ y, RV σ.free (es j k) y ∧ y.cells.size = sz ∧ ∀ t x, y.cells[t]? = some x → xs[(offN ns j + k) * sz + t]? = some x

def catE (n : Nat) (es fs : Nat → Nat → V) : Nat → Nat → V := fun j => match Nat.ble (j + 1) n with | true => es j | false => fs (j - n)

theorem catE_left {n j : Nat} {es fs : Nat → Nat → V} (h : j < n) : catE n es fs j = es j := by
  unfold catE; rw [Nat.ble_eq_true_of_le h]
theorem catE_right {n j : Nat} {es fs : Nat → Nat → V} : catE n es fs (n + j) = fs j := by
  unfold catE
  have : Nat.ble (n + j + 1) n = false := by
    rw [Bool.eq_false_iff]; intro h; have := Nat.le_of_ble_eq_true h; omega
  rw [this]; simp

theorem mul_lt_of {a b sz t : Nat} (h : a + 1 ≤ b) (ht : t < sz) : a * sz + t < b * sz := by
  have : (a + 1) * sz ≤ b * sz := Nat.mul_le_mul_right _ h
  rw [Nat.add_mul] at this; omega

theorem ElsIn.append {σ : Sg} {sz : Nat} {ns ms : List (Option Nat)} {es fs : Nat → Nat → V} {xs ys : Array Value} (h : ElsIn σ sz ns es xs) (k : ElsIn σ sz ms fs ys) :
    ElsIn σ sz (ns ++ ms) (catE ns.length es fs) (xs ++ ys) where
  size := by rw [Array.size_append, h.size, k.size, totN_append, Nat.add_mul]
  flat x hx := by
    rw [Array.toList_append] at hx
    rcases List.mem_append.1 hx with hx | hx
    · exact h.flat x hx
    · exact k.flat x hx
  el j s hs i hi := by
    by_cases hj : j < ns.length
    · rw [List.getElem?_append_left hj] at hs
      obtain ⟨y, h1, h2, h3⟩ := h.el j s hs i hi
      refine ⟨y, by rw [catE_left hj]; exact h1, h2, fun t x hx => ?_⟩
      have ht : t < sz := by rw [← h2]; exact (Array.getElem?_eq_some_iff.1 hx).1
      have := offN_le ns j s hs
      rw [offN_left ns ms j hj, Array.getElem?_append_left (by rw [h.size]; exact mul_lt_of (by omega) ht)]
      exact h3 t x hx
    · obtain ⟨j', rfl⟩ : ∃ j', j = ns.length + j' := ⟨j - ns.length, by omega⟩
      rw [List.getElem?_append_right (by omega), Nat.add_sub_cancel_left] at hs
      obtain ⟨y, h1, h2, h3⟩ := k.el j' s hs i hi
      refine ⟨y, by rw [catE_right]; exact h1, h2, fun t x hx => ?_⟩
      rw [offN_right ns ms j', Array.getElem?_append_right (by rw [h.size, Nat.add_assoc, Nat.add_mul]; omega), h.size]
      rw [show (totN ns + offN ms j' + i) * sz + t - totN ns * sz = (offN ms j' + i) * sz + t by rw [Nat.add_assoc, Nat.add_mul]; omega]
      exact h3 t x hx

/-- the pieces stand where nobody writes -/
def FzEls (σ : Sg) (b o sz : Nat) (ns : List (Option Nat)) (es : Nat → Nat → V) : Prop :=
  ∀ j s, ns[j]? = some s → ∀ k, k < segN s → ∃ y, RV σ.free (es j k) y ∧ FzAt σ.fz b (o + (offN ns j + k) * sz) sz y

theorem totN_pos {ns : List (Option Nat)} (h : 0 < totN ns) : ∃ j s k, ns[j]? = some s ∧ k < segN s ∧ offN ns j + k + 1 = totN ns := by
  induction ns with
  | nil => simp [totN] at h
  | cons s ns ih =>
    rw [totN_cons] at h ⊢
    by_cases h2 : 0 < totN ns
    · obtain ⟨j, s', k, h3, h4, h5⟩ := ih h2
      exact ⟨j + 1, s', k, by simpa using h3, h4, by simp only [offN]; omega⟩
    · exact ⟨0, s, segN s - 1, rfl, by omega, by simp only [offN]; omega⟩

/-- where is the k-th element? -/
theorem totN_find : ∀ {ns : List (Option Nat)} {k : Nat}, k < totN ns → ∃ j s i, ns[j]? = some s ∧ i < segN s ∧ k = offN ns j + i
  | [], k, h => by simp [totN] at h
  | s :: ns, k, h => by
    rw [totN_cons] at h
    by_cases h2 : k < segN s
    · exact ⟨0, s, k, rfl, h2, by simp [offN]⟩
    · obtain ⟨j, s', i, h3, h4, h5⟩ := totN_find (ns := ns) (k := k - segN s) (by omega)
      exact ⟨j + 1, s', i, by simpa using h3, h4, by simp only [offN]; omega⟩

/-- cells that nobody writes hold them -/
theorem FzEls.els {W0 : World} {σ : Sg} {st : St} {w : World} (hR : Rel W0 σ st w) {b o sz : Nat} {ns : List (Option Nat)} {es : Nat → Nat → V} (h : FzEls σ b o sz ns es) (hsz : 0 < sz) (hn : 0 < totN ns) :
    ∃ cs e fz, w.heap[b]? = some (.cells cs e fz) ∧ o + totN ns * sz ≤ cs.size ∧ ElsIn σ sz ns es (cs.extract o (o + totN ns * sz)) ∧ ∀ t, t < totN ns * sz → ∃ x, σ.fz b (o + t) = some x ∧ cs[o + t]? = some x := by
  have hall : ∀ t, t < totN ns * sz → ∃ x, σ.fz b (o + t) = some x ∧ w.cell? ⟨b, o + t, none⟩ = some x ∧ flatX x := by
    intro t ht
    have hq : t / sz < totN ns := (Nat.div_lt_iff_lt_mul hsz).2 ht
    obtain ⟨j, s, i, h1, h2, h3⟩ := totN_find hq
    obtain ⟨y, h4, h5, h6⟩ := h j s h1 i h2
    have hr : t % sz < y.cells.size := by rw [h5]; exact Nat.mod_lt _ hsz
    obtain ⟨h7, h8⟩ := h6 (t % sz) _ (Array.getElem?_eq_getElem hr)
    rw [← h3, Nat.add_assoc, Nat.mul_comm, Nat.div_add_mod] at h7
    exact ⟨_, h7, (hR.frz _ _ _ h7).1, h8⟩
  have hpos : 0 < totN ns * sz := Nat.mul_pos hn hsz
  obtain ⟨cs, e, fz, hb⟩ : ∃ cs e fz, w.heap[b]? = some (.cells cs e fz) := by
    obtain ⟨x, _, hc, _⟩ := hall 0 hpos
    unfold World.cell? at hc
    simp only at hc
    split at hc
    · rename_i hh; exact ⟨_, _, _, hh⟩
    · cases hc
  have hcell : ∀ t, t < totN ns * sz → ∃ x, σ.fz b (o + t) = some x ∧ cs[o + t]? = some x ∧ flatX x := by
    intro t ht
    obtain ⟨x, h1, h2, h3⟩ := hall t ht
    rw [cell_of hb] at h2
    exact ⟨x, h1, h2, h3⟩
  have hle : o + totN ns * sz ≤ cs.size := by
    obtain ⟨x, _, h2, _⟩ := hcell (totN ns * sz - 1) (by omega)
    have := (Array.getElem?_eq_some_iff.1 h2).1; omega
  have hext : ∀ t, t < totN ns * sz → (cs.extract o (o + totN ns * sz))[t]? = cs[o + t]? := by
    intro t ht
    rw [Array.getElem?_extract_of_lt (by omega)]
    exact (Array.getElem?_eq_getElem (by omega)).symm
  refine ⟨cs, e, fz, hb, hle, ⟨by simp [Array.size_extract]; omega, fun x hx => ?_, fun j s hs k hk => ?_⟩, fun t ht => let ⟨x, h1, h2, _⟩ := hcell t ht; ⟨x, h1, h2⟩⟩
  · obtain ⟨t, ht, hx⟩ := List.getElem_of_mem hx
    have ht' : t < totN ns * sz := by simp [Array.size_extract] at ht; omega
    obtain ⟨x', _, h2, h3⟩ := hcell t ht'
    have : (cs.extract o (o + totN ns * sz))[t]? = some x := by rw [← Array.getElem?_toList, List.getElem?_eq_getElem ht, hx]
    rw [hext t ht', h2] at this
    obtain rfl := Option.some.inj this
    exact h3
  · obtain ⟨y, h4, h5, h6⟩ := h j s hs k hk
    refine ⟨y, h4, h5, fun t x hx => ?_⟩
    have ht : t < sz := by rw [← h5]; exact (Array.getElem?_eq_some_iff.1 hx).1
    have hoff := offN_le ns j s hs
    have hlt : (offN ns j + k) * sz + t < totN ns * sz := mul_lt_of (by omega) ht
    obtain ⟨h7, _⟩ := h6 t x hx
    obtain ⟨x', h8, h9, _⟩ := hcell _ hlt
    rw [← Nat.add_assoc] at h8 h9
    rw [h7] at h8
    obtain rfl := Option.some.inj h8
    rw [hext _ hlt, ← Nat.add_assoc]; exact h9

/-! ### to what is appended -/
def accBase (st : St) (sz : Nat) : V → Option (Option Nat × List (Option Nat) × (Nat → Nat → V))
  | .nils => some (none, [], fun _ _ => .nilp)
  | .acc i sz' ns es => match Nat.beq sz' sz, st.mem.get i with
    | true, some .tip => some (some i, ns, es)
    | _, _ => none
  | .ro true n sz' es => match Nat.beq sz' sz with
    | true => some (none, [some n], fun _ => es)
    | false => none
  | .slice _ _ n (.known c) => match n, c with
    | 0, 0 => some (none, [], fun _ _ => .nilp)
    | _, _ => none
  | _ => none

/-- what is known of a slice to which is appended -/
def AccAt (σ : Sg) (st : St) (sz : Nat) (k : Option Nat) (ns : List (Option Nat)) (es : Nat → Nat → V) (u : Value) : Prop :=
  ∃ a c, u = .slice a (totN ns) c ∧ totN ns ≤ c ∧ (0 < totN ns → ∃ b o, a = some ⟨b, o, none⟩ ∧ FzEls σ b o sz ns es) ∧
    (c = totN ns ∨ ∃ i p o, k = some i ∧ st.mem.get i = some .tip ∧ σ i = some p ∧ a = some ⟨p.blk, o, none⟩ ∧ p.base = o + totN ns * sz ∧ p.tot = (c - totN ns) * sz)

theorem accBase_sound {σ : Sg} {st : St} {sz : Nat} {v : V} {u : Value} {k : Option Nat} {ns : List (Option Nat)} {es : Nat → Nat → V} (h : accBase st sz v = some (k, ns, es)) (hv : RV σ v u) :
    AccAt σ st sz k ns es u := by
  unfold accBase at h
  split at h
  · cases h
    simp only [RV] at hv; subst hv
    exact ⟨none, 0, by simp [totN], by simp [totN], fun h => by simp [totN] at h, .inl (by simp [totN])⟩
  · rename_i i sz' ns' es'
    split at h <;> cases h
    rename_i hs hg
    obtain rfl := Nat.eq_of_beq_eq_true hs
    simp only [RV] at hv
    obtain ⟨a, c, rfl, h1, h2, h3⟩ := hv
    exact ⟨a, c, rfl, h1, h2, h3.imp id fun ⟨p, o, e1, e2⟩ => ⟨i, p, o, rfl, hg, e1, e2⟩⟩
  · rename_i n sz' es'
    split at h <;> cases h
    rename_i hs
    obtain rfl := Nat.eq_of_beq_eq_true hs
    simp only [RV] at hv
    obtain ⟨a, c, rfl, h1, h2, h3⟩ := hv
    have ht : totN [some n] = n := rfl
    refine ⟨a, c, by rw [ht], by rw [ht]; exact h1, fun hn => ?_, .inl (by rw [ht]; exact h2 trivial)⟩
    obtain ⟨b, o, e1, h4⟩ := h3 (by rw [ht] at hn; exact hn)
    refine ⟨b, o, e1, fun j s hs k hk => ?_⟩
    cases j with
    | zero => simp at hs; subst hs; simpa [offN] using h4 k hk
    | succ j => simp at hs
  · rename_i i o n c
    split at h
    · cases h
      simp only [RV] at hv
      obtain ⟨p, _, rfl⟩ := hv
      exact ⟨some _, 0, rfl, Nat.le_refl _, fun h => absurd h (Nat.lt_irrefl _), .inl rfl⟩
    · cases h
  · cases h

/-! ### what is appended -/
/-- an element out of its cells -/
def mkEl : List V → V
  | [] => .agg []
  | x :: t => match t with
    | [] => x
    | _ :: _ => .agg (x :: t)
theorem mkEl_sound {σ : Sg} {l : List V} {xs : Array Value} (h : RVs σ l xs.toList) (hf : ∀ x ∈ xs.toList, flatX x) : ∃ y, RV σ (mkEl l) y ∧ y.cells = xs := by
  cases l with
  | nil =>
    refine ⟨.agg xs, ?_, rfl⟩
    simp only [mkEl, RV]; exact ⟨xs, rfl, h⟩
  | cons x t =>
    cases t with
    | nil =>
      simp only [RVs] at h
      obtain ⟨y, r, e, h1, rfl⟩ := h
      refine ⟨y, h1, ?_⟩
      obtain ⟨h2, h3⟩ := hf y (by rw [e]; simp)
      have : y.cells = #[y] := by
        cases y <;> first | rfl | exact absurd rfl (h2 _) | exact absurd rfl (h3 _)
      rw [this]; apply Array.ext'; exact e.symm
    | cons u t =>
      refine ⟨.agg xs, ?_, rfl⟩
      simp only [mkEl, RV]; exact ⟨xs, rfl, h⟩
def chunkV (sz : Nat) : Nat → List V → List V
  | 0, _ => []
  | n + 1, l => mkEl (l.take sz) :: chunkV sz n (l.drop sz)

theorem chunkV_length (sz : Nat) : ∀ (n : Nat) (l : List V), (chunkV sz n l).length = n
  | 0, _ => rfl
  | n + 1, l => by simp [chunkV, chunkV_length sz n]
theorem chunkV_get (sz : Nat) : ∀ (n : Nat) (l : List V) (k : Nat), k < n → (chunkV sz n l)[k]? = some (mkEl ((l.drop (k * sz)).take sz))
  | 0, _, k, h => by omega
  | n + 1, l, 0, _ => by simp [chunkV]
  | n + 1, l, k + 1, h => by
    simp only [chunkV, List.getElem?_cons_succ]
    rw [chunkV_get sz n _ k (by omega), List.drop_drop, Nat.add_mul, Nat.one_mul, Nat.add_comm sz]

def thawV : V → V
  | .acc _ sz ns es => match ns with
    | [some n] => .ro false n sz (es 0)
    | _ => .acc 0 sz ns es
  | v => v

def accNews (st : St) (sz : Nat) : V → Option (List (Option Nat) × (Nat → Nat → V))
  | .nils => some ([], fun _ _ => .nilp)
  | .slice j o m c => match elemsV st sz m (some (.slice j o m c)) with
    | some vs => match freesAll vs, Nat.beq vs.length (m * sz) with
      | true, true => some (List.replicate m none, fun j _ => (chunkV sz m vs).getD j .nilp)
      | _, _ => none
    | none => none
  | .ro _ m sz' es => match Nat.beq sz' sz with
    | true => some ([some m], fun _ => es)
    | false => none
  | .acc _ sz' ns es => match Nat.beq sz' sz with
    | true => some (ns, es)
    | false => none
  | .ss l => match Nat.beq sz 1 with
    | true => some ([some l.length], fun _ k => .si .u8 (l.getD k 0).toNat)
    | false => none
  | _ => none

theorem totN_replicate : ∀ m, totN (List.replicate m none) = m
  | 0 => rfl
  | m + 1 => by rw [List.replicate_succ, totN_cons, totN_replicate m]; simp [segN]; omega
theorem offN_replicate : ∀ (m j : Nat), j ≤ m → offN (List.replicate m none) j = j
  | m, 0, _ => by cases m <;> simp [offN]
  | 0, j + 1, h => by omega
  | m + 1, j + 1, h => by rw [List.replicate_succ]; simp only [offN]; rw [offN_replicate m j (by omega)]; simp [segN]; omega

/-- the pieces of a slice that nobody writes, read -/
theorem fz_first {P : Program} {W0 : World} {σ : Sg} {st : St} {w : World} (hR : Rel W0 σ st w) {sz c : Nat} {ns : List (Option Nat)} {es : Nat → Nat → V} {a : Option Addr} (hsz : 0 < sz)
    (h : 0 < totN ns → ∃ b o, a = some ⟨b, o, none⟩ ∧ FzEls σ b o sz ns es) :
    ∃ xs, (∀ w', w'.heap = w.heap → (Builtin.firstCells sz (totN ns) (.slice a (totN ns) c)).run P w' = .ok xs w') ∧ ElsIn σ sz ns es xs := by
  rcases Nat.eq_zero_or_pos (totN ns) with h0 | h0
  · refine ⟨#[], fun w' _ => ?_, ⟨by rw [h0]; simp, (fun x hx => by cases hx), fun j s hs k hk => ?_⟩⟩
    · rw [h0]
      cases a with
      | none => simp [Builtin.firstCells]
      | some a => simp [Builtin.firstCells, run_loadCells_zero]
    · have := offN_le ns j s hs; omega
  · obtain ⟨b, o, rfl, hf⟩ := h h0
    obtain ⟨cs, e, fz, h1, h2, h3, _⟩ := hf.els hR hsz h0
    refine ⟨_, fun w' hw => ?_, h3⟩
    simp only [Builtin.firstCells]
    exact run_loadCells (by rw [hw]; exact h1) h2

theorem accNews_sound {P : Program} {W0 : World} {σ : Sg} {st : St} {w : World} (hR : Rel W0 σ st w) {sz : Nat} {v : V} {u : Value} {ms : List (Option Nat)} {fs : Nat → Nat → V} (hsz : 0 < sz)
    (h : accNews st sz v = some (ms, fs)) (hv : RV σ v u) :
    (∀ w, (Builtin.lenOf u).run P w = .ok (totN ms) w) ∧ ∃ xs, (∀ w', w'.heap = w.heap → (Builtin.firstCells sz (totN ms) u).run P w' = .ok xs w') ∧ ElsIn σ sz ms fs xs := by
  unfold accNews at h
  split at h
  · cases h
    simp only [RV] at hv; subst hv
    exact ⟨fun w => rfl, #[], fun w' _ => by simp [Builtin.firstCells, totN], ⟨by simp [totN], (fun x hx => by cases hx), fun j s hs => by simp at hs⟩⟩
  · rename_i j o m c
    split at h
    · rename_i vs hvs
      split at h <;> cases h
      rename_i hfr hl
      have hl := Nat.eq_of_beq_eq_true hl
      obtain ⟨xs, h1, h2, h3⟩ := elemsV_sound (P := P) (u := u) hR hvs (fun _ e => by cases e; exact hv)
      rw [totN_replicate]
      refine ⟨fun w => ?_, xs, h1, ⟨by rw [totN_replicate]; have := h2.length; simp at this; omega, fun x hx => ?_, fun j s hs k hk => ?_⟩⟩
      · have := sliceLenV_sound (P := P) (x := some (.slice j o m c)) (u := u) (n := m) rfl (fun _ e => by cases e; exact hv) w
        exact this
      · obtain ⟨t, ht, hx⟩ := List.getElem_of_mem hx
        have hlen := h2.length
        obtain ⟨x', e1, e2⟩ := h2.get (List.getElem?_eq_getElem (show t < vs.length by omega))
        rw [List.getElem?_eq_getElem ht, hx] at e1
        obtain rfl := Option.some.inj e1
        exact flat_not_agg e2 (List.all_eq_true.1 h3 _ (List.getElem_mem _))
      · have hj : j < m := by have := (List.getElem?_eq_some_iff.1 hs).1; simpa using this
        have hs' : s = none := by simp [List.getElem?_replicate, hj] at hs; exact hs.symm
        subst hs'
        obtain rfl : k = 0 := by simp [segN] at hk; exact hk
        have hlen := h2.length
        have hc : j * sz + sz ≤ m * sz := by rw [← Nat.succ_mul]; exact Nat.mul_le_mul_right _ hj
        have h4 : RVs σ.free vs xs.toList := RVs.free hfr h2
        have h5 : RVs σ.free ((vs.drop (j * sz)).take sz) (xs.extract (j * sz) (j * sz + sz)).toList := by
          have := (h4.drop (j * sz)).take sz
          rw [Array.toList_extract, List.extract_eq_take_drop, Nat.add_sub_cancel_left]
          exact this
        obtain ⟨y, hy1, hy2⟩ := mkEl_sound h5 (fun x hx => by
          rw [Array.toList_extract, List.extract_eq_take_drop] at hx
          obtain ⟨t, ht, hx⟩ := List.getElem_of_mem (List.mem_of_mem_drop (List.mem_of_mem_take hx))
          have hlen := h2.length
          obtain ⟨x', e1, e2⟩ := h2.get (List.getElem?_eq_getElem (show t < vs.length by omega))
          rw [List.getElem?_eq_getElem ht, hx] at e1
          obtain rfl := Option.some.inj e1
          exact flat_not_agg e2 (List.all_eq_true.1 h3 _ (List.getElem_mem _)))
        refine ⟨y, ?_, ?_, fun t x hx => ?_⟩
        · rw [List.getD_eq_getElem?_getD, chunkV_get sz m vs j hj, Option.getD_some]
          exact hy1
        · rw [hy2]
          simp only [Array.size_extract]
          simp at hlen; omega
        · rw [hy2] at hx
          have ht : t < sz := by have := (Array.getElem?_eq_some_iff.1 hx).1; simp [Array.size_extract] at this; omega
          rw [offN_replicate m j (by omega), Nat.add_zero]
          rw [Array.getElem?_extract_of_lt (by simp at hlen; omega)] at hx
          rw [Array.getElem?_eq_getElem (by simp at hlen; omega)]; exact hx
    · cases h
  · rename_i t m sz' es
    split at h <;> cases h
    rename_i hs
    obtain rfl := Nat.eq_of_beq_eq_true hs
    simp only [RV] at hv
    obtain ⟨a, c, rfl, h1, h2, h3⟩ := hv
    have ht : totN [some m] = m := rfl
    refine ⟨fun w => rfl, ?_⟩
    obtain ⟨xs, k1, k2⟩ := fz_first (P := P) (σ := σ) (c := c) (sz := sz') (ns := [some m]) (es := fun _ => es) (a := a) hR hsz (fun hn => by
      obtain ⟨b, o, e1, h4⟩ := h3 (by rw [ht] at hn; exact hn)
      refine ⟨b, o, e1, fun j s hs k hk => ?_⟩
      cases j with
      | zero => simp at hs; subst hs; simpa [offN] using h4 k hk
      | succ j => simp at hs)
    exact ⟨xs, k1, k2⟩
  · rename_i i sz' ns es
    split at h <;> cases h
    rename_i hs
    obtain rfl := Nat.eq_of_beq_eq_true hs
    simp only [RV] at hv
    obtain ⟨a, c, rfl, h1, h2, h3⟩ := hv
    exact ⟨fun w => rfl, fz_first hR hsz h2⟩
  · rename_i l
    split at h <;> cases h
    rename_i hs
    obtain rfl := Nat.eq_of_beq_eq_true hs
    simp only [RV] at hv; subst hv
    have hsz' : (⟨l.toArray⟩ : ByteArray).size = l.length := by simp [ByteArray.size]
    have ht : totN [some l.length] = l.length := rfl
    refine ⟨fun w => by simp [Builtin.lenOf, hsz', ht], l.toArray.map (fun b => Value.int .u8 b.toNat), fun w' _ => ?_, ⟨by simp [ht], fun x hx => ?_, fun j s hs k hk => ?_⟩⟩
    · rw [ht]
      show Sem.run P (pure ((((⟨l.toArray⟩ : ByteArray).extract 0 l.length).data.map fun b => Value.int .u8 b.toNat))) w' = _
      simp
    · simp at hx; obtain ⟨b, _, rfl⟩ := hx; exact ⟨(fun _ h => by cases h), (fun _ h => by cases h)⟩
    · cases j with
      | succ j => simp at hs
      | zero =>
        simp at hs; subst hs
        simp only [segN] at hk
        refine ⟨.int .u8 (l.getD k 0).toNat, by simp only [RV], rfl, fun t x hx => ?_⟩
        simp only [Value.cells] at hx
        have ht : t = 0 := by have := (Array.getElem?_eq_some_iff.1 hx).1; simpa using this
        subst ht
        simp at hx; subst hx
        simp [offN, List.getElem?_eq_getElem hk, List.getD_eq_getElem?_getD]
  · cases h

/-! ### the room behind -/
def St.killO (st : St) : Option Nat → St
  | none => st
  | some i => { st with mem := st.mem.set i none }

theorem Rel.kill {W0 : World} {σ : Sg} {st : St} {w : World} (h : Rel W0 σ st w) (i : Nat) : Rel W0 σ { st with mem := st.mem.set i none } w := by
  have hg : ∀ j o, (st.mem.set i none).get j = some o → st.mem.get j = some o := by
    intro j o e; rw [Tri.get_set] at e; split at e
    · cases e
    · exact e
  exact ⟨h.below, h.dom, fun j q hq => ⟨(h.blk j q hq).1.imp id fun h1 o ho => h1 o (hg _ _ ho), (h.blk j q hq).2⟩, fun j q o hq ho => h.obj j q o hq (hg _ _ ho),
    fun a b pa pb oa ob hab ea eb ga gb hbb => h.sep a b pa pb oa ob hab ea eb (hg _ _ ga) (hg _ _ gb) hbb, h.glob,
    fun b o v e => let ⟨h1, h2, h0, h3⟩ := h.frz b o v e; ⟨h1, h2, h0, fun j q ob ej ho hs => h3 j q ob ej (hg _ _ ho) hs⟩⟩

theorem Rel.killO {W0 : World} {σ : Sg} {st : St} {w : World} (h : Rel W0 σ st w) (k : Option Nat) : Rel W0 σ (st.killO k) w := by
  cases k with
  | none => exact h
  | some i => exact h.kill i

theorem Post.killO {σ : Sg} {st : St} {k : Option Nat} (hk : ∀ i, k = some i → st.mem.get i = some .tip) : Post σ st σ (st.killO k) := by
  cases k with
  | none => exact .refl _ _
  | some i =>
    refine ⟨.refl _, Nat.le_refl _, fun j _ e => ⟨e, fun o ho hg => ?_⟩⟩
    simp only [St.killO]
    rw [Tri.get_set]
    split
    · rename_i e'; subst e'; rw [hk _ rfl] at hg; obtain rfl := Option.some.inj hg; cases ho
    · exact hg

def fzMore (fz : Nat → Nat → Option Value) (b lo hi : Nat) (cs : Array Value) : Nat → Nat → Option Value :=
  fun b' o => match fz b' o with
    | some v => some v
    | none => if b' = b ∧ lo ≤ o ∧ o < hi then cs[o]? else none

theorem fzMore_le {fz : Nat → Nat → Option Value} {b lo hi : Nat} {cs : Array Value} {b' o : Nat} {v : Value} (h : fz b' o = some v) : fzMore fz b lo hi cs b' o = some v := by
  unfold fzMore; rw [h]
theorem fzMore_cases {fz : Nat → Nat → Option Value} {b lo hi : Nat} {cs : Array Value} {b' o : Nat} {v : Value} (h : fzMore fz b lo hi cs b' o = some v) :
    fz b' o = some v ∨ (fz b' o = none ∧ b' = b ∧ lo ≤ o ∧ o < hi ∧ cs[o]? = some v) := by
  unfold fzMore at h
  split at h
  · rename_i e; rw [e]; exact .inl h
  · rename_i e
    split at h
    · rename_i h2; exact .inr ⟨e, h2.1, h2.2.1, h2.2.2, h⟩
    · cases h
theorem fzMore_in {fz : Nat → Nat → Option Value} {b lo hi : Nat} {cs : Array Value} {o : Nat} {x : Value} (hx : cs[o]? = some x) (hlo : lo ≤ o) (hhi : o < hi) (hold : ∀ v, fz b o = some v → cs[o]? = some v) :
    fzMore fz b lo hi cs b o = some x := by
  unfold fzMore
  split
  · rename_i v e; have := hold v e; rw [hx] at this; exact this.symm
  · rw [if_pos ⟨rfl, hlo, hhi⟩]; exact hx

/-- cells are frozen, and what is behind them is a room -/
theorem Rel.tip {W0 : World} {σ : Sg} {st : St} {w w' : World} (hR : Rel W0 σ st w) {b lo hi tot : Nat} {cs : Array Value} {e : TypeId} {fz : Nat × Nat}
    (hb0 : W0.heap.size ≤ b) (hW : Below W0.heap.size W0 w') (hcs : w'.heap[b]? = some (.cells cs e fz)) (hfz : fzOk fz cs.size) (hhi : hi + tot = cs.size)
    (hsame : ∀ k, k ≠ b → k < w.heap.size → w'.heap[k]? = w.heap[k]?) (hsz : w.heap.size ≤ w'.heap.size)
    (hold : ∀ o v, σ.fz b o = some v → cs[o]? = some v ∧ o < hi) (hno : ∀ i p o, σ i = some p → st.mem.get i = some o → p.blk ≠ b) :
    Rel W0 ⟨(σ.put st.next ⟨b, hi, tot⟩).pl, fzMore σ.fz b lo hi cs, σ.base⟩ (st.add .tip) w' ∧
    Post σ st ⟨(σ.put st.next ⟨b, hi, tot⟩).pl, fzMore σ.fz b lo hi cs, σ.base⟩ (st.add .tip) := by
  have hfresh := hR.fresh
  have le : Le σ ⟨(σ.put st.next ⟨b, hi, tot⟩).pl, fzMore σ.fz b lo hi cs, σ.base⟩ := ⟨fun i p h => (Sg.le_put (p := ⟨b, hi, tot⟩) hfresh).pl i p h, fun _ _ _ h => fzMore_le h, rfl⟩
  have hblt : b < w'.heap.size := (Array.getElem?_eq_some_iff.1 hcs).1
  have hget : ∀ j, j ≠ st.next → (st.add .tip).mem.get j = st.mem.get j := by
    intro j hj; simp only [St.add]; rw [Tri.get_set, if_neg hj]
  have hgetx : (st.add .tip).mem.get st.next = some .tip := by simp only [St.add]; rw [Tri.get_set, if_pos rfl]
  refine ⟨⟨hW, fun i p h => ?_, fun i p h => ?_, fun i p o h ho => ?_, fun i j p q oi oj hij ei ej gi gj hbb => ?_, hR.glob.mono le, fun b' o v h => ?_⟩, le, Nat.le_succ _, fun i hi' h => ⟨?_, fun o _ ho => ?_⟩⟩
  · simp only [St.add]
    by_cases hi' : i = st.next
    · omega
    · have := hR.dom i p (by rw [← Sg.put_ne hi' (σ := σ)]; exact h); omega
  · by_cases hi' : i = st.next
    · subst hi'
      have h : (σ.put st.next ⟨b, hi, tot⟩) st.next = some p := h
      rw [Sg.put_same] at h; obtain rfl := Option.some.inj h; exact ⟨.inl hb0, hblt⟩
    · have h : (σ.put st.next ⟨b, hi, tot⟩) i = some p := h
      rw [Sg.put_ne hi'] at h
      obtain ⟨h1, h2⟩ := hR.blk i p h
      exact ⟨h1.imp id fun h1 o ho => h1 o (by rw [hget i hi'] at ho; exact ho), Nat.lt_of_lt_of_le h2 hsz⟩
  · by_cases hi' : i = st.next
    · subst hi'
      have h : (σ.put st.next ⟨b, hi, tot⟩) st.next = some p := h
      rw [Sg.put_same] at h; obtain rfl := Option.some.inj h
      rw [hgetx] at ho; obtain rfl := Option.some.inj ho
      exact ⟨cs, e, fz, hcs, hhi, hfz⟩
    · have h : (σ.put st.next ⟨b, hi, tot⟩) i = some p := h
      rw [Sg.put_ne hi'] at h
      rw [hget i hi'] at ho
      exact ((hR.obj i p o h ho).congr (hsame _ (hno i p o h ho) (hR.blk i p h).2)).mono le
  · by_cases hi' : i = st.next
    · subst hi'
      have ei : (σ.put st.next ⟨b, hi, tot⟩) st.next = some p := ei
      rw [Sg.put_same] at ei; obtain rfl := Option.some.inj ei
      have ej : (σ.put st.next ⟨b, hi, tot⟩) j = some q := ej
      rw [Sg.put_ne (Ne.symm hij)] at ej
      rw [hget j (Ne.symm hij)] at gj
      exact absurd hbb.symm (hno j q oj ej gj)
    · have ei : (σ.put st.next ⟨b, hi, tot⟩) i = some p := ei
      rw [Sg.put_ne hi'] at ei
      rw [hget i hi'] at gi
      by_cases hj' : j = st.next
      · subst hj'
        have ej : (σ.put st.next ⟨b, hi, tot⟩) st.next = some q := ej
        rw [Sg.put_same] at ej; obtain rfl := Option.some.inj ej
        exact absurd hbb (hno i p oi ei gi)
      · have ej : (σ.put st.next ⟨b, hi, tot⟩) j = some q := ej
        rw [Sg.put_ne hj'] at ej
        rw [hget j hj'] at gj
        exact hR.sep i j p q oi oj hij ei ej gi gj hbb
  · have hothers : ∀ i p ob, (σ.put st.next ⟨b, hi, tot⟩) i = some p → (st.add .tip).mem.get i = some ob → ob.still = false → (b' = b → o < hi) →
        (σ.fz b' o = none ∨ ∃ v, σ.fz b' o = some v) → (b' ≠ b → ∃ v, σ.fz b' o = some v) → p.blk ≠ b' ∨ (ob.isTip = true ∧ o < p.base) := by
      intro i p ob h1 h2 h3 h4 _ h6
      by_cases hi' : i = st.next
      · subst hi'
        rw [Sg.put_same] at h1; obtain rfl := Option.some.inj h1
        rw [hgetx] at h2; obtain rfl := Option.some.inj h2
        by_cases hb' : b' = b
        · exact .inr ⟨rfl, h4 hb'⟩
        · exact .inl (Ne.symm hb')
      · rw [Sg.put_ne hi'] at h1
        rw [hget i hi'] at h2
        by_cases hb' : b' = b
        · subst hb'; exact .inl (hno i p ob h1 h2)
        · obtain ⟨v, hv⟩ := h6 hb'
          exact (hR.frz b' o v hv).2.2.2 i p ob h1 h2 h3
    rcases fzMore_cases h with h1 | ⟨h1, rfl, h2, h3, h4⟩
    · obtain ⟨f1, f2, f3, f4⟩ := hR.frz b' o v h1
      by_cases hb' : b' = b
      · subst hb'
        obtain ⟨k1, k2⟩ := hold o v h1
        exact ⟨by rw [cell_of hcs]; exact k1, hblt, .inr hb0, fun i p ob e1 e2 e3 => hothers i p ob e1 e2 e3 (fun _ => k2) (.inr ⟨v, h1⟩) (fun h => absurd rfl h)⟩
      · refine ⟨?_, Nat.lt_of_lt_of_le f2 hsz, f3, fun i p ob e1 e2 e3 => hothers i p ob e1 e2 e3 (fun h => absurd h hb') (.inr ⟨v, h1⟩) (fun _ => ⟨v, h1⟩)⟩
        exact (World.cell?_of_block (w := w) (w' := w') (a := ⟨b', o, none⟩) (hsame b' hb' f2)).trans f1
    · exact ⟨by rw [cell_of hcs]; exact h4, hblt, .inr hb0, fun i p ob e1 e2 e3 => hothers i p ob e1 e2 e3 (fun _ => h3) (.inl h1) (fun h => absurd rfl h)⟩
  · show (σ.put st.next ⟨b, hi, tot⟩) i = none
    rw [Sg.put_ne (by omega)]; exact h
  · rw [hget i (by omega)]; exact ho

theorem ElsIn.fz {σ σ' : Sg} {sz b o : Nat} {ns : List (Option Nat)} {es : Nat → Nat → V} {xs : Array Value} (h : ElsIn σ sz ns es xs) (hle : Le σ σ')
    (hf : ∀ t x, xs[t]? = some x → σ'.fz b (o + t) = some x) : FzEls σ' b o sz ns es := by
  intro j s hs k hk
  obtain ⟨y, h1, h2, h3⟩ := h.el j s hs k hk
  refine ⟨y, RV.mono hle.free _ _ h1, h2, fun t x hx => ?_⟩
  have h4 := h3 t x hx
  refine ⟨by rw [Nat.add_assoc]; exact hf _ _ h4, h.flat x ?_⟩
  rw [← Array.getElem?_toList] at h4
  exact List.mem_of_getElem? h4

/-- an append: what must hold, and what it comes to -/
def symApp (P : Program) (st : St) (ts : Array TypeId) (s x : Option V) : Option (Prop × V × St) :=
  match ts[0]?, ts[1]? with
  | some t0, some t1 => match P.underlying t0, P.underlying t1 with
    | some (.slice e), some d1 => match notInt d1, P.info? e with
      | true, some inf => match inf.zero, Nat.ble 1 inf.size, Nat.ble 1 inf.bytes with
        | some z, true, true => match Nat.beq z.cells.size inf.size with
          | true => match s, x with
            | some sv, some xv => match accBase st inf.size sv, accNews st inf.size xv with
              | some (k, ns, es), some (ms, fs) => some ((totN ns + totN ms) * inf.bytes ≤ 140737488355328, .acc st.next inf.size (ns ++ ms) (catE ns.length es fs), (st.killO k).add .tip)
              | _, _ => none
            | _, _ => none
          | false => none
        | _, _, _ => none
      | _, _ => none
    | _, _ => none
  | _, _ => none

theorem killO_next (st : St) (k : Option Nat) : (st.killO k).next = st.next := by cases k <;> rfl

set_option maxHeartbeats 1000000 in
theorem symApp_sound {P : Program} {W0 : World} {σ : Sg} {st st' : St} {w : World} {ts : Array TypeId} {ty : TypeId} {s x : Option V} {us u : Value} {r : V} {G : Prop} (hR : Rel W0 σ st w)
    (h : symApp P st ts s x = some (G, r, st')) (hG : G) (hs : ∀ v, s = some v → RV σ v us) (hx : ∀ v, x = some v → RV σ v u) :
    ∃ σ' zv w', (Builtin.append_ ts ty #[us, u]).run P w = .ok zv w' ∧ RV σ' r zv ∧ Rel W0 σ' st' w' ∧ Post σ st σ' st' := by
  unfold symApp at h
  split at h
  · rename_i t0 t1 h0 h1
    split at h
    · rename_i e d1 ht0 ht1
      split at h
      · rename_i inf hd hi
        split at h
        · rename_i z hzr hsz hby
          have hsz := Nat.le_of_ble_eq_true hsz
          have hby := Nat.le_of_ble_eq_true hby
          split at h
          · rename_i hzl
            have hzl := Nat.eq_of_beq_eq_true hzl
            split at h
            · rename_i sv xv
              split at h
              · rename_i k ns es ms fs hbs hnw
                obtain ⟨e1, e2⟩ := Prod.mk.inj (Option.some.inj h)
                obtain ⟨e2, e3⟩ := Prod.mk.inj e2
                subst e1 e2 e3
                clear h
                obtain ⟨hlen, xs, hxs, hX⟩ := accNews_sound (P := P) hR hsz hnw (hx _ rfl)
                obtain ⟨a, c, rfl, hac, hfe, hcap⟩ := accBase_sound hbs (hs _ rfl)
                obtain ⟨os, hos, hO⟩ := fz_first (P := P) (c := c) hR hsz hfe
                have hA := hO.append hX
                have hbytes : totN ns + totN ms ≤ (totN ns + totN ms) * inf.bytes := Nat.le_mul_of_pos_right _ hby
                have hnext : (st.killO k).next = st.next := killO_next st k
                have hkt : ∀ i, k = some i → st.mem.get i = some .tip := by
                  intro i hk
                  subst hk
                  unfold accBase at hbs
                  split at hbs
                  · cases hbs
                  · split at hbs <;> cases hbs
                    rename_i hg; exact hg
                  · split at hbs <;> cases hbs
                  · split at hbs <;> cases hbs
                  · cases hbs
                have hRk := hR.killO k
                have hPk : Post σ st σ (st.killO k) := Post.killO hkt
                have htot : totN (ns ++ ms) = totN ns + totN ms := totN_append _ _
                by_cases hle : totN ns + totN ms ≤ c
                · -- in its own room
                  rcases hcap with hcap | ⟨i, p, o, rfl, hti, hp, rfl, hpb, hpt⟩
                  · have hm0 : totN ms = 0 := by omega
                    have hx0 : xs = #[] := by
                      have := hX.size; rw [hm0] at this; exact Array.eq_empty_of_size_eq_zero (by omega)
                    have hrun := run_append_room (ty := ty) (w := w) (w' := w) (base := a) (cap := c) (len := totN ns) h0 h1 ht0 ht1 hd hi hlen (hxs w rfl) hle (by
                      rw [hx0]; cases a <;> rfl)
                    refine ⟨σ, _, w, hrun, ?_, hRk.add .tip, hPk.trans (Post.add hRk .tip)⟩
                    simp only [RV]
                    refine ⟨a, c, by rw [htot], by rw [htot]; omega, fun hn => ?_, .inl (by rw [htot]; omega)⟩
                    obtain ⟨b, o, ha, hf⟩ := hfe (by omega)
                    refine ⟨b, o, ha, ?_⟩
                    obtain ⟨cs, e0, fz0, q1, q2, q3, q4⟩ := hf.els hR hsz (by omega)
                    refine ElsIn.fz hA (Le.refl _) fun t x hx => ?_
                    rw [hx0] at hx
                    simp only [Array.append_empty] at hx
                    have hosz := hO.size
                    have ht : t < totN ns * inf.size := by have := (Array.getElem?_eq_some_iff.1 hx).1; omega
                    obtain ⟨y, q5, q6⟩ := q4 t ht
                    have hoe : os = cs.extract o (o + totN ns * inf.size) := by
                      have e1 := hos w rfl
                      subst ha
                      simp only [Builtin.firstCells] at e1
                      rw [run_loadCells q1 q2] at e1
                      injection e1 with e1 _; exact e1.symm
                    rw [hoe, Array.getElem?_extract_of_lt (by omega)] at hx
                    rw [Array.getElem?_eq_getElem (by omega)] at q6
                    have : x = y := by rw [← Option.some.inj hx, ← Option.some.inj q6]
                    rw [this]; exact q5
                  · have hob := hR.obj i p _ hp hti
                    simp only [ObjOk] at hob
                    obtain ⟨cs, e0, fz0, b1, b2, b3⟩ := hob
                    have hxz := hX.size
                    have hmc : totN ms * inf.size ≤ p.tot := by rw [hpt]; exact Nat.mul_le_mul_right _ (by omega)
                    obtain ⟨w', cs', r1, r2, r3, r4, r5, r6, r7, r8, r9⟩ := run_storeCells (P := P) (b := p.blk) (o := p.base) xs.toList 0 w cs e0 fz0 b1 b3 (by simp; omega) (fun x hx => hX.flat x hx)
                    have hrun := run_append_room (ty := ty) (w' := w') (base := some ⟨p.blk, o, none⟩) (cap := c) (len := totN ns) h0 h1 ht0 ht1 hd hi hlen (hxs w rfl) hle (by
                      simp only [addr_add]; rw [← hpb]; exact r1)
                    have hown : W0.heap.size ≤ p.blk := by
                      rcases (hR.blk i p hp).1 with g | g
                      · exact g
                      · have := g _ hti; cases this
                    have hfzlt : ∀ o v, σ.fz p.blk o = some v → o < p.base := by
                      intro o v e
                      rcases (hR.frz _ _ _ e).2.2.2 i p _ hp hti rfl with g | g
                      · exact absurd rfl g
                      · exact g.2
                    have hno : ∀ j q oj, σ j = some q → (st.killO (some i)).mem.get j = some oj → q.blk ≠ p.blk := by
                      intro j q oj hq hg hb
                      simp only [St.killO] at hg
                      rw [Tri.get_set] at hg
                      split at hg
                      · cases hg
                      · rename_i hji
                        have := hR.sep i j p q _ oj (Ne.symm hji) hp hq hti hg hb.symm
                        simp only [Sh] at this
                    have hxl : xs.toList.length = totN ms * inf.size := by simp [hxz]
                    have hW : Below W0.heap.size W0 w' := ⟨r7.trans hR.below.os, r8.trans hR.below.tape, r9.trans hR.below.output, by rw [r6]; exact hR.below.size, fun b hb => by
                      rw [r5 b (by omega)]; exact hR.below.block b hb⟩
                    obtain ⟨g1, g2⟩ := hRk.tip (w' := w') (b := p.blk) (lo := p.base) (hi := p.base + totN ms * inf.size) (tot := p.tot - totN ms * inf.size) (cs := cs') (e := e0) (fz := fz0)
                      hown hW r2 (by rw [r3]; exact b3) (by omega) (fun b hb _ => r5 b hb) (by rw [r6]; exact Nat.le_refl _)
                      (fun o v e => by
                        have hlt := hfzlt o v e
                        refine ⟨?_, by omega⟩
                        rw [r4, if_neg (by omega)]
                        have := (hR.frz _ _ _ e).1
                        rw [cell_of b1] at this; exact this) hno
                    rw [hnext] at g1 g2
                    refine ⟨_, _, w', hrun, ?_, g1, hPk.trans g2⟩
                    simp only [RV]
                    refine ⟨_, c, by rw [htot], by rw [htot]; omega, fun hn => ⟨p.blk, o, rfl, ?_⟩, .inr ⟨_, o, Sg.put_same _ _ _, rfl, ?_, ?_⟩⟩
                    · refine ElsIn.fz hA g2.le fun t x hx => ?_
                      have hosz := hO.size
                      by_cases ht : t < totN ns * inf.size
                      · rw [Array.getElem?_append_left (by omega)] at hx
                        obtain ⟨b', o', ha', hf'⟩ := hfe (by
                          rcases Nat.eq_zero_or_pos (totN ns) with h' | h'
                          · rw [h'] at ht; simp at ht
                          · exact h')
                        injection ha' with ha'; injection ha' with hb' ho' _; subst hb' ho'
                        obtain ⟨cs2, e2, fz2, q1, q2, q3, q4⟩ := hf'.els hR hsz (by
                          rcases Nat.eq_zero_or_pos (totN ns) with h' | h'
                          · rw [h'] at ht; simp at ht
                          · exact h')
                        obtain ⟨y, q5, q6⟩ := q4 t ht
                        have hoe : os = cs2.extract o (o + totN ns * inf.size) := by
                          have e1 := hos w rfl
                          simp only [Builtin.firstCells] at e1
                          rw [run_loadCells q1 q2] at e1
                          injection e1 with e1 _; exact e1.symm
                        rw [hoe, Array.getElem?_extract_of_lt (by omega)] at hx
                        rw [Array.getElem?_eq_getElem (by omega)] at q6
                        have : x = y := by rw [← Option.some.inj hx, ← Option.some.inj q6]
                        rw [this]; exact fzMore_le q5
                      · rw [Array.getElem?_append_right (by omega), hosz] at hx
                        have hlt : t - totN ns * inf.size < xs.size := (Array.getElem?_eq_some_iff.1 hx).1
                        have hcell : cs'[o + t]? = some x := by
                          rw [r4, if_pos (by omega), show o + t - (p.base + 0) = t - totN ns * inf.size by omega, Array.getElem?_toList]; exact hx
                        refine fzMore_in hcell (by omega) (by omega) fun v e => ?_
                        have := hfzlt _ v e; omega
                    · rw [htot, Nat.add_mul]; simp only; omega
                    · rw [htot]; simp only
                      rw [hpt, ← Nat.sub_mul]; congr 1; omega
                · -- in a new block
                  obtain ⟨newCap, hnc, hrun⟩ := run_append_new (ty := ty) (n := totN ms) (len := totN ns) (cap := c) h0 h1 ht0 ht1 hd hi hzr hlen hxs hos (by omega) (by omega) hG
                  have hosz := hO.size
                  have hxz := hX.size
                  obtain ⟨cs, hcs⟩ : ∃ cs, cs = os ++ xs ++ Builtin.zeroCells z.cells (newCap - (totN ns + totN ms)) := ⟨_, rfl⟩
                  rw [← hcs] at hrun
                  have hox : (os ++ xs).size = (totN ns + totN ms) * inf.size := by rw [Array.size_append, hosz, hxz, Nat.add_mul]
                  have hcsz : cs.size = newCap * inf.size := by
                    rw [hcs, Array.size_append, zeroCells_size, hzl, hox, ← Nat.add_mul]; congr 1; omega
                  have hlec : (totN ns + totN ms) * inf.size ≤ newCap * inf.size := Nat.mul_le_mul_right _ hnc
                  have hfznone : ∀ o v, σ.fz w.heap.size o = some v → False := fun o v e => Nat.lt_irrefl _ (hR.frz _ _ _ e).2.1
                  have hW : Below W0.heap.size W0 { w with drawn := w.drawn + 1, heap := w.heap.push (.cells cs e (0, 0)) } :=
                    ⟨hR.below.os, hR.below.tape, hR.below.output, by simp; exact Nat.le_succ_of_le hR.below.size, fun b hb => by
                      simp only; rw [heap_push_lt _ _ _ (Nat.lt_of_lt_of_le hb hR.below.size)]; exact hR.below.block b hb⟩
                  obtain ⟨g1, g2⟩ := hRk.tip (w' := { w with drawn := w.drawn + 1, heap := w.heap.push (.cells cs e (0, 0)) }) (b := w.heap.size) (lo := 0) (hi := (totN ns + totN ms) * inf.size) (tot := (newCap - (totN ns + totN ms)) * inf.size) (cs := cs) (e := e) (fz := (0, 0))
                    hR.below.size hW (heap_push_eq _ _) (.inl rfl) (by rw [hcsz, ← Nat.add_mul]; congr 1; omega) (fun k _ hk => heap_push_lt _ _ _ hk) (by simp)
                    (fun o v e => (hfznone o v e).elim) (fun i p o hp _ hb => by have := (hR.blk i p hp).2; omega)
                  rw [hnext] at g1 g2
                  refine ⟨_, _, _, hrun, ?_, g1, hPk.trans g2⟩
                  simp only [RV]
                  refine ⟨_, newCap, by rw [htot], by rw [htot]; exact hnc, fun hn => ⟨w.heap.size, 0, rfl, ?_⟩, .inr ⟨_, 0, Sg.put_same _ _ _, rfl, ?_, ?_⟩⟩
                  · refine ElsIn.fz hA g2.le fun t x hx => ?_
                    have ht : t < (os ++ xs).size := (Array.getElem?_eq_some_iff.1 hx).1
                    refine fzMore_in ?_ (by omega) (by omega) fun v e => (hfznone _ v e).elim
                    rw [Nat.zero_add, hcs, Array.getElem?_append_left ht]; exact hx
                  · rw [htot]; simp
                  · rw [htot]
              · cases h
            · cases h
          · cases h
        · cases h
      · cases h
    · cases h
  · cases h

/-! ### a text of bytes that were appended -/
def intOf (v : V) : Int := match v.asI with | some p => p.2 | none => 0
def byteOf (v : V) : UInt8 := UInt8.ofNat (intOf v).toNat
def isByte (v : V) : Prop := match v.asI with
  | some p => match p.1 with | .u8 => True | _ => False
  | none => False
def pieceB (s : Option Nat) (f : Nat → V) : List UInt8 := match s with
  | none => [byteOf (f 0)]
  | some n => (List.range n).map fun k => byteOf (f k)
def pieceG (s : Option Nat) (f : Nat → V) : Prop := match s with
  | none => isByte (f 0)
  | some n => ∀ k, k < n → isByte (f k)
def accB : List (Option Nat) → (Nat → Nat → V) → List UInt8
  | [], _ => []
  | s :: r, f => pieceB s (f 0) ++ accB r fun j => f (j + 1)
def accG : List (Option Nat) → (Nat → Nat → V) → Prop
  | [], _ => True
  | s :: r, f => pieceG s (f 0) ∧ accG r fun j => f (j + 1)
theorem isByte_spec {v : V} (h : isByte v) : v.asI = some (.u8, intOf v) := by
  unfold isByte at h
  unfold intOf
  split at h
  · rename_i p hp
    rw [hp]
    obtain ⟨k, n⟩ := p
    cases k <;> first | rfl | exact h.elim
  · exact h.elim
theorem pieceB_length (s : Option Nat) (f : Nat → V) : (pieceB s f).length = segN s := by cases s <;> simp [pieceB, segN]
theorem pieceB_get {s : Option Nat} {f : Nat → V} (h : pieceG s f) {k : Nat} (hk : k < segN s) : isByte (f k) ∧ (pieceB s f)[k]? = some (byteOf (f k)) := by
  cases s with
  | none => obtain rfl : k = 0 := by simp [segN] at hk; exact hk
            exact ⟨h, rfl⟩
  | some n => exact ⟨h k hk, by simp [pieceB, segN] at hk ⊢; exact ⟨k, by simp [List.getElem?_range, hk], rfl⟩⟩
theorem accB_spec : ∀ (ns : List (Option Nat)) (f : Nat → Nat → V), accG ns f → (accB ns f).length = totN ns ∧
    ∀ j s, ns[j]? = some s → ∀ k, k < segN s → isByte (f j k) ∧ (accB ns f)[offN ns j + k]? = some (byteOf (f j k))
  | [], f, _ => ⟨rfl, fun j s h => by simp at h⟩
  | t :: ns, f, h => by
    obtain ⟨h1, h2⟩ := accB_spec ns (fun j => f (j + 1)) h.2
    have hl := pieceB_length t (f 0)
    refine ⟨by rw [totN_cons]; simp only [accB, List.length_append]; omega, fun j s hs k hk => ?_⟩
    cases j with
    | zero =>
      obtain rfl : t = s := by simpa using hs
      obtain ⟨g1, g2⟩ := pieceB_get h.1 hk
      refine ⟨g1, ?_⟩
      simp only [accB, offN, Nat.zero_add]
      rw [List.getElem?_append_left (by omega)]; exact g2
    | succ j =>
      obtain ⟨g1, g2⟩ := h2 j s (by simpa using hs) k hk
      refine ⟨g1, ?_⟩
      simp only [accB, offN]
      rw [List.getElem?_append_right (by omega), hl, show segN t + offN ns j + k - segN t = offN ns j + k by omega]; exact g2
theorem push_fold : ∀ (ns : List Int) (s : ByteArray), ns.foldl (fun r n => r.push (UInt8.ofNat n.toNat)) s = ⟨s.data ++ (ns.map fun n => UInt8.ofNat n.toNat).toArray⟩
  | [], s => by simp
  | n :: ns, s => by
    rw [List.foldl_cons, push_fold ns]
    simp [ByteArray.push]
def symTxt (P : Program) (st : St) (s d : TypeId) (x : Option V) : Option (Prop × V × St) :=
  match P.underlying s, P.underlying d with
  | some (.slice e), some .string => match P.underlying e with
    | some (.int k) => match k with
      | .u8 => match x with
        | some (.ro t n z es) => match accNews st 1 (.ro t n z es) with
          | some p => some (accG p.1 p.2, .ss (accB p.1 p.2), st)
          | none => none
        | some (.acc i z ns es) => match accNews st 1 (.acc i z ns es) with
          | some p => some (accG p.1 p.2, .ss (accB p.1 p.2), st)
          | none => none
        | some (.slice i o m c) => match accNews st 1 (.slice i o m c) with
          | some p => some (accG p.1 p.2, .ss (accB p.1 p.2), st)
          | none => none
        | _ => none
      | _ => none
    | _ => none
  | _, _ => none

theorem bytes_text {P : Program} {W0 : World} {σ : Sg} {st : St} {w : World} {s d e : TypeId} {v : V} {u : Value} {p : List (Option Nat) × (Nat → Nat → V)} (hR : Rel W0 σ st w)
    (hs : P.underlying s = some (.slice e)) (he : P.underlying e = some (.int .u8)) (hd : P.underlying d = some .string) (h : accNews st 1 v = some p) (hG : accG p.1 p.2) (hv : RV σ v u)
    (hu : ∃ a c, u = .slice a (totN p.1) c ∧ (0 < totN p.1 → a ≠ none)) :
    ∃ z, (convert s d u).run P w = .ok z w ∧ RV σ (.ss (accB p.1 p.2)) z := by
  obtain ⟨ms, fs⟩ := p
  obtain ⟨_, xs, h1, h2⟩ := accNews_sound (P := P) hR (by omega) h hv
  obtain ⟨a, c, rfl, ha⟩ := hu
  obtain ⟨k1, k2⟩ := accB_spec ms fs hG
  refine ⟨.string ⟨(accB ms fs).toArray⟩, ?_, by simp only [RV]⟩
  rw [run_convert_bytes_string w s d e _ _ _ hs he hd]
  cases a with
  | none =>
    have h0 : totN ms = 0 := by
      rcases Nat.eq_zero_or_pos (totN ms) with g | g
      · exact g
      · exact absurd rfl (ha g)
    have : accB ms fs = [] := List.length_eq_zero_iff.1 (by rw [k1]; exact h0)
    rw [this]; rfl
  | some a =>
    have h3 := h1 w rfl
    simp only [Builtin.firstCells, Nat.mul_one] at h3
    have hsz : xs.size = totN ms := by have := h2.size; omega
    have hget : ∀ t, t < totN ms → ∃ n : Int, xs[t]? = some (.int .u8 n) ∧ (accB ms fs)[t]? = some (UInt8.ofNat n.toNat) := by
      intro t ht
      obtain ⟨j, s', i, g1, g2, rfl⟩ := totN_find ht
      obtain ⟨g3, g4⟩ := k2 j s' g1 i g2
      obtain ⟨y, g5, _, g6⟩ := h2.el j s' g1 i g2
      obtain rfl := asI_sound (isByte_spec g3) g5
      refine ⟨_, ?_, g4⟩
      have := g6 0 (.int .u8 (intOf (fs j i))) (by simp [Value.cells])
      simpa using this
    let ns : List Int := xs.toList.map fun x => match x with | .int _ n => n | _ => 0
    have hns : xs = (ns.map (Value.int .u8)).toArray := by
      apply Array.ext_getElem?
      intro t
      by_cases ht : t < totN ms
      · obtain ⟨n, g1, _⟩ := hget t ht
        rw [g1]
        simp [ns, g1]
      · rw [Array.getElem?_eq_none (by omega), Array.getElem?_eq_none (by simp [ns]; omega)]
    rw [run_bytesToString w a (totN ms) c ns (by rw [h3, ← hns]), push_fold]
    congr 2
    simp only [ByteArray.empty]
    have : (ns.map fun n => UInt8.ofNat n.toNat) = accB ms fs := by
      apply List.ext_getElem?
      intro t
      by_cases ht : t < totN ms
      · obtain ⟨n, g1, g2⟩ := hget t ht
        rw [g2]
        simp [ns, g1]
      · rw [List.getElem?_eq_none (by simp [ns]; omega), List.getElem?_eq_none (by omega)]
    rw [this]
    simp [ByteArray.emptyWithCapacity]
    rfl

theorem symTxt_sound {P : Program} {W0 : World} {σ : Sg} {st st' : St} {w : World} {s d : TypeId} {x : Option V} {u : Value} {r : V} {G : Prop} (hR : Rel W0 σ st w)
    (h : symTxt P st s d x = some (G, r, st')) (hG : G) (hx : ∀ v, x = some v → RV σ v u) : st' = st ∧ ∃ z, (convert s d u).run P w = .ok z w ∧ RV σ r z := by
  unfold symTxt at h
  split at h
  · rename_i e hs hd
    split at h
    · rename_i k he
      split at h
      · split at h
        · split at h
          · rename_i t n z es p hp
            cases h
            refine ⟨rfl, bytes_text hR hs he hd hp hG (hx _ rfl) ?_⟩
            have hv := hx _ rfl
            simp only [RV] at hv
            obtain ⟨a, c, rfl, _, _, h4⟩ := hv
            simp only [accNews] at hp
            split at hp <;> cases hp
            refine ⟨a, c, rfl, fun h0 h1 => ?_⟩
            obtain ⟨b, o, e1, _⟩ := h4 h0
            rw [h1] at e1; cases e1
          · cases h
        · split at h
          · rename_i i z ns es p hp
            cases h
            refine ⟨rfl, bytes_text hR hs he hd hp hG (hx _ rfl) ?_⟩
            have hv := hx _ rfl
            simp only [RV] at hv
            obtain ⟨a, c, rfl, _, h4, _⟩ := hv
            simp only [accNews] at hp
            split at hp <;> cases hp
            refine ⟨a, c, rfl, fun h0 h1 => ?_⟩
            obtain ⟨b, o, e1, _⟩ := h4 h0
            rw [h1] at e1; cases e1
          · cases h
        · split at h
          · rename_i i o m c p hp
            cases h
            refine ⟨rfl, bytes_text hR hs he hd hp hG (hx _ rfl) ?_⟩
            obtain ⟨a, c', rfl⟩ := slice_any (hx _ rfl)
            simp only [accNews] at hp
            split at hp
            · split at hp <;> cases hp
              rw [totN_replicate]
              exact ⟨some a, c', rfl, fun _ h => by cases h⟩
            · cases hp
          · cases h
        · cases h
      · cases h
    · cases h
  · cases h
end Go.Proofs.YthnldpbkjegfaaaDoor.Sv

namespace Go.Proofs.YthnldpbkjegfaaaDoor.Sv
open Go Go.RowKit

/-! ### rows that nobody writes any more -/
/-- what of a row may be frozen -/
def frzOf (st : St) (i : Nat) : Option (Nat × List V) :=
  match st.mem.get i with
  | some (.row n cells _ true pe) => match pe, cells.take 0 n with
    | [], some vs => match freesAll (thawDs vs), vs.all V.isFlat, Nat.beq n 0 with
      | true, true, false => some (n, thawDs vs)
      | _, _, _ => none
    | _, _ => none
  | _ => none
def St.frz (st : St) (i : Nat) : St :=
  match frzOf st i with
  | some (n, vs) => { st with mem := st.mem.set i (some (.frow n (Tri.ofList vs 0 .nil))) }
  | none => st
def St.frzs (st : St) : List Nat → St
  | [] => st
  | i :: is => (st.frz i).frzs is

theorem thawD_flat : ∀ v : V, v.isFlat = true → v.thawD.isFlat = true := by
  intro v h
  cases v <;> first | rfl | (simp [V.isFlat] at h; done) | skip
  rename_i i sz ns es
  show (roOf sz ns es).isFlat = true
  unfold roOf
  split
  · rfl
  · split <;> rfl
theorem thawDs_length : ∀ vs : List V, (thawDs vs).length = vs.length
  | [] => rfl
  | v :: vs => by simp [thawDs, thawDs_length vs]
theorem thawDs_flat : ∀ vs : List V, vs.all V.isFlat = true → (thawDs vs).all V.isFlat = true
  | [], _ => rfl
  | v :: vs, h => by
    simp only [List.all_cons, Bool.and_eq_true] at h
    simp only [thawDs, List.all_cons, thawD_flat v h.1, thawDs_flat vs h.2, Bool.and_self]

theorem Rel.freeze {W0 : World} {σ : Sg} {st : St} {w : World} (hR : Rel W0 σ st w) {i : Nat} {p : Pl} (hp : σ i = some p) :
    ∃ σ', Rel W0 σ' (st.frz i) w ∧ Post σ st σ' (st.frz i) ∧ σ'.pl = σ.pl := by
  unfold St.frz
  split
  case h_2 => exact ⟨σ, hR, .refl _ _, rfl⟩
  rename_i n vs hf
  unfold frzOf at hf
  split at hf
  case h_2 => cases hf
  rename_i n' cells opn pe hg
  split at hf
  case h_2 => cases hf
  rename_i us hus
  split at hf
  case h_2 => cases hf
  rename_i hfr hfl hn0
  cases hf
  have hn0 := Nat.ne_of_beq_eq_false hn0
  obtain ⟨hl, hget⟩ := Tri.take_spec _ _ _ _ hus
  have hob := hR.obj i p _ hp hg
  simp only [ObjOk] at hob
  obtain ⟨cs, e, fz, h1, h2, h3, h4, h5, h6, h7⟩ := hob
  have hown := hR.own hp hg rfl rfl
  have hin : ∀ k v, us[k]? = some v → k < n ∧ ∃ x, cs[p.base + k]? = some x ∧ RV σ v x := by
    intro k v hv
    have hk : k < n := by have := (List.getElem?_eq_some_iff.1 hv).1; omega
    have := hget k hk
    rw [Nat.zero_add, hv] at this
    obtain ⟨_, _, x, c, d⟩ := h5 k v this
    exact ⟨hk, x, c, d⟩
  -- the same for what is thawed
  have hus2 : RVs σ us (cs.extract p.base (p.base + n)).toList := by
    refine RVs.of_get (by simp [Array.size_extract]; omega) fun k v x hv hx => ?_
    obtain ⟨hk, x', c, d⟩ := hin k v hv
    have : x = x' := by
      rw [Array.getElem?_toList, Array.getElem?_extract_of_lt (by omega)] at hx
      rw [Array.getElem?_eq_getElem (by omega)] at c
      rw [← Option.some.inj hx, ← Option.some.inj c]
    rw [this]; exact d
  have hth : RVs σ.free (thawDs us) (cs.extract p.base (p.base + n)).toList := RVs.free hfr (RVs.thawD _ _ hus2)
  have hflt := thawDs_flat us hfl
  obtain ⟨σ', hσ'⟩ : ∃ σ' : Sg, σ' = ⟨σ.pl, fzMore σ.fz p.blk p.base (p.base + n) cs, σ.base⟩ := ⟨_, rfl⟩
  have le : Le σ σ' := by rw [hσ']; exact ⟨fun _ _ h => h, fun _ _ _ h => fzMore_le h, rfl⟩
  have hpl : σ'.pl = σ.pl := by rw [hσ']
  have hbase : σ'.base = σ.base := by rw [hσ']
  have hfz' : σ'.fz = fzMore σ.fz p.blk p.base (p.base + n) cs := by rw [hσ']
  have hold : ∀ o v, σ.fz p.blk o = some v → False := fun o v e => hown.fz p.blk o v e rfl
  have hgi : ∀ j, j ≠ i → (st.mem.set i (some (.frow n (Tri.ofList (thawDs us) 0 .nil)))).get j = st.mem.get j := fun j hj => by rw [Tri.get_set, if_neg hj]
  have hgx : (st.mem.set i (some (.frow n (Tri.ofList (thawDs us) 0 .nil)))).get i = some (.frow n (Tri.ofList (thawDs us) 0 .nil)) := by rw [Tri.get_set, if_pos rfl]
  have hno : ∀ j q oj, j ≠ i → σ j = some q → st.mem.get j = some oj → q.blk ≠ p.blk := by
    intro j q oj hj hq hgj hb
    have := hR.sep i j p q _ oj (Ne.symm hj) hp hq hg hgj hb.symm
    cases oj <;> simp only [Sh] at this
    obtain ⟨a, _⟩ := this trivial
    cases a
  refine ⟨σ', ⟨hR.below, fun j q h => ?_, fun j q h => ?_, fun j q o h ho => ?_, fun a b pa pb oa ob hab ea eb ga gb hbb => ?_, hR.glob.mono le, fun b o v h => ?_⟩, ⟨le, Nat.le_refl _, fun j _ h => ⟨by rw [hpl]; exact h, fun o _ ho => ?_⟩⟩, hpl⟩
  · rw [hpl] at h; exact hR.dom j q h
  · rw [hpl] at h
    refine ⟨?_, (hR.blk j q h).2⟩
    by_cases hj : j = i
    · subst hj
      rw [hp] at h; obtain rfl := Option.some.inj h
      exact .inl hown.le
    · exact (hR.blk j q h).1.imp id fun h1 o ho => h1 o (by simp only at ho; rw [hgi j hj] at ho; exact ho)
  · rw [hpl] at h
    by_cases hj : j = i
    · subst hj
      rw [hp] at h; obtain rfl := Option.some.inj h
      simp only at ho
      rw [hgx] at ho; obtain rfl := Option.some.inj ho
      simp only [ObjOk]
      refine ⟨cs, e, fz, h1, by omega, fun k v hk => ?_⟩
      rw [Tri.get_ofList] at hk
      split at hk
      · rename_i hin2
        simp only [Nat.sub_zero, Nat.zero_add] at hin2 hk
        rw [thawDs_length] at hin2
        obtain ⟨x, hx, hr⟩ := hth.get hk
        have hkn : k < n := by omega
        rw [Array.getElem?_toList, Array.getElem?_extract_of_lt (by omega)] at hx
        have hx2 : cs[p.base + k]? = some x := by rw [Array.getElem?_eq_getElem (by omega)]; exact hx
        refine ⟨hkn, List.all_eq_true.1 hflt _ (List.mem_of_getElem? hk), x, hx2, ?_, RV.mono le.free _ _ hr⟩
        rw [hfz']
        exact fzMore_in hx2 (by omega) (by omega) fun v e => (hold _ v e).elim
      · simp at hk
    · simp only at ho
      rw [hgi j hj] at ho
      exact (hR.obj j q o h ho).mono le
  · rw [hpl] at ea eb
    simp only at ga gb
    by_cases ha : a = i
    · subst ha
      rw [hp] at ea; obtain rfl := Option.some.inj ea
      rw [hgi b (Ne.symm hab)] at gb
      exact absurd hbb.symm (hno b pb ob (Ne.symm hab) eb gb)
    · rw [hgi a ha] at ga
      by_cases hb : b = i
      · subst hb
        rw [hp] at eb; obtain rfl := Option.some.inj eb
        exact absurd hbb (hno a pa oa ha ea ga)
      · rw [hgi b hb] at gb
        exact hR.sep a b pa pb oa ob hab ea eb ga gb hbb
  · rw [hfz'] at h
    have hrest : ∀ j q ob, σ'.pl j = some q → (st.mem.set i (some (.frow n (Tri.ofList (thawDs us) 0 .nil)))).get j = some ob → ob.still = false → j ≠ i ∧ st.mem.get j = some ob := by
      intro j q ob _ hgj hs
      by_cases hj : j = i
      · subst hj; rw [hgx] at hgj; obtain rfl := Option.some.inj hgj; cases hs
      · rw [hgi j hj] at hgj; exact ⟨hj, hgj⟩
    rcases fzMore_cases h with hh | ⟨_, rfl, q1, q2, q3⟩
    · obtain ⟨f1, f2, f3, f4⟩ := hR.frz b o v hh
      refine ⟨f1, f2, by rw [hbase]; exact f3, fun j q ob ej hgj hs => ?_⟩
      obtain ⟨_, hgj'⟩ := hrest j q ob ej hgj hs
      rw [hpl] at ej
      exact f4 j q ob ej hgj' hs
    · refine ⟨by rw [cell_of h1]; exact q3, (hR.blk i p hp).2, .inr hown.le, fun j q ob ej hgj hs => ?_⟩
      obtain ⟨hj, hgj'⟩ := hrest j q ob ej hgj hs
      rw [hpl] at ej
      exact .inl (hno j q ob hj ej hgj')
  · simp only
    rw [hgi j (fun e => by subst e; rw [hp] at h; cases h)]
    exact ho

theorem Rel.freezes {W0 : World} {w : World} : ∀ (is : List Nat) {σ : Sg} {st : St}, Rel W0 σ st w → (∀ i ∈ is, ∃ p, σ i = some p) →
    ∃ σ', Rel W0 σ' (st.frzs is) w ∧ Post σ st σ' (st.frzs is) ∧ σ'.pl = σ.pl
  | [], σ, st, h, _ => ⟨σ, h, .refl _ _, rfl⟩
  | i :: is, σ, st, h, hp => by
    obtain ⟨p, hpi⟩ := hp i (by simp)
    obtain ⟨σ1, h1, h2, h3⟩ := h.freeze hpi
    obtain ⟨σ2, k1, k2, k3⟩ := Rel.freezes is h1 (fun j hj => by rw [h3]; exact hp j (by simp [hj]))
    exact ⟨σ2, k1, h2.trans k2, k3.trans h3⟩

/-- what stands in a frozen row -/
theorem frow_cells {W0 : World} {σ : Sg} {st : St} {w : World} (hR : Rel W0 σ st w) {i n : Nat} {p : Pl} {cells : Tri V} {vs : List V} (hp : σ i = some p) (hg : st.mem.get i = some (.frow n cells)) (hv : cells.take 0 n = some vs) :
    vs.length = n ∧ ∃ xs : Array Value, RVs σ.free vs xs.toList ∧ xs.size = n ∧ (∀ x ∈ xs.toList, flatX x) ∧ ∀ k x, xs[k]? = some x → σ.fz p.blk (p.base + k) = some x := by
  have hob := hR.obj i p _ hp hg
  simp only [ObjOk] at hob
  obtain ⟨cs, e, fz, h1, h2, h3⟩ := hob
  obtain ⟨hl, hget⟩ := Tri.take_spec _ _ _ _ hv
  have hin : ∀ k v, vs[k]? = some v → k < n ∧ v.isFlat = true ∧ ∃ x, cs[p.base + k]? = some x ∧ σ.fz p.blk (p.base + k) = some x ∧ RV σ.free v x := by
    intro k v hv
    have hk : k < n := by have := (List.getElem?_eq_some_iff.1 hv).1; omega
    have := hget k hk
    rw [Nat.zero_add, hv] at this
    exact h3 k v this
  have hcell : ∀ k x, (cs.extract p.base (p.base + n))[k]? = some x → k < n ∧ cs[p.base + k]? = some x := by
    intro k x hx
    have hk : k < n := by have := (Array.getElem?_eq_some_iff.1 hx).1; simp [Array.size_extract] at this; omega
    rw [Array.getElem?_extract_of_lt (by omega)] at hx
    exact ⟨hk, by rw [Array.getElem?_eq_getElem (by omega)]; exact hx⟩
  have hr : RVs σ.free vs (cs.extract p.base (p.base + n)).toList := by
    refine RVs.of_get (by simp [Array.size_extract]; omega) fun k v x hv hx => ?_
    obtain ⟨hk, _, x', c, _, d⟩ := hin k v hv
    rw [Array.getElem?_toList] at hx
    obtain ⟨_, c2⟩ := hcell k x hx
    rw [c] at c2; rw [← Option.some.inj c2]; exact d
  refine ⟨hl, _, hr, by simp [Array.size_extract]; omega, fun x hx => ?_, fun k x hx => ?_⟩
  · obtain ⟨k, hk, rfl⟩ := List.getElem_of_mem hx
    have hkv : k < vs.length := by have := hr.length; omega
    obtain ⟨_, hf, _⟩ := hin k _ (List.getElem?_eq_getElem hkv)
    obtain ⟨x', e1, e2⟩ := hr.get (List.getElem?_eq_getElem hkv)
    rw [List.getElem?_eq_getElem hk] at e1
    obtain rfl := Option.some.inj e1
    exact flat_not_agg e2 hf
  · obtain ⟨hk, c2⟩ := hcell k x hx
    obtain ⟨_, _, x', c, d, _⟩ := hin k _ (List.getElem?_eq_getElem (show k < vs.length by omega))
    rw [c] at c2; rw [← Option.some.inj c2]; exact d

def frzPtr (st : St) (i o : Nat) : V :=
  match st.mem.get i with
  | some (.frow n cells) => match cells.take 0 n with
    | some vs => .rp 1 n (fun _ => mkEl vs) 0 o
    | none => .ptr i o
  | _ => .ptr i o
theorem frzPtr_sound {W0 : World} {σ : Sg} {st : St} {w : World} (hR : Rel W0 σ st w) {i o : Nat} {x : Value} (h : RV σ (.ptr i o) x) : RV σ (frzPtr st i o) x := by
  unfold frzPtr
  split
  · rename_i n cells hg
    split
    · rename_i vs hv
      simp only [RV] at h
      obtain ⟨p, hp, rfl⟩ := h
      obtain ⟨hl, xs, h1, h2, h3, h4⟩ := frow_cells hR hp hg hv
      obtain ⟨y, hy1, hy2⟩ := mkEl_sound h1 h3
      simp only [RV]
      refine ⟨Nat.one_pos, p.blk, p.base, by simp, fun i hi => ⟨y, hy1, by rw [hy2]; exact h2, fun j x hj => ?_⟩⟩
      obtain rfl : i = 0 := by omega
      rw [hy2] at hj
      rw [Nat.zero_mul, Nat.add_zero]
      refine ⟨h4 j x hj, h3 x ?_⟩
      rw [← Array.getElem?_toList] at hj
      exact List.mem_of_getElem? hj
    · exact h
  · exact h

def frzSl (st : St) (i o n c : Nat) : V :=
  match st.mem.get i, o with
  | some (.frow N cells), 0 => match cells.take 0 N, Nat.beq (c * (N / c)) N, Nat.ble n c, Nat.beq (N / c) 0 with
    | some vs, true, true, false => .ro (Nat.beq n c) n (N / c) (fun k => (chunkV (N / c) n vs).getD k .nilp)
    | _, _, _, _ => .slice i o n (.known c)
  | _, _ => .slice i o n (.known c)
theorem frzSl_sound {W0 : World} {σ : Sg} {st : St} {w : World} (hR : Rel W0 σ st w) {i o n c : Nat} {x : Value} (h : RV σ (.slice i o n (.known c)) x) : RV σ (frzSl st i o n c) x := by
  unfold frzSl
  split
  · rename_i N cells hg
    split
    · rename_i vs hv h1 h2 h3
      have h1 := Nat.eq_of_beq_eq_true h1
      have h2 := Nat.le_of_ble_eq_true h2
      have h3 := Nat.ne_of_beq_eq_false h3
      simp only [RV] at h
      obtain ⟨p, hp, rfl⟩ := h
      obtain ⟨hl, xs, g1, g2, g3, g4⟩ := frow_cells hR hp hg hv
      simp only [RV]
      refine ⟨_, c, rfl, h2, fun ht => (Nat.eq_of_beq_eq_true ht).symm, fun hn => ⟨p.blk, p.base, by simp, fun k hk => ?_⟩⟩
      generalize N / c = sz at *
      have hle : k * sz + sz ≤ N := by
        rw [← h1, ← Nat.succ_mul]; exact Nat.mul_le_mul_right _ (by omega)
      have h5 : RVs σ.free ((vs.drop (k * sz)).take sz) (xs.extract (k * sz) (k * sz + sz)).toList := by
        have := (g1.drop (k * sz)).take sz
        rw [Array.toList_extract, List.extract_eq_take_drop, Nat.add_sub_cancel_left]
        exact this
      obtain ⟨y, hy1, hy2⟩ := mkEl_sound h5 (fun x hx => by
        rw [Array.toList_extract, List.extract_eq_take_drop] at hx
        exact g3 x (List.mem_of_mem_drop (List.mem_of_mem_take hx)))
      refine ⟨y, ?_, ?_, fun j x hj => ?_⟩
      · rw [List.getD_eq_getElem?_getD, chunkV_get sz n vs k hk, Option.getD_some]; exact hy1
      · rw [hy2]; simp [Array.size_extract]; omega
      · rw [hy2] at hj
        have hjs : j < sz := by have := (Array.getElem?_eq_some_iff.1 hj).1; simp [Array.size_extract] at this; omega
        rw [Array.getElem?_extract_of_lt (by omega)] at hj
        have hx2 : xs[k * sz + j]? = some x := by rw [Array.getElem?_eq_getElem (by omega)]; exact hj
        refine ⟨by rw [Nat.add_assoc]; exact g4 _ _ hx2, g3 x ?_⟩
        rw [← Array.getElem?_toList] at hx2
        exact List.mem_of_getElem? hx2
    · exact h
  · exact h

mutual
/-- a value of which the rows are frozen -/
def V.frzd (st : St) : V → V
  | .ptr i o => frzPtr st i o
  | .slice i o n c => match c with
    | .known c => frzSl st i o n c
    | .opn c => .slice i o n (.opn c)
  | .acc _ sz ns es => roOf sz ns es
  | .agg cs => .agg (frzds st cs)
  | .tuple cs => .tuple (frzds st cs)
  | .iface t v => .iface t (v.frzd st)
  | .func f a b => .func f (frzds st a) (frzds st b)
  | v => v
def frzds (st : St) : List V → List V
  | [] => []
  | v :: vs => v.frzd st :: frzds st vs
end
mutual
theorem RV.frzd {W0 : World} {σ : Sg} {st : St} {w : World} (hR : Rel W0 σ st w) : ∀ (v : V) (x : Value), RV σ v x → RV σ (v.frzd st) x
  | .ptr i o, x, h => by simp only [V.frzd]; exact frzPtr_sound hR h
  | .slice i o n (.known c), x, h => by simp only [V.frzd]; exact frzSl_sound hR h
  | .slice i o n (.opn c), x, h => h
  | .acc i sz ns es, x, h => RV.thaw h
  | .agg cs, x, h => by simp only [RV, V.frzd] at h ⊢; obtain ⟨a, e, h⟩ := h; exact ⟨a, e, RVs.frzd hR _ _ h⟩
  | .tuple cs, x, h => by simp only [RV, V.frzd] at h ⊢; obtain ⟨a, e, h⟩ := h; exact ⟨a, e, RVs.frzd hR _ _ h⟩
  | .iface t v, x, h => by simp only [RV, V.frzd] at h ⊢; obtain ⟨a, e, h⟩ := h; exact ⟨a, e, RV.frzd hR _ _ h⟩
  | .func f a b, x, h => by simp only [RV, V.frzd] at h ⊢; obtain ⟨p, q, e, h1, h2⟩ := h; exact ⟨p, q, e, RVs.frzd hR _ _ h1, RVs.frzd hR _ _ h2⟩
  | .bool _, x, h => h
  | .int _ _, x, h => h
  | .str _, x, h => h
  | .nilp, x, h => h
  | .nils, x, h => h
  | .nilmap, x, h => h
  | .map _, x, h => h
  | .yield _, x, h => h
  | .nilFunc, x, h => h
  | .nilIface, x, h => h
  | .glob _ _, x, h => h
  | .sb _, x, h => h
  | .si _ _, x, h => h
  | .ss _, x, h => h
  | .ro _ _ _ _, x, h => h
  | .rp _ _ _ _ _, x, h => h
  | .px _ _ _ _ _, x, h => h
theorem RVs.frzd {W0 : World} {σ : Sg} {st : St} {w : World} (hR : Rel W0 σ st w) : ∀ (vs : List V) (l : List Value), RVs σ vs l → RVs σ (frzds st vs) l
  | [], l, h => h
  | v :: vs, l, h => by
    simp only [RVs, frzds] at h ⊢; obtain ⟨x, r, e, h1, h2⟩ := h; exact ⟨x, r, e, RV.frzd hR _ _ h1, RVs.frzd hR _ _ h2⟩
end

mutual
/-- whose rows are to be frozen -/
def V.ids : V → List Nat
  | .ptr i _ => [i]
  | .slice i _ _ _ => [i]
  | .agg cs => idsL cs
  | .tuple cs => idsL cs
  | .iface _ v => v.ids
  | .func _ a b => idsL a ++ idsL b
  | _ => []
def idsL : List V → List Nat
  | [] => []
  | v :: vs => v.ids ++ idsL vs
end
mutual
theorem RV.ids {σ : Sg} : ∀ (v : V) (x : Value), RV σ v x → ∀ i ∈ v.ids, ∃ p, σ i = some p
  | .ptr i o, x, h, j, hj => by
    simp only [RV] at h; simp [V.ids] at hj; subst hj; obtain ⟨p, hp, _⟩ := h; exact ⟨p, hp⟩
  | .slice i o n (.known c), x, h, j, hj => by
    simp only [RV] at h; simp [V.ids] at hj; subst hj; obtain ⟨p, hp, _⟩ := h; exact ⟨p, hp⟩
  | .slice i o n (.opn c), x, h, j, hj => by
    simp only [RV] at h; simp [V.ids] at hj; subst hj; obtain ⟨_, p, _, _, hp, _⟩ := h; exact ⟨p, hp⟩
  | .agg cs, x, h, j, hj => by simp only [RV] at h; obtain ⟨a, e, h⟩ := h; exact RVs.ids _ _ h j (by simpa [V.ids] using hj)
  | .tuple cs, x, h, j, hj => by simp only [RV] at h; obtain ⟨a, e, h⟩ := h; exact RVs.ids _ _ h j (by simpa [V.ids] using hj)
  | .iface t v, x, h, j, hj => by simp only [RV] at h; obtain ⟨a, e, h⟩ := h; exact RV.ids _ _ h j (by simpa [V.ids] using hj)
  | .func f a b, x, h, j, hj => by
    simp only [RV] at h; obtain ⟨p, q, e, h1, h2⟩ := h
    simp only [V.ids, List.mem_append] at hj
    rcases hj with hj | hj
    · exact RVs.ids _ _ h1 j hj
    · exact RVs.ids _ _ h2 j hj
  | .acc _ _ _ _, x, h, j, hj => by simp [V.ids] at hj
  | .bool _, x, h, j, hj => by simp [V.ids] at hj
  | .int _ _, x, h, j, hj => by simp [V.ids] at hj
  | .str _, x, h, j, hj => by simp [V.ids] at hj
  | .nilp, x, h, j, hj => by simp [V.ids] at hj
  | .nils, x, h, j, hj => by simp [V.ids] at hj
  | .nilmap, x, h, j, hj => by simp [V.ids] at hj
  | .map _, x, h, j, hj => by simp [V.ids] at hj
  | .yield _, x, h, j, hj => by simp [V.ids] at hj
  | .nilFunc, x, h, j, hj => by simp [V.ids] at hj
  | .nilIface, x, h, j, hj => by simp [V.ids] at hj
  | .glob _ _, x, h, j, hj => by simp [V.ids] at hj
  | .sb _, x, h, j, hj => by simp [V.ids] at hj
  | .si _ _, x, h, j, hj => by simp [V.ids] at hj
  | .ss _, x, h, j, hj => by simp [V.ids] at hj
  | .ro _ _ _ _, x, h, j, hj => by simp [V.ids] at hj
  | .rp _ _ _ _ _, x, h, j, hj => by simp [V.ids] at hj
  | .px _ _ _ _ _, x, h, j, hj => by simp [V.ids] at hj
theorem RVs.ids {σ : Sg} : ∀ (vs : List V) (l : List Value), RVs σ vs l → ∀ i ∈ idsL vs, ∃ p, σ i = some p
  | [], l, h, j, hj => by simp [idsL] at hj
  | v :: vs, l, h, j, hj => by
    simp only [RVs] at h; obtain ⟨x, r, e, h1, h2⟩ := h
    simp only [idsL, List.mem_append] at hj
    rcases hj with hj | hj
    · exact RV.ids _ _ h1 j hj
    · exact RVs.ids _ _ h2 j hj
end

/-- all that is handed on is frozen first -/
theorem freeze_args {W0 : World} {σ : Sg} {st : St} {w : World} (hR : Rel W0 σ st w) {args : List V} {l : List Value} (ha : RVs σ args l) :
    ∃ σ', Rel W0 σ' (st.frzs (idsL args)) w ∧ Post σ st σ' (st.frzs (idsL args)) ∧ RVs σ' (frzds (st.frzs (idsL args)) args) l := by
  obtain ⟨σ', h1, h2, _⟩ := hR.freezes (idsL args) (RVs.ids _ _ ha)
  exact ⟨σ', h1, h2, RVs.frzd h1 _ _ (RVs.mono h2.le _ _ ha)⟩
end Go.Proofs.YthnldpbkjegfaaaDoor.Sv
