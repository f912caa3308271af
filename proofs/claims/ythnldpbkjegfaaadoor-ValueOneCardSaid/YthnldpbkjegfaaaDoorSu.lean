/-
  Package-level tables, as a row lists them.
-/
import GoSem.ClaimJoined
import Derived.LaidLaws
import Derived.Test.YthnldpbkjegfaaaDoorSd
set_option linter.unusedVariables false
set_option linter.unusedSimpArgs false
set_option linter.unnecessarySimpa false
noncomputable section
namespace Go.Proofs.YthnldpbkjegfaaaDoor.Sv
open Go Go.RowKit

/-! ### package-level tables, as a row lists them -/
def layParts (f : TypeId → DataW Unit → Option (List (Nat × V))) : List (TypeId × Nat) → List (DataW Unit) → Option (List (Nat × V))
  | [], _ => some []
  | (t, o) :: ps, d :: ds => match f t d with
    | some l => match layParts f ps ds with
      | some r => some (l.map (fun x => (o + x.1, x.2)) ++ r)
      | none => none
    | none => none
  | _, _ => none

def lay (P : Program) : Nat → TypeId → DataW Unit → Option (List (Nat × V))
  | 0, _, _ => none
  | fuel + 1, t, d => match P.underlying t with
    | some .bool => match d with
      | .lit (.bool b) => some [(0, .bool b)]
      | _ => none
    | some (.int _) => match d with
      | .lit (.int k n) => some [(0, .int k n)]
      | _ => none
    | some .string => match d with
      | .lit (.string s) => some [(0, .str (s.map UInt8.toNat))]
      | _ => none
    | some (.struct fs) => match d with
      | .agg ds => layParts (lay P fuel) (fs.toList.map fun f => (f.type, f.offset)) ds
      | _ => none
    | some (.array n e) => match d with
      | .agg ds => layParts (lay P fuel) ((List.range n).map fun i => (e, i * P.cellsOf e)) ds
      | _ => none
    | _ => none

def LayOk (l : List (Nat × V)) (cs : List Value) : Prop := ∀ k v, (k, v) ∈ l → v.isFlat = true ∧ ∃ x, cs[k]? = some x ∧ ∀ σ, RV σ v x

theorem mapM_cons_some {α β : Type} {f : α → Option β} {a : α} {l : List α} {r : List β} (h : (a :: l).mapM f = some r) : ∃ b s, r = b :: s ∧ f a = some b ∧ l.mapM f = some s := by
  rw [List.mapM_cons] at h
  simp only [Option.bind_eq_bind, Option.bind_eq_some_iff, Option.pure_def, Option.some.injEq] at h
  obtain ⟨b, hb, s, hs, rfl⟩ := h
  exact ⟨b, s, rfl, hb, hs⟩

theorem layParts_sound {f : TypeId → DataW Unit → Option (List (Nat × V))} {g : TypeId → List Value → Option (DataW Unit × List MemPlace)} (hf : ∀ t d l cs p, f t d = some l → g t cs = some (d, p) → LayOk l cs)
    {cs : List Value} : ∀ {ps : List (TypeId × Nat)} {ns : List Nat} {ds : List (DataW Unit)} {l : List (Nat × V)} {xs : List (DataW Unit × List MemPlace)}, ns.length = ps.length →
      (ps.zip ns).mapM (fun q => g q.1.1 ((cs.drop q.1.2).take q.2)) = some xs → ds = xs.map (·.1) → layParts f ps ds = some l → LayOk l cs
  | [], ns, ds, l, xs, _, _, _, h => by simp only [layParts, Option.some.injEq] at h; subst h; intro k v hm; cases hm
  | (t, o) :: ps, [], ds, l, xs, hl, _, _, h => by cases hl
  | (t, o) :: ps, n :: ns, ds, l, xs, hl, hx, hd, h => by
    rw [List.zip_cons_cons] at hx
    obtain ⟨b, s, rfl, hb, hs⟩ := mapM_cons_some hx
    subst hd
    simp only [List.map_cons, layParts] at h
    split at h
    · rename_i l0 h0
      split at h
      · rename_i r hr
        obtain rfl := Option.some.inj h
        have ih := layParts_sound hf (by simpa using hl) hs rfl hr
        have hh := hf _ _ _ _ b.2 h0 hb
        intro k v hm
        rcases List.mem_append.1 hm with hm | hm
        · obtain ⟨⟨k', v'⟩, hm2, e⟩ := List.mem_map.1 hm
          injection e with e1 e2
          simp only at e1 e2
          subst e1 e2
          obtain ⟨h1, x, h2, h3⟩ := hh k' v' hm2
          refine ⟨h1, x, ?_, h3⟩
          rw [List.getElem?_take] at h2
          split at h2
          · rw [List.getElem?_drop] at h2; exact h2
          · cases h2
        · exact ih k v hm
      · cases h
    · cases h

theorem mapM_map_eq {α β γ : Type} (f : β → Option γ) (g : α → β) : ∀ l : List α, (l.map g).mapM f = l.mapM (fun a => f (g a))
  | [] => rfl
  | a :: l => by rw [List.map_cons, List.mapM_cons, List.mapM_cons, mapM_map_eq f g l]

theorem zip_map_map {α β γ : Type} (f : α → β) (g : α → γ) : ∀ l : List α, (l.map f).zip (l.map g) = l.map (fun a => (f a, g a))
  | [] => rfl
  | a :: l => by simp [zip_map_map f g l]

theorem lay_sound {P : Program} {w : World} : ∀ {n fuel : Nat} {t : TypeId} {d : DataW Unit} {l : List (Nat × V)} {cs : List Value} {p : List MemPlace},
    lay P n t d = some l → DataW.trod (fun _ => ()) P w 0 (fun _ => true) false fuel t cs = some (d, p) → LayOk l cs
  | 0, fuel, t, d, l, cs, p, h, _ => by cases h
  | n + 1, 0, t, d, l, cs, p, _, h => by simp [DataW.trod] at h
  | n + 1, fuel + 1, t, d, l, cs, p, h, k => by
    simp only [lay] at h
    simp only [DataW.trod] at k
    split at h
    · rename_i ht
      rw [ht] at k
      split at h
      · obtain rfl := Option.some.inj h
        split at k <;> simp_all
        obtain ⟨rfl, _⟩ := k
        intro k v hm
        simp only [List.mem_singleton, Prod.mk.injEq] at hm
        obtain ⟨rfl, rfl⟩ := hm
        exact ⟨rfl, _, rfl, fun σ => by simp only [RV]⟩
      · cases h
    · rename_i kk ht
      rw [ht] at k
      split at h
      · obtain rfl := Option.some.inj h
        split at k <;> simp_all
        obtain ⟨_, ⟨rfl, rfl⟩, _⟩ := k
        intro k v hm
        simp only [List.mem_singleton, Prod.mk.injEq] at hm
        obtain ⟨rfl, rfl⟩ := hm
        refine ⟨rfl, _, rfl, fun σ => by simp only [RV]⟩
      · cases h
    · rename_i ht
      rw [ht] at k
      split at h
      · obtain rfl := Option.some.inj h
        split at k <;> simp_all
        obtain ⟨_, rfl, _⟩ := k
        intro k v hm
        simp only [List.mem_singleton, Prod.mk.injEq] at hm
        obtain ⟨rfl, rfl⟩ := hm
        exact ⟨rfl, _, rfl, fun σ => by simp only [RV]; exact ⟨_, rfl, rfl⟩⟩
      · cases h
    · rename_i fs ht
      rw [ht] at k
      split at h
      · rename_i ds
        have k' : (if cs.length = P.cellsOf t then (fs.toList.mapM fun f => DataW.trod (fun _ => ()) P w 0 (fun _ => true) false fuel f.type ((cs.drop f.offset).take (P.cellsOf f.type))).map fun xs => (DataW.agg (xs.map (·.1)), xs.flatMap (·.2)) else none) = some (.agg ds, p) := by
          split at k <;> first | exact k | simp_all
        split at k'
        · obtain ⟨xs, hx, e⟩ := Option.map_eq_some_iff.1 k'
          injection e with e1 e2
          injection e1 with e1
          refine layParts_sound (f := lay P n) (g := fun t c => DataW.trod (fun _ => ()) P w 0 (fun _ => true) false fuel t c) (fun t d l cs p h k => lay_sound h k)
            (ns := fs.toList.map fun f => P.cellsOf f.type) (by simp) ?_ e1.symm h
          rw [zip_map_map, mapM_map_eq]; exact hx
        · cases k'
      · cases h
    · rename_i m e ht
      rw [ht] at k
      split at h
      · rename_i ds
        have k' : (if cs.length = P.cellsOf t then ((List.range m).mapM fun i => DataW.trod (fun _ => ()) P w 0 (fun _ => true) false fuel e ((cs.drop (i * P.cellsOf e)).take (P.cellsOf e))).map fun xs => (DataW.agg (xs.map (·.1)), xs.flatMap (·.2)) else none) = some (.agg ds, p) := by
          split at k <;> first | exact k | simp_all
        split at k'
        · obtain ⟨xs, hx, e'⟩ := Option.map_eq_some_iff.1 k'
          injection e' with e1 e2
          injection e1 with e1
          refine layParts_sound (f := lay P n) (g := fun t c => DataW.trod (fun _ => ()) P w 0 (fun _ => true) false fuel t c) (fun t d l cs p h k => lay_sound h k)
            (ns := (List.range m).map fun _ => P.cellsOf e) (by simp) ?_ e1.symm h
          rw [zip_map_map, mapM_map_eq]; exact hx
        · cases k'
      · cases h
    · cases h

def triOf : List (Nat × V) → Tri V → Tri V
  | [], t => t
  | (k, v) :: l, t => triOf l (t.set k (some v))

theorem get_triOf : ∀ (l : List (Nat × V)) (t : Tri V) (k : Nat) (v : V), (triOf l t).get k = some v → (k, v) ∈ l ∨ t.get k = some v
  | [], t, k, v, h => .inr h
  | (j, u) :: l, t, k, v, h => by
    simp only [triOf] at h
    rcases get_triOf l _ k v h with h | h
    · exact .inl (List.mem_cons_of_mem _ h)
    · rw [Tri.get_set] at h
      split at h
      · rename_i e; cases h; subst e; exact .inl (by simp)
      · exact .inr h

/-! ### tables with slices: rows that are read alone -/
abbrev LS := Option (List (Nat × V) × Nat × Tri O)

def layPartsS (f : TypeId → DataW Unit → Nat → Tri O → LS) : List (TypeId × Nat) → List (DataW Unit) → Nat → Tri O → LS
  | [], _, n, m => some ([], n, m)
  | (t, o) :: ps, d :: ds, n, m => match f t d n m with
    | some (l, n1, m1) => match layPartsS f ps ds n1 m1 with
      | some (r, n2, m2) => some (l.map (fun x => (o + x.1, x.2)) ++ r, n2, m2)
      | none => none
    | none => none
  | _, _, _, _ => none

def layS (P : Program) : Nat → TypeId → DataW Unit → Nat → Tri O → LS
  | 0, _, _, _, _ => none
  | fuel + 1, t, d, n, m => match P.underlying t with
    | some (.slice e) => match d with
      | .nil => some ([(0, .nils)], n, m)
      | .slice elems rest => match Nat.beq (P.cellsOf e) 0, Nat.beq elems.length 0 with
        | false, false => match layParts (lay P fuel) ((List.range elems.length).map fun i => (e, i * P.cellsOf e)) elems with
          | some l => some ([(0, .slice n 0 elems.length (.known (elems.length + rest.length)))], n + 1, m.set n (some (.row (elems.length * P.cellsOf e) (triOf l .nil) true false [])))
          | none => none
        | _, _ => none
      | _ => none
    | some (.struct fs) => match d with
      | .agg ds => layPartsS (layS P fuel) (fs.toList.map fun f => (f.type, f.offset)) ds n m
      | _ => none
    | some (.array k e) => match d with
      | .agg ds => layPartsS (layS P fuel) ((List.range k).map fun i => (e, i * P.cellsOf e)) ds n m
      | _ => none
    | _ => match lay P (fuel + 1) t d with
      | some l => some (l, n, m)
      | none => none

/-- more is laid, and no more is frozen -/
structure LeF (σ σ' : Sg) : Prop where
  le : Le σ σ'
  fz : σ'.fz = σ.fz
theorem LeF.refl (σ : Sg) : LeF σ σ := ⟨.refl _, rfl⟩
theorem LeF.trans {a b c : Sg} (h : LeF a b) (k : LeF b c) : LeF a c := ⟨h.le.trans k.le, k.fz.trans h.fz⟩
def O.isRow : O → Bool
  | .row _ _ _ false _ => true
  | _ => false
structure StaOk (w : World) (σ : Sg) (n : Nat) (m : Tri O) : Prop where
  dom : ∀ i p, σ i = some p → i < n
  blk : ∀ i p, σ i = some p → p.blk < w.heap.size
  still : ∀ i o, m.get i = some o → o.isRow = true
  obj : ∀ i p o, σ i = some p → m.get i = some o → ObjOk σ p w o

def LayOkS (σ : Sg) (l : List (Nat × V)) (cs : List Value) : Prop := ∀ k v, (k, v) ∈ l → v.isFlat = true ∧ ∃ x, cs[k]? = some x ∧ RV σ v x

def Zd (w : World) (ps : List MemPlace) : Prop := ∀ b off, MemPlace.cell b off ∈ ps → ∃ c t, w.heap[b]? = some (.cells c t (0, 0))

theorem layPartsS_sound {w : World} {f : TypeId → DataW Unit → Nat → Tri O → LS} {g : TypeId → List Value → Option (DataW Unit × List MemPlace)}
    (hf : ∀ t d n m l n' m' cs p σ, f t d n m = some (l, n', m') → g t cs = some (d, p) → Zd w p → StaOk w σ n m → ∃ σ', LeF σ σ' ∧ StaOk w σ' n' m' ∧ LayOkS σ' l cs)
    {cs : List Value} : ∀ {ps : List (TypeId × Nat)} {ns : List Nat} {ds : List (DataW Unit)} {n : Nat} {m : Tri O} {l : List (Nat × V)} {n' : Nat} {m' : Tri O} {xs : List (DataW Unit × List MemPlace)} {σ : Sg}, ns.length = ps.length →
      (ps.zip ns).mapM (fun q => g q.1.1 ((cs.drop q.1.2).take q.2)) = some xs → ds = xs.map (·.1) → layPartsS f ps ds n m = some (l, n', m') → Zd w (xs.flatMap (·.2)) → StaOk w σ n m →
      ∃ σ', LeF σ σ' ∧ StaOk w σ' n' m' ∧ LayOkS σ' l cs
  | [], ns, ds, n, m, l, n', m', xs, σ, _, _, _, h, _, hs => by
    simp only [layPartsS, Option.some.injEq, Prod.mk.injEq] at h
    obtain ⟨rfl, rfl, rfl⟩ := h
    exact ⟨σ, .refl _, hs, fun k v hm => by cases hm⟩
  | (t, o) :: ps, [], ds, n, m, l, n', m', xs, σ, hl, _, _, h, _, _ => by cases hl
  | (t, o) :: ps, n0 :: ns, ds, n, m, l, n', m', xs, σ, hl, hx, hd, h, hz, hs => by
    rw [List.zip_cons_cons] at hx
    obtain ⟨b, s, rfl, hb, hss⟩ := mapM_cons_some hx
    subst hd
    simp only [List.map_cons, layPartsS] at h
    split at h
    · rename_i l0 n1 m1 h0
      split at h
      · rename_i r n2 m2 hr
        simp only [Option.some.injEq, Prod.mk.injEq] at h
        obtain ⟨rfl, rfl, rfl⟩ := h
        obtain ⟨σ1, le1, s1, ok1⟩ := hf _ _ _ _ _ _ _ _ b.2 σ h0 hb (fun c off hc => hz c off (by rw [List.flatMap_cons]; exact List.mem_append_left _ hc)) hs
        obtain ⟨σ2, le2, s2, ok2⟩ := layPartsS_sound hf (by simpa using hl) hss rfl hr (fun c off hc => hz c off (by rw [List.flatMap_cons]; exact List.mem_append_right _ hc)) s1
        refine ⟨σ2, le1.trans le2, s2, fun k v hm => ?_⟩
        rcases List.mem_append.1 hm with hm | hm
        · obtain ⟨⟨k', v'⟩, hm2, e⟩ := List.mem_map.1 hm
          injection e with e1 e2
          simp only at e1 e2
          subst e1 e2
          obtain ⟨h1, x, h2, h3⟩ := ok1 k' v' hm2
          refine ⟨h1, x, ?_, RV.mono le2.le _ _ h3⟩
          rw [List.getElem?_take] at h2
          split at h2
          · rw [List.getElem?_drop] at h2; exact h2
          · cases h2
        · exact ok2 k v hm
      · cases h
    · cases h

theorem mapM_mono {α β : Type} {f g : α → Option β} : ∀ {l : List α} {r : List β}, l.mapM f = some r → (∀ i ∈ l, ∀ y, f i = some y → g i = some y) → l.mapM g = some r
  | [], r, h, _ => by simpa using h
  | a :: l, r, h, k => by
    obtain ⟨b, s, rfl, hb, hs⟩ := mapM_cons_some h
    rw [List.mapM_cons, k a (by simp) b hb, mapM_mono hs fun i hi => k i (by simp [hi])]; rfl

theorem mapM_length {α β : Type} {f : α → Option β} : ∀ {l : List α} {r : List β}, l.mapM f = some r → r.length = l.length
  | [], r, h => by simp at h; subst h; rfl
  | a :: l, r, h => by
    obtain ⟨b, s, rfl, _, hs⟩ := mapM_cons_some h
    simp [mapM_length hs]

theorem mapM_get {α β : Type} {f : α → Option β} : ∀ {l : List α} {r : List β}, l.mapM f = some r → ∀ (k : Nat) (a : α), l[k]? = some a → ∃ b, r[k]? = some b ∧ f a = some b
  | [], r, h, k, a, e => by simp at e
  | a0 :: l, r, h, k, a, e => by
    obtain ⟨b, s, rfl, hb, hs⟩ := mapM_cons_some h
    cases k with
    | zero => simp at e; subst e; exact ⟨b, rfl, hb⟩
    | succ k => simp at e; obtain ⟨b', h1, h2⟩ := mapM_get hs k a e; exact ⟨b', by simpa using h1, h2⟩

/-- cells of a block, as a list -/
theorem cells_list {w : World} {b o n : Nat} {c : Array Value} {t : TypeId} {fz : Nat × Nat} {l : List Value} (h : w.heap[b]? = some (.cells c t fz)) (hc : w.cells? 0 ⟨b, o, none⟩ n = some l) (hn : n ≠ 0) :
    l = (c.toList.drop o).take n ∧ o + n ≤ c.size := by
  unfold World.cells? at hc
  rw [if_pos (Nat.zero_le _)] at hc
  have hlen := mapM_length hc
  simp only [List.length_range] at hlen
  have key : ∀ k, k < n → l[k]? = c[o + k]? ∧ o + k < c.size := by
    intro k hk
    obtain ⟨x, h1, h2⟩ := mapM_get hc k k (by simp [hk])
    have : (⟨b, o, none⟩ : Addr).add k = ⟨b, o + k, none⟩ := by unfold Addr.add; split <;> simp_all
    rw [this, cell_of h] at h2
    exact ⟨by rw [h1, h2], (Array.getElem?_eq_some_iff.1 h2).1⟩
  have hle : o + n ≤ c.size := by have := (key (n - 1) (by omega)).2; omega
  refine ⟨List.ext_getElem? fun k => ?_, hle⟩
  by_cases hk : k < n
  · rw [(key k hk).1, List.getElem?_take, if_pos hk, List.getElem?_drop, ← Array.getElem?_toList]
  · rw [List.getElem?_eq_none (by omega), List.getElem?_take, if_neg hk]

theorem slice_lay {P : Program} {w : World} {fuel fl : Nat} {e : TypeId} {a : Addr} {len : Nat} {xs : List (DataW Unit × List MemPlace)} {l : List (Nat × V)} {c : Array Value} {t : TypeId}
    (h0 : P.cellsOf e ≠ 0) (h1 : len ≠ 0) (hx : (List.range len).mapM (fun i => (w.cells? 0 (a.add (i * P.cellsOf e)) (P.cellsOf e)).bind (DataW.trod (fun _ => ()) P w 0 (fun _ => true) false fl e)) = some xs)
    (hl : layParts (lay P fuel) ((List.range len).map fun i => (e, i * P.cellsOf e)) (xs.map (·.1)) = some l) (hh : w.heap[a.block]? = some (.cells c t (0, 0))) :
    a.spot = none ∧ a.off + len * P.cellsOf e ≤ c.size ∧ ∀ k v, (k, v) ∈ l → k < len * P.cellsOf e ∧ v.isFlat = true ∧ ∃ x, c[a.off + k]? = some x ∧ ∀ σ, RV σ v x := by
  have hsp : a.spot = none := by
    obtain ⟨y, _, hy⟩ := mapM_get hx 0 0 (List.getElem?_range (by omega))
    simp only [Option.bind_eq_some_iff] at hy
    obtain ⟨l0, hl0, _⟩ := hy
    unfold World.cells? at hl0
    rw [if_pos (Nat.zero_le _)] at hl0
    obtain ⟨z, _, hz⟩ := mapM_get hl0 0 0 (List.getElem?_range (by omega))
    have ea : (a.add (0 * P.cellsOf e)).add 0 = a := by simp [Addr.add]
    rw [ea] at hz
    simp only [World.cell?, hh] at hz
    cases hs : a.spot with
    | none => rfl
    | some q => rw [hs] at hz; simp at hz
  obtain ⟨b, o, sp⟩ := a
  simp only at hsp hh
  subst hsp
  have hadd : ∀ k, (⟨b, o, none⟩ : Addr).add k = ⟨b, o + k, none⟩ := by
    intro k; unfold Addr.add; by_cases hk : k = 0
    · subst hk; rfl
    · rw [if_neg hk]
  have hel : ∀ i, i < len → ∃ ci, w.cells? 0 ⟨b, o + i * P.cellsOf e, none⟩ (P.cellsOf e) = some ci := by
    intro i hi
    obtain ⟨y, _, hy⟩ := mapM_get hx i i (by simp [hi])
    simp only [Option.bind_eq_some_iff] at hy
    obtain ⟨ci, hci, _⟩ := hy
    rw [hadd] at hci
    exact ⟨ci, hci⟩
  have hsz : o + len * P.cellsOf e ≤ c.size := by
    obtain ⟨ci, hci⟩ := hel (len - 1) (by omega)
    have := (cells_list hh hci h0).2
    have e1 : (len - 1) * P.cellsOf e + P.cellsOf e = len * P.cellsOf e := by
      rw [← Nat.succ_mul]; congr 1; omega
    omega
  refine ⟨rfl, hsz, ?_⟩
  have hL : LayOk l ((c.toList.drop o).take (len * P.cellsOf e)) := by
    refine layParts_sound (f := lay P fuel) (g := fun t c => DataW.trod (fun _ => ()) P w 0 (fun _ => true) false fl t c) (fun t d l cs p h k => lay_sound h k)
      (ns := (List.range len).map fun _ => P.cellsOf e) (by simp) ?_ rfl hl
    rw [zip_map_map, mapM_map_eq]
    refine mapM_mono hx fun i hi y hy => ?_
    have hi := List.mem_range.1 hi
    simp only [Option.bind_eq_some_iff] at hy
    obtain ⟨ci, hci, hy⟩ := hy
    rw [hadd] at hci
    obtain ⟨rfl, _⟩ := cells_list hh hci h0
    have e1 : i * P.cellsOf e + P.cellsOf e ≤ len * P.cellsOf e := by
      rw [← Nat.succ_mul]; exact Nat.mul_le_mul_right _ hi
    simp only
    rw [List.drop_take, List.take_take, List.drop_drop, Nat.min_eq_left (by omega)]
    exact hy
  intro k v hm
  obtain ⟨h2, x, h3, h4⟩ := hL k v hm
  rw [List.getElem?_take] at h3
  split at h3
  · rename_i hk
    rw [List.getElem?_drop, Array.getElem?_toList] at h3
    exact ⟨hk, h2, x, h3, h4⟩
  · cases h3

theorem trod_slice {P : Program} {w : World} {fuel : Nat} {t e : TypeId} {cs : List Value} {d : DataW Unit} {p : List MemPlace} (ht : P.underlying t = some (.slice e))
    (k : DataW.trod (fun _ => ()) P w 0 (fun _ => true) false (fuel + 1) t cs = some (d, p)) : (cs = [.slice none 0 0] ∧ d = .nil) ∨ ∃ a len cap xs rs, cs = [.slice (some a) len cap] ∧ len ≤ cap ∧
      (List.range len).mapM (fun i => (w.cells? 0 (a.add (i * P.cellsOf e)) (P.cellsOf e)).bind (DataW.trod (fun _ => ()) P w 0 (fun _ => true) false fuel e)) = some xs ∧
      (List.range (cap - len)).mapM (fun j => (w.cells? 0 (a.add ((len + j) * P.cellsOf e)) (P.cellsOf e)).bind (DataW.trod (fun _ => ()) P w 0 (fun _ => true) false fuel e)) = some rs ∧
      d = .slice (xs.map (·.1)) (rs.map (·.1)) ∧ p = MemPlace.row a ((xs.length + rs.length) * P.cellsOf e) ++ (xs ++ rs).flatMap (·.2) := by
  rcases cs with _ | ⟨v, _ | ⟨v2, r⟩⟩
  · simp [DataW.trod, ht] at k
  · cases v with
    | slice a len cap =>
      cases a with
      | none =>
        cases len <;> cases cap <;> simp [DataW.trod, ht] at k
        exact .inl ⟨rfl, k.1.symm⟩
      | some a =>
        right
        simp only [DataW.trod, ht] at k
        split at k
        · rename_i hcond
          simp only [Option.bind_eq_some_iff, Option.map_eq_some_iff, Prod.mk.injEq, if_true] at k
          obtain ⟨xs, hxs, rs, hrs, e1, e2⟩ := k
          exact ⟨a, len, cap, xs, rs, rfl, hcond.2.1, hxs, hrs, e1.symm, e2.symm⟩
        · cases k
    | _ => simp [DataW.trod, ht] at k
  · simp [DataW.trod, ht] at k

theorem layS_sound {P : Program} {w : World} : ∀ {fu fuel : Nat} {t : TypeId} {d : DataW Unit} {n : Nat} {m : Tri O} {l : List (Nat × V)} {n' : Nat} {m' : Tri O} {cs : List Value} {p : List MemPlace} {σ : Sg},
    layS P fu t d n m = some (l, n', m') → DataW.trod (fun _ => ()) P w 0 (fun _ => true) false fuel t cs = some (d, p) → Zd w p → StaOk w σ n m → ∃ σ', LeF σ σ' ∧ StaOk w σ' n' m' ∧ LayOkS σ' l cs
  | 0, fuel, t, d, n, m, l, n', m', cs, p, σ, h, _, _, _ => by cases h
  | fu + 1, 0, t, d, n, m, l, n', m', cs, p, σ, _, h, _, _ => by simp [DataW.trod] at h
  | fu + 1, fuel + 1, t, d, n, m, l, n', m', cs, p, σ, h, k, hz, hs => by
    simp only [layS] at h
    split at h
    · rename_i e ht
      have k := trod_slice ht k
      split at h
      · simp only [Option.some.injEq, Prod.mk.injEq] at h
        obtain ⟨rfl, rfl, rfl⟩ := h
        refine ⟨σ, .refl _, hs, fun j v hm => ?_⟩
        simp only [List.mem_singleton, Prod.mk.injEq] at hm
        obtain ⟨rfl, rfl⟩ := hm
        rcases k with ⟨rfl, _⟩ | ⟨_, _, _, _, _, _, _, _, _, k, _⟩
        · exact ⟨rfl, _, rfl, by simp only [RV]⟩
        · cases k
      · rename_i elems rest
        split at h
        · rename_i g1 g2
          split at h
          · rename_i lp hlp
            simp only [Option.some.injEq, Prod.mk.injEq] at h
            obtain ⟨rfl, rfl, rfl⟩ := h
            rcases k with ⟨_, k⟩ | ⟨a, len, cap, xs, rs, rfl, hcap, hxs, hrs, k, e3⟩
            · cases k
            · injection k with e1 e2
              have l1 := mapM_length hxs
              have l2 := mapM_length hrs
              simp only [List.length_range] at l1 l2
              have g1 := Nat.ne_of_beq_eq_false g1
              have g2 := Nat.ne_of_beq_eq_false g2
              subst e1 e2
              simp only [List.length_map] at *
              have hmem : MemPlace.cell a.block a.off ∈ p := by
                rw [e3]
                refine List.mem_append_left _ ?_
                simp only [MemPlace.row, List.mem_map, List.mem_range]
                refine ⟨0, ?_, by simp⟩
                exact Nat.mul_pos (by omega) (by omega)
              obtain ⟨c, ty, hh⟩ := hz _ _ hmem
              rw [l1] at hlp
              obtain ⟨s1, s2, s3⟩ := slice_lay g1 (by omega) hxs hlp hh
              have hfr : σ n = none := by
                cases e : σ n with
                | none => rfl
                | some p => exact absurd (hs.dom _ _ e) (Nat.lt_irrefl _)
              refine ⟨σ.put n ⟨a.block, a.off, c.size - a.off⟩, ⟨Sg.le_put hfr, rfl⟩, ⟨fun i p e => ?_, fun i p e => ?_, fun i o e => ?_, fun i p o e e' => ?_⟩, fun j v hm => ?_⟩
              · by_cases hi : i = n
                · omega
                · rw [Sg.put_ne hi] at e; have := hs.dom i p e; omega
              · by_cases hi : i = n
                · subst hi; rw [Sg.put_same] at e; obtain rfl := Option.some.inj e; exact (Array.getElem?_eq_some_iff.1 hh).1
                · rw [Sg.put_ne hi] at e; exact hs.blk i p e
              · rw [Tri.get_set] at e
                split at e
                · obtain rfl := Option.some.inj e; rfl
                · exact hs.still i o e
              · rw [Tri.get_set] at e'
                split at e'
                · rename_i hi; subst hi
                  rw [Sg.put_same] at e; obtain rfl := Option.some.inj e
                  obtain rfl := Option.some.inj e'
                  simp only [ObjOk]
                  refine ⟨c, ty, (0, 0), hh, by omega, by rw [l1]; omega, by simp, fun k v hk => ?_, .inl rfl, by simp⟩
                  rcases get_triOf _ _ _ _ hk with hk | hk
                  · obtain ⟨q1, q2, x, q3, q4⟩ := s3 k v hk
                    exact ⟨by rw [l1]; exact q1, q2, x, q3, q4 _⟩
                  · rw [Tri.get_nil] at hk; cases hk
                · rename_i hi
                  rw [Sg.put_ne hi] at e
                  exact (hs.obj i p o e e').mono (Sg.le_put hfr)
              · simp only [List.mem_singleton, Prod.mk.injEq] at hm
                obtain ⟨rfl, rfl⟩ := hm
                refine ⟨rfl, _, rfl, ?_⟩
                simp only [RV]
                refine ⟨_, Sg.put_same _ _ _, ?_⟩
                obtain ⟨b, o, sp⟩ := a
                simp only at s1; subst s1
                simp only [Nat.add_zero, l1, l2, Value.slice.injEq, true_and]
                omega
          · cases h
        · cases h
      · cases h
    · rename_i fs ht
      simp only [DataW.trod] at k
      rw [ht] at k
      split at h
      · rename_i ds
        have k' : (if cs.length = P.cellsOf t then (fs.toList.mapM fun f => DataW.trod (fun _ => ()) P w 0 (fun _ => true) false fuel f.type ((cs.drop f.offset).take (P.cellsOf f.type))).map fun xs => (DataW.agg (xs.map (·.1)), xs.flatMap (·.2)) else none) = some (.agg ds, p) := by
          split at k <;> first | exact k | simp_all
        split at k'
        · obtain ⟨xs, hx, e⟩ := Option.map_eq_some_iff.1 k'
          injection e with e1 e2
          injection e1 with e1
          subst e2
          refine layPartsS_sound (f := layS P fu) (g := fun t c => DataW.trod (fun _ => ()) P w 0 (fun _ => true) false fuel t c) (fun t d n m l n' m' cs p σ h k z s => layS_sound h k z s)
            (ns := fs.toList.map fun f => P.cellsOf f.type) (by simp) ?_ e1.symm h hz hs
          rw [zip_map_map, mapM_map_eq]; exact hx
        · cases k'
      · cases h
    · rename_i j e ht
      simp only [DataW.trod] at k
      rw [ht] at k
      split at h
      · rename_i ds
        have k' : (if cs.length = P.cellsOf t then ((List.range j).mapM fun i => DataW.trod (fun _ => ()) P w 0 (fun _ => true) false fuel e ((cs.drop (i * P.cellsOf e)).take (P.cellsOf e))).map fun xs => (DataW.agg (xs.map (·.1)), xs.flatMap (·.2)) else none) = some (.agg ds, p) := by
          split at k <;> first | exact k | simp_all
        split at k'
        · obtain ⟨xs, hx, e'⟩ := Option.map_eq_some_iff.1 k'
          injection e' with e1 e2
          injection e1 with e1
          subst e2
          refine layPartsS_sound (f := layS P fu) (g := fun t c => DataW.trod (fun _ => ()) P w 0 (fun _ => true) false fuel t c) (fun t d n m l n' m' cs p σ h k z s => layS_sound h k z s)
            (ns := (List.range j).map fun _ => P.cellsOf e) (by simp) ?_ e1.symm h hz hs
          rw [zip_map_map, mapM_map_eq]; exact hx
        · cases k'
      · cases h
    · split at h
      · rename_i l0 hl0
        simp only [Option.some.injEq, Prod.mk.injEq] at h
        obtain ⟨rfl, rfl, rfl⟩ := h
        refine ⟨σ, .refl _, hs, fun j v hm => ?_⟩
        obtain ⟨q1, x, q2, q3⟩ := lay_sound hl0 k j v hm
        exact ⟨q1, x, q2, q3 σ⟩
      · cases h

/-- what the listed tables hold, as the evaluator reads it -/
def globOf (P : Program) (fuel : Nat) : List (String × DataW Unit) → Nat → Tri O → Option (Tri (Tri V) × Nat × Tri O)
  | [], nx, m => some (.nil, nx, m)
  | (n, d) :: r, nx, m => match P.globalNamed n with
    | some g => match (P.globals[g]?).map (·.type) with
      | some t => match layS P fuel t d nx m with
        | some (l, nx1, m1) => match globOf P fuel r nx1 m1 with
          | some (gl, nx2, m2) => some (gl.set g (some (triOf l .nil)), nx2, m2)
          | none => none
        | none => globOf P fuel r nx m
      | none => none
    | none => none

theorem globOf_ok {P : Program} {w : World} {fuel : Nat} : ∀ {ls : List (String × DataW Unit)} {nx : Nat} {m : Tri O} {gl : Tri (Tri V)} {nx' : Nat} {m' : Tri O} {ps : List MemPlace} {σ : Sg},
    globOf P fuel ls nx m = some (gl, nx', m') → DataW.LaidVars P w ls ps → Zd w ps → StaOk w σ nx m → ∃ σ', LeF σ σ' ∧ StaOk w σ' nx' m' ∧ GlobOk σ' w gl
  | [], nx, m, gl, nx', m', ps, σ, h, _, _, hs => by
    simp only [globOf, Option.some.injEq, Prod.mk.injEq] at h
    obtain ⟨rfl, rfl, rfl⟩ := h
    exact ⟨σ, .refl _, hs, fun g t k v e => by rw [Tri.get_nil] at e; cases e⟩
  | (n, d) :: r, nx, m, gl, nx', m', ps, σ, h, k, hz, hs => by
    obtain ⟨g, t, cs, fl, p, q, hg, ht, hv, hd, hr, rfl⟩ := k
    simp only [globOf, hg, ht] at h
    have hzp : Zd w p := fun b off hc => hz b off (List.mem_append_left _ (List.mem_append_right _ hc))
    have hzq : Zd w q := fun b off hc => hz b off (List.mem_append_right _ hc)
    split at h
    · rename_i l n1 m1 hl
      split at h
      · rename_i gl' n2 m2 hgl
        simp only [Option.some.injEq, Prod.mk.injEq] at h
        obtain ⟨rfl, rfl, rfl⟩ := h
        obtain ⟨σ1, le1, s1, ok1⟩ := layS_sound hl hd hzp hs
        obtain ⟨σ2, le2, s2, ok2⟩ := globOf_ok hgl hr hzq s1
        refine ⟨σ2, le1.trans le2, s2, fun g' t' k v e1 e2 => ?_⟩
        rw [Tri.get_set] at e1
        split at e1
        · rename_i e; subst e
          obtain rfl := Option.some.inj e1
          rcases get_triOf _ _ _ _ e2 with e2 | e2
          · obtain ⟨a, x, b, c⟩ := ok1 k v e2
            refine ⟨a, x, ?_, RV.mono le2.le _ _ c⟩
            simp only [World.var?, hg, Option.bind_some] at hv
            split at hv <;> simp_all [World.cell?]
          · rw [Tri.get_nil] at e2; cases e2
        · exact ok2 g' t' k v e1 e2
      · cases h
    · exact globOf_ok h hr hzq hs

def laidSt (P : Program) (fuel : Nat) (laid : List (String × DataW Unit)) : Option St :=
  match globOf P fuel laid 0 .nil with
  | some (gl, nx, m) => some { next := nx, mem := m, glob := gl }
  | none => none

theorem isRow_still {o : O} (h : o.isRow = true) : o.still = true := by
  cases o <;> first | (cases h; done) | skip
  rename_i n c op tip pe
  cases tip
  · rfl
  · cases h
theorem laidSt_ok {P : Program} {fuel : Nat} {laid : List (String × DataW Unit)} {s0 : St} (h : laidSt P fuel laid = some s0) (w : World) (hL : laidMet P laid w) : Tab s0 w := by
  unfold laidSt at h
  split at h
  · rename_i gl nx m hg
    obtain rfl := Option.some.inj h
    obtain ⟨ps, hv, _, hz⟩ := hL
    refine ⟨fun base => ?_, fun _ _ => trivial⟩
    have key : ∃ σ : Sg, LeF ⟨fun _ => none, fun _ _ => none, base⟩ σ ∧ Rel w σ { next := nx, mem := m, glob := gl } w := by
      obtain ⟨σ, hle, hs, hG⟩ := globOf_ok (σ := ⟨fun _ => none, fun _ _ => none, base⟩) hg hv (fun b off hc => (hz b off hc).1) ⟨(fun i p e => nomatch e), (fun i p e => nomatch e), (fun i o e => by rw [Tri.get_nil] at e; cases e), (fun i p o e => nomatch e)⟩
      refine ⟨σ, hle, Below.refl _ _, hs.dom, fun i p e => ⟨.inr fun o ho => isRow_still (hs.still i o ho), hs.blk i p e⟩, hs.obj, fun i j p q o o' hij ei ej gi gj hb => ?_, hG, fun b o v e => ?_⟩
      · have a := hs.still i o gi
        have b := hs.still j o' gj
        cases o <;> first | (cases a; done) | skip
        cases o' <;> first | (cases b; done) | skip
        simp only [Sh]
        intro ht; subst ht; cases a
      · rw [hle.fz] at e; cases e
    obtain ⟨⟨pl, fz, bs⟩, ⟨hle, hfz⟩, hR⟩ := key
    obtain rfl : fz = fun _ _ => none := hfz
    obtain rfl : bs = base := hle.base
    exact ⟨pl, hR⟩
  · cases h

/-- more is known of the worlds -/
theorem Tab.more {s0 : St} {w : World} (h : Tab s0 w) (k : World → Prop) (hk : ∀ w', Below w.heap.size w w' → k w') : Tab { s0 with ok := k } w :=
  ⟨fun base => let ⟨pl, r⟩ := h.rel base; ⟨pl, r.below, r.dom, r.blk, r.obj, r.sep, r.glob, r.frz⟩, hk⟩

mutual
def flatVals : DataW Unit → List Value
  | .lit (.bool b) => [.bool b]
  | .lit (.int k n) => [.int k n]
  | .lit (.string s) => [.string ⟨s.toArray⟩]
  | .agg ds => flatValss ds
  | _ => []
def flatValss : List (DataW Unit) → List Value
  | [] => []
  | d :: ds => flatVals d ++ flatValss ds
end

/-- a world in which the listed tables hold what the list says -/
def laidIn (P : Program) : List (String × DataW Unit) → World → World
  | [], W => W
  | (n, d) :: r, W => match P.globalNamed n with
    | some g => match (P.globals[g]?).map (·.type) with
      | some t => match lay P 8 t d with
        | some _ => laidIn P r { W with heap := W.heap.modify g fun
          | .cells _ t frozen => .cells (flatVals d).toArray t frozen
          | o => o }
        | none => laidIn P r W
      | none => laidIn P r W
    | none => laidIn P r W
/-! ### places met once -/
def nodupP : List MemPlace → Tri (Tri Bool) → Tri Bool → Bool
  | [], _, _ => true
  | .cell b o :: l, t, m => match t.get b with
    | none => nodupP l (t.set b (some (Tri.nil.set o (some true)))) m
    | some u => match u.get o with
      | some _ => false
      | none => nodupP l (t.set b (some (u.set o (some true)))) m
  | .map b :: l, t, m => match m.get b with
    | some _ => false
    | none => nodupP l t (m.set b (some true))

def inP (t : Tri (Tri Bool)) (m : Tri Bool) : MemPlace → Prop
  | .cell b o => ∃ u, t.get b = some u ∧ u.get o ≠ none
  | .map b => m.get b ≠ none

theorem nodupP_spec : ∀ (l : List MemPlace) (t : Tri (Tri Bool)) (m : Tri Bool), nodupP l t m = true → l.Nodup ∧ ∀ x ∈ l, ¬ inP t m x
  | [], t, m, _ => ⟨List.nodup_nil, by simp⟩
  | .cell b o :: l, t, m, h => by
    simp only [nodupP] at h
    have main : ∀ u : Tri Bool, (t.get b = some u ∨ (t.get b = none ∧ u = .nil)) → u.get o = none → nodupP l (t.set b (some (u.set o (some true)))) m = true → (MemPlace.cell b o :: l).Nodup ∧ ∀ x ∈ MemPlace.cell b o :: l, ¬ inP t m x := by
      intro u hu hn h
      obtain ⟨h1, h2⟩ := nodupP_spec l _ m h
      have hme : inP (t.set b (some (u.set o (some true)))) m (.cell b o) := ⟨_, by rw [Tri.get_set, if_pos rfl], by rw [Tri.get_set, if_pos rfl]; simp⟩
      refine ⟨List.nodup_cons.2 ⟨fun hm => h2 _ hm hme, h1⟩, fun x hx => ?_⟩
      rcases List.mem_cons.1 hx with rfl | hx
      · rintro ⟨v, e1, e2⟩
        rcases hu with hu | ⟨hu, rfl⟩
        · rw [hu] at e1; obtain rfl := Option.some.inj e1; exact e2 hn
        · rw [hu] at e1; cases e1
      · intro hin
        refine h2 x hx ?_
        cases x with
        | map c => exact hin
        | cell c q =>
          obtain ⟨v, e1, e2⟩ := hin
          by_cases hc : c = b
          · subst hc
            rcases hu with hu | ⟨hu, rfl⟩
            · rw [hu] at e1; obtain rfl := Option.some.inj e1
              exact ⟨_, by rw [Tri.get_set, if_pos rfl], by rw [Tri.get_set]; split <;> simp_all⟩
            · rw [hu] at e1; cases e1
          · exact ⟨v, by rw [Tri.get_set, if_neg hc]; exact e1, e2⟩
    split at h
    · rename_i ht; exact main .nil (.inr ⟨ht, rfl⟩) (Tri.get_nil _) h
    · rename_i u ht
      split at h
      · cases h
      · rename_i hn; exact main u (.inl ht) hn h
  | .map b :: l, t, m, h => by
    simp only [nodupP] at h
    split at h
    · cases h
    · rename_i hm
      obtain ⟨h1, h2⟩ := nodupP_spec l t _ h
      refine ⟨List.nodup_cons.2 ⟨fun hin => h2 _ hin (by simp [inP, Tri.get_set]), h1⟩, fun x hx => ?_⟩
      rcases List.mem_cons.1 hx with rfl | hx
      · simp [inP, hm]
      · intro hin
        refine h2 x hx ?_
        cases x with
        | cell c q => exact hin
        | map c =>
          simp only [inP] at hin ⊢
          rw [Tri.get_set]
          split
          · simp
          · exact hin

theorem laidMet_of_run2 {P : Program} {w : World} {l : List (String × DataW Unit)} (fuel : Nat) (h : (DataW.laidRun P w fuel (l.map (·.1))).map (·.1) = some l)
    (hr : (DataW.laidRun P w fuel (l.map (·.1))).map (fun x => nodupP x.2 .nil .nil && laidRowsB P w x.2) = some true) : laidMet P l w := by
  refine laidMet_of_run' fuel h ?_
  revert hr
  cases DataW.laidRun P w fuel (l.map (·.1)) with
  | none => simp
  | some x =>
    intro hr
    simp only [Option.map_some, Option.some.injEq, Bool.and_eq_true] at hr ⊢
    exact ⟨decide_eq_true (nodupP_spec _ _ _ hr.1).1, hr.2⟩
end Go.Proofs.YthnldpbkjegfaaaDoor.Sv
