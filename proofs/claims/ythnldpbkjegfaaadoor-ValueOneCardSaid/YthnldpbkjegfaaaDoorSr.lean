/-
  Arguments, read.
-/
import Derived.Deep.Slices
import Derived.SizedLaws
import Derived.ChangeShapes
import Derived.Test.YthnldpbkjegfaaaDoorSe
set_option linter.unusedVariables false
set_option linter.unusedSimpArgs false
set_option linter.unnecessarySimpa false
noncomputable section
namespace Go.Proofs.YthnldpbkjegfaaaDoor.Sv
open Go Go.RowKit

/-! ### how lists, and what closures have caught, read -/
structure TyC (α : Type) where
  to : V → Option (Option Prop × α)
  of : α → V
  ok : ∀ v p a, to v = some (p, a) → (∀ Q, p = some Q → Q) → ∀ fz z, RV (Sg.ofFz fz) v z → RV (Sg.ofFz fz) (of a) z
def Ty.c {α : Type} (A : Ty α) : TyC α where
  to v := match A.to v with | some a => some (none, a) | none => none
  of := A.of
  ok v p a h _ fz z r := by
    split at h <;> cases h
    rename_i h1; exact A.ok _ _ h1 _ _ r
def cj (p : Option Prop) (Q : Prop) : Prop := match p with | none => Q | some P => P ∧ Q
theorem cj_spec {p : Option Prop} {Q : Prop} (h : cj p Q) : (∀ P, p = some P → P) ∧ Q := by
  cases p with
  | none => exact ⟨(fun _ e => by cases e), h⟩
  | some P => exact ⟨(fun _ e => by cases e; exact h.1), h.2⟩

/-- a slice: a list -/
def tL {α : Type} (sz : Nat) (dec : V → α) (of : α → V) (d : α) : TyC (List α) where
  to v := match v with
    | .ro _ n sz' es => match Nat.beq sz' sz with
      | true => some (some (∀ k, k < n → leV (fun _ => none) (es k) (of (dec (es k)))), (List.range n).map fun k => dec (es k))
      | false => none
    | .nils => some (none, [])
    | _ => none
  of L := .ro false L.length sz (fun k => of (L.getD k d))
  ok v p a h hp fz z r := by
    split at h
    · rename_i t n sz' es
      split at h <;> cases h
      rename_i hs
      obtain rfl := Nat.eq_of_beq_eq_true hs
      have hc := hp _ rfl
      simp only [RV] at r ⊢
      obtain ⟨x, c, rfl, h1, h2, h3⟩ := r
      simp only [List.length_map, List.length_range]
      refine ⟨x, c, rfl, h1, (fun e => by cases e), fun hn => ?_⟩
      obtain ⟨b, o, e, h4⟩ := h3 hn
      refine ⟨b, o, e, fun k hk => ?_⟩
      obtain ⟨y, h5, h6⟩ := h4 k hk
      refine ⟨y, ?_, h6⟩
      have e1 : ((List.range n).map fun k => dec (es k)).getD k d = dec (es k) := by simp [List.getD_eq_getElem?_getD, hk]
      rw [e1]
      exact leV_sound _ _ _ (Sg.ofFz fz).free _ (hc k hk) h5
    · cases h
      simp only [RV] at r ⊢; subst r
      exact ⟨none, 0, rfl, Nat.le_refl _, (fun e => by cases e), (fun e => absurd e (Nat.lt_irrefl _))⟩
    · cases h

/-- a variable that a closure has caught -/
def tP {α : Type} (sz : Nat) (dec : V → α) (of : α → V) : TyC α where
  to v := match v with
    | .rp n sz' es i f => match Nat.beq n 1, Nat.beq sz' sz, Nat.beq i 0, Nat.beq f 0 with
      | true, true, true, true => some (some (leV (fun _ => none) (es 0) (of (dec (es 0)))), dec (es 0))
      | _, _, _, _ => none
    | _ => none
  of a := .rp 1 sz (fun _ => of a) 0 0
  ok v p a h hp fz z r := by
    split at h
    · rename_i n sz' es i f
      split at h <;> cases h
      rename_i h1 h2 h3 h4
      obtain rfl := Nat.eq_of_beq_eq_true h1
      obtain rfl := Nat.eq_of_beq_eq_true h2
      obtain rfl := Nat.eq_of_beq_eq_true h3
      obtain rfl := Nat.eq_of_beq_eq_true h4
      have hc := hp _ rfl
      simp only [RV] at r ⊢
      obtain ⟨hi, b, o, e, h4⟩ := r
      refine ⟨hi, b, o, e, fun i hi => ?_⟩
      obtain ⟨y, h5, h6⟩ := h4 i hi
      obtain rfl : i = 0 := by omega
      exact ⟨y, leV_sound _ _ _ (Sg.ofFz fz).free _ hc h5, h6⟩
    · cases h
/-- a closure that has caught one variable -/
def tF {α : Type} (g : FuncId) (C : TyC α) : TyC α where
  to v := match v with
    | .func fn a b => match fn, a, b with
      | .func g', [], [c] => match Nat.beq g' g with
        | true => C.to c
        | false => none
      | _, _, _ => none
    | _ => none
  of a := .func (.func g) [] [C.of a]
  ok v p a h hp fz z r := by
    split at h
    · split at h
      · split at h
        · rename_i c _ hg
          obtain rfl := Nat.eq_of_beq_eq_true hg
          simp only [RV, RVs] at r ⊢
          obtain ⟨x, y, rfl, e1, u, l, e2, h1, e3⟩ := r
          exact ⟨x, y, rfl, e1, u, l, e2, C.ok _ _ _ h hp _ _ h1, e3⟩
        · cases h
      · cases h
    · cases h

def entC1 {α : Type} (f : FuncId) (A : TyC α) (G : α → Prop) (r : α → V) : Ent := ⟨f, fun | [x] => (match A.to x with | some (p, a) => some (cj p (G a), r a) | none => none) | _ => none⟩
def entC2 {α β : Type} (f : FuncId) (A : TyC α) (B : TyC β) (G : α → β → Prop) (r : α → β → V) : Ent :=
  ⟨f, fun | [x, y] => (match A.to x, B.to y with | some (p, a), some (q, b) => some (cj p (cj q (G a b)), r a b) | _, _ => none) | _ => none⟩
def entC3 {α β γ : Type} (f : FuncId) (A : TyC α) (B : TyC β) (C : TyC γ) (G : α → β → γ → Prop) (r : α → β → γ → V) : Ent :=
  ⟨f, fun | [x, y, z] => (match A.to x, B.to y, C.to z with | some (p, a), some (q, b), some (s, c) => some (cj p (cj q (cj s (G a b c))), r a b c) | _, _, _ => none) | _ => none⟩
theorem entC1_ok {P : Program} {s0 : St} {α : Type} {f : FuncId} {A : TyC α} {G : α → Prop} {r : α → V} (h : ∀ a, G a → Ct P s0 f [A.of a] (r a)) : (entC1 f A G r).ok P s0 := by
  intro args G' v e hG
  simp only [entC1] at e
  split at e
  · split at e <;> cases e
    rename_i p a ha
    obtain ⟨h1, h2⟩ := cj_spec hG
    refine (h a h2).conv fun fz l hl => ?_
    simp only [RVs] at hl ⊢
    obtain ⟨x, r, rfl, h3, rfl⟩ := hl
    exact ⟨_, _, rfl, A.ok _ _ _ ha h1 _ _ h3, rfl⟩
  · cases e
theorem entC2_ok {P : Program} {s0 : St} {α β : Type} {f : FuncId} {A : TyC α} {B : TyC β} {G : α → β → Prop} {r : α → β → V} (h : ∀ a b, G a b → Ct P s0 f [A.of a, B.of b] (r a b)) : (entC2 f A B G r).ok P s0 := by
  intro args G' v e hG
  simp only [entC2] at e
  split at e
  · split at e <;> cases e
    rename_i p a q b ha hb
    obtain ⟨h1, h2⟩ := cj_spec hG
    obtain ⟨h3, h4⟩ := cj_spec h2
    refine (h a b h4).conv fun fz l hl => ?_
    simp only [RVs] at hl ⊢
    obtain ⟨x, r, rfl, k1, y, r2, rfl, k2, rfl⟩ := hl
    exact ⟨_, _, rfl, A.ok _ _ _ ha h1 _ _ k1, _, _, rfl, B.ok _ _ _ hb h3 _ _ k2, rfl⟩
  · cases e
theorem entC3_ok {P : Program} {s0 : St} {α β γ : Type} {f : FuncId} {A : TyC α} {B : TyC β} {C : TyC γ} {G : α → β → γ → Prop} {r : α → β → γ → V} (h : ∀ a b c, G a b c → Ct P s0 f [A.of a, B.of b, C.of c] (r a b c)) : (entC3 f A B C G r).ok P s0 := by
  intro args G' v e hG
  simp only [entC3] at e
  split at e
  · split at e <;> cases e
    rename_i p a q b s c ha hb hc
    obtain ⟨h1, h2⟩ := cj_spec hG
    obtain ⟨h3, h4⟩ := cj_spec h2
    obtain ⟨h5, h6⟩ := cj_spec h4
    refine (h a b c h6).conv fun fz l hl => ?_
    simp only [RVs] at hl ⊢
    obtain ⟨x, r, rfl, k1, y, r2, rfl, k2, z, r3, rfl, k3, rfl⟩ := hl
    exact ⟨_, _, rfl, A.ok _ _ _ ha h1 _ _ k1, _, _, rfl, B.ok _ _ _ hb h3 _ _ k2, _, _, rfl, C.ok _ _ _ hc h5 _ _ k3, rfl⟩
  · cases e

theorem map_dec {α : Type} (L : List α) (d : α) (g : α → α) (hg : ∀ x, g x = x) : ((List.range L.length).map fun k => g (L.getD k d)) = L := by
  apply List.ext_getElem?
  intro i
  by_cases hi : i < L.length
  · simp [hi, hg, List.getD_eq_getElem?_getD]
  · simp [hi]

/-- a call without arguments, proved apart -/
theorem Ct.of_calls0 {P : Program} {s0 : St} {f : FuncId} {b : Bool} {fn : Func} (hf : P.funcs[f]? = some fn) (hr : ready fn = true)
    (h : ∀ w, Calls P f #[] w fun e w' => e = .returned (.bool b) ∧ Below w.heap.size w w') : Ct P s0 f [] (.sb b) := by
  intro w xs fz _ hfz ha
  have hx : xs = #[] := by
    simp only [RVs] at ha; exact Array.toList_eq_nil_iff.1 ha
  subst hx
  refine ⟨fun w => ?_, fun cs => ?_⟩
  · unfold ready at hr
    split at hr
    · rename_i c hen hb
      have hne : (fn.name == "runtime.NumGoroutine") = false := by simpa [enterable] using hen
      simp [callFunc, hf, hb]
      simpa using hne
    · cases hr
  · obtain ⟨e, w', fr, ⟨rfl, hb⟩, h1, h2, h3⟩ := h w cs
    refine ⟨.bool b, w', fr, fz, hb, fun _ _ _ e => e, fun b o v e => ?_, fun _ _ _ e => .inl e, by simp only [RV], h1, h2, h3⟩
    obtain ⟨k1, k2⟩ := hfz b o v e
    exact ⟨(World.cell?_of_block (w := w) (w' := w') (a := ⟨b, o, none⟩) (hb.block b k2)).trans k1, Nat.lt_of_lt_of_le k2 hb.size⟩
/-- a call that is proved apart, whose result names nothing new -/
theorem Ct.of_calls {P : Program} {s0 : St} {f : FuncId} {args : List V} {v : V} {fn : Func} (hf : P.funcs[f]? = some fn) (hr : ready fn = true)
    (h : ∀ w xs fz, Tab s0 w → FzOk fz w → RVs (Sg.ofFz fz) args xs.toList → Calls P f xs w fun e w' => ∃ z, e = .returned z ∧ RV (Sg.ofFz fz) v z ∧ Below w.heap.size w w') : Ct P s0 f args v := by
  intro w xs fz hT hfz ha
  refine ⟨fun w => ?_, fun cs => ?_⟩
  · unfold ready at hr
    split at hr
    · rename_i c hen hb
      have hne : (fn.name == "runtime.NumGoroutine") = false := by simpa [enterable] using hen
      simp [callFunc, hf, hb]
      simpa using hne
    · cases hr
  · obtain ⟨e, w', fr, ⟨z, rfl, hz, hb⟩, h1, h2, h3⟩ := h w xs fz hT hfz ha cs
    refine ⟨z, w', fr, fz, hb, fun _ _ _ e => e, fun b o v e => ?_, fun _ _ _ e => .inl e, hz, h1, h2, h3⟩
    obtain ⟨k1, k2⟩ := hfz b o v e
    exact ⟨(World.cell?_of_block (w := w) (w' := w') (a := ⟨b, o, none⟩) (hb.block b k2)).trans k1, Nat.lt_of_lt_of_le k2 hb.size⟩
end Go.Proofs.YthnldpbkjegfaaaDoor.Sv

namespace Go.Proofs.YthnldpbkjegfaaaDoor.Sv
open Go Go.RowKit

/-! ### arguments, read -/
def flatB : Value → Bool
  | .agg _ | .tuple _ => false
  | _ => true
theorem flatB_iff {x : Value} : flatB x = true ↔ flatX x := by
  constructor
  · intro h; constructor <;> intro a e <;> subst e <;> cases h
  · rintro ⟨h1, h2⟩; cases x <;> first | rfl | exact absurd rfl (h1 _) | exact absurd rfl (h2 _)
/-- all flat cells of a world: nobody writes what was there -/
def fzW (W : World) : Nat → Nat → Option Value := fun b o => match W.cell? ⟨b, o, none⟩ with
  | some x => (match flatB x with | true => some x | false => none)
  | none => none
theorem fzW_ok (W : World) : FzOk (fzW W) W := by
  intro b o v h
  unfold fzW at h
  split at h
  · rename_i x hx
    split at h
    · cases h
      refine ⟨hx, ?_⟩
      unfold World.cell? at hx
      simp only at hx
      split at hx
      · rename_i hh; exact (Array.getElem?_eq_some_iff.1 hh).1
      · cases hx
    · cases h
  · cases h
theorem fzW_of {W : World} {b o : Nat} {x : Value} (h : W.cell? ⟨b, o, none⟩ = some x) (hf : flatX x) : fzW W b o = some x := by
  unfold fzW; rw [h]; simp only; rw [flatB_iff.2 hf]

section
variable {H : Type} (enc : TypeId × Value → H) (P : Program) (W : World) (spare : Nat → Bool) (held : Bool)
/-- whatever reads as that type is one of these -/
def Reads (t : TypeId) {α : Type} (of : α → V) (ok : α → Prop) : Prop :=
  (∀ a, (of a).cells.all V.isFlat = true) ∧ ∀ fuel cs (x : DataW H × List MemPlace), DataW.trod enc P W 0 spare held fuel t cs = some x → (∀ n ∈ x.1.weights P t, n ≤ reachBytes) →
    ∃ a, RVs (Sg.ofFz (fzW W)) (of a).cells cs ∧ ok a
variable {enc P W spare held}

theorem reads_int {t : TypeId} {k : IntKind} (ht : P.underlying t = some (.int k)) : Reads enc P W spare held t (fun n : Int => .si k n) (fun n => (Lit.int k n).wf = true) := by
  refine ⟨fun a => rfl, fun fuel cs x h _ => ?_⟩
  obtain ⟨n, rfl, _, hw⟩ := DataW.trod_int ht h
  exact ⟨n, by simp only [V.cells, RVs, RV]; exact ⟨_, _, rfl, rfl, rfl⟩, hw⟩
theorem reads_bool {t : TypeId} (ht : P.underlying t = some .bool) : Reads enc P W spare held t (fun b : Bool => .sb b) (fun _ => True) := by
  refine ⟨fun a => rfl, fun fuel cs x h _ => ?_⟩
  obtain ⟨n, rfl, _⟩ := DataW.trod_bool ht h
  exact ⟨n, by simp only [V.cells, RVs, RV]; exact ⟨_, _, rfl, rfl, rfl⟩, trivial⟩
theorem reads_string {t : TypeId} (ht : P.underlying t = some .string) : Reads enc P W spare held t (fun l : List UInt8 => .ss l) (fun l => l.length ≤ 140737488351232) := by
  refine ⟨fun a => rfl, fun fuel cs x h hw => ?_⟩
  obtain ⟨s, rfl, rfl, _⟩ := DataW.trod_string ht h
  refine ⟨s.data.toList, by simp only [V.cells, RVs, RV, Array.toArray_toList]; exact ⟨_, _, rfl, rfl, rfl⟩, ?_⟩
  exact hw _ (by simp [DataW.weights])

/-- fields, one behind the other -/
def ReadsF (enc : TypeId × Value → H) (P : Program) (W : World) (spare : Nat → Bool) (held : Bool) (fs : List Field) (off len : Nat) {β : Type} (ofs : β → List V) (ok : β → Prop) : Prop :=
  (∀ b, (ofs b).all V.isFlat = true) ∧ ∀ (fuel : Nat) (cs : List Value) (xs : List (DataW H × List MemPlace)), (fs.mapM fun f => DataW.trod enc P W 0 spare held fuel f.type ((cs.drop f.offset).take (P.cellsOf f.type))) = some xs →
    (∀ n ∈ DataW.weightsEach P (fs.map (·.type)) (xs.map (·.1)), n ≤ reachBytes) → ∃ b, RVs (Sg.ofFz (fzW W)) (ofs b) ((cs.drop off).take len) ∧ ok b

theorem readsF_nil {off : Nat} : ReadsF enc P W spare held [] off 0 (fun _ : Unit => []) (fun _ => True) := by
  refine ⟨fun _ => rfl, fun fuel cs xs h _ => ⟨(), by simp [RVs], trivial⟩⟩
theorem readsF_cons {f : Field} {fs : List Field} {off n len : Nat} {α β : Type} {of : α → V} {ok : α → Prop} {ofs : β → List V} {oks : β → Prop}
    (hf : Reads enc P W spare held f.type of ok) (ho : f.offset = off) (hn : P.cellsOf f.type = n) (hs : ReadsF enc P W spare held fs (off + n) len ofs oks) :
    ReadsF enc P W spare held (f :: fs) off (n + len) (fun p : α × β => (of p.1).cells ++ ofs p.2) (fun p => ok p.1 ∧ oks p.2) := by
  refine ⟨fun p => by rw [List.all_append, hf.1, hs.1]; rfl, fun fuel cs xs h hw => ?_⟩
  rw [List.mapM_cons] at h
  obtain ⟨y, hy, h⟩ := Option.bind_eq_some_iff.1 h
  obtain ⟨ys, hys, h⟩ := Option.bind_eq_some_iff.1 h
  obtain rfl : y :: ys = xs := by simpa using h
  simp only [List.map_cons, DataW.weightsEach, List.mem_append] at hw
  obtain ⟨a, ha, oa⟩ := hf.2 fuel _ y hy (fun n hn => hw n (.inl hn))
  obtain ⟨b, hb, ob⟩ := hs.2 fuel cs ys hys (fun n hn => hw n (.inr hn))
  refine ⟨(a, b), ?_, oa, ob⟩
  rw [ho, hn] at ha
  rw [List.take_add, List.drop_drop]
  exact ha.append hb

theorem reads_struct {t : TypeId} {fs : Array Field} {len : Nat} {β γ : Type} {ofs : β → List V} {oks : β → Prop} {of : γ → V} {ok : γ → Prop} (ht : P.underlying t = some (.struct fs))
    (hs : ReadsF enc P W spare held fs.toList 0 len ofs oks) (hl : P.cellsOf t = len) (mk : β → γ) (hof : ∀ b, (of (mk b)).cells = ofs b) (hfl : ∀ g, (of g).cells.all V.isFlat = true) (hok : ∀ b, oks b → ok (mk b)) :
    Reads enc P W spare held t of ok := by
  refine ⟨hfl, fun fuel cs x h hw => ?_⟩
  cases fuel with
  | zero => simp [DataW.trod] at h
  | succ fuel =>
    simp only [DataW.trod] at h
    rw [ht] at h
    simp only at h
    split at h
    · rename_i hcl
      obtain ⟨xs, hx, rfl⟩ := Option.map_eq_some_iff.1 h
      simp only [DataW.weights, ht] at hw
      obtain ⟨b, hb, ob⟩ := hs.2 fuel cs xs hx hw
      refine ⟨mk b, ?_, hok b ob⟩
      rw [hof]
      rw [List.drop_zero, List.take_of_length_le (by omega)] at hb
      exact hb
    · cases h

theorem getD_ofFn {α : Type} (f : Nat → α) (n k : Nat) (d : α) (h : k < n) : ((List.range n).map f).getD k d = f k := by
  simp [List.getD_eq_getElem?_getD, h]

theorem RVs.flatX {σ : Sg} {vs : List V} {l : List Value} (h : RVs σ vs l) (hf : vs.all V.isFlat = true) : ∀ x ∈ l, Go.Proofs.YthnldpbkjegfaaaDoor.Sv.flatX x := by
  intro x hx
  obtain ⟨j, hj, rfl⟩ := List.getElem_of_mem hx
  have := h.length
  obtain ⟨x', e1, e2⟩ := h.get (List.getElem?_eq_getElem (show j < vs.length by omega))
  rw [List.getElem?_eq_getElem hj] at e1
  obtain rfl := Option.some.inj e1
  exact flat_not_agg e2 (List.all_eq_true.1 hf _ (List.getElem_mem _))

theorem weightsAll_mem {H : Type} {P : Program} {e : TypeId} : ∀ {l : List (DataW H)} {d : DataW H} {n : Nat}, d ∈ l → n ∈ d.weights P e → n ∈ DataW.weightsAll P e l
  | d' :: l, d, n, h, hn => by
    simp only [DataW.weightsAll, List.mem_append]
    rcases List.mem_cons.1 h with rfl | h
    · exact .inl hn
    · exact .inr (weightsAll_mem h hn)
  | [], d, n, h, _ => by cases h

theorem reads_slice {t e : TypeId} {sz by_ : Nat} {α : Type} {of : α → V} {ok : α → Prop} (d0 : α) (ht : P.underlying t = some (.slice e)) (he : Reads enc P W spare held e of ok) (hsz : P.cellsOf e = sz) (h0 : 0 < sz)
    (hby : P.bytesOf e = by_) :
    Reads enc P W spare held t (fun L : List α => .ro false L.length sz (fun k => of (L.getD k d0))) (fun L => (∀ a ∈ L, ok a) ∧ L.length * by_ ≤ 140737488351232) := by
  subst hsz hby
  refine ⟨fun L => rfl, fun fuel cs x h hw => ?_⟩
  rcases Deep.open_slice ht h with ⟨rfl, rfl⟩ | ⟨a, len, cap, m, n, D, Pl, rfl, _, hl, _, hm, rfl, hx⟩
  · refine ⟨[], ?_, (fun _ h => by cases h), by simp⟩
    simp only [V.cells, RVs, RV]
    exact ⟨_, _, rfl, ⟨none, 0, rfl, Nat.le_refl _, (fun h => by cases h), (fun h => absurd h (Nat.lt_irrefl _))⟩, rfl⟩
  · have hlm : len ≤ m := by rw [hm]; split <;> omega
    simp only [DataW.weights, ht] at hw
    have hall : ∀ i, i < len → ∃ (a' : α) (cs' : List Value), W.cells? 0 (a.add (i * P.cellsOf e)) (P.cellsOf e) = some cs' ∧ RVs (Sg.ofFz (fzW W)) (of a').cells cs' ∧ ok a' := by
      intro i hi
      obtain ⟨cs', h1, h2⟩ := hx i (by omega)
      obtain ⟨a', h3, h4⟩ := he.2 n cs' _ h2 (fun k hk => hw k (by
        refine List.mem_cons_of_mem _ (List.mem_append.2 (.inl ?_))
        exact weightsAll_mem (List.mem_map.2 ⟨i, List.mem_range.2 hi, rfl⟩) hk))
      exact ⟨a', cs', h1, h3, h4⟩
    haveI : Inhabited α := ⟨d0⟩
    obtain ⟨f, hf⟩ := Deep.choose_lt (p := fun i a' => ∃ (cs' : List Value), W.cells? 0 (a.add (i * P.cellsOf e)) (P.cellsOf e) = some cs' ∧ RVs (Sg.ofFz (fzW W)) (of a').cells cs' ∧ ok a') hall
    refine ⟨(List.range len).map f, ?_, fun a' ha => ?_, ?_⟩
    · simp only [V.cells, RVs, RV, List.length_map, List.length_range]
      refine ⟨_, _, rfl, ⟨some a, cap, rfl, hl, (fun h => by cases h), fun hp => ?_⟩, rfl⟩
      have hspot : a.spot = none := by
        obtain ⟨cs', h1, _⟩ := hf 0 hp
        obtain ⟨_, hl', hc⟩ := World.cells?_some h1
        have := hc 0 h0
        rw [List.getElem?_eq_getElem (by omega)] at this
        simp only [Nat.zero_mul] at this
        unfold World.cell? at this
        cases hs : a.spot with
        | none => rfl
        | some s =>
          exfalso
          simp only [Addr.add, if_true, hs, Option.isSome_some] at this
          split at this <;> cases this
      obtain ⟨b, o, sp⟩ := a
      simp only at hspot
      subst hspot
      refine ⟨b, o, rfl, fun i hi => ?_⟩
      obtain ⟨cs', h1, h2, h3⟩ := hf i hi
      obtain ⟨_, hl', hc⟩ := World.cells?_some h1
      rw [getD_ofFn _ _ _ _ hi]
      have hfl := h2.flatX (he.1 (f i))
      obtain ⟨y, hy⟩ : ∃ y, RV (Sg.ofFz (fzW W)) (of (f i)) y ∧ y.cells.toList = cs' := by
        cases hv : of (f i) with
        | agg vs =>
          rw [hv] at h2
          exact ⟨.agg cs'.toArray, by simp only [RV]; exact ⟨_, rfl, by simpa [V.cells] using h2⟩, by simp [Value.cells]⟩
        | tuple vs =>
          have := he.1 (f i); rw [hv] at this; simp [V.cells, V.isFlat] at this
        | _ =>
          rw [hv] at h2
          simp only [V.cells, RVs] at h2
          obtain ⟨y, r, rfl, hr, rfl⟩ := h2
          refine ⟨y, hr, ?_⟩
          obtain ⟨k1, k2⟩ := hfl y (by simp)
          cases y <;> first | rfl | exact absurd rfl (k1 _) | exact absurd rfl (k2 _)
      refine ⟨y, RV.based _ _ _ _ _ _ hy.1, ?_, fun j x hj => ?_⟩
      · rw [← Array.length_toList, hy.2]; exact hl'
      · have hj' : cs'[j]? = some x := by rw [← hy.2, Array.getElem?_toList]; exact hj
        have hjl : j < P.cellsOf e := by rw [← hl']; exact (List.getElem?_eq_some_iff.1 hj').1
        have hc := hc j hjl
        rw [hj', Deep.add_add] at hc
        have hX := hfl x (List.mem_of_getElem? hj')
        refine ⟨fzW_of ?_ hX, hX⟩
        rw [addr_add] at hc
        rw [Nat.add_assoc]; exact hc
    · obtain ⟨i, hi, rfl⟩ := List.mem_map.1 ha
      obtain ⟨_, _, _, h3⟩ := hf i (List.mem_range.1 hi)
      exact h3
    · have := hw _ (List.mem_cons_self ..)
      simp only [List.length_map, List.length_range] at this ⊢
      exact Nat.le_trans (Nat.mul_le_mul_right _ (Nat.le_add_right _ _)) this

def scalD : TypeDesc → Bool
  | .bool | .int _ | .string | .slice _ => true
  | _ => false
theorem okWide_flat {t : TypeId} {d : TypeDesc} (hu : P.underlying t = some d) (hs : scalD d = true) {base : Nat} {cs : Array Value} (hv : Value.okWide P W .any base t (.agg cs)) : False := by
  unfold Value.okWide at hv
  rw [hu] at hv
  cases d <;> simp [scalD] at hs <;> simp only [Cell.okWide, hu, Cell.ok] at hv
/-- a whole argument of one cell -/
theorem Reads.arg1 {t : TypeId} {d : TypeDesc} {α : Type} {of : α → V} {ok : α → Prop} (h : Reads enc P W spare held t of ok) (hu : P.underlying t = some d) (hs : scalD d = true) (ho : ∀ a, ∃ v, (of a).cells = [v] ∧ of a = v)
    {base : Nat} {v : Value} {x : DataW H} {ps : List MemPlace}
    (hv : Value.okWide P W .any base t v) (hd : DataW.Trod enc P W 0 spare held t v x ps) (hw : ∀ n ∈ x.weights P t, n ≤ reachBytes) : ∃ a, RV (Sg.ofFz (fzW W)) (of a) v ∧ ok a := by
  obtain ⟨fuel, hd⟩ := hd
  obtain ⟨a, h1, h2⟩ := h.2 fuel _ _ hd hw
  refine ⟨a, ?_, h2⟩
  obtain ⟨u, e1, e2⟩ := ho a
  rw [e1] at h1
  simp only [RVs] at h1
  obtain ⟨y, r, e, hr, rfl⟩ := h1
  rw [e2]
  have : v = y := by
    cases v with
    | agg cs => exact (okWide_flat hu hs hv).elim
    | _ => simp only [Value.cells] at e; simpa using e
  rw [this]; exact hr
/-- a whole argument that is a struct -/
theorem Reads.argS {t : TypeId} {fs : Array Field} {α : Type} {of : α → V} {ok : α → Prop} (h : Reads enc P W spare held t of ok) (hu : P.underlying t = some (.struct fs)) (ho : ∀ a, ∃ vs, of a = .agg vs)
    {base : Nat} {v : Value} {x : DataW H} {ps : List MemPlace}
    (hv : Value.okWide P W .any base t v) (hd : DataW.Trod enc P W 0 spare held t v x ps) (hw : ∀ n ∈ x.weights P t, n ≤ reachBytes) : ∃ a, RV (Sg.ofFz (fzW W)) (of a) v ∧ ok a := by
  obtain ⟨fuel, hd⟩ := hd
  obtain ⟨a, h1, h2⟩ := h.2 fuel _ _ hd hw
  refine ⟨a, ?_, h2⟩
  obtain ⟨vs, e⟩ := ho a
  rw [e] at h1 ⊢
  unfold Value.okWide at hv
  rw [hu] at hv
  obtain ⟨cs, rfl, _⟩ := hv
  simp only [RV]; exact ⟨cs, rfl, by simpa [V.cells, Value.cells] using h1⟩
end
end Go.Proofs.YthnldpbkjegfaaaDoor.Sv
