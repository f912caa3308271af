/-
  Contracts in a list.
-/
import Derived.IntWalk
import Derived.Test.YthnldpbkjegfaaaDoorSd
set_option linter.unusedVariables false
set_option linter.unusedSimpArgs false
set_option linter.unnecessarySimpa false
noncomputable section
namespace Go.Proofs.YthnldpbkjegfaaaDoor.Sv
open Go Go.RowKit

/-! ### contracts in a list -/
theorem Ct.conv {P : Program} {s0 : St} {f : FuncId} {args args' : List V} {v : V} (h : Ct P s0 f args v) (hc : ∀ fz l, RVs (Sg.ofFz fz) args' l → RVs (Sg.ofFz fz) args l) : Ct P s0 f args' v :=
  fun w xs fz hB hfz ha => h w xs fz hB hfz (hc fz _ ha)

structure Ent where
  f : FuncId
  r : List V → Option (Prop × V)

def Ent.ok (P : Program) (s0 : St) (e : Ent) : Prop := ∀ args G v, e.r args = some (G, v) → G → Ct P s0 e.f args v

def specs : List Ent → Specs
  | [], _, _ => none
  | e :: L, f, args => match Nat.beq e.f f with
    | true => e.r args
    | false => specs L f args

def EntsOk (P : Program) (s0 : St) : List Ent → Prop
  | [] => True
  | e :: L => e.ok P s0 ∧ EntsOk P s0 L

theorem specs_ok {P : Program} {s0 : St} : ∀ {L : List Ent}, EntsOk P s0 L → SpecsOk P s0 (specs L)
  | [], _, f, args, G, v, h, _ => by cases h
  | e :: L, hL, f, args, G, v, h, hG => by
    simp only [specs] at h
    split at h
    · rename_i hf; obtain rfl := Nat.eq_of_beq_eq_true hf; exact hL.1 args G v h hG
    · exact specs_ok hL.2 f args G v h hG

/-- how a value reads -/
structure Ty (α : Type) where
  to : V → Option α
  of : α → V
  ok : ∀ v a, to v = some a → ∀ fz z, RV (Sg.ofFz fz) v z → RV (Sg.ofFz fz) (of a) z

def tI (k : IntKind) : Ty Int where
  to v := match v.asI with | some (k', n) => (match decide (k' = k) with | true => some n | false => none) | none => none
  of n := .si k n
  ok v a h fz z r := by
    split at h
    · rename_i k' n hn
      split at h
      · rename_i hk; have hk := of_decide_eq_true hk; subst hk; cases h; simp only [RV]; exact asI_sound hn r
      · cases h
    · cases h
def tB : Ty Bool where
  to v := v.asB
  of b := .sb b
  ok v a h fz z r := by simp only [RV]; exact asB_sound h r
def tS : Ty (List UInt8) where
  to v := v.asS
  of l := .ss l
  ok v a h fz z r := by simp only [RV]; exact asS_sound h r

def ent0 (f : FuncId) (r : V) : Ent := ⟨f, fun | [] => some (True, r) | _ => none⟩
def ent1 {α : Type} (f : FuncId) (A : Ty α) (G : α → Prop) (r : α → V) : Ent := ⟨f, fun | [x] => (match A.to x with | some a => some (G a, r a) | none => none) | _ => none⟩
def ent2 {α β : Type} (f : FuncId) (A : Ty α) (B : Ty β) (G : α → β → Prop) (r : α → β → V) : Ent :=
  ⟨f, fun | [x, y] => (match A.to x, B.to y with | some a, some b => some (G a b, r a b) | _, _ => none) | _ => none⟩
def ent3 {α β γ : Type} (f : FuncId) (A : Ty α) (B : Ty β) (C : Ty γ) (G : α → β → γ → Prop) (r : α → β → γ → V) : Ent :=
  ⟨f, fun | [x, y, z] => (match A.to x, B.to y, C.to z with | some a, some b, some c => some (G a b c, r a b c) | _, _, _ => none) | _ => none⟩
def ent4 {α β γ δ : Type} (f : FuncId) (A : Ty α) (B : Ty β) (C : Ty γ) (D : Ty δ) (G : α → β → γ → δ → Prop) (r : α → β → γ → δ → V) : Ent :=
  ⟨f, fun | [x, y, z, u] => (match A.to x, B.to y, C.to z, D.to u with | some a, some b, some c, some d => some (G a b c d, r a b c d) | _, _, _, _ => none) | _ => none⟩

theorem ent0_ok {P : Program} {s0 : St} {f : FuncId} {r : V} (h : Ct P s0 f [] r) : (ent0 f r).ok P s0 := by
  intro args G v e hG
  simp only [ent0] at e
  split at e <;> cases e
  exact h
theorem ent1_ok {P : Program} {s0 : St} {α : Type} {f : FuncId} {A : Ty α} {G : α → Prop} {r : α → V} (h : ∀ a, G a → Ct P s0 f [A.of a] (r a)) : (ent1 f A G r).ok P s0 := by
  intro args G' v e hG
  simp only [ent1] at e
  split at e
  · split at e <;> cases e
    rename_i a ha
    refine (h a hG).conv fun fz l hl => ?_
    simp only [RVs] at hl ⊢
    obtain ⟨x, r, rfl, h1, rfl⟩ := hl
    exact ⟨_, _, rfl, A.ok _ _ ha _ _ h1, rfl⟩
  · cases e
theorem ent2_ok {P : Program} {s0 : St} {α β : Type} {f : FuncId} {A : Ty α} {B : Ty β} {G : α → β → Prop} {r : α → β → V} (h : ∀ a b, G a b → Ct P s0 f [A.of a, B.of b] (r a b)) : (ent2 f A B G r).ok P s0 := by
  intro args G' v e hG
  simp only [ent2] at e
  split at e
  · split at e <;> cases e
    rename_i a b ha hb
    refine (h a b hG).conv fun fz l hl => ?_
    simp only [RVs] at hl ⊢
    obtain ⟨x, r, rfl, h1, y, r2, rfl, h2, rfl⟩ := hl
    exact ⟨_, _, rfl, A.ok _ _ ha _ _ h1, _, _, rfl, B.ok _ _ hb _ _ h2, rfl⟩
  · cases e
theorem ent3_ok {P : Program} {s0 : St} {α β γ : Type} {f : FuncId} {A : Ty α} {B : Ty β} {C : Ty γ} {G : α → β → γ → Prop} {r : α → β → γ → V} (h : ∀ a b c, G a b c → Ct P s0 f [A.of a, B.of b, C.of c] (r a b c)) :
    (ent3 f A B C G r).ok P s0 := by
  intro args G' v e hG
  simp only [ent3] at e
  split at e
  · split at e <;> cases e
    rename_i a b c ha hb hc
    refine (h a b c hG).conv fun fz l hl => ?_
    simp only [RVs] at hl ⊢
    obtain ⟨x, r, rfl, h1, y, r2, rfl, h2, z, r3, rfl, h3, rfl⟩ := hl
    exact ⟨_, _, rfl, A.ok _ _ ha _ _ h1, _, _, rfl, B.ok _ _ hb _ _ h2, _, _, rfl, C.ok _ _ hc _ _ h3, rfl⟩
  · cases e
theorem ent4_ok {P : Program} {s0 : St} {α β γ δ : Type} {f : FuncId} {A : Ty α} {B : Ty β} {C : Ty γ} {D : Ty δ} {G : α → β → γ → δ → Prop} {r : α → β → γ → δ → V} (h : ∀ a b c d, G a b c d → Ct P s0 f [A.of a, B.of b, C.of c, D.of d] (r a b c d)) :
    (ent4 f A B C D G r).ok P s0 := by
  intro args G' v e hG
  simp only [ent4] at e
  split at e
  · split at e <;> cases e
    rename_i a b c d ha hb hc hd
    refine (h a b c d hG).conv fun fz l hl => ?_
    simp only [RVs] at hl ⊢
    obtain ⟨x, r, rfl, h1, y, r2, rfl, h2, z, r3, rfl, h3, u, r4, rfl, h4, rfl⟩ := hl
    exact ⟨_, _, rfl, A.ok _ _ ha _ _ h1, _, _, rfl, B.ok _ _ hb _ _ h2, _, _, rfl, C.ok _ _ hc _ _ h3, _, _, rfl, D.ok _ _ hd _ _ h4, rfl⟩
  · cases e

/-! ### numbers -/
def I64 (n : Int) : Prop := -9223372036854775808 ≤ n ∧ n ≤ 9223372036854775807
def U8 (n : Int) : Prop := 0 ≤ n ∧ n ≤ 255
theorem wrap_i64 {n : Int} (h : I64 n) : IntKind.i64.wrap n = n := IntWalk.i64_in n h

/-! ### from a contract to the model's own words -/
theorem Ct.calls {P : Program} {s0 : St} {f : FuncId} {args : List V} {b : Bool} (h : Ct P s0 f args (.sb b)) (hb : b = true) {w : World} {xs : Array Value} {fz : Nat → Nat → Option Value} (hT : Tab s0 w) (hfz : FzOk fz w)
    (ha : RVs (Sg.ofFz fz) args xs.toList) : Calls P f xs w fun e w' => e = .returned (.bool true) ∧ Below w.heap.size w w' := by
  intro cs
  obtain ⟨_, k⟩ := h w xs fz hT hfz ha
  obtain ⟨z, w', fr, fz', h1, _, _, _, h2, h3, h4, h5⟩ := k cs
  simp only [RV] at h2
  subst h2 hb
  exact ⟨.returned (.bool true), w', fr, ⟨rfl, h1⟩, h3, h4, h5⟩
theorem Ct.calls0 {P : Program} {f : FuncId} {args : List V} (h : Ct P St.none f args (.sb true)) (w : World) {xs : Array Value} (ha : RVs (Sg.ofFz fun _ _ => none) args xs.toList) :
    Calls P f xs w fun e w' => e = .returned (.bool true) ∧ Below w.heap.size w w' :=
  h.calls rfl (Tab.none w) (fz := fun _ _ => none) (fun _ _ _ e => nomatch e) ha
theorem RV.str (σ : Sg) (s : ByteArray) : RV σ (.ss s.data.toList) (.string s) := by simp only [RV, Array.toArray_toList]
end Go.Proofs.YthnldpbkjegfaaaDoor.Sv
