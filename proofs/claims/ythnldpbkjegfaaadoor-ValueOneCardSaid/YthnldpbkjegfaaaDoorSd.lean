/-
  Contracts, and what is to be shown of a body; sound.
-/
import Derived.Test.YthnldpbkjegfaaaDoorSc
set_option linter.unusedVariables false
set_option linter.unusedSimpArgs false
set_option linter.unnecessarySimpa false
noncomputable section
namespace Go.Proofs.YthnldpbkjegfaaaDoor.Sv
open Go Go.RowKit

/-! ### calls -/
def Fm.enter (fn : Func) (args : List V) : Fm := { n := args.length + (fn.ntmps - args.length), tm := Tri.ofList args 0 .nil, df := [], rd := none }

def resultsV (P : Program) (st : St) (fm : Fm) : List ResultVar → Option (List V)
  | [] => some []
  | .tmp t :: rs => match fm.tm.get t with
    | none => none
    | some v => match resultsV P st fm rs with
      | some vs => some (v :: vs)
      | none => none
  | .cell a t :: rs => match loadV P st t (fm.tm.get a) with
    | none => none
    | some v => match resultsV P st fm rs with
      | some vs => some (v :: vs)
      | none => none

def tupleV : List V → V
  | [v] => v
  | vs => .tuple vs


def enterable (fn : Func) : Bool := !(fn.name == "runtime.NumGoroutine")


/-! ### the end of a call -/
theorem resultsV_sound {P : Program} {W0 : World} {σ : Sg} {st : St} {w : World} {fm : Fm} {tmps : Array Value} (hR : Rel W0 σ st w) (ht : RT σ fm.n fm.tm tmps) : ∀ (rs : List ResultVar) (vs : List V), resultsV P st fm rs = some vs →
    ∃ xs, (rs.mapM (fun | .tmp t => pure (tmps.getD t undef) | .cell a t => do loadVar t (← asAddr (tmps.getD a undef)) : ResultVar → Sem Value)).run P w = .ok xs w ∧ RVs σ vs xs
  | [], vs, h => by simp [resultsV] at h; subst h; exact ⟨[], by simp, by simp [RVs]⟩
  | .tmp t :: rs, vs, h => by
    simp only [resultsV] at h
    split at h
    · cases h
    · rename_i v hv
      split at h
      · rename_i us hu
        cases h
        obtain ⟨xs, e, r⟩ := resultsV_sound hR ht rs us hu
        refine ⟨tmps.getD t undef :: xs, ?_, ?_⟩
        · rw [List.mapM_cons]; simp only [Sem.run_bind, Sem.run_pure, Result.andThen_ok, e]
        · simp only [RVs]; exact ⟨_, _, rfl, (ht.2 t v hv).2, r⟩
      · cases h
  | .cell a t :: rs, vs, h => by
    simp only [resultsV] at h
    split at h
    · cases h
    · rename_i v hv
      split at h
      · rename_i us hu
        cases h
        obtain ⟨xs, e, r⟩ := resultsV_sound hR ht rs us hu
        obtain ⟨z, ez, rz⟩ := loadV_sound (u := tmps.getD a undef) hR hv (fun u hu => (ht.2 a u hu).2)
        refine ⟨z :: xs, ?_, ?_⟩
        · have hptr : ∃ ad, tmps.getD a undef = .pointer (some ad) := by
            unfold loadV at hv
            split at hv
            · rename_i hx
              have := (ht.2 a _ hx).2
              simp only [RV] at this
              obtain ⟨p, _, e⟩ := this
              exact ⟨_, e⟩
            · rename_i hx
              have := (ht.2 a _ hx).2
              simp only [RV] at this
              exact ⟨_, this⟩
            · rename_i hx
              have := (ht.2 a _ hx).2
              simp only [RV] at this
              obtain ⟨_, b, o, e, _⟩ := this
              exact ⟨_, e⟩
            · rename_i g _ _ _ _ hx
              have := (ht.2 a _ hx).2
              cases g
              · simp only [RV] at this
                obtain ⟨_, p, _, e⟩ := this
                exact ⟨_, e⟩
              · simp only [RV] at this
                exact ⟨_, this.2⟩
            · cases hv
          obtain ⟨ad, had⟩ := hptr
          rw [had] at ez
          simp only [Instr.loadAt, Instr.sureAddr, Sem.run_bind, Sem.run_pure, Result.andThen_ok] at ez
          have hasA : ∀ w, (asAddr (tmps.getD a undef)).run P w = .ok ad w := by intro w; rw [had]; rfl
          rw [List.mapM_cons]; simp only [Sem.run_bind, hasA, Sem.run_pure, Result.andThen_ok, ez, e]
        · simp only [RVs]; exact ⟨_, _, rfl, rz, r⟩
      · cases h

theorem run_results {P : Program} {W0 : World} {σ : Sg} {st : St} {w : World} {fm : Fm} {fn : Func} {tmps : Array Value} {vs : List V} (hR : Rel W0 σ st w) (ht : RT σ fm.n fm.tm tmps)
    (h : resultsV P st fm fn.results.toList = some vs) : ∃ z, (results fn tmps).run P w = .ok z w ∧ RV σ (tupleV vs) z := by
  obtain ⟨xs, e, r⟩ := resultsV_sound hR ht _ _ h
  have hm : (fn.results.mapM (fun | .tmp t => pure (tmps.getD t undef) | .cell a t => do loadVar t (← asAddr (tmps.getD a undef)) : ResultVar → Sem Value)).run P w = .ok xs.toArray w := by
    rw [Array.mapM_eq_mapM_toList]
    simp only [Sem.run_map, e, Result.andThen_ok]
  refine ⟨if h : xs.toArray.size = 1 then xs.toArray[0] else .tuple xs.toArray, ?_, ?_⟩
  · unfold results
    rw [Sem.run_bind]
    refine (congrArg (fun q => Result.andThen q _) hm).trans ?_
    rfl
  · have hl := r.length
    cases vs with
    | nil =>
      have : xs = [] := by simpa using hl
      subst this
      simp only [tupleV, RV]; exact ⟨#[], by simp, by simp [RVs]⟩
    | cons v vs =>
      cases vs with
      | nil =>
        simp only [RVs] at r
        obtain ⟨x, r', rfl, h1, rfl⟩ := r
        simp only [tupleV]; simpa using h1
      | cons u us =>
        have h2 : xs.toArray.size ≠ 1 := by simp at hl ⊢; omega
        rw [dif_neg h2]
        simp only [tupleV, RV]; exact ⟨xs.toArray, rfl, by simpa using r⟩



theorem enter_RF {σ : Sg} {fn : Func} {args : List V} {args' : Array Value} {b0 : Frame} (ha : RVs σ args args'.toList) (hro : b0.roundOf = none) :
    RF σ (Fm.enter fn args) { tmps := args' ++ Array.replicate (fn.ntmps - args'.size) undef, defers := [] } b0 := by
  have hlen : args'.size = args.length := by have := ha.length; simpa using this
  refine ⟨⟨by simp [Fm.enter, hlen], fun t v hv => ?_⟩, rfl, by simp only [Fm.enter, RRd]; exact hro⟩
  simp only [Fm.enter] at hv ⊢
  rw [Tri.get_ofList] at hv
  split at hv
  · rename_i hin
    simp only [Nat.sub_zero] at hv
    obtain ⟨x, hx, hr⟩ := ha.get hv
    refine ⟨by omega, ?_⟩
    have : (args' ++ Array.replicate (fn.ntmps - args'.size) undef).getD t undef = x := by
      rw [Array.getD_eq_getD_getElem?, Array.getElem?_append_left (by omega), ← Array.getElem?_toList, hx]; rfl
    rw [this]; exact hr
  · simp at hv


/-! ### contracts: a call with given arguments comes to a given value, in every world -/
def FzOk (fz : Nat → Nat → Option Value) (w : World) : Prop := ∀ b o v, fz b o = some v → w.cell? ⟨b, o, none⟩ = some v ∧ b < w.heap.size
def FzNew (fz fz' : Nat → Nat → Option Value) (n : Nat) : Prop := ∀ b o v, fz' b o = some v → fz b o = some v ∨ n ≤ b

def St.none : St := { next := 0, mem := .nil }
/-- the tables are there -/
structure Tab (s0 : St) (w : World) : Prop where
  rel : ∀ base, ∃ pl, Rel w ⟨pl, fun _ _ => Option.none, base⟩ s0 w
  ok : ∀ w', Below w.heap.size w w' → s0.ok w'
theorem Tab.none (w : World) : Tab St.none w :=
  .mk (ok := fun _ _ => trivial) fun base => ⟨fun _ => Option.none, ⟨Below.refl _ _, (fun i p e => nomatch e), (fun i p e => nomatch e), (fun i p o e => nomatch e), (fun i j p q o o' _ e => nomatch e), (fun g t k v e => by simp [St.none] at e), (fun b o v e => nomatch e)⟩⟩


def Ct (P : Program) (s0 : St) (f : FuncId) (args : List V) (v : V) : Prop :=
  ∀ (w : World) (xs : Array Value) (fz : Nat → Nat → Option Value), Tab s0 w → FzOk fz w → RVs (Sg.ofFz fz) args xs.toList →
    (∀ w, (callFunc f xs).run P w = .ok (.enter f xs) w) ∧
    ∀ cs, ∃ z w' fr fz', Below w.heap.size w w' ∧ FzLe fz fz' ∧ FzOk fz' w' ∧ FzNew fz fz' w.heap.size ∧ RV (Sg.ofFz fz') v z ∧
      Steps P (lone (Frame.enter P f xs .normal) cs w) (lone fr cs w') ∧ fr.fn = f ∧ fr.leaving P w' (.returned z)

/-- the same frozen cells -/
theorem free_agree {σ σ' : Sg} (h : FzLe σ.fz σ'.fz) : Le ({ σ.free with base := σ'.base } : Sg) σ' := ⟨(fun _ _ e => nomatch e), h, rfl⟩

/-- the tables are there in every later world -/
theorem Rel.later {W0 : World} {σ : Sg} {s0 : St} {w : World} (h : Rel W0 σ s0 W0) (hb : Below W0.heap.size W0 w) : Rel w σ s0 w where
  below := Below.refl _ _
  dom := h.dom
  blk i p e := by
    obtain ⟨h1, h2⟩ := h.blk i p e
    refine ⟨.inr ?_, Nat.lt_of_lt_of_le h2 hb.size⟩
    rcases h1 with h1 | h1
    · omega
    · exact h1
  obj i p o e ho := (h.obj i p o e ho).congr (hb.block _ (h.blk i p e).2)
  sep := h.sep
  glob g t k v a b := by
    obtain ⟨c, x, d, e⟩ := h.glob g t k v a b
    refine ⟨c, x, ?_, e⟩
    have hg : g < W0.heap.size := by
      unfold World.cell? at d
      simp only at d
      split at d
      · rename_i hh; exact (Array.getElem?_eq_some_iff.1 hh).1
      · cases d
    unfold World.cell? at d ⊢
    simp only at d ⊢
    rw [hb.block g hg]; exact d
  frz b o v e := by
    obtain ⟨h1, h2, h0, h3⟩ := h.frz b o v e
    refine ⟨(World.cell?_of_block (w := W0) (w' := w) (a := ⟨b, o, none⟩) (hb.block b h2)).trans h1, Nat.lt_of_lt_of_le h2 hb.size, ?_, h3⟩
    rcases h0 with h0 | h0
    · exact .inl h0
    · omega

/-- a call that leaves all that was there, and freezes what is new -/
theorem Rel.past {W0 : World} {σ : Sg} {st : St} {w w' : World} (h : Rel W0 σ st w) (hb : Below w.heap.size w w') {fz' : Nat → Nat → Option Value}
    (hle : FzLe σ.fz fz') (hok : FzOk fz' w') (hnew : FzNew σ.fz fz' w.heap.size) : Rel W0 { σ with fz := fz' } st w' where
  below := ⟨hb.os.trans h.below.os, hb.tape.trans h.below.tape, hb.output.trans h.below.output, Nat.le_trans h.below.size hb.size, fun k hk => by rw [hb.block k (Nat.lt_of_lt_of_le hk h.below.size)]; exact h.below.block k hk⟩
  dom := h.dom
  blk i p e := ⟨(h.blk i p e).1, Nat.lt_of_lt_of_le (h.blk i p e).2 hb.size⟩
  obj i p o e ho := ((h.obj i p o e ho).congr (hb.block _ (h.blk i p e).2)).mono (σ := σ) (σ' := { σ with fz := fz' }) ⟨fun _ _ e => e, hle, rfl⟩
  sep := h.sep
  glob := h.glob.mono (σ := σ) (σ' := { σ with fz := fz' }) ⟨fun _ _ e => e, hle, rfl⟩
  frz b o v e := by
    obtain ⟨h1, h2⟩ := hok b o v e
    refine ⟨h1, h2, ?_, fun i p ob ei hg hs => ?_⟩
    · rcases hnew b o v e with h3 | h3
      · exact (h.frz b o v h3).2.2.1
      · exact .inr (Nat.le_trans h.below.size h3)
    · rcases hnew b o v e with h3 | h3
      · exact (h.frz b o v h3).2.2.2 i p ob ei hg hs
      · have := (h.blk i p ei).2; omega

theorem Rel.fzOk {W0 : World} {σ : Sg} {st : St} {w : World} (h : Rel W0 σ st w) : FzOk σ.fz w := fun b o v e => ⟨(h.frz b o v e).1, (h.frz b o v e).2.1⟩

/-- the calls that are proved apart: what must hold, and what they come to -/
abbrev Specs := FuncId → List V → Option (Prop × V)

def SpecsOk (P : Program) (s0 : St) (E : Specs) : Prop := ∀ f args G v, E f args = some (G, v) → G → Ct P s0 f args v

def cfE (E : Specs) : CF := fun f args st => match freesAll (frzds (st.frzs (idsL args)) args) with
  | true => match askC (E f (frzds (st.frzs (idsL args)) args)) with
    | some v => some (.ok v, st.frzs (idsL args))
    | none => none
  | false => none

theorem cfE_ok {P : Program} {W0 : World} {s0 : St} {E : Specs} (hE : SpecsOk P s0 E) (hB : Tab s0 W0) : CFok P W0 (cfE E) := by
  intro f args st r st' h
  unfold cfE at h
  split at h
  · rename_i hf
    split at h <;> cases h
    rename_i v hv
    obtain ⟨G, hG, hg⟩ := askC_some hv
    intro σ0 w args' hR0 ha0
    obtain ⟨σ, hR, hP, ha⟩ := freeze_args hR0 ha0
    obtain ⟨k1, k2⟩ := hE f _ G v hG hg w args' σ.fz ⟨fun base => let ⟨pl, h⟩ := hB.rel base; ⟨pl, h.later hR.below⟩, fun w' h => hB.ok w' (hR.below.trans (h.mono hR.below.size))⟩ hR.fzOk (RVs.toFree _ _ hf ha)
    refine ⟨k1, fun cs => ?_⟩
    obtain ⟨z, w', fr, fz', hb, hle, hok, hnew, hz, hst, hfn, hl⟩ := k2 cs
    exact ⟨{ σ with fz := fz' }, w', fr, hR.past hb hle hok hnew, hP.trans ⟨⟨fun _ _ e => e, hle, rfl⟩, Nat.le_refl _, fun i hi e => ⟨e, fun _ _ e => e⟩⟩, hst, hfn, z, RV.fromFree (σ := { σ with fz := fz' }) (fun _ _ _ e => e) hz, hl⟩
  · cases h
def yfN : YF := fun _ _ _ => none
theorem yfN_ok {P : Program} {W0 : World} : YFok P W0 yfN := fun _ _ _ _ _ h => by cases h

/-! ### what a frame comes to -/
def J (P : Program) (s0 : St) (f : FuncId) (W0 : World) (fz0 : Nat → Nat → Option Value) (todo : List Item) (fm : Fm) (st : St) (K : V → Prop) : Prop :=
  ∀ σ w a b cs, σ.base = fz0 → FzLe fz0 σ.fz → b.fn = f → b.kind = .normal → b.roundOf = none → Rel W0 σ st w → RF σ fm a b →
    ∃ z w' fr fz' v, K v ∧ Below W0.heap.size W0 w' ∧ FzLe fz0 fz' ∧ FzOk fz' w' ∧ FzNew fz0 fz' W0.heap.size ∧ RV (Sg.ofFz fz') v z ∧
      Steps P (lone (Fat b a todo) cs w) (lone fr cs w') ∧ fr.fn = f ∧ fr.leaving P w' (.returned z)

theorem Rel.fzNew {W0 : World} {σ : Sg} {st : St} {w : World} (h : Rel W0 σ st w) : FzNew σ.base σ.fz W0.heap.size := fun b o v e => (h.frz b o v e).2.2.1

section
variable {P : Program} {s0 : St} {f : FuncId} {W0 : World} {fz0 : Nat → Nat → Option Value} {todo todo' : List Item} {fm fm' : Fm} {st st' : St} {K : V → Prop}

theorem J.step (h : J P s0 f W0 fz0 todo' fm st K) (hs : ∀ b a cs w σ, RF σ fm a b → b.roundOf = none → step P (lone (Fat b a todo) cs w) = .next (lone (Fat b a todo') cs w)) : J P s0 f W0 fz0 todo fm st K := by
  intro σ w a b cs h1 h2 h3 h4 h5 h6 h7
  obtain ⟨z, w', fr, fz', v, k1, k2, k3, k4, k5, k6, k7, k8⟩ := h σ w a b cs h1 h2 h3 h4 h5 h6 h7
  exact ⟨z, w', fr, fz', v, k1, k2, k3, k4, k5, k6, .head (hs b a cs w σ h7 h5) k7, k8⟩

/-- a part of the run, then what is behind it -/
theorem J.of_steps (h : J P s0 f W0 fz0 todo' fm' st' K) (hs : ∀ σ w a b cs, b.fn = f → b.roundOf = none → Rel W0 σ st w → RF σ fm a b →
    ∃ σ' w' a', Rel W0 σ' st' w' ∧ Le σ σ' ∧ RF σ' fm' a' b ∧ Steps P (lone (Fat b a todo) cs w) (lone (Fat b a' todo') cs w')) : J P s0 f W0 fz0 todo fm st K := by
  intro σ w a b cs h1 h2 h3 h4 h5 h6 h7
  obtain ⟨σ', w', a', g1, g2, g3, g4⟩ := hs σ w a b cs h3 h5 h6 h7
  obtain ⟨z, w2, fr, fz', v, k1, k2, k3, k4, k5, k6, k7, k8⟩ := h σ' w' a' b cs (g2.base.trans h1) (fun b o v e => g2.fz b o v (h2 b o v e)) h3 h4 h5 g1 g3
  exact ⟨z, w2, fr, fz', v, k1, k2, k3, k4, k5, k6, g4.trans k7, k8⟩

/-- less is known -/
theorem J.weak (h : J P s0 f W0 fz0 todo fm' st' K) (hs : ∀ σ w a b, Rel W0 σ st w → RF σ fm a b → ∃ σ', Rel W0 σ' st' w ∧ σ'.base = σ.base ∧ FzLe σ.fz σ'.fz ∧ RF σ' fm' a b) : J P s0 f W0 fz0 todo fm st K := by
  intro σ w a b cs h1 h2 h3 h4 h5 h6 h7
  obtain ⟨σ', g1, g2, g3, g4⟩ := hs σ w a b h6 h7
  exact h σ' w a b cs (g2.trans h1) (fun b o v e => g3 b o v (h2 b o v e)) h3 h4 h5 g1 g4
end

/-- from the body to the call -/
theorem Ct.of_body {P : Program} {s0 : St} {f : FuncId} {args : List V} {v : V} {fn : Func} {body : Code} (hf : P.funcs[f]? = some fn) (hen : enterable fn = true) (hb : fn.body = some body)
    (h : ∀ W0 fz0, Tab s0 W0 → J P s0 f W0 fz0 [.code body] (Fm.enter fn args) s0 (fun u => ∀ fz z, RV (Sg.ofFz fz) u z → RV (Sg.ofFz fz) v z)) : Ct P s0 f args v := by
  intro w xs fz hB hfz ha
  have hlen : xs.size = args.length := by have := ha.length; simpa using this
  refine ⟨fun w => ?_, fun cs => ?_⟩
  · have hne : (fn.name == "runtime.NumGoroutine") = false := by simpa [enterable] using hen
    simp [callFunc, hf, hb]
    simpa using hne
  · obtain ⟨b0, hb0⟩ : ∃ b0 : Frame, b0 = { fn := f, tmps := #[], todo := [], defers := [], mode := .run, kind := .normal, roundOf := none } := ⟨_, rfl⟩
    have henter : Frame.enter P f xs .normal = Fat b0 { tmps := xs ++ Array.replicate (fn.ntmps - xs.size) undef, defers := [] } [.code body] := by
      simp [Frame.enter, Fat, hf, hb, hb0]
    obtain ⟨pl, hT⟩ := hB.rel fz
    have hle : Le ⟨pl, fun _ _ => none, fz⟩ ⟨pl, fz, fz⟩ := ⟨fun _ _ e => e, (fun _ _ _ e => nomatch e), rfl⟩
    have hR : Rel w ⟨pl, fz, fz⟩ s0 w := ⟨Below.refl _ _, hT.dom, hT.blk, fun i p o e g => (hT.obj i p o e g).mono hle, hT.sep, hT.glob.mono hle, fun b o v e => ⟨(hfz b o v e).1, (hfz b o v e).2, .inl e, fun i p ob ei hg hs => by
      obtain ⟨h1, h2⟩ := hT.blk i p ei
      rcases h1 with h1 | h1
      · omega
      · rw [h1 ob hg] at hs; cases hs⟩⟩
    have ha' : RVs ⟨pl, fz, fz⟩ args xs.toList := RVs.mono (σ := Sg.ofFz fz) (σ' := ⟨pl, fz, fz⟩) ⟨(fun _ _ e => nomatch e), (fun _ _ _ e => e), rfl⟩ _ _ ha
    have hF := enter_RF (fn := fn) (b0 := b0) ha' (by rw [hb0])
    obtain ⟨z, w', fr, fz', u, k1, k2, k3, k4, k5, k6, k7, k8, k9⟩ := h w fz hB ⟨pl, fz, fz⟩ w _ b0 cs rfl (fun _ _ _ e => e) (by rw [hb0]) (by rw [hb0]) (by rw [hb0]) hR hF
    exact ⟨z, w', fr, fz', k2, k3, k4, k5, k1 _ _ k6, by rw [henter]; exact k7, k8, k9⟩
end Go.Proofs.YthnldpbkjegfaaaDoor.Sv

namespace Go.Proofs.YthnldpbkjegfaaaDoor.Sv
open Go Go.RowKit

/-! ### one value is known to be another one -/
def nextOff (off s : Option Nat) : Option Nat :=
  match off, s with
  | none, none => some 1
  | none, some m => some m
  | some o, none => some (o + 1)
  | some o, some m => some (o + m)
theorem nextOff_eq (off s : Option Nat) : (nextOff off s).getD 0 = off.getD 0 + segN s := by cases off <;> cases s <;> simp [nextOff, segN]
/-- of each piece's each element, with its place -/
def elsAll : List (Option Nat) → Option Nat → Nat → (Nat → Nat → Nat → Prop) → Prop
  | [], _, _, _ => True
  | s :: t, off, j, Q => (match s with
      | none => (match off with | none => Q j 0 0 | some o => Q j 0 o)
      | some m => (match off with | none => ∀ k, k < m → Q j k k | some o => ∀ k, k < m → Q j k (o + k))) ∧
    (match t with
      | [] => True
      | u :: t => elsAll (u :: t) (nextOff off s) (j + 1) Q)
theorem elsAll_spec {Q : Nat → Nat → Nat → Prop} : ∀ (ms : List (Option Nat)) (off : Option Nat) (j0 : Nat), elsAll ms off j0 Q →
    ∀ j s, ms[j]? = some s → ∀ k, k < segN s → Q (j0 + j) k (off.getD 0 + offN ms j + k)
  | [], off, j0, _, j, s, h, k, hk => by simp at h
  | s0 :: t, off, j0, h, 0, s, hs, k, hk => by
    have hs : s0 = s := by simpa using hs
    subst hs
    unfold elsAll at h
    have h := h.1
    cases s0 with
    | none =>
      obtain rfl : k = 0 := by simp [segN] at hk; exact hk
      cases off <;> simpa [offN] using h
    | some m =>
      cases off with
      | none => simpa [offN] using h k hk
      | some o => simpa [offN] using h k hk
  | s0 :: [], off, j0, h, j + 1, s, hs, k, hk => by simp at hs
  | s0 :: u :: t, off, j0, h, j + 1, s, hs, k, hk => by
    simp only [elsAll] at h
    have := elsAll_spec (u :: t) _ (j0 + 1) h.2 j s (by simpa using hs) k hk
    have e : j0 + 1 + j = j0 + (j + 1) := by omega
    rw [e] at this
    have e2 := nextOff_eq off s0
    simp only [offN]
    rw [e2] at this
    rw [← Nat.add_assoc (off.getD 0)]
    exact this
/-- as many as that -/
def sumIs (ms : List (Option Nat)) (n : Nat) : Prop :=
  match ms with
  | [] => n = 0
  | s :: t => match s, t with
    | some m, [] => m = n
    | none, [] => 1 = n
    | some m, [none] => m + 1 = n
    | some m, [some k] => m + k = n
    | _, _ => totN (s :: t) = n
theorem sumIs_spec {ms : List (Option Nat)} {n : Nat} (h : sumIs ms n) : totN ms = n := by
  unfold sumIs at h
  split at h
  · subst h; rfl
  · split at h <;> simp_all [totN, segN]

mutual
/-- 'u' is known; is it 'v' (an object of v's number i is u's of number r i)? -/
def leV (r : Nat → Option Nat) (u : V) : V → Prop
  | .si k n => match u.asI with | some (k', m) => (match decide (k' = k) with | true => m = n | false => False) | none => False
  | .int k n => match u.asI with | some (k', m) => (match decide (k' = k) with | true => m = n | false => False) | none => False
  | .sb b => match u.asB with | some c => c = b | none => False
  | .bool b => match u.asB with | some c => c = b | none => False
  | .ss l => match u.asS with | some m => m = l | none => False
  | .str l => match u with | .str m => (match eqN m l with | true => True | false => False) | _ => False
  | .nilp => match u with | .nilp => True | _ => False
  | .nils => match u with | .nils => True | _ => False
  | .nilmap => match u with | .nilmap => True | _ => False
  | .nilFunc => match u with | .nilFunc => True | _ => False
  | .nilIface => match u with | .nilIface => True | _ => False
  | .glob g o => match u with | .glob h q => (match Nat.beq g h, Nat.beq o q with | true, true => True | _, _ => False) | _ => False
  | .ptr i o => match u with
    | .ptr j q => match r i with
      | some k => (match Nat.beq k j, Nat.beq o q with | true, true => True | _, _ => False)
      | none => False
    | _ => False
  | .slice i o n c => match u with
    | .slice j q m d => match r i with
      | some k => (match Nat.beq k j, Nat.beq o q, Nat.beq n m, c, d with
        | true, true, true, .known x, .known y => (match Nat.beq x y with | true => True | false => False)
        | true, true, true, .opn x, .opn y => (match Nat.beq x y with | true => True | false => False)
        | _, _, _, _, _ => False)
      | none => False
    | _ => False
  | .map i => match u with
    | .map j => match r i with
      | some k => (match Nat.beq k j with | true => True | false => False)
      | none => False
    | _ => False
  | .func fn first cap => match u with
    | .func fn' first' cap' => match fn, fn' with
      | .func g, .func g' => (match Nat.beq g g' with | true => leVs r first' first ∧ leVs r cap' cap | false => False)
      | _, _ => False
    | _ => False
  | .yield _ => False
  | .iface t v => match u with
    | .iface t' v' => (match Nat.beq t t' with | true => leV r v' v | false => False)
    | _ => False
  | .agg vs => match u with | .agg us => leVs r us vs | _ => False
  | .tuple vs => match u with | .tuple us => leVs r us vs | _ => False
  | .ro tight n sz es => match u with
    | .nils => n = 0 ∧ (match tight with | true => True | false => True)
    | .ro tight' n' sz' es' => (match tight with | true => tight' = true | false => True) ∧ n' = n ∧ (match Nat.beq sz' sz with | true => True | false => sz' = sz) ∧ ∀ i, i < n → leV (fun _ => none) (es' i) (es i)
    | _ => False
  | .rp n sz es i f => match u with
    | .rp n' sz' es' i' f' => n' = n ∧ sz' = sz ∧ i' = i ∧ f' = f ∧ ∀ i, i < n → leV (fun _ => none) (es' i) (es i)
    | _ => False
  | .acc i sz ns es => match ns with
    | [some n] => match u with
      | .nils => n = 0
      | .slice _ _ m (.known c) => match m, c with
        | 0, 0 => n = 0
        | _, _ => False
      | .ro true m sz' fs => match Nat.beq sz' sz with
        | true => m = n ∧ ∀ k, k < n → leV (fun _ => none) (fs k) (es 0 k)
        | false => False
      | .acc j sz' ms fs => match r i with
        | some k => match Nat.beq k j, Nat.beq sz' sz with
          | true, true => sumIs ms n ∧ elsAll ms none 0 fun j k p => leV (fun _ => none) (fs j k) (es 0 p)
          | _, _ => False
        | none => False
      | _ => False
    | _ => False
  | .px _ _ _ _ _ => False
def leVs (r : Nat → Option Nat) (us : List V) : List V → Prop
  | [] => match us with | [] => True | _ => False
  | v :: vs => match us with | u :: us => leV r u v ∧ leVs r us vs | [] => False
end

def Sg.ren (σ : Sg) (r : Nat → Option Nat) : Sg := { σ with pl := fun i => (r i).bind σ.pl }

theorem Sg.ren_free (σ : Sg) (r : Nat → Option Nat) : (σ.ren r).free = σ.free := rfl
theorem Sg.free_ren (σ : Sg) : σ.free.ren (fun _ => none) = σ.free := rfl

mutual
theorem leV_sound : ∀ (v u : V) (x : Value) (σ : Sg) (r : Nat → Option Nat), leV r u v → RV σ u x → RV (σ.ren r) v x
  | .si k n, u, x, σ, r, h, hr => by
    simp only [leV] at h
    split at h
    · rename_i k' m hm
      split at h
      · rename_i hk; have hk := of_decide_eq_true hk; subst hk h; simp only [RV]; exact asI_sound hm hr
      · exact h.elim
    · exact h.elim
  | .int k n, u, x, σ, r, h, hr => by
    simp only [leV] at h
    split at h
    · rename_i k' m hm
      split at h
      · rename_i hk; have hk := of_decide_eq_true hk; subst hk h; simp only [RV]; exact asI_sound hm hr
      · exact h.elim
    · exact h.elim
  | .sb b, u, x, σ, r, h, hr => by
    simp only [leV] at h
    split at h
    · rename_i c hc; subst h; simp only [RV]; exact asB_sound hc hr
    · exact h.elim
  | .bool b, u, x, σ, r, h, hr => by
    simp only [leV] at h
    split at h
    · rename_i c hc; subst h; simp only [RV]; exact asB_sound hc hr
    · exact h.elim
  | .ss l, u, x, σ, r, h, hr => by
    simp only [leV] at h
    split at h
    · rename_i m hm; subst h; simp only [RV]; exact asS_sound hm hr
    · exact h.elim
  | .str l, u, x, σ, r, h, hr => by
    cases u <;> simp only [leV] at h
    split at h
    · rename_i e; rw [eqN_iff] at e; subst e; exact hr
    · exact h.elim
  | .nilp, u, x, σ, r, h, hr => by cases u <;> simp only [leV] at h; exact hr
  | .nils, u, x, σ, r, h, hr => by cases u <;> simp only [leV] at h; exact hr
  | .nilmap, u, x, σ, r, h, hr => by cases u <;> simp only [leV] at h; exact hr
  | .nilFunc, u, x, σ, r, h, hr => by cases u <;> simp only [leV] at h; exact hr
  | .nilIface, u, x, σ, r, h, hr => by cases u <;> simp only [leV] at h; exact hr
  | .glob g o, u, x, σ, r, h, hr => by
    cases u <;> simp only [leV] at h
    split at h
    · rename_i e1 e2; obtain rfl := Nat.eq_of_beq_eq_true e1; obtain rfl := Nat.eq_of_beq_eq_true e2; exact hr
    · exact h.elim
  | .ptr i o, u, x, σ, r, h, hr => by
    cases u <;> simp only [leV] at h
    split at h
    · rename_i k hk
      split at h
      · rename_i e1 e2; obtain rfl := Nat.eq_of_beq_eq_true e1; obtain rfl := Nat.eq_of_beq_eq_true e2
        simp only [RV] at hr ⊢; obtain ⟨p, hp, e⟩ := hr; exact ⟨p, by simp [Sg.ren, hk, hp], e⟩
      · exact h.elim
    · exact h.elim
  | .slice i o n c, u, x, σ, r, h, hr => by
    cases u <;> simp only [leV] at h
    split at h
    · rename_i k hk
      split at h
      · rename_i e1 e2 e3
        obtain rfl := Nat.eq_of_beq_eq_true e1; obtain rfl := Nat.eq_of_beq_eq_true e2; obtain rfl := Nat.eq_of_beq_eq_true e3
        split at h
        · rename_i e4; obtain rfl := Nat.eq_of_beq_eq_true e4
          simp only [RV] at hr ⊢; obtain ⟨p, hp, e⟩ := hr; exact ⟨p, by simp [Sg.ren, hk, hp], e⟩
        · exact h.elim
      · rename_i e1 e2 e3
        obtain rfl := Nat.eq_of_beq_eq_true e1; obtain rfl := Nat.eq_of_beq_eq_true e2; obtain rfl := Nat.eq_of_beq_eq_true e3
        split at h
        · rename_i e4; obtain rfl := Nat.eq_of_beq_eq_true e4
          simp only [RV] at hr ⊢; obtain ⟨hs, p, a, c, hp, e⟩ := hr; exact ⟨hs, p, a, c, by simp [Sg.ren, hk, hp], e⟩
        · exact h.elim
      · exact h.elim
    · exact h.elim
  | .map i, u, x, σ, r, h, hr => by
    cases u <;> simp only [leV] at h
    split at h
    · rename_i k hk
      split at h
      · rename_i e1; obtain rfl := Nat.eq_of_beq_eq_true e1
        simp only [RV] at hr ⊢; obtain ⟨p, hp, e⟩ := hr; exact ⟨p, by simp [Sg.ren, hk, hp], e⟩
      · exact h.elim
    · exact h.elim
  | .func fn first cap, u, x, σ, r, h, hr => by
    cases u <;> simp only [leV] at h
    split at h
    · split at h
      · rename_i e; obtain rfl := Nat.eq_of_beq_eq_true e
        simp only [RV] at hr ⊢; obtain ⟨f, c, e, h1, h2⟩ := hr
        exact ⟨f, c, e, leVs_sound _ _ _ σ r h.1 h1, leVs_sound _ _ _ σ r h.2 h2⟩
      · exact h.elim
    · exact h.elim
  | .yield i, u, x, σ, r, h, hr => by simp only [leV] at h
  | .iface t v, u, x, σ, r, h, hr => by
    cases u <;> simp only [leV] at h
    split at h
    · rename_i e; obtain rfl := Nat.eq_of_beq_eq_true e
      simp only [RV] at hr ⊢; obtain ⟨y, e, h1⟩ := hr; exact ⟨y, e, leV_sound v _ _ σ r h h1⟩
    · exact h.elim
  | .agg vs, u, x, σ, r, h, hr => by
    cases u <;> simp only [leV] at h
    simp only [RV] at hr ⊢; obtain ⟨a, e, h1⟩ := hr; exact ⟨a, e, leVs_sound vs _ _ σ r h h1⟩
  | .tuple vs, u, x, σ, r, h, hr => by
    cases u <;> simp only [leV] at h
    simp only [RV] at hr ⊢; obtain ⟨a, e, h1⟩ := hr; exact ⟨a, e, leVs_sound vs _ _ σ r h h1⟩
  | .ro tight n sz es, u, x, σ, r, h, hr => by
    cases u <;> simp only [leV] at h
    case nils =>
      obtain ⟨rfl, _⟩ := h
      simp only [RV] at hr ⊢; subst hr
      exact ⟨none, 0, rfl, Nat.le_refl _, fun _ => rfl, fun h => absurd h (by omega)⟩
    case ro tight' n' sz' es' =>
      obtain ⟨h1, rfl, h3, h4⟩ := h
      have h3 : sz' = sz := by
        split at h3
        · rename_i e; exact Nat.eq_of_beq_eq_true e
        · exact h3
      subst h3
      simp only [RV] at hr ⊢
      obtain ⟨a, c, e, g1, g2, g3⟩ := hr
      refine ⟨a, c, e, g1, fun ht => ?_, fun hn => ?_⟩
      · subst ht; exact g2 h1
      · obtain ⟨b, o, e1, g4⟩ := g3 hn
        refine ⟨b, o, e1, fun i hi => ?_⟩
        obtain ⟨y, g5, g6⟩ := g4 i hi
        exact ⟨y, leV_sound (es i) _ _ σ.free (fun _ => none) (h4 i hi) g5, g6⟩
  | .rp n sz es i f, u, x, σ, r, h, hr => by
    cases u <;> simp only [leV] at h
    obtain ⟨rfl, rfl, rfl, rfl, h4⟩ := h
    simp only [RV] at hr ⊢
    obtain ⟨hi, b, o, e, g4⟩ := hr
    refine ⟨hi, b, o, e, fun i hi => ?_⟩
    obtain ⟨y, g5, g6⟩ := g4 i hi
    exact ⟨y, leV_sound (es i) _ _ σ.free (fun _ => none) (h4 i hi) g5, g6⟩
  | .acc i sz ns es, u, x, σ, r, h, hr => by
    unfold leV at h
    split at h
    case h_2 => exact h.elim
    rename_i n
    have ht : totN [some n] = n := rfl
    have one : ∀ {σ' : Sg} {b o : Nat}, (∀ k, k < n → ∃ y, RV σ'.free (es 0 k) y ∧ FzAt σ'.fz b (o + k * sz) sz y) →
        ∀ j s, [some n][j]? = some s → ∀ k, k < segN s → ∃ y, RV σ'.free (es j k) y ∧ FzAt σ'.fz b (o + (offN [some n] j + k) * sz) sz y := by
      intro σ' b o h j s hs k hk
      cases j with
      | zero => simp at hs; subst hs; simpa [offN] using h k hk
      | succ j => simp at hs
    split at h
    · subst h
      simp only [RV] at hr ⊢; subst hr
      exact ⟨none, 0, rfl, Nat.le_refl _, fun h => absurd h (Nat.lt_irrefl _), .inl rfl⟩
    · split at h
      · subst h
        simp only [RV] at hr ⊢
        obtain ⟨p, _, rfl⟩ := hr
        exact ⟨_, 0, rfl, Nat.le_refl _, fun h => absurd h (Nat.lt_irrefl _), .inl rfl⟩
      · exact h.elim
    · split at h
      · rename_i hsz
        obtain rfl := Nat.eq_of_beq_eq_true hsz
        obtain ⟨rfl, h⟩ := h
        simp only [RV] at hr ⊢
        obtain ⟨a, c, rfl, h1, h2, h3⟩ := hr
        refine ⟨a, c, rfl, h1, fun hp => ?_, .inl (h2 trivial)⟩
        obtain ⟨b, o, e, h4⟩ := h3 hp
        refine ⟨b, o, e, one fun k hk => ?_⟩
        obtain ⟨y, h5, h6⟩ := h4 k hk
        exact ⟨y, leV_sound (es 0 k) _ _ σ.free (fun _ => none) (h k hk) h5, h6⟩
      · exact h.elim
    · split at h
      · rename_i k hk
        split at h
        · rename_i e1 e2
          obtain rfl := Nat.eq_of_beq_eq_true e1
          obtain rfl := Nat.eq_of_beq_eq_true e2
          obtain ⟨h1, h⟩ := h
          have h1 := sumIs_spec h1
          simp only [RV] at hr ⊢
          obtain ⟨a, c, rfl, g1, g2, g3⟩ := hr
          rw [h1] at g1 g2 g3 ⊢
          refine ⟨a, c, by rw [ht], by rw [ht]; exact g1, fun hp => ?_, ?_⟩
          · obtain ⟨b, o, e, g4⟩ := g2 (by rw [ht] at hp; exact hp)
            refine ⟨b, o, e, one fun k hk => ?_⟩
            obtain ⟨j, s, i', q1, q2, q3⟩ := totN_find (ns := _) (k := k) (by rw [h1]; exact hk)
            obtain ⟨y, h5, h6⟩ := g4 j s q1 i' q2
            have := elsAll_spec _ _ _ h j s q1 i' q2
            simp only [Option.getD_none, Nat.zero_add] at this
            rw [← q3] at this h6
            exact ⟨y, leV_sound (es 0 k) _ _ σ.free (fun _ => none) this h5, h6⟩
          · rcases g3 with g3 | ⟨p, o, hp, g4⟩
            · exact .inl (by rw [ht]; exact g3)
            · exact .inr ⟨p, o, by simp [Sg.ren, hk, hp], by rw [ht]; exact g4⟩
        · exact h.elim
      · exact h.elim
    · exact h.elim
  | .px _ _ _ _ _, u, x, σ, r, h, hr => by simp only [leV] at h
theorem leVs_sound : ∀ (vs us : List V) (l : List Value) (σ : Sg) (r : Nat → Option Nat), leVs r us vs → RVs σ us l → RVs (σ.ren r) vs l
  | [], us, l, σ, r, h, hr => by cases us <;> simp only [leVs] at h; simpa [RVs] using hr
  | v :: vs, us, l, σ, r, h, hr => by
    cases us <;> simp only [leVs] at h
    simp only [RVs] at hr ⊢; obtain ⟨x, rr, e, h1, h2⟩ := hr
    exact ⟨x, rr, e, leV_sound v _ _ σ r h.1 h1, leVs_sound vs _ _ σ r h.2 h2⟩
end

/-- a value that names no object -/
abbrev eqL (v u : V) : Prop := leV (fun _ => none) u v
theorem eqL_sound {v u : V} (h : eqL v u) (fz : Nat → Nat → Option Value) (z : Value) (hr : RV (Sg.ofFz fz) u z) : RV (Sg.ofFz fz) v z := leV_sound v u z (Sg.ofFz fz) _ h hr

/-! ### what is to be shown, operation by operation -/
/-- operations that ask nothing -/
def trivB (op : BinOp) (v : V) : Bool :=
  match op with
  | .sub | .mul | .and | .or | .xor | .andNot | .eql | .neq | .lss | .leq | .gtr | .geq => true
  | .add => match v with | .si _ _ => true | _ => false
  | _ => false
def trivG (op : Op) (v : V) : Bool :=
  match op with
  | .pick _ _ _ | .nilCheck _ | .unOp _ _ _ | .convert _ _ _ | .fieldAddr _ _ _ | .call _ => true
  | .binOp op _ _ _ _ => trivB op v
  | _ => false

theorem symBin_triv {P : Program} {op : BinOp} {t : TypeId} {c : Bool} {x y : Option V} {G : Prop} {v : V} (h : symBin P op t c x y = some (G, v)) (ht : trivB op v = true) : G := by
  unfold symBin at h
  split at h
  · split at h
    · split at h
      · cases op <;> first | (simp only [symShift, reduceCtorEq] at h; done) | (simp [trivB] at ht; done)
      · split at h
        · cases op <;> simp only [symInt, Option.some.injEq, Prod.mk.injEq, reduceCtorEq] at h <;> obtain ⟨rfl, rfl⟩ := h <;> first | trivial | (simp [trivB] at ht)
        · cases h
    · split at h
      · cases op <;> simp only [symStr, Option.some.injEq, Prod.mk.injEq, reduceCtorEq] at h <;> obtain ⟨rfl, rfl⟩ := h <;> first | trivial | (simp [trivB] at ht)
      · split at h
        · obtain ⟨rfl, rfl⟩ := Prod.mk.inj (Option.some.inj h); trivial
        · obtain ⟨rfl, rfl⟩ := Prod.mk.inj (Option.some.inj h); trivial
        · cases h
  · cases h

theorem symP_triv {P : Program} {ρ : Rho} {o : Oper} {G : Prop} {v : V} (h : symP P ρ o = some (G, v)) (ht : trivG o.op v = true) : G := by
  unfold symP symP0 at h
  split at h
  case h_11 => cases h
  all_goals (rename_i hop; rw [hop] at ht; simp only [trivG] at ht)
  · unfold symPick at h
    split at h
    · split at h
      · split at h
        · obtain ⟨rfl, rfl⟩ := Prod.mk.inj (Option.some.inj h); trivial
        · cases h
      · split at h
        · obtain ⟨rfl, rfl⟩ := Prod.mk.inj (Option.some.inj h); trivial
        · split at h
          · obtain ⟨rfl, rfl⟩ := Prod.mk.inj (Option.some.inj h); trivial
          · cases h
    · cases h
  · split at h
    · obtain ⟨rfl, rfl⟩ := Prod.mk.inj (Option.some.inj h); trivial
    · cases h
  · exact symBin_triv h ht
  · unfold symUn at h
    split at h
    · cases h
    · split at h
      · obtain ⟨rfl, rfl⟩ := Prod.mk.inj (Option.some.inj h); trivial
      · obtain ⟨rfl, rfl⟩ := Prod.mk.inj (Option.some.inj h); trivial
      · obtain ⟨rfl, rfl⟩ := Prod.mk.inj (Option.some.inj h); trivial
      · cases h
  · unfold symConv at h
    split at h
    · split at h
      · split at h
        · obtain ⟨rfl, rfl⟩ := Prod.mk.inj (Option.some.inj h); trivial
        · cases h
      · split at h
        · obtain ⟨rfl, rfl⟩ := Prod.mk.inj (Option.some.inj h); trivial
        · cases h
      · cases h
    · cases h
  · cases ht
  · unfold symFieldAddr at h
    split at h
    · split at h
      · split at h
        · split at h
          · obtain ⟨rfl, rfl⟩ := Prod.mk.inj (Option.some.inj h); trivial
          · cases h
        · cases h
      · cases h
    · cases h
  · cases ht
  · cases ht
  · split at h
    · split at h
      · unfold symLen at h
        split at h
        · split at h
          · obtain ⟨rfl, rfl⟩ := Prod.mk.inj (Option.some.inj h); trivial
          · cases h
        · obtain ⟨rfl, rfl⟩ := Prod.mk.inj (Option.some.inj h); trivial
        · cases h
      · cases h
    · split at h
      · unfold symMM at h
        split at h
        · split at h
          · simp only at h
            obtain ⟨rfl, rfl⟩ := Prod.mk.inj (Option.some.inj h); trivial
          · cases h
        · cases h
      · cases h
    · split at h
      · unfold symMM at h
        split at h
        · split at h
          · simp only at h
            obtain ⟨rfl, rfl⟩ := Prod.mk.inj (Option.some.inj h); trivial
          · cases h
        · cases h
      · cases h
    · cases h

def vcA (P : Program) (ρ : Rho) (o : Oper) (st : St) (KP KL : V → Prop) (KA : O → (Nat → V) → Prop) (KE : Prop) : Prop :=
  match evalP0 P ρ o with
  | some v => KP v
  | none => match symP P ρ o with
    | some (G, v) => (match trivG o.op v with
      | true => KP v
      | false => G ∧ KP v)
    | none => match evalL P st ρ o with
      | some v => KL v
      | none => match evalA P ρ o with
        | some (ob, mk) => KA ob mk
        | none => KE

/-- who answers a call -/
abbrev Hand := FuncId → List V → St → (V → St → Prop) → Prop

def handE (E : Specs) : Hand := fun g args st K => match freesAll (frzds (st.frzs (idsL args)) args), E g (frzds (st.frzs (idsL args)) args) with
  | true, some (G, v) => G ∧ K v (st.frzs (idsL args))
  | _, _ => False

def vcE0 (P : Program) (C : Hand) (ρ : Rho) (o : Oper) (st : St) (K : V → St → Prop) : Prop :=
  match o.op with
  | .call c => match c.callee with
    | .value f => match ρ f, rhoAll ρ c.args.toList with
      | some (.func (.func g) first cap), some args => match externV P g (first ++ args ++ cap) with
        | some v => K v st
        | none => C g (first ++ args ++ cap) st K
      | _, _ => False
    | .invoke r name => match ρ r, rhoAll ρ c.args.toList with
      | some (.iface t v), some args => match methodV P t name with
        | some g => C g (v :: args) st K
        | none => False
      | _, _ => False
    | _ => match evalE0 P (fun _ _ _ => none) yfN ρ o st with
      | some (.ok v, st') => K v st'
      | _ => False
  | _ => match evalE0 P (fun _ _ _ => none) yfN ρ o st with
    | some (.ok v, st') => K v st'
    | _ => False

theorem evalE0_cf {P : Program} {cf : CF} {ρ : Rho} {o : Oper} {st : St} {r : CR × St} (h : evalE0 P (fun _ _ _ => none) yfN ρ o st = some r) : evalE0 P cf yfN ρ o st = some r := by
  unfold evalE0 at h ⊢
  cases hop : o.op with
  | call c =>
    rw [hop] at h
    try simp only at h
    try simp only
    cases hc : c.callee with
    | value f =>
      rw [hc] at h
      try simp only at h
      try simp only
      cases hf : ρ f with
      | none => (try rw [hf] at h); simp at h
      | some u =>
        cases ha : rhoAll ρ c.args.toList with
        | none => (try rw [hf] at h); (try rw [ha] at h); cases u <;> simp at h
        | some args =>
          (try rw [hf] at h); (try rw [ha] at h)
          cases u <;> (try simp only at h) <;> (try simp only) <;> try (first | exact h | cases h)
          rename_i fn first cap
          cases fn <;> (try simp only at h) <;> (try simp only) <;> try (first | exact h | cases h)
          rename_i g
          cases hv : externV P g (first ++ args ++ cap) with
          | none => (try rw [hv] at h); simp at h
          | some v => (try rw [hv] at h); exact h
    | invoke f name =>
      rw [hc] at h
      try simp only at h
      try simp only
      cases hf : ρ f with
      | none => (try rw [hf] at h); simp at h
      | some u =>
        cases ha : rhoAll ρ c.args.toList with
        | none => (try rw [hf] at h); (try rw [ha] at h); cases u <;> simp at h
        | some args =>
          (try rw [hf] at h); (try rw [ha] at h)
          cases u <;> (try simp only at h) <;> (try simp only) <;> try (first | exact h | cases h)
          rename_i tt v
          cases hm : methodV P tt name with
          | none => (try rw [hm] at h); simp at h
          | some g => (try rw [hm] at h); simp at h
    | builtin b => rw [hc] at h; cases b <;> exact h
  | next it b => rw [hop] at h; cases b <;> exact h
  | _ => rw [hop] at h; exact h

/-- whatever answers: a call that is kept -/
theorem vcE0_some {P : Program} {C : Hand} {ρ : Rho} {o : Oper} {st : St} {K : V → St → Prop} (h : vcE0 P C ρ o st K) {Q : CF → Prop} (hQ : Q fun _ _ _ => none)
    (hC : ∀ g args K, C g args st K → ∃ v st' cf, cf g args st = some (.ok v, st') ∧ Q cf ∧ K v st') :
    ∃ v st' cf, Q cf ∧ evalE0 P cf yfN ρ o st = some (.ok v, st') ∧ K v st' := by
  unfold vcE0 at h
  split at h
  · rename_i c hop
    split at h
    · rename_i f hc
      split at h
      · rename_i g first cap args hf ha
        split at h
        · rename_i v hv
          exact ⟨v, st, _, hQ, by simp only [evalE0, hop, hc, hf, ha, hv], h⟩
        · rename_i hv
          obtain ⟨v, st', cf, h1, h2, h3⟩ := hC _ _ _ h
          exact ⟨v, st', cf, h2, by simp only [evalE0, hop, hc, hf, ha, hv, h1], h3⟩
      · exact h.elim
    · rename_i r name hc
      split at h
      · rename_i t v args hr ha
        split at h
        · rename_i g hm
          obtain ⟨v, st', cf, h1, h2, h3⟩ := hC _ _ _ h
          exact ⟨v, st', cf, h2, by simp only [evalE0, hop, hc, hr, ha, hm, h1], h3⟩
        · exact h.elim
      · exact h.elim
    · split at h
      · rename_i v st' hv; exact ⟨v, st', _, hQ, hv, h⟩
      · exact h.elim
  · split at h
    · rename_i v st' hv; exact ⟨v, st', _, hQ, hv, h⟩
    · exact h.elim

def vcE (P : Program) (C : Hand) (ρ : Rho) (o : Oper) (st : St) (K : V → St → Prop) : Prop :=
  match appS P st ρ o with
  | some p => (match p with | (G, v, st') => G ∧ K v st')
  | none => vcE0 P C ρ o st K

theorem evalE_cf {P : Program} {cf : CF} {ρ : Rho} {o : Oper} {st : St} {r : CR × St} (h : evalE P (fun _ _ _ => none) yfN ρ o st = some r) : evalE P cf yfN ρ o st = some r := by
  unfold evalE at h ⊢
  split at h
  · exact h
  · exact evalE0_cf h

theorem vcE_some {P : Program} {C : Hand} {ρ : Rho} {o : Oper} {st : St} {K : V → St → Prop} (h : vcE P C ρ o st K) {Q : CF → Prop} (hQ : Q fun _ _ _ => none)
    (hC : ∀ g args K, C g args st K → ∃ v st' cf, cf g args st = some (.ok v, st') ∧ Q cf ∧ K v st') :
    ∃ v st' cf, Q cf ∧ evalE P cf yfN ρ o st = some (.ok v, st') ∧ K v st' := by
  unfold vcE at h
  split at h
  · rename_i p hp
    obtain ⟨G, v, st'⟩ := p
    exact ⟨v, st', _, hQ, by simp only [evalE, hp, askC_of h.1], h.2⟩
  · rename_i hp
    obtain ⟨v, st', cf, h1, h2, h3⟩ := vcE0_some h hQ hC
    exact ⟨v, st', cf, h1, by simp only [evalE, hp]; exact h2, h3⟩

theorem vcE_sound {P : Program} {E : Specs} {ρ : Rho} {o : Oper} {st : St} {K : V → St → Prop} (h : vcE P (handE E) ρ o st K) :
    ∃ v st', evalE P (cfE E) yfN ρ o st = some (.ok v, st') ∧ K v st' := by
  obtain ⟨v, st', cf, rfl | rfl, h2, h3⟩ := vcE_some (Q := fun cf => cf = cfE E ∨ cf = fun _ _ _ => none) h (.inr rfl) (fun g args K h => by
    unfold handE at h
    split at h
    · rename_i G v hfr hE
      exact ⟨v, _, cfE E, by simp only [cfE, hfr, hE, askC_of h.1], .inl rfl, h.2⟩
    · exact h.elim)
  · exact ⟨v, st', h2, h3⟩
  · exact ⟨v, st', evalE_cf h2, h3⟩

/-- who answers keeps what is kept -/
def HandOk (P : Program) (W0 : World) (C : Hand) : Prop := ∀ g args st K, C g args st K → ∃ v st', K v st' ∧ CallOk P W0 g args st (.ok v) st'

open Classical in
def cf1 (g : FuncId) (args : List V) (st : St) (r : CR × St) : CF := fun f a s => if f = g ∧ a = args ∧ s = st then some r else none
theorem cf1_ok {P : Program} {W0 : World} {g : FuncId} {args : List V} {st : St} {r : CR × St} (h : CallOk P W0 g args st r.1 r.2) : CFok P W0 (cf1 g args st r) := by
  intro f a s r' s' e
  unfold cf1 at e
  split at e
  · rename_i hh; obtain ⟨rfl, rfl, rfl⟩ := hh; cases e; exact h
  · cases e

theorem vcE_hand {P : Program} {W0 : World} {C : Hand} (hC : HandOk P W0 C) {ρ : Rho} {o : Oper} {st : St} {K : V → St → Prop} (h : vcE P C ρ o st K) :
    ∃ v st' cf, CFok P W0 cf ∧ evalE P cf yfN ρ o st = some (.ok v, st') ∧ K v st' :=
  vcE_some (Q := CFok P W0) h (fun _ _ _ _ _ h => by cases h) (fun g args K h => by
    obtain ⟨v, st', h1, h2⟩ := hC _ _ _ _ h
    refine ⟨v, st', cf1 g args st (.ok v, st'), ?_, cf1_ok h2, h1⟩
    unfold cf1; rw [if_pos ⟨rfl, rfl, rfl⟩])

theorem handE_ok {P : Program} {W0 : World} {s0 : St} {E : Specs} (hE : SpecsOk P s0 E) (hB : Tab s0 W0) : HandOk P W0 (handE E) := by
  intro g args st K h
  unfold handE at h
  split at h
  · rename_i G v hfr hg
    refine ⟨v, _, h.2, cfE_ok hE hB g args st _ _ ?_⟩
    simp only [cfE, hfr, hg, askC_of h.1]
  · exact h.elim

theorem vcA_sound {P : Program} {ρ : Rho} {o : Oper} {st : St} {KP KL : V → Prop} {KA : O → (Nat → V) → Prop} {KE : Prop} (h : vcA P ρ o st KP KL KA KE) :
    (∃ v, evalP P ρ o = some v ∧ KP v) ∨ (evalP P ρ o = none ∧ ((∃ v, evalL P st ρ o = some v ∧ KL v) ∨ (evalL P st ρ o = none ∧ ((∃ ob mk, evalA P ρ o = some (ob, mk) ∧ KA ob mk) ∨ (evalA P ρ o = none ∧ KE))))) := by
  unfold vcA at h
  split at h
  · rename_i v hv; exact .inl ⟨v, by simp only [evalP, hv], h⟩
  · rename_i h0
    split at h
    · rename_i G v hs
      have h : G ∧ KP v := by
        split at h
        · rename_i ht; exact ⟨symP_triv hs ht, h⟩
        · exact h
      exact .inl ⟨v, by simp only [evalP, h0, hs, askC_of h.1], h.2⟩
    · rename_i hs
      have hp : evalP P ρ o = none := by simp only [evalP, h0, hs]; rfl
      split at h
      · rename_i v hv; exact .inr ⟨hp, .inl ⟨v, hv, h⟩⟩
      · rename_i hl
        split at h
        · rename_i ob mk ha; exact .inr ⟨hp, .inr ⟨hl, .inl ⟨ob, mk, ha, h⟩⟩⟩
        · rename_i ha; exact .inr ⟨hp, .inr ⟨hl, .inr ⟨ha, h⟩⟩⟩

/-- a slot is known better -/
def Fm.setT (fm : Fm) (t : Nat) (v : V) : Fm := { fm with tm := fm.tm.set t (some v) }

theorem RF.setT {σ : Sg} {fm : Fm} {a : Act} {b : Frame} {t : Nat} {v u : V} (r : RF σ fm a b) (ht : fm.tm.get t = some u) (hv : ∀ x, RV σ u x → RV σ v x) : RF σ (fm.setT t v) a b := by
  refine ⟨⟨r.tm.1, fun s w hs => ?_⟩, r.df, r.rd⟩
  simp only [Fm.setT] at hs ⊢
  rw [Tri.get_set] at hs
  split at hs
  · rename_i e; subst e; obtain rfl := Option.some.inj hs
    obtain ⟨h1, h2⟩ := r.tm.2 _ _ ht
    exact ⟨h1, hv _ h2⟩
  · exact r.tm.2 _ _ hs

inductive Gd where
  | known (w : Bool)
  | sym (t : Nat) (b want : Bool)
  | bad

def guardOf (ops : Array Oper) (fm : Fm) (o : Oper) : Gd :=
  match o.guard with
  | none => .known true
  | some (j, want) => match (ops[j]?).bind (·.dst) with
    | none => .known false
    | some t => match fm.tm.get t with
      | some (.bool b) => .known (b == want)
      | some (.sb b) => .sym t b want
      | some (.tuple []) => .known false
      | _ => .bad

theorem guardOf_known {ops : Array Oper} {fm : Fm} {o : Oper} {w : Bool} (h : guardOf ops fm o = .known w) : wantedV ops fm o = some w := by
  unfold guardOf at h
  unfold wantedV
  split at h
  · cases h; rename_i hg; rw [hg]
  · rename_i j want hg
    rw [hg]
    simp only
    split at h
    · rename_i hd; cases h; rw [hd]
    · rename_i t hd
      rw [hd]
      simp only
      split at h <;> cases h <;> rename_i hv <;> rw [hv]

theorem guardOf_sym {ops : Array Oper} {fm : Fm} {o : Oper} {t : Nat} {b want : Bool} (h : guardOf ops fm o = .sym t b want) :
    fm.tm.get t = some (.sb b) ∧ ∀ c, wantedV ops (fm.setT t (.bool c)) o = some (c == want) := by
  unfold guardOf at h
  split at h
  · cases h
  · rename_i j want' hg
    split at h
    · cases h
    · rename_i t' hd
      split at h <;> cases h
      rename_i hv
      refine ⟨hv, fun c => ?_⟩
      unfold wantedV
      rw [hg]; simp only; rw [hd]; simp only [Fm.setT]
      rw [Tri.get_set, if_pos rfl]

def putK (fm : Fm) (d : Option Tmp) (v : V) (K : Fm → Prop) : Prop :=
  match fm.put d v with
  | some fm' => K fm'
  | none => False

def vcSeq (P : Program) (C : Hand) (ops : Array Oper) : List Oper → Fm → St → (Fm → St → Prop) → Prop
  | [], fm, st, K => K fm st
  | o :: os, fm, st, K =>
    let yes (fm : Fm) : Prop := match isDefer o.op with
      | some _ => False
      | none => vcA P fm.rho o st (fun v => putK fm o.dst v fun fm' => vcSeq P C ops os fm' st K) (fun v => putK fm o.dst v fun fm' => vcSeq P C ops os fm' st K)
          (fun ob mk => putK fm o.dst (mk st.next) fun fm' => vcSeq P C ops os fm' (st.add ob) K)
          (vcE P C fm.rho o st fun v st' => putK fm o.dst v fun fm' => vcSeq P C ops os fm' st' K)
    let no (fm : Fm) : Prop := putK fm o.dst (.tuple []) fun fm' => vcSeq P C ops os fm' st K
    match guardOf ops fm o with
    | .known true => yes fm
    | .known false => no fm
    | .sym t b want => (b = true → match want with | true => yes (fm.setT t (.bool true)) | false => no (fm.setT t (.bool true))) ∧
        (b = false → match want with | true => no (fm.setT t (.bool false)) | false => yes (fm.setT t (.bool false)))
    | .bad => False

theorem putK_some {fm : Fm} {d : Option Tmp} {v : V} {K : Fm → Prop} (h : putK fm d v K) : ∃ fm', fm.put d v = some fm' ∧ K fm' := by
  unfold putK at h
  split at h
  · rename_i fm' hf; exact ⟨fm', hf, h⟩
  · exact h.elim

theorem vcSeq_sound {P : Program} {W0 : World} {C : Hand} (hC : HandOk P W0 C) {ops : Array Oper} {K : Fm → St → Prop} :
    ∀ (os : List Oper) (i : Nat) (fm : Fm) (st : St), ops.toList.drop i = os → vcSeq P C ops os fm st K → ∃ fm' st', K fm' st' ∧ ∀ σ w a (b : Frame) (k : List Item) (cs : List Frame), Rel W0 σ st w → RF σ fm a b →
      ∃ σ' w' a', Rel W0 σ' st' w' ∧ Post σ st σ' st' ∧ RF σ' fm' a' b ∧ Steps P (lone (Fat b a (.inRegion ops (List.range' i os.length) :: k)) cs w) (lone (Fat b a' k) cs w') := by
  intro os
  induction os with
  | nil =>
    intro i fm st hd h
    exact ⟨fm, st, h, fun σ w a b k cs hR hF => ⟨σ, w, a, hR, .refl _ _, hF, .one s_regionEnd⟩⟩
  | cons o os ih =>
    intro i fm st hd h
    have hi : i < ops.toList.length := by
      rcases Nat.lt_or_ge i ops.toList.length with h1 | h1
      · exact h1
      · rw [List.drop_of_length_le h1] at hd; cases hd
    have hd2 : ops.toList.drop (i + 1) = os := by
      rw [List.drop_eq_getElem_cons hi] at hd; injection hd
    have ho : ops[i]? = some o := by
      rw [List.drop_eq_getElem_cons hi] at hd
      injection hd with hd1 _
      rw [← Array.getElem?_toList, List.getElem?_eq_getElem hi, hd1]
    have hrng : List.range' i (o :: os).length = i :: List.range' (i + 1) os.length := by rw [List.length_cons, List.range'_succ]
    rw [hrng]
    simp only [vcSeq] at h
    have no : ∀ fm, wantedV ops fm o = some false → (putK fm o.dst (.tuple []) fun fm' => vcSeq P C ops os fm' st K) →
        ∃ fm' st', K fm' st' ∧ ∀ σ w a (b : Frame) (k : List Item) (cs : List Frame), Rel W0 σ st w → RF σ fm a b →
          ∃ σ' w' a', Rel W0 σ' st' w' ∧ Post σ st σ' st' ∧ RF σ' fm' a' b ∧ Steps P (lone (Fat b a (.inRegion ops (i :: List.range' (i + 1) os.length) :: k)) cs w) (lone (Fat b a' k) cs w') := by
      intro fm hw h
      obtain ⟨fm1, hput, h⟩ := putK_some h
      obtain ⟨fm', st', g1, g2⟩ := ih (i + 1) fm1 st hd2 h
      refine ⟨fm', st', g1, fun σ w a b k cs hR hF => ?_⟩
      have hwv := wantedV_sound hw hF.tm.reads
      obtain ⟨σ', w', a', g3, g4, g5, g6⟩ := g2 σ w _ b k cs hR (Fm.put_sound hput hF (RV.undef σ))
      exact ⟨σ', w', a', g3, g4, g5, .head (s_skipOp ho hwv) g6⟩
    have yes : ∀ fm, wantedV ops fm o = some true → (match isDefer o.op with
        | some _ => False
        | none => vcA P fm.rho o st (fun v => putK fm o.dst v fun fm' => vcSeq P C ops os fm' st K) (fun v => putK fm o.dst v fun fm' => vcSeq P C ops os fm' st K)
          (fun ob mk => putK fm o.dst (mk st.next) fun fm' => vcSeq P C ops os fm' (st.add ob) K)
          (vcE P C fm.rho o st fun v st' => putK fm o.dst v fun fm' => vcSeq P C ops os fm' st' K)) →
        ∃ fm' st', K fm' st' ∧ ∀ σ w a (b : Frame) (k : List Item) (cs : List Frame), Rel W0 σ st w → RF σ fm a b →
          ∃ σ' w' a', Rel W0 σ' st' w' ∧ Post σ st σ' st' ∧ RF σ' fm' a' b ∧ Steps P (lone (Fat b a (.inRegion ops (i :: List.range' (i + 1) os.length) :: k)) cs w) (lone (Fat b a' k) cs w') := by
      intro fm hw h
      split at h
      · exact h.elim
      · -- the operation comes to a value
        have key : ∃ v st1 cf, CFok P W0 cf ∧ evalOp P cf yfN fm.rho o st = some (.ok v, st1) ∧ putK fm o.dst v fun fm' => vcSeq P C ops os fm' st1 K := by
          have hn : CFok P W0 (fun _ _ _ => none) := fun _ _ _ _ _ h => by cases h
          rcases vcA_sound h with ⟨v, h1, h2⟩ | ⟨h0, ⟨v, h1, h2⟩ | ⟨h1, ⟨ob, mk, h2, h3⟩ | ⟨h2, h3⟩⟩⟩
          · exact ⟨v, st, _, hn, by simp only [evalOp, h1], h2⟩
          · exact ⟨v, st, _, hn, by simp only [evalOp, h0, h1], h2⟩
          · exact ⟨mk st.next, st.add ob, _, hn, by simp only [evalOp, h0, h1, h2], h3⟩
          · obtain ⟨v, st1, cf, hcf, h4, h5⟩ := vcE_hand hC h3
            exact ⟨v, st1, cf, hcf, by simp only [evalOp, h0, h1, h2]; exact h4, h5⟩
        obtain ⟨v, st1, cf, hcf, hev, h⟩ := key
        obtain ⟨fm1, hput, h⟩ := putK_some h
        obtain ⟨fm', st', g1, g2⟩ := ih (i + 1) fm1 st1 hd2 h
        refine ⟨fm', st', g1, fun σ w a b k cs hR hF => ?_⟩
        have hwv := wantedV_sound hw hF.tm.reads
        have hrd := rho_reads hF.tm.reads (ops := ops) (o := o)
        obtain ⟨σ1, w1, hR1, hP1, z, hz, hst⟩ := evalOp_sound (b := b) (k := k) (cs := cs) (rest := List.range' (i + 1) os.length) hcf yfN_ok hR hev hrd ho hwv
        obtain ⟨σ', w', a', g3, g4, g5, g6⟩ := g2 σ1 w1 _ b k cs hR1 (Fm.put_sound hput (hF.mono hP1.le) hz)
        exact ⟨σ', w', a', g3, hP1.trans g4, g5, hst.trans g6⟩
    have set : ∀ {fm2 : Fm} {t : Nat} {c : Bool}, fm2 = fm.setT t (.bool c) → fm.tm.get t = some (.sb c) → (∃ fm' st', K fm' st' ∧ ∀ σ w a (b : Frame) (k : List Item) (cs : List Frame), Rel W0 σ st w → RF σ fm2 a b →
          ∃ σ' w' a', Rel W0 σ' st' w' ∧ Post σ st σ' st' ∧ RF σ' fm' a' b ∧ Steps P (lone (Fat b a (.inRegion ops (i :: List.range' (i + 1) os.length) :: k)) cs w) (lone (Fat b a' k) cs w')) →
        ∃ fm' st', K fm' st' ∧ ∀ σ w a (b : Frame) (k : List Item) (cs : List Frame), Rel W0 σ st w → RF σ fm a b →
          ∃ σ' w' a', Rel W0 σ' st' w' ∧ Post σ st σ' st' ∧ RF σ' fm' a' b ∧ Steps P (lone (Fat b a (.inRegion ops (i :: List.range' (i + 1) os.length) :: k)) cs w) (lone (Fat b a' k) cs w') := by
      rintro fm2 t c rfl ht ⟨fm', st', g1, g2⟩
      exact ⟨fm', st', g1, fun σ w a b k cs hR hF => g2 σ w a b k cs hR (hF.setT ht (fun x hx => hx))⟩
    split at h
    · rename_i hg; exact yes fm (guardOf_known hg) h
    · rename_i hg; exact no fm (guardOf_known hg) h
    · rename_i t c want hg
      obtain ⟨hs1, hs2⟩ := guardOf_sym hg
      cases c with
      | true =>
        have h := h.1 rfl
        have hs := hs2 true
        cases want with
        | true => exact set rfl hs1 (yes _ hs h)
        | false => exact set rfl hs1 (no _ hs h)
      | false =>
        have h := h.2 rfl
        have hs := hs2 false
        cases want with
        | true => exact set rfl hs1 (no _ hs h)
        | false => exact set rfl hs1 (yes _ hs h)
    · exact h.elim

/-! ### regions whose order is drawn -/
def vcNb (v : V) (K : V → Prop) : Prop :=
  match v with
  | .sb b => (b = true → K (.bool true)) ∧ (b = false → K (.bool false))
  | v => K v
theorem vcNb_sound {v : V} {K : V → Prop} (h : vcNb v K) : K v.nb := by
  cases v with
  | sb b => cases b with
    | true => exact h.1 rfl
    | false => exact h.2 rfl
  | _ => exact h

mutual
/-- are two values the same? told by their leaves -/
def eqVP (w : V) : V → Prop
  | .si k n => match w with | .si k' m => (match decide (k' = k) with | true => m = n | false => False) | _ => False
  | .sb b => match w with | .sb c => c = b | _ => False
  | .ss l => match w with | .ss m => m = l | _ => False
  | .agg vs => match w with | .agg ws => eqVPs ws vs | _ => False
  | .tuple vs => match w with | .tuple ws => eqVPs ws vs | _ => False
  | .ro t n sz es => match w with | .ro t' n' sz' es' => t' = t ∧ n' = n ∧ sz' = sz ∧ es' = es | _ => False
  | .rp n sz es i f => match w with | .rp n' sz' es' i' f' => n' = n ∧ sz' = sz ∧ es' = es ∧ i' = i ∧ f' = f | _ => False
  | .acc i sz ns es => match w with | .acc i' sz' ns' es' => i' = i ∧ sz' = sz ∧ ns' = ns ∧ es' = es | _ => False
  | .px g i o n k => match w with | .px g' i' o' n' k' => (match g, g', Nat.beq i' i, Nat.beq o' o, Nat.beq n' n with | true, true, true, true, true => k' = k | false, false, true, true, true => k' = k | _, _, _, _, _ => False) | _ => False
  | v => match V.same w v with | true => True | false => False
def eqVPs (ws : List V) : List V → Prop
  | [] => match ws with | [] => True | _ => False
  | v :: vs => match ws with | w :: ws => eqVP w v ∧ eqVPs ws vs | [] => False
end

mutual
theorem eqVP_sound : ∀ (v w : V), eqVP w v → w = v
  | .si k n, w, h => by
    cases w <;> simp only [eqVP] at h
    split at h
    · rename_i e; have e := of_decide_eq_true e; subst e h; rfl
    · exact h.elim
  | .sb b, w, h => by cases w <;> simp only [eqVP] at h; rw [h]
  | .ss l, w, h => by cases w <;> simp only [eqVP] at h; rw [h]
  | .agg vs, w, h => by cases w <;> simp only [eqVP] at h; rw [eqVPs_sound _ _ h]
  | .tuple vs, w, h => by cases w <;> simp only [eqVP] at h; rw [eqVPs_sound _ _ h]
  | .ro t n sz es, w, h => by cases w <;> simp only [eqVP] at h; obtain ⟨rfl, rfl, rfl, rfl⟩ := h; rfl
  | .rp n sz es i f, w, h => by cases w <;> simp only [eqVP] at h; obtain ⟨rfl, rfl, rfl, rfl, rfl⟩ := h; rfl
  | .acc i sz ns es, w, h => by cases w <;> simp only [eqVP] at h; obtain ⟨rfl, rfl, rfl, rfl⟩ := h; rfl
  | .px g i o n k, w, h => by
    cases w <;> simp only [eqVP] at h
    split at h
    · rename_i e1 e2 e3; obtain rfl := Nat.eq_of_beq_eq_true e1; obtain rfl := Nat.eq_of_beq_eq_true e2; obtain rfl := Nat.eq_of_beq_eq_true e3; rw [h]
    · rename_i e1 e2 e3; obtain rfl := Nat.eq_of_beq_eq_true e1; obtain rfl := Nat.eq_of_beq_eq_true e2; obtain rfl := Nat.eq_of_beq_eq_true e3; rw [h]
    · exact h.elim
  | .bool _, w, h => by simp only [eqVP] at h; split at h <;> first | exact same_sound ‹_› | exact h.elim
  | .int _ _, w, h => by simp only [eqVP] at h; split at h <;> first | exact same_sound ‹_› | exact h.elim
  | .str _, w, h => by simp only [eqVP] at h; split at h <;> first | exact same_sound ‹_› | exact h.elim
  | .nilp, w, h => by simp only [eqVP] at h; split at h <;> first | exact same_sound ‹_› | exact h.elim
  | .ptr _ _, w, h => by simp only [eqVP] at h; split at h <;> first | exact same_sound ‹_› | exact h.elim
  | .nils, w, h => by simp only [eqVP] at h; split at h <;> first | exact same_sound ‹_› | exact h.elim
  | .slice _ _ _ _, w, h => by simp only [eqVP] at h; split at h <;> first | exact same_sound ‹_› | exact h.elim
  | .nilmap, w, h => by simp only [eqVP] at h; split at h <;> first | exact same_sound ‹_› | exact h.elim
  | .map _, w, h => by simp only [eqVP] at h; split at h <;> first | exact same_sound ‹_› | exact h.elim
  | .func _ _ _, w, h => by simp only [eqVP] at h; split at h <;> first | exact same_sound ‹_› | exact h.elim
  | .yield _, w, h => by simp only [eqVP] at h; split at h <;> first | exact same_sound ‹_› | exact h.elim
  | .nilFunc, w, h => by simp only [eqVP] at h; split at h <;> first | exact same_sound ‹_› | exact h.elim
  | .iface _ _, w, h => by simp only [eqVP] at h; split at h <;> first | exact same_sound ‹_› | exact h.elim
  | .nilIface, w, h => by simp only [eqVP] at h; split at h <;> first | exact same_sound ‹_› | exact h.elim
  | .glob _ _, w, h => by simp only [eqVP] at h; split at h <;> first | exact same_sound ‹_› | exact h.elim
theorem eqVPs_sound : ∀ (vs ws : List V), eqVPs ws vs → ws = vs
  | [], ws, h => by cases ws <;> simp only [eqVPs] at h; rfl
  | v :: vs, ws, h => by
    cases ws <;> simp only [eqVPs] at h
    rw [eqVP_sound v _ h.1, eqVPs_sound vs _ h.2]
end

def vcNbw (w : Bool) (v : V) (K : V → Prop) : Prop :=
  match w with
  | true => vcNb v K
  | false => K v
theorem vcNbw_sound {w : Bool} {v : V} {K : V → Prop} (h : vcNbw w v K) : K (v.nbw w) := by
  cases w with
  | true => exact vcNb_sound h
  | false => exact h

/-- what was loaded; is memory still as it was then? -/
abbrev FL := Bool × PL
def stale : List FL → List FL
  | [] => []
  | p :: ps => (false, p.2) :: stale ps
theorem stale_snd : ∀ (l : List FL), (stale l).map Prod.snd = l.map Prod.snd
  | [] => rfl
  | p :: ps => by simp [stale, stale_snd ps]
theorem stale_false : ∀ (l : List FL), ∀ p ∈ stale l, p.1 = false
  | [], p, h => by cases h
  | q :: ps, p, h => by
    rcases List.mem_cons.1 h with rfl | h
    · rfl
    · exact stale_false ps p h

def vcRe (ops : Array Oper) (P : Program) (st : St) : List FL → Prop → Prop
  | [], R => R
  | (true, _) :: ps, R => vcRe ops P st ps R
  | (false, p) :: ps, R => match evalL P st p.fm.rho p.o with
    | some v => eqVP (v.nbw (guards ops p.o)) p.v ∧ vcRe ops P st ps R
    | none => False

def Fresh (ops : Array Oper) (P : Program) (st : St) (pl : List FL) : Prop := ∀ p, (true, p) ∈ pl → evalLn ops P st p.fm.rho p.o = some p.v

theorem vcRe_sound {ops : Array Oper} {P : Program} {st : St} : ∀ {pl : List FL} {R : Prop}, Fresh ops P st pl → vcRe ops P st pl R → recheck ops P st (pl.map Prod.snd) = true ∧ R
  | [], R, _, h => ⟨rfl, h⟩
  | (true, p) :: ps, R, hf, h => by
    simp only [vcRe] at h
    obtain ⟨h1, h2⟩ := vcRe_sound (fun q hq => hf q (List.mem_cons_of_mem _ hq)) h
    refine ⟨?_, h2⟩
    simp only [List.map_cons, recheck, hf p (by simp), sameC_of rfl, h1]
  | (false, p) :: ps, R, hf, h => by
    simp only [vcRe] at h
    split at h
    · rename_i v hv
      obtain ⟨hs, h⟩ := h
      obtain ⟨h1, h2⟩ := vcRe_sound (fun q hq => hf q (List.mem_cons_of_mem _ hq)) h
      refine ⟨?_, h2⟩
      simp only [List.map_cons, recheck, evalLn, hv, Option.map_some, sameC_of (eqVP_sound _ _ hs), h1]
    · exact h.elim

def vcEd0 (P : Program) (E : Specs) (ρ : Rho) (o : Oper) (st : St) (Kp : V → Prop) (K : V → St → Prop) : Prop :=
  match o.op with
  | .call c => match c.callee with
    | .value f => match ρ f, rhoAll ρ c.args.toList with
      | some (.func (.func g) first cap), some args => match externV P g (first ++ args ++ cap) with
        | some v => Kp v
        | none => match freesAll (frzds (st.frzs (idsL (first ++ args ++ cap))) (first ++ args ++ cap)), E g (frzds (st.frzs (idsL (first ++ args ++ cap))) (first ++ args ++ cap)) with
          | true, some (G, v) => G ∧ (match idsL (first ++ args ++ cap) with | [] => Kp v | _ :: _ => K v (st.frzs (idsL (first ++ args ++ cap))))
          | _, _ => False
      | _, _ => False
    | .invoke r name => match ρ r, rhoAll ρ c.args.toList with
      | some (.iface t v), some args => match methodV P t name with
        | some g => match freesAll (frzds (st.frzs (idsL (v :: args))) (v :: args)), E g (frzds (st.frzs (idsL (v :: args))) (v :: args)) with
          | true, some (G, u) => G ∧ (match idsL (v :: args) with | [] => Kp u | _ :: _ => K u (st.frzs (idsL (v :: args))))
          | _, _ => False
        | none => False
      | _, _ => False
    | _ => match evalE0 P (fun _ _ _ => none) yfN ρ o st with
      | some (.ok v, st') => K v st'
      | _ => False
  | _ => match evalE0 P (fun _ _ _ => none) yfN ρ o st with
    | some (.ok v, st') => K v st'
    | _ => False

theorem vcEd0_sound {P : Program} {E : Specs} {ρ : Rho} {o : Oper} {st : St} {Kp : V → Prop} {K : V → St → Prop} (h : vcEd0 P E ρ o st Kp K) :
    ∃ v st', evalE0 P (cfE E) yfN ρ o st = some (.ok v, st') ∧ ((st' = st ∧ Kp v) ∨ K v st') := by
  unfold vcEd0 at h
  split at h
  · rename_i c hop
    split at h
    · rename_i f hc
      split at h
      · rename_i g first cap args hf ha
        split at h
        · rename_i v hv
          exact ⟨v, st, by simp only [evalE0, hop, hc, hf, ha, hv], .inl ⟨rfl, h⟩⟩
        · rename_i hv
          split at h
          · rename_i G v hfr hE
            obtain ⟨hG, h⟩ := h
            refine ⟨v, _, by simp only [evalE0, hop, hc, hf, ha, hv, cfE, hfr, hE, askC_of hG]; rfl, ?_⟩
            split at h
            · rename_i hi; rw [hi]; exact .inl ⟨rfl, h⟩
            · exact .inr h
          · exact h.elim
      · exact h.elim
    · rename_i r name hc
      split at h
      · rename_i t v args hr ha
        split at h
        · rename_i g hm
          split at h
          · rename_i G u hfr hE
            obtain ⟨hG, h⟩ := h
            refine ⟨u, _, by simp only [evalE0, hop, hc, hr, ha, hm, cfE, hfr, hE, askC_of hG]; rfl, ?_⟩
            split at h
            · rename_i hi; rw [hi]; exact .inl ⟨rfl, h⟩
            · exact .inr h
          · exact h.elim
        · exact h.elim
      · exact h.elim
    · split at h
      · rename_i v st' hv; exact ⟨v, st', evalE0_cf hv, .inr h⟩
      · exact h.elim
  · split at h
    · rename_i v st' hv; exact ⟨v, st', evalE0_cf hv, .inr h⟩
    · exact h.elim

def vcEd (P : Program) (E : Specs) (ρ : Rho) (o : Oper) (st : St) (Kp : V → Prop) (K : V → St → Prop) : Prop :=
  match appS P st ρ o with
  | some p => (match p with | (G, v, st') => G ∧ K v st')
  | none => vcEd0 P E ρ o st Kp K
theorem vcEd_sound {P : Program} {E : Specs} {ρ : Rho} {o : Oper} {st : St} {Kp : V → Prop} {K : V → St → Prop} (h : vcEd P E ρ o st Kp K) :
    ∃ v st', evalE P (cfE E) yfN ρ o st = some (.ok v, st') ∧ ((st' = st ∧ Kp v) ∨ K v st') := by
  unfold vcEd at h
  split at h
  · rename_i p hp
    obtain ⟨G, v, st'⟩ := p
    exact ⟨v, st', by simp only [evalE, hp, askC_of h.1], .inr h.2⟩
  · rename_i hp
    obtain ⟨v, st', h1, h2⟩ := vcEd0_sound h
    exact ⟨v, st', by simp only [evalE, hp]; exact h1, h2⟩

/-! ### what is reckoned is reckoned once: the same thing, with its parts reckoned out -/
def fN (n : Nat) (K : Nat → Prop) : Prop := @Nat.rec (fun _ => Prop) (K 0) (fun m _ => K (m + 1)) n
theorem fN_eq (n : Nat) (K : Nat → Prop) : fN n K = K n := by cases n <;> rfl
def fI (n : Int) (K : Int → Prop) : Prop := @Int.rec (fun _ => Prop) (fun m => fN m fun m => K (.ofNat m)) (fun m => fN m fun m => K (.negSucc m)) n
theorem fI_eq (n : Int) (K : Int → Prop) : fI n K = K n := by cases n <;> simp [fI, fN_eq]
def fB (b : Bool) (K : Bool → Prop) : Prop := @Bool.rec (fun _ => Prop) (K false) (K true) b
theorem fB_eq (b : Bool) (K : Bool → Prop) : fB b K = K b := by cases b <;> rfl
def fC (c : Cap) (K : Cap → Prop) : Prop := match c with | .known c => fN c fun c => K (.known c) | .opn c => fN c fun c => K (.opn c)
theorem fC_eq (c : Cap) (K : Cap → Prop) : fC c K = K c := by cases c <;> simp [fC, fN_eq]
def fL : List (Option Nat) → (List (Option Nat) → Prop) → Prop
  | [], K => K []
  | s :: t, K => match s with
    | none => fL t fun t => K (none :: t)
    | some n => fL t fun t => K (some n :: t)
theorem fL_eq : ∀ (l : List (Option Nat)) (K : List (Option Nat) → Prop), fL l K = K l
  | [], K => rfl
  | none :: t, K => by simp only [fL, fL_eq t]
  | some n :: t, K => by simp only [fL, fL_eq t]
mutual
def fV : V → (V → Prop) → Prop
  | .bool b, K => fB b fun b => K (.bool b)
  | .ptr i o, K => fN i fun i => fN o fun o => K (.ptr i o)
  | .slice i o n c, K => fN i fun i => fN o fun o => fN n fun n => fC c fun c => K (.slice i o n c)
  | .map i, K => fN i fun i => K (.map i)
  | .agg cs, K => fVs cs fun cs => K (.agg cs)
  | .tuple cs, K => fVs cs fun cs => K (.tuple cs)
  | .iface t v, K => fV v fun v => K (.iface t v)
  | .func f a b, K => fVs a fun a => fVs b fun b => K (.func f a b)
  | .acc i sz ns es, K => fN i fun i => fL ns fun ns => K (.acc i sz ns es)
  | .px g i o n k, K => fB g fun g => fN i fun i => fN o fun o => fN n fun n => K (.px g i o n k)
  | v, K => K v
def fVs : List V → (List V → Prop) → Prop
  | [], K => K []
  | v :: vs, K => fV v fun v => fVs vs fun vs => K (v :: vs)
end
mutual
theorem fV_eq : ∀ (v : V) (K : V → Prop), fV v K = K v
  | .bool b, K => by simp only [fV, fB_eq]
  | .int _ _, K => by simp only [fV]
  | .ptr i o, K => by simp only [fV, fN_eq]
  | .slice i o n c, K => by simp only [fV, fN_eq, fC_eq]
  | .map i, K => by simp only [fV, fN_eq]
  | .agg cs, K => by simp only [fV, fVs_eq cs]
  | .tuple cs, K => by simp only [fV, fVs_eq cs]
  | .iface t v, K => by simp only [fV, fV_eq v]
  | .func f a b, K => by simp only [fV, fVs_eq a, fVs_eq b]
  | .str _, K => by simp only [fV]
  | .nilp, K => by simp only [fV]
  | .nils, K => by simp only [fV]
  | .nilmap, K => by simp only [fV]
  | .yield _, K => by simp only [fV]
  | .nilFunc, K => by simp only [fV]
  | .nilIface, K => by simp only [fV]
  | .glob _ _, K => by simp only [fV]
  | .sb _, K => by simp only [fV]
  | .si _ _, K => by simp only [fV]
  | .ss _, K => by simp only [fV]
  | .ro _ _ _ _, K => by simp only [fV]
  | .rp _ _ _ _ _, K => by simp only [fV]
  | .acc _ _ _ _, K => by simp only [fV, fN_eq, fL_eq]
  | .px _ _ _ _ _, K => by simp only [fV, fN_eq, fB_eq]
theorem fVs_eq : ∀ (vs : List V) (K : List V → Prop), fVs vs K = K vs
  | [], K => by simp only [fVs]
  | v :: vs, K => by simp only [fVs, fV_eq v, fVs_eq vs]
end
def fT {α : Type} (f : α → (α → Prop) → Prop) : Tri α → (Tri α → Prop) → Prop
  | .nil, K => K .nil
  | .node l v r, K => fT f l fun l => (match v with | some v => f v fun v => fT f r fun r => K (.node l (some v) r) | none => fT f r fun r => K (.node l none r))
theorem fT_eq {α : Type} {f : α → (α → Prop) → Prop} (hf : ∀ x K, f x K = K x) : ∀ (t : Tri α) (K : Tri α → Prop), fT f t K = K t
  | .nil, K => rfl
  | .node l v r, K => by
    simp only [fT, fT_eq hf l, fT_eq hf r]
    cases v <;> simp [hf]
def fO (o : O) (K : O → Prop) : Prop :=
  match o with
  | .row n c opn tip pe => fN n fun n => fT fV c fun c => fB opn fun opn => fB tip fun tip => K (.row n c opn tip pe)
  | .frow n c => fN n fun n => fT fV c fun c => K (.frow n c)
  | o => K o
theorem fO_eq (o : O) (K : O → Prop) : fO o K = K o := by cases o <;> simp [fO, fN_eq, fT_eq fV_eq, fB_eq]
def fS (fm : Fm) (st : St) (K : Fm → St → Prop) : Prop :=
  match fm, st with
  | ⟨n, tm, df, rd⟩, ⟨next, mem, glob, ok⟩ => fT fV tm fun tm => fN next fun next => fT fO mem fun mem => K ⟨n, tm, df, rd⟩ ⟨next, mem, glob, ok⟩
theorem fS_eq (fm : Fm) (st : St) (K : Fm → St → Prop) : fS fm st K = K fm st := by
  cases fm; cases st; simp [fS, fT_eq fV_eq, fN_eq, fT_eq fO_eq]
def fSw (w : Bool) (fm : Fm) (st : St) (K : Fm → St → Prop) : Prop := match w with | true => fS fm st K | false => K fm st
theorem fSw_eq (w : Bool) (fm : Fm) (st : St) (K : Fm → St → Prop) : fSw w fm st K = K fm st := by cases w; rfl; exact fS_eq fm st K

def vcCanon (P : Program) (E : Specs) (ops : Array Oper) (c : Nat → Nat → Bool) : List Nat → Fm → St → List FL → (Fm → St → Prop) → Prop
  | [], fm, st, pl, K => vcRe ops P st pl (K fm st)
  | i :: is, fm, st, pl, K => match ops[i]? with
    | none => False
    | some o => match wantedV ops fm o with
      | none => False
      | some false => putK fm o.dst (.tuple []) fun fm' => vcCanon P E ops c is fm' st pl K
      | some true => match isE o.op with
        | false => vcA P fm.rho o st (fun v => vcNbw (guards ops o) v fun v => putK fm o.dst v fun fm' => fSw (guards ops o) fm' st fun fm' st => vcCanon P E ops c is fm' st pl K)
            (fun v => vcNbw (guards ops o) v fun v => putK fm o.dst v fun fm' => fSw (guards ops o) fm' st fun fm' st => vcCanon P E ops c is fm' st ((true, ⟨i, o, fm, v⟩) :: pl) K)
            (fun ob mk => putK fm o.dst (mk st.next) fun fm' => vcCanon P E ops c is fm' (st.add ob) (stale pl) K) False
        | true => vcRe ops P st pl (vcEd P E fm.rho o st (fun v => vcNbw (guards ops o) v fun v => putK fm o.dst v fun fm' => fSw true fm' st fun fm' st => vcCanon P E ops c is fm' st (pl.filter fun p => !c i p.2.i) K)
            (fun v st' => vcNbw (guards ops o) v fun v => putK fm o.dst v fun fm' => fSw true fm' st' fun fm' st' => vcCanon P E ops c is fm' st' (stale (pl.filter fun p => !c i p.2.i)) K))

theorem vcCanon_sound {P : Program} {E : Specs} {ops : Array Oper} {c : Nat → Nat → Bool} {fm0 : Fm} {K : Fm → St → Prop} : ∀ (is : List Nat) (fm : Fm) (st : St) (pl : List FL), Fresh ops P st pl → vcCanon P E ops c is fm st pl K →
    ∃ fm' st', canon P (cfE E) yfN ops c fm0 is fm st (pl.map Prod.snd) = some (.normal, fm', st') ∧ K fm' st' := by
  intro is
  induction is with
  | nil =>
    intro fm st pl hf h
    simp only [vcCanon] at h
    obtain ⟨h1, h2⟩ := vcRe_sound hf h
    exact ⟨fm, st, by simp only [canon, h1], h2⟩
  | cons i is ih =>
    intro fm st pl hf h
    have hst : ∀ st' l, Fresh ops P st' (stale l) := fun st' l p hp => by have := stale_false l _ hp; cases this
    have hfl : ∀ l : List FL, (l.filter fun p => !c i p.2.i).map Prod.snd = (l.map Prod.snd).filter fun p => !c i p.i := by
      intro l; rw [List.filter_map]; rfl
    simp only [vcCanon, fSw_eq] at h
    simp only [canon]
    split at h
    · exact h.elim
    · rename_i o ho
      simp only [ho]
      split at h
      · exact h.elim
      · rename_i hw
        obtain ⟨fm1, hput, h⟩ := putK_some h
        simp only [hw, hput]
        exact ih _ _ _ hf h
      · rename_i hw
        simp only [hw]
        split at h
        · rename_i hE
          simp only [hE]
          rcases vcA_sound h with ⟨v, h1, h2⟩ | ⟨h0, ⟨v, h1, h2⟩ | ⟨h1, ⟨ob, mk, h2, h3⟩ | ⟨h2, h3⟩⟩⟩
          · obtain ⟨fm1, hput, h⟩ := putK_some (vcNbw_sound h2)
            simp only [evalPn, h1, Option.map_some, hput]
            exact ih _ _ _ hf h
          · obtain ⟨fm1, hput, h⟩ := putK_some (vcNbw_sound h2)
            simp only [evalPn, h0, evalLn, h1, Option.map_some, Option.map_none, hput]
            refine ih fm1 st ((_, ⟨i, o, fm, v.nbw (guards ops o)⟩) :: pl) ?_ h
            intro p hp
            rcases List.mem_cons.1 hp with e | hp
            · obtain ⟨_, rfl⟩ := Prod.mk.inj e
              simp only [evalLn, h1, Option.map_some]
            · exact hf p hp
          · obtain ⟨fm1, hput, h⟩ := putK_some h3
            simp only [evalPn, h0, evalLn, h1, Option.map_none, h2, hput]
            rw [← stale_snd]
            exact ih _ _ _ (hst _ _) h
          · exact h3.elim
        · rename_i hE
          simp only [hE]
          obtain ⟨hr, h⟩ := vcRe_sound hf h
          obtain ⟨v, st1, h4, ⟨rfl, h5⟩ | h5⟩ := vcEd_sound h
          · obtain ⟨fm1, hput, h⟩ := putK_some (vcNbw_sound h5)
            simp only [hr, evalEn, h4, Option.map_some, CR.nb, hput]
            rw [← hfl]
            exact ih _ _ _ (fun p hp => hf p (List.mem_filter.1 hp).1) h
          · obtain ⟨fm1, hput, h⟩ := putK_some (vcNbw_sound h5)
            simp only [hr, evalEn, h4, Option.map_some, CR.nb, hput]
            rw [← hfl, ← stale_snd]
            exact ih _ _ _ (hst _ _) h

/-! ### what is to do: a stack, in which a loop's head stands with what is known of it -/
inductive VI where
  | it (i : Item)
  | head (i : Item) (A : Fm → St → Prop)
def VI.er : VI → Item
  | .it i => i
  | .head i _ => i

def exitV (id : Nat) : List VI → Option (List VI)
  | [] => none
  | .it (.inBlock i) :: k => match Nat.beq i id with
    | true => some k
    | false => exitV id k
  | .it (.code _) :: k => exitV id k
  | .it (.inLoop _) :: k => exitV id k
  | .it (.inScope _) :: k => exitV id k
  | .head (.inLoop _) _ :: k => exitV id k
  | .head (.code _) _ :: k => exitV id k
  | _ => none

theorem exitV_er {id : Nat} : ∀ (k k' : List VI), exitV id k = some k' → exitTo id (k.map VI.er) = some (k'.map VI.er) ∧ ∃ p, k = p ++ k' := by
  intro k
  induction k with
  | nil => intro k' h; cases h
  | cons x k ih =>
    intro k' h
    have go : exitV id k = some k' → exitTo id (x.er :: k.map VI.er) = exitTo id (k.map VI.er) → exitTo id ((x :: k).map VI.er) = some (k'.map VI.er) ∧ ∃ p, x :: k = p ++ k' := by
      intro h1 h2
      obtain ⟨h3, p, h4⟩ := ih k' h1
      exact ⟨by rw [List.map_cons, h2, h3], x :: p, by rw [h4]; rfl⟩
    unfold exitV at h
    split at h
    · cases h
    · rename_i i k0 e
      cases e
      split at h
      · rename_i e; obtain rfl := Nat.eq_of_beq_eq_true e; cases h
        exact ⟨by simp [VI.er, exitTo], [_], rfl⟩
      · rename_i e
        have e := Nat.ne_of_beq_eq_false e
        have : (i == id) = false := by simp; omega
        exact go h (by simp [VI.er, exitTo, this])
    · rename_i e; cases e; exact go h (by simp [VI.er, exitTo])
    · rename_i e; cases e; exact go h (by simp [VI.er, exitTo])
    · rename_i e; cases e; exact go h (by simp [VI.er, exitTo])
    · rename_i e; cases e; exact go h (by simp [VI.er, exitTo])
    · rename_i e; cases e; exact go h (by simp [VI.er, exitTo])
    · cases h

/-- what a loop keeps -/
structure Lp where
  α : Type
  inv : α → Fm → St → Fm × St
  pre : α → Prop
  mu : α → Nat
  /-- slots whose slices nobody writes any more -/
  fz : List Nat := []

/-- a number by which a loop is told: its first region's -/
def keyOf : Code → Option Nat
  | .region id _ _ => some id
  | .seq x y => match keyOf x with | some i => some i | none => keyOf y
  | .cond _ x y => match keyOf x with | some i => some i | none => keyOf y
  | .block _ x => keyOf x
  | .loop x => keyOf x
  | .scope x => keyOf x
  | _ => none

/-- the slots that a piece writes -/
def dstsOf : Code → List Tmp
  | .region _ ops _ => ops.toList.filterMap (·.dst)
  | .seq x y => dstsOf x ++ dstsOf y
  | .cond _ x y => dstsOf x ++ dstsOf y
  | .block _ x => dstsOf x
  | .loop x => dstsOf x
  | .scope x => dstsOf x
  | _ => []
def clearT : List Tmp → Tri V → Tri V
  | [], t => t
  | d :: ds, t => clearT ds (t.set d none)
/-- the slots that a piece looks at -/
def usesOp (ops : Array Oper) : List Oper → List Tmp
  | [] => []
  | o :: os => reads ops o ++ usesOp ops os
def usesOf : Code → List Tmp
  | .region _ ops _ => usesOp ops ops.toList
  | .seq x y => usesOf x ++ usesOf y
  | .cond c x y => (match c with | .tmp t => [t] | _ => []) ++ usesOf x ++ usesOf y
  | .block _ x => usesOf x
  | .loop x => usesOf x
  | .scope x => usesOf x
  | _ => []
def usesI : List VI → List Tmp
  | [] => []
  | .it (.code c) :: k => usesOf c ++ usesI k
  | .it (.inLoop c) :: k => usesOf c ++ usesI k
  | .head (.code c) _ :: k => usesOf c ++ usesI k
  | .head (.inLoop c) _ :: k => usesOf c ++ usesI k
  | _ :: k => usesI k
def usesR : List ResultVar → List Tmp
  | [] => []
  | .tmp t :: rs => t :: usesR rs
  | .cell a _ :: rs => a :: usesR rs
def keepT : List Tmp → Tri V → Tri V → Tri V
  | [], _, acc => acc
  | t :: ts, tm, acc => match tm.get t with
    | some v => keepT ts tm (acc.set t (some v))
    | none => keepT ts tm acc
/-- what was known ahead of a piece, without what the piece writes, and what nobody looks at -/
def Fm.without (fm : Fm) (fn : Func) (k : List VI) (y : Code) (c : Code) : Fm := { fm with tm := clearT (dstsOf c) (keepT (usesOf y ++ usesI k ++ usesR fn.results.toList) fm.tm .nil) }

/-- what is known: what loops keep, and where ways are joined -/
structure Ann where
  loops : Nat → Option Lp := fun _ => none
  cuts : Nat → Option Lp := fun _ => none

def lpOf (ann : Nat → Option Lp) (c : Code) : Option Lp :=
  match keyOf c with
  | some i => ann i
  | none => none

/-! ### a state is known to be one that a loop keeps -/
def triL {α : Type} : Tri α → List (Nat × α)
  | .nil => []
  | .node l v r => (match v with | some x => [(0, x)] | none => []) ++ ((triL l).map fun p => (2 * p.1 + 1, p.2)) ++ ((triL r).map fun p => (2 * p.1 + 2, p.2))

theorem triL_mem {α : Type} : ∀ (t : Tri α) (k : Nat) (v : α), t.get k = some v → (k, v) ∈ triL t
  | .nil, k, v, h => by simp at h
  | .node l x r, k, v, h => by
    simp only [triL, List.mem_append, List.mem_map]
    rcases Tri.three k with rfl | ⟨m, rfl⟩ | ⟨m, rfl⟩
    · rw [Tri.get_node0] at h; subst h; left; left; simp
    · rw [Tri.get_nodel] at h; left; right; exact ⟨(m, v), triL_mem l m v h, rfl⟩
    · rw [Tri.get_noder] at h; right; exact ⟨(m, v), triL_mem r m v h, rfl⟩

mutual
/-- which object stands for which: (wanted, known) -/
def matchV (u : V) : V → List (Nat × Nat)
  | .ptr i _ => match u with | .ptr j _ => [(i, j)] | _ => []
  | .slice i _ _ _ => match u with | .slice j _ _ _ => [(i, j)] | _ => []
  | .map i => match u with | .map j => [(i, j)] | _ => []
  | .acc i _ _ _ => match u with | .acc j _ _ _ => [(i, j)] | _ => []
  | .func _ a b => match u with | .func _ c d => matchVs c a ++ matchVs d b | _ => []
  | .iface _ v => match u with | .iface _ w => matchV w v | _ => []
  | .agg vs => match u with | .agg us => matchVs us vs | _ => []
  | .tuple vs => match u with | .tuple us => matchVs us vs | _ => []
  | _ => []
def matchVs (us : List V) : List V → List (Nat × Nat)
  | [] => []
  | v :: vs => match us with | u :: us => matchV u v ++ matchVs us vs | [] => []
end

def memP (p : Nat × Nat) : List (Nat × Nat) → Bool
  | [] => false
  | q :: l => match Nat.beq p.1 q.1, Nat.beq p.2 q.2 with
    | true, true => true
    | _, _ => memP p l
def addPs : List (Nat × Nat) → List (Nat × Nat) → List (Nat × Nat)
  | [], L => L
  | p :: ps, L => match memP p L with
    | true => addPs ps L
    | false => addPs ps (L ++ [p])

def matchT (inv act : Tri V) : List (Nat × Nat) := (triL inv).flatMap fun p => match act.get p.1 with | some u => matchV u p.2 | none => []
def matchO (o o' : O) : List (Nat × Nat) :=
  match o, o' with
  | .row _ c _ _ _, .row _ c' _ _ _ => matchT c c'
  | _, _ => []
def moreR (mi ma : Tri O) (L : List (Nat × Nat)) : List (Nat × Nat) :=
  addPs (L.flatMap fun p => match mi.get p.1, ma.get p.2 with | some o, some o' => matchO o o' | _, _ => []) L
def renOf (inv act : Fm × St) : List (Nat × Nat) :=
  moreR inv.2.mem act.2.mem (moreR inv.2.mem act.2.mem (moreR inv.2.mem act.2.mem (addPs (matchT inv.1.tm act.1.tm) [])))

def lookR : List (Nat × Nat) → Nat → Option Nat
  | [], _ => none
  | p :: L, i => match Nat.beq p.1 i with
    | true => some p.2
    | false => lookR L i

def oneR (p : Nat × Nat) : List (Nat × Nat) → Bool
  | [] => true
  | q :: L => match Nat.beq p.1 q.1, Nat.beq p.2 q.2 with
    | true, true => oneR p L
    | false, false => oneR p L
    | _, _ => false
def okR (L0 : List (Nat × Nat)) (next : Nat) : List (Nat × Nat) → Bool
  | [] => true
  | p :: L => match Nat.ble (p.1 + 1) next, oneR p L0 with
    | true, true => okR L0 next L
    | _, _ => false

theorem lookR_mem {i j : Nat} : ∀ {L : List (Nat × Nat)}, lookR L i = some j → (i, j) ∈ L
  | [], h => by cases h
  | p :: L, h => by
    simp only [lookR] at h
    split at h
    · rename_i e; obtain rfl := Nat.eq_of_beq_eq_true e; cases h; simp
    · exact List.mem_cons_of_mem _ (lookR_mem h)
theorem oneR_spec {p : Nat × Nat} : ∀ {L : List (Nat × Nat)}, oneR p L = true → ∀ q ∈ L, (p.1 = q.1 ↔ p.2 = q.2)
  | [], _, q, h => by cases h
  | x :: L, h, q, hq => by
    simp only [oneR] at h
    split at h
    · rename_i e1 e2
      rcases List.mem_cons.1 hq with rfl | hq
      · exact ⟨fun _ => Nat.eq_of_beq_eq_true e2, fun _ => Nat.eq_of_beq_eq_true e1⟩
      · exact oneR_spec h q hq
    · rename_i e1 e2
      rcases List.mem_cons.1 hq with rfl | hq
      · exact ⟨fun e => absurd e (Nat.ne_of_beq_eq_false e1), fun e => absurd e (Nat.ne_of_beq_eq_false e2)⟩
      · exact oneR_spec h q hq
    · cases h
theorem okR_spec {L0 : List (Nat × Nat)} {next : Nat} : ∀ {L : List (Nat × Nat)}, okR L0 next L = true → ∀ p ∈ L, p.1 < next ∧ ∀ q ∈ L0, (p.1 = q.1 ↔ p.2 = q.2)
  | [], _, p, h => by cases h
  | x :: L, h, p, hp => by
    simp only [okR] at h
    split at h
    · rename_i e1 e2
      rcases List.mem_cons.1 hp with rfl | hp
      · exact ⟨Nat.le_of_ble_eq_true e1, oneR_spec e2⟩
      · exact okR_spec h p hp
    · cases h

/-- conjunctions over a list -/
def allP {α : Type} (K : α → Prop) : List α → Prop
  | [] => True
  | [x] => K x
  | x :: l => K x ∧ allP K l
theorem allP_mem {α : Type} {K : α → Prop} : ∀ {l : List α}, allP K l → ∀ x ∈ l, K x
  | [], _, x, h => by cases h
  | [y], h, x, hx => by rcases List.mem_singleton.1 hx with rfl; exact h
  | y :: z :: l, h, x, hx => by
    rcases List.mem_cons.1 hx with rfl | hx
    · exact h.1
    · exact allP_mem h.2 x hx

def leT (r : Nat → Option Nat) (act inv : Tri V) : Prop := allP (fun p : Nat × V => match act.get p.1 with | some u => leV r u p.2 | none => False) (triL inv)

def hasN (i : Nat) : List Nat → Bool
  | [] => false
  | j :: l => match Nat.beq i j with
    | true => true
    | false => hasN i l
theorem hasN_iff {i : Nat} : ∀ {l : List Nat}, hasN i l = true ↔ i ∈ l
  | [] => by simp [hasN]
  | j :: l => by
    simp only [hasN]
    split
    · rename_i e; simp [Nat.eq_of_beq_eq_true e]
    · rename_i e; have := Nat.ne_of_beq_eq_false e; simp [this, hasN_iff]

/-- whoever shares the block is told -/
def peersOk (L : List (Nat × Nat)) (pi pa : List Nat) : Bool :=
  (L.all fun p => match hasN p.2 pa with | true => hasN p.1 pi | false => true) && pi.all fun i => match lookR L i with | some j => hasN j pa | none => false

def leO (L : List (Nat × Nat)) (act inv : O) : Prop :=
  match inv, act with
  | .row n c opn tip pe, .row n' c' opn' tip' pe' => match Nat.beq n n', opn, opn', tip, tip', peersOk L pe pe' with
    | true, true, true, true, true, true => leT (lookR L) c' c
    | true, false, false, true, true, true => leT (lookR L) c' c
    | true, true, true, false, false, true => leT (lookR L) c' c
    | true, false, false, false, false, true => leT (lookR L) c' c
    | _, _, _, _, _, _ => False
  | .tip, .tip => True
  | .frow n c, .frow n' c' => match Nat.beq n n' with
    | true => leT (fun _ => none) c' c
    | false => False
  | _, _ => False

def globFree (g : Tri (Tri V)) : Bool := (triL g).all fun p => (triL p.2).all fun q => q.2.frees

def flatT (t : Tri V) (n : Nat) : Bool := (triL t).all fun p => match Nat.ble (p.1 + 1) n with | true => p.2.isFlat | false => false

/-- the same tables -/
def globAs (act inv : St) : Prop :=
  match inv, act with
  | ⟨_, _, gi, _⟩, ⟨_, _, ga, _⟩ => match gi with
    | .nil => True
    | _ => ga = gi
theorem globAs_spec {act inv : St} (h : globAs act inv) : inv.glob = .nil ∨ act.glob = inv.glob := by
  obtain ⟨_, _, gi, _⟩ := inv
  obtain ⟨_, _, ga, _⟩ := act
  unfold globAs at h
  simp only at h ⊢
  split at h
  · exact .inl rfl
  · exact .inr h
def subS (inv act : Fm × St) : Prop :=
  let L := renOf inv act
  match okR L inv.2.next L, Nat.beq inv.1.n act.1.n, inv.1.df, act.1.df, inv.1.rd, act.1.rd, globFree inv.2.glob with
  | true, true, [], [], none, none, true => globAs act.2 inv.2 ∧ leT (lookR L) act.1.tm inv.1.tm ∧
      allP (fun p : Nat × Nat => match inv.2.mem.get p.1 with
        | none => True
        | some o => match act.2.mem.get p.2, (match o with | .row n c _ _ _ => flatT c n | .tip => true | .frow n c => flatT c n | _ => false) with
          | some o', true => leO L o' o
          | _, _ => False) L
  | _, _, _, _, _, _, _ => False

theorem leT_get {r : Nat → Option Nat} {act inv : Tri V} (h : leT r act inv) {k : Nat} {v : V} (hv : inv.get k = some v) : ∃ u, act.get k = some u ∧ leV r u v := by
  have := allP_mem h (k, v) (triL_mem _ _ _ hv)
  simp only at this
  split at this
  · rename_i u hu; exact ⟨u, hu, this⟩
  · exact this.elim

theorem subS_sound {W0 : World} {σ : Sg} {inv act : Fm × St} {w : World} {a : Act} {b : Frame} (h : subS inv act) (hR : Rel W0 σ act.2 w) (hF : RF σ act.1 a b) :
    Rel W0 (σ.ren (lookR (renOf inv act))) inv.2 w ∧ RF (σ.ren (lookR (renOf inv act))) inv.1 a b := by
  unfold subS at h
  generalize renOf inv act = L at h ⊢
  simp only at h
  split at h
  · rename_i hok hn hd1 hd2 hr1 hr2 hgf
    obtain ⟨hg, hT, hM⟩ := h
    have hn := Nat.eq_of_beq_eq_true hn
    have hspec := okR_spec hok
    have hpl : ∀ i p, (σ.ren (lookR L)) i = some p → ∃ j, (i, j) ∈ L ∧ lookR L i = some j ∧ σ j = some p := by
      intro i p e
      simp only [Sg.ren] at e
      cases hl : lookR L i with
      | none => rw [hl] at e; cases e
      | some j => rw [hl] at e; exact ⟨j, lookR_mem hl, rfl, e⟩
    have hobj : ∀ i j o, (i, j) ∈ L → inv.2.mem.get i = some o → ∃ o', act.2.mem.get j = some o' ∧ leO L o' o ∧ ((∃ n c x y z, o = .row n c x y z ∧ flatT c n = true) ∨ o = .tip ∨ ∃ n c, o = .frow n c ∧ flatT c n = true) := by
      intro i j o hm ho
      have := allP_mem hM (i, j) hm
      simp only [ho] at this
      split at this
      · rename_i o' h1 h2
        refine ⟨o', h1, this, ?_⟩
        cases o <;> simp only [reduceCtorEq] at h2
        · exact .inl ⟨_, _, _, _, _, rfl, h2⟩
        · exact .inr (.inl rfl)
        · exact .inr (.inr ⟨_, _, rfl, h2⟩)
      · exact this.elim
    have hleO : ∀ (i j : Nat) (o o' : O), leO L o' o → ((∃ n c x y z, o = .row n c x y z ∧ flatT c n = true) ∨ o = .tip ∨ ∃ n c, o = .frow n c ∧ flatT c n = true) → (∃ n c op tip pe c' pe', o = .row n c op tip pe ∧ o' = .row n c' op tip pe' ∧ leT (lookR L) c' c ∧ flatT c n = true ∧ peersOk L pe pe' = true) ∨ (o = .tip ∧ o' = .tip) ∨ (∃ n c c', o = .frow n c ∧ o' = .frow n c' ∧ leT (fun _ => none) c' c ∧ flatT c n = true) := by
      rintro i j o o' hle (⟨n, c, x, y, z, rfl, hfl⟩ | rfl | ⟨n, c, rfl, hfl⟩)
      rotate_left
      rotate_left
      · unfold leO at hle
        split at hle
        · rename_i e1; cases e1
        · rename_i e1; cases e1
        · rename_i e1
          cases e1
          split at hle
          · rename_i e2; obtain rfl := Nat.eq_of_beq_eq_true e2; exact .inr (.inr ⟨_, _, _, rfl, rfl, hle, hfl⟩)
          · exact hle.elim
        · exact hle.elim
      rotate_left
      · unfold leO at hle
        split at hle
        · rename_i e1; cases e1
        · exact .inr (.inl ⟨rfl, rfl⟩)
        · rename_i e1; cases e1
        · exact hle.elim
      unfold leO at hle
      left
      split at hle
      · rename_i n c opn tip pe n' c' opn' tip' pe' e1 
        cases e1
        split at hle
        · rename_i e1 e2; obtain rfl := Nat.eq_of_beq_eq_true e1; exact ⟨_, _, _, _, _, _, _, rfl, rfl, hle, hfl, e2⟩
        · rename_i e1 e2; obtain rfl := Nat.eq_of_beq_eq_true e1; exact ⟨_, _, _, _, _, _, _, rfl, rfl, hle, hfl, e2⟩
        · rename_i e1 e2; obtain rfl := Nat.eq_of_beq_eq_true e1; exact ⟨_, _, _, _, _, _, _, rfl, rfl, hle, hfl, e2⟩
        · rename_i e1 e2; obtain rfl := Nat.eq_of_beq_eq_true e1; exact ⟨_, _, _, _, _, _, _, rfl, rfl, hle, hfl, e2⟩
        · exact hle.elim
      · rename_i e1; cases e1
      · rename_i e1; cases e1
      · exact hle.elim
    have hpe : ∀ pe pe', peersOk L pe pe' = true → (∀ i j, (i, j) ∈ L → j ∈ pe' → i ∈ pe) ∧ (∀ i, i ∈ pe → ∃ j, lookR L i = some j ∧ j ∈ pe') := by
      intro pe pe' h
      unfold peersOk at h
      simp only [Bool.and_eq_true, List.all_eq_true] at h
      refine ⟨fun i j hm hj => ?_, fun i hi => ?_⟩
      · have := h.1 (i, j) hm
        simp only [hasN_iff.2 hj] at this
        exact hasN_iff.1 this
      · have := h.2 i hi
        split at this
        · rename_i j hl; exact ⟨j, hl, hasN_iff.1 this⟩
        · cases this
    refine ⟨⟨hR.below, fun i p e => ?_, fun i p e => ?_, fun i p o e ho => ?_, fun i1 i2 p q o1 o2 hne e1 e2 h1 h2 hb => ?_, ?_, fun b' k v e => ?_⟩, ⟨⟨?_, fun t v hv => ?_⟩, ?_, ?_⟩⟩
    · obtain ⟨j, hm, _, hj⟩ := hpl i p e; exact (hspec (i, j) hm).1
    · obtain ⟨j, hm, _, hj⟩ := hpl i p e
      obtain ⟨h1, h2⟩ := hR.blk j p hj
      refine ⟨h1.imp id fun h1 o ho => ?_, h2⟩
      obtain ⟨o', ho', hle, hrow⟩ := hobj i j o hm ho
      have := h1 _ ho'
      rcases hleO i j o o' hle hrow with ⟨n, c, op, tip, pe, c', pe', rfl, rfl, _⟩ | ⟨rfl, rfl⟩ | ⟨n, c, c', rfl, rfl, _⟩
      · cases tip <;> simp [O.still] at this ⊢
      · exact this
      · rfl
    · obtain ⟨j, hm, _, hj⟩ := hpl i p e
      obtain ⟨o', ho', hle, hrow⟩ := hobj i j o hm ho
      rcases hleO i j o o' hle hrow with ⟨n, c, op, tip, pe, c', pe', rfl, rfl, hT', hfl, hpo⟩ | ⟨rfl, rfl⟩ | ⟨n, c, c', rfl, rfl, hT', hfl⟩
      rotate_left
      · exact hR.obj j p _ hj ho'
      · have := hR.obj j p _ hj ho'
        simp only [ObjOk] at this ⊢
        obtain ⟨cs, e0, fz, g1, g2, g3⟩ := this
        refine ⟨cs, e0, fz, g1, g2, fun k v hk => ?_⟩
        obtain ⟨u, hu, hle'⟩ := leT_get hT' hk
        obtain ⟨a1, a2, x, a3, a5, a4⟩ := g3 k u hu
        have hf := List.all_eq_true.1 hfl (k, v) (triL_mem _ _ _ hk)
        simp only at hf
        split at hf
        · exact ⟨a1, hf, x, a3, a5, leV_sound _ _ _ σ.free _ hle' a4⟩
        · cases hf
      have := hR.obj j p _ hj ho'
      simp only [ObjOk] at this ⊢
      obtain ⟨cs, e0, fz, g1, g2, g3, g4, g5, g6, g7⟩ := this
      refine ⟨cs, e0, fz, g1, g2, g3, g4, fun k v hk => ?_, g6, fun i' hi' => ?_⟩
      · obtain ⟨u, hu, hle'⟩ := leT_get hT' hk
        obtain ⟨a1, a2, x, a3, a4⟩ := g5 k u hu
        have hf := List.all_eq_true.1 hfl (k, v) (triL_mem _ _ _ hk)
        simp only at hf
        split at hf
        · rename_i hkn; exact ⟨Nat.le_of_ble_eq_true hkn, hf, x, a3, leV_sound _ _ _ σ _ hle' a4⟩
        · cases hf
      · obtain ⟨j', hl, hj'⟩ := (hpe _ _ hpo).2 i' hi'
        obtain ⟨q, hq⟩ := g7 j' hj'
        exact ⟨q, by simp [Sg.ren, hl, hq]⟩
    · obtain ⟨j1, hm1, hl1, hj1⟩ := hpl i1 p e1
      obtain ⟨j2, hm2, hl2, hj2⟩ := hpl i2 q e2
      have hjne : j1 ≠ j2 := fun e => hne (((hspec (i1, j1) hm1).2 (i2, j2) hm2).2 e)
      obtain ⟨o1', ho1, hle1, hrow1⟩ := hobj i1 j1 o1 hm1 h1
      obtain ⟨o2', ho2, hle2, hrow2⟩ := hobj i2 j2 o2 hm2 h2
      have := hR.sep j1 j2 p q _ _ hjne hj1 hj2 ho1 ho2 hb
      rcases hleO i1 j1 o1 o1' hle1 hrow1 with ⟨n1, c1, op1, tip1, pe1, c1', pe1', rfl, rfl, _, _, hpo1⟩ | ⟨rfl, rfl⟩ | ⟨_, _, _, rfl, rfl, _⟩
      rotate_left
      · simp only [Sh] at this
      · simp only [Sh] at this
      rcases hleO i2 j2 o2 o2' hle2 hrow2 with ⟨n2, c2, op2, tip2, pe2, c2', pe2', rfl, rfl, _⟩ | ⟨rfl, rfl⟩ | ⟨_, _, _, rfl, rfl, _⟩
      rotate_left
      · simp only [Sh] at this
      · simp only [Sh] at this
      simp only [Sh] at this ⊢
      intro ht
      obtain ⟨a1, a2, a3⟩ := this ht
      exact ⟨(hpe _ _ hpo1).1 i2 j2 hm2 a1, a2, a3⟩
    · intro g t k v e1 e2
      have hgl : act.2.glob = inv.2.glob := by
        rcases globAs_spec hg with e0 | e0
        · rw [e0] at e1; simp at e1
        · exact e0
      obtain ⟨a1, x, a2, a3⟩ := hR.glob g t k v (by rw [hgl]; exact e1) e2
      refine ⟨a1, x, a2, ?_⟩
      have hfr := List.all_eq_true.1 (List.all_eq_true.1 hgf (g, t) (triL_mem _ _ _ e1)) (k, v) (triL_mem _ _ _ e2)
      exact RV.fromFree (σ := σ.ren (lookR L)) (fz := σ.fz) (fun _ _ _ e => e) (RV.toFree _ _ hfr a3)
    · obtain ⟨f1, f2, f3, f4⟩ := hR.frz b' k v e
      refine ⟨f1, f2, f3, fun i p ob ei hob hst => ?_⟩
      obtain ⟨j, hm, _, hj⟩ := hpl i p ei
      obtain ⟨o', ho', hle, hrow⟩ := hobj i j ob hm hob
      rcases hleO i j ob o' hle hrow with ⟨n, c, op, tip, pe, c', pe', rfl, rfl, _⟩ | ⟨rfl, rfl⟩ | ⟨_, _, _, rfl, rfl, _⟩
      · refine (f4 j p _ hj ho' ?_).imp id fun h => ?_
        · cases tip <;> simp [O.still] at hst ⊢
        · cases h.1
      · exact f4 j p _ hj ho' rfl
      · cases hst
    · rw [hn]; exact hF.tm.1
    · obtain ⟨u, hu, hle⟩ := leT_get hT hv
      obtain ⟨a1, a2⟩ := hF.tm.2 t u hu
      exact ⟨by rw [hn]; exact a1, leV_sound _ _ _ σ _ hle a2⟩
    · have := hF.df; rw [hd2] at this; rw [hd1]; simpa [RDs] using this
    · have := hF.rd; rw [hr2] at this; rw [hr1]; simpa [RRd] using this
  · exact h.elim

/-! ### a body -/
def setC (fm : Fm) (c : Operand) (b : Bool) : Fm :=
  match c with
  | .tmp t => fm.setT t (.bool b)
  | _ => fm

def vcRet (P : Program) (fn : Func) (fm : Fm) (st : St) (K : V → Prop) : Prop :=
  match fm.df, resultsV P st fm fn.results.toList with
  | [], some vs => match ((tupleV vs).frzd (st.frzs (tupleV vs).ids)).frees with
    | true => K ((tupleV vs).frzd (st.frzs (tupleV vs).ids))
    | false => False
  | _, _ => False

/-- the same body within another one's run: no loop is cut, and what is known of memory is handed on -/
def vin (P : Program) (C : Hand) (fn : Func) : Nat → List Item → Fm → St → (V → St → Prop) → Prop
  | 0, _, _, _, _ => False
  | n + 1, todo, fm, st, K => match todo with
    | [] => False
    | i :: k => match i with
      | .inBlock _ => vin P C fn n k fm st K
      | .inScope _ => vin P C fn n k fm st K
      | .inLoop x => vin P C fn n (.code x :: .inLoop x :: k) fm st K
      | .code c => match c with
        | .skip => vin P C fn n k fm st K
        | .label _ => vin P C fn n k fm st K
        | .seq x y => vin P C fn n (.code x :: .code y :: k) fm st K
        | .cond c x y => match fm.rho c with
          | some (.bool true) => vin P C fn n (.code x :: k) fm st K
          | some (.bool false) => vin P C fn n (.code y :: k) fm st K
          | some (.sb b) => (b = true → vin P C fn n (.code x :: k) (setC fm c true) st K) ∧ (b = false → vin P C fn n (.code y :: k) (setC fm c false) st K)
          | _ => False
        | .block id x => vin P C fn n (.code x :: .inBlock id :: k) fm st K
        | .scope x => vin P C fn n (.code x :: .inScope x :: k) fm st K
        | .loop x => vin P C fn n (.code x :: .inLoop x :: k) fm st K
        | .exit id => match exitTo id k with
          | some k' => vin P C fn n k' fm st K
          | none => False
        | .ret => match fm.df, resultsV P st fm fn.results.toList with
          | [], some vs => K (tupleV vs) st
          | _, _ => False
        | .region _ ops false => vcSeq P C ops ops.toList fm st fun fm' st' => vin P C fn n k fm' st' K
        | _ => False
      | _ => False

/-- calls of small functions are run where they stand -/
def handN (P : Program) (E : Specs) (inl : List FuncId) : Nat → Hand
  | 0 => handE E
  | n + 1 => fun g args st K => match hasN g inl, P.funcs[g]? with
    | true, some fn => match enterable fn, fn.body with
      | true, some c => vin P (handN P E inl n) fn 100000 [.code c] (Fm.enter fn args) st K
      | _, _ => False
    | _, _ => handE E g args st K

/-- numbers of one kind -/
def intsK (k : IntKind) : List V → Option (List Int)
  | [] => some []
  | v :: vs => match v.asI, intsK k vs with
    | some (k', n), some ns => match decide (k' = k) with | true => some (n :: ns) | false => none
    | _, _ => none
theorem intsK_spec {k : IntKind} : ∀ {vs : List V} {ns : List Int}, intsK k vs = some ns → vs.length = ns.length ∧ ∀ i, i < vs.length → (vs.getD i .nilp).asI = some (k, ns.getD i 0)
  | [], ns, h => by simp only [intsK] at h; cases h; exact ⟨rfl, fun i hi => by simp at hi⟩
  | v :: vs, ns, h => by
    simp only [intsK] at h
    split at h
    · rename_i k' n ns' h1 h2
      split at h
      · rename_i hk
        have hk := of_decide_eq_true hk
        subst hk
        cases h
        obtain ⟨g1, g2⟩ := intsK_spec h2
        refine ⟨by simp [g1], fun i hi => ?_⟩
        cases i with
        | zero => exact h1
        | succ i => exact g2 i (by simpa using hi)
      · cases h
    · cases h
/-- what stands at a place -/
def nthK (vs : List V) : Nat → V := match vs with
  | [] => fun k => vs.getD k .nilp
  | v :: _ => match v.asI with
    | some (kd, _) => match intsK kd vs with
      | some ns => fun k => .si kd (ns.getD k 0)
      | none => fun k => vs.getD k .nilp
    | none => fun k => vs.getD k .nilp
theorem nthK_sound {σ : Sg} {vs : List V} {i : Nat} {y : Value} (hi : i < vs.length) (h : RV σ (vs.getD i .nilp) y) : RV σ (nthK vs i) y := by
  cases vs with
  | nil => exact h
  | cons v r =>
    cases hv : v.asI with
    | none => simp only [nthK, hv]; exact h
    | some p =>
      obtain ⟨kd, n⟩ := p
      cases hn : intsK kd (v :: r) with
      | none => simp only [nthK, hv, hn]; exact h
      | some ns =>
        simp only [nthK, hv, hn]
        obtain rfl := asI_sound ((intsK_spec hn).2 i hi) h
        simp only [RV]
/-- ahead of a loop slices are frozen -/
def fzK : List Nat → Fm → St → (Fm → St → Prop) → Prop
  | [], fm, st, K => K fm st
  | t :: r, fm, st, K => match fm.tm.get t with
    | some v => match v.frzd (st.frzs v.ids) with
      | .ro t' m z es => fVs ((List.range m).map es) fun vs => fS (fm.setT t (.ro t' m z (nthK vs))) (st.frzs v.ids) fun fm st => fzK r fm st K
      | u => fS (fm.setT t u) (st.frzs v.ids) fun fm st => fzK r fm st K
    | none => False
theorem ro_list {σ : Sg} {t : Bool} {m z : Nat} {es : Nat → V} {x : Value} (h : RV σ (.ro t m z es) x) : RV σ (.ro t m z (nthK ((List.range m).map es))) x := by
  simp only [RV] at h ⊢
  obtain ⟨a, c, h1, h2, h3, h4⟩ := h
  refine ⟨a, c, h1, h2, h3, fun hn => ?_⟩
  obtain ⟨b, o, e, h5⟩ := h4 hn
  refine ⟨b, o, e, fun i hi => ?_⟩
  obtain ⟨y, h6, h7⟩ := h5 i hi
  refine ⟨y, nthK_sound (by simp [hi]) ?_, h7⟩
  rw [List.getD_eq_getElem?_getD, List.getElem?_map, List.getElem?_range hi]
  exact h6
theorem fzK_sound : ∀ (l : List Nat) (fm : Fm) (st : St) (K : Fm → St → Prop), fzK l fm st K → ∃ fm' st', K fm' st' ∧
    ∀ (W0 : World) (σ : Sg) (w : World) (a : Act) (b : Frame), Rel W0 σ st w → RF σ fm a b → ∃ σ', Rel W0 σ' st' w ∧ σ'.base = σ.base ∧ (∀ b o v, σ.fz b o = some v → σ'.fz b o = some v) ∧ RF σ' fm' a b
  | [], fm, st, K, h => ⟨fm, st, h, fun W0 σ w a b hR hF => ⟨σ, hR, rfl, fun _ _ _ e => e, hF⟩⟩
  | t :: r, fm, st, K, h => by
    unfold fzK at h
    split at h
    · rename_i v hv
      have main : ∀ u : V, (∀ (σ : Sg) x, RV σ (v.frzd (st.frzs v.ids)) x → RV σ u x) → fzK r (fm.setT t u) (st.frzs v.ids) K → ∃ fm' st', K fm' st' ∧
          ∀ (W0 : World) (σ : Sg) (w : World) (a : Act) (b : Frame), Rel W0 σ st w → RF σ fm a b → ∃ σ', Rel W0 σ' st' w ∧ σ'.base = σ.base ∧ (∀ b o v, σ.fz b o = some v → σ'.fz b o = some v) ∧ RF σ' fm' a b := by
        intro u hu h
        obtain ⟨fm', st', h1, h2⟩ := fzK_sound r _ _ K h
        refine ⟨fm', st', h1, fun W0 σ w a b hR hF => ?_⟩
        obtain ⟨_, hx⟩ := hF.tm.2 _ _ hv
        obtain ⟨σ1, k1, k2, _⟩ := hR.freezes v.ids (RV.ids _ _ hx)
        obtain ⟨σ2, g1, g2, g3, g4⟩ := h2 W0 σ1 w a b k1 ((RF.mono k2.le hF).setT hv fun x hx => hu _ _ (RV.frzd k1 _ _ hx))
        exact ⟨σ2, g1, g2.trans k2.le.base, fun b o v e => g3 b o v (k2.le.fz b o v e), g4⟩
      split at h
      · rename_i t' m z es he
        rw [fVs_eq, fS_eq] at h
        exact main _ (fun σ x hx => by rw [he] at hx; exact ro_list hx) h
      · rw [fS_eq] at h
        exact main _ (fun σ x hx => hx) h
    · exact h.elim

def vc (P : Program) (E : Specs) (C : Hand) (ann : Ann) (fn : Func) : Nat → List VI → Fm → St → (V → Prop) → Prop
  | 0, _, _, _, _ => False
  | n + 1, todo, fm, st, K => match todo with
    | [] => False
    | .head _ A :: _ => A fm st
    | .it i :: k => match i with
      | .inBlock _ => vc P E C ann fn n k fm st K
      | .inScope _ => vc P E C ann fn n k fm st K
      | .inLoop x => vc P E C ann fn n (.it (.code x) :: .it (.inLoop x) :: k) fm st K
      | .code c => match c with
        | .skip => vc P E C ann fn n k fm st K
        | .label _ => vc P E C ann fn n k fm st K
        | .seq x y => match lpOf ann.cuts y with
          | none => vc P E C ann fn n (.it (.code x) :: .it (.code y) :: k) fm st K
          | some L => vc P E C ann fn n (.it (.code x) :: .head (.code y) (fun fm' st' => ∃ a, L.pre a ∧ subS (L.inv a (fm.without fn k y x) st) (fm', st')) :: k) fm st K ∧
              ∀ a, L.pre a → fS (L.inv a (fm.without fn k y x) st).1 (L.inv a (fm.without fn k y x) st).2 fun fm st => vc P E C ann fn n (.it (.code y) :: k) fm st K
        | .cond c x y => match fm.rho c with
          | some (.bool true) => vc P E C ann fn n (.it (.code x) :: k) fm st K
          | some (.bool false) => vc P E C ann fn n (.it (.code y) :: k) fm st K
          | some (.sb b) => (b = true → vc P E C ann fn n (.it (.code x) :: k) (setC fm c true) st K) ∧ (b = false → vc P E C ann fn n (.it (.code y) :: k) (setC fm c false) st K)
          | _ => False
        | .block id x => vc P E C ann fn n (.it (.code x) :: .it (.inBlock id) :: k) fm st K
        | .scope x => vc P E C ann fn n (.it (.code x) :: .it (.inScope x) :: k) fm st K
        | .loop x => match lpOf ann.loops x with
          | none => vc P E C ann fn n (.it (.code x) :: .it (.inLoop x) :: k) fm st K
          | some L => fzK L.fz fm st fun fm st => (∃ a, L.pre a ∧ subS (L.inv a (fm.without fn k x x) st) (fm, st)) ∧ ∀ a, L.pre a →
              fS (L.inv a (fm.without fn k x x) st).1 (L.inv a (fm.without fn k x x) st).2 fun fm1 st1 => vc P E C ann fn n (.it (.code x) :: .head (.inLoop x) (fun fm' st' => ∃ a', L.pre a' ∧ L.mu a' < L.mu a ∧ subS (L.inv a' (fm.without fn k x x) st) (fm', st')) :: k) fm1 st1 K
        | .exit id => match exitV id k with
          | some k' => vc P E C ann fn n k' fm st K
          | none => False
        | .ret => vcRet P fn fm st K
        | .region _ ops false => vcSeq P C ops ops.toList fm st fun fm' st' => fS fm' st' fun fm' st' => vc P E C ann fn n k fm' st' K
        | .region _ ops true => match P.follows .mixedOrders, planOf ops with
          | true, some (ord, ms) => vcCanon P E ops (cbit ms) ord fm st [] fun fm' st' => fS fm' st' fun fm' st' => vc P E C ann fn n k fm' st' K
          | _, _ => False
        | _ => False
      | _ => False

section
variable {P : Program} {s0 : St} {f : FuncId} {W0 : World} {fz0 : Nat → Nat → Option Value} {K : V → Prop}

/-- what is known at the loops' heads -/
def HOk (P : Program) (s0 : St) (f : FuncId) (W0 : World) (fz0 : Nat → Nat → Option Value) (K : V → Prop) : List VI → Prop
  | [] => True
  | .head i A :: k => (∀ fm st, A fm st → J P s0 f W0 fz0 (i :: k.map VI.er) fm st K) ∧ HOk P s0 f W0 fz0 K k
  | .it _ :: k => HOk P s0 f W0 fz0 K k

theorem J.mono {K K' : V → Prop} {todo : List Item} {fm : Fm} {st : St} (h : J P s0 f W0 fz0 todo fm st K) (hk : ∀ v, K v → K' v) : J P s0 f W0 fz0 todo fm st K' := by
  intro σ w a b cs h1 h2 h3 h4 h5 h6 h7
  obtain ⟨z, w', fr, fz', v, k1, k2⟩ := h σ w a b cs h1 h2 h3 h4 h5 h6 h7
  exact ⟨z, w', fr, fz', v, hk _ k1, k2⟩

theorem HOk.drop : ∀ (p k : List VI), HOk P s0 f W0 fz0 K (p ++ k) → HOk P s0 f W0 fz0 K k
  | [], k, h => h
  | .head c A :: p, k, h => HOk.drop p k h.2
  | .it i :: p, k, h => HOk.drop p k h

theorem XOk.toJ {k : List Item} {c : Code} {fm fm' : Fm} {st st' : St} (hx : ∀ σ w a b cs, Rel W0 σ st w → RF σ fm a b → XOk P W0 σ st (lone (Fat b a (.code c :: k)) cs w) b k cs .normal fm' st')
    (hj : J P s0 f W0 fz0 k fm' st' K) : J P s0 f W0 fz0 (.code c :: k) fm st K := by
  refine hj.of_steps fun σ w a b cs _ _ hR hF => ?_
  obtain ⟨σ', w', a', e', h1, h2, h3, h4, h5⟩ := hx σ w a b cs hR hF
  simp only [RX] at h1
  subst h1
  exact ⟨σ', w', a', h2, h3.le, h4, h5⟩

theorem vcRet_sound {fn : Func} (hf : P.funcs[f]? = some fn) {k : List Item} {fm : Fm} {st : St} (h : vcRet P fn fm st K) : J P s0 f W0 fz0 (.code .ret :: k) fm st K := by
  unfold vcRet at h
  split at h
  · rename_i vs hd hrs
    split at h
    · rename_i hfr
      intro σ0 w a b cs h1 h2 h3 h4 h5 hR0 hF
      obtain ⟨z, ez, rz⟩ := run_results hR0 hF.tm hrs
      have hdf : a.defers = [] := by have := hF.df; rw [hd] at this; simpa [RDs] using this
      obtain ⟨σ, hR, hP, _⟩ := hR0.freezes _ (RV.ids _ _ rz)
      have rz' := RV.frzd hR _ _ (RV.mono hP.le _ _ rz)
      refine ⟨z, w, { b with tmps := a.tmps, todo := .code .ret :: k, defers := a.defers, mode := .returning }, σ.fz, _, h, hR.below, (fun b o v e => hP.le.fz _ _ _ (h2 b o v e)), hR.fzOk, ?_, RV.toFree _ _ hfr rz', ?_, h3, ?_⟩
      · rw [← h1, ← hP.le.base]; exact hR.fzNew
      · exact .one (step_lone_go (by simp [stepG, stepG.exec, Fat, h5]))
      · exact ⟨rfl, hdf, h4, fn, by simp only; rw [h3]; exact hf, ez⟩
    · exact h.elim
  · exact h.elim

theorem setC_RF {σ : Sg} {fm : Fm} {a : Act} {b : Frame} {c : Operand} {t : Bool} (hc : fm.rho c = some (.sb t)) (hF : RF σ fm a b) : RF σ (setC fm c t) a b := by
  unfold setC
  split
  · rename_i s; exact hF.setT hc (fun x hx => hx)
  · exact hF

theorem vin_sound {C : Hand} {fn : Func} (hC : HandOk P W0 C) (hf : P.funcs[f]? = some fn) {K : V → St → Prop} : ∀ (n : Nat) (todo : List Item) (fm : Fm) (st : St), vin P C fn n todo fm st K →
    ∃ v st', K v st' ∧ ∀ σ w a (b : Frame) (cs : List Frame), b.fn = f → b.kind = .normal → b.roundOf = none → Rel W0 σ st w → RF σ fm a b →
      ∃ σ' w' fr z, Rel W0 σ' st' w' ∧ Post σ st σ' st' ∧ RV σ' v z ∧ Steps P (lone (Fat b a todo) cs w) (lone fr cs w') ∧ fr.fn = f ∧ fr.leaving P w' (.returned z) := by
  intro n
  induction n with
  | zero => intro todo fm st h; exact h.elim
  | succ n ih =>
    intro todo fm st h
    simp only [vin] at h
    have stp : ∀ {todo' : List Item} {fm' : Fm}, (∃ v st', K v st' ∧ ∀ σ w a (b : Frame) (cs : List Frame), b.fn = f → b.kind = .normal → b.roundOf = none → Rel W0 σ st w → RF σ fm' a b →
          ∃ σ' w' fr z, Rel W0 σ' st' w' ∧ Post σ st σ' st' ∧ RV σ' v z ∧ Steps P (lone (Fat b a todo') cs w) (lone fr cs w') ∧ fr.fn = f ∧ fr.leaving P w' (.returned z)) →
        (∀ σ a b, RF σ fm a b → RF σ fm' a b) → (∀ b a cs w σ, RF σ fm a b → step P (lone (Fat b a todo) cs w) = .next (lone (Fat b a todo') cs w)) →
        ∃ v st', K v st' ∧ ∀ σ w a (b : Frame) (cs : List Frame), b.fn = f → b.kind = .normal → b.roundOf = none → Rel W0 σ st w → RF σ fm a b →
          ∃ σ' w' fr z, Rel W0 σ' st' w' ∧ Post σ st σ' st' ∧ RV σ' v z ∧ Steps P (lone (Fat b a todo) cs w) (lone fr cs w') ∧ fr.fn = f ∧ fr.leaving P w' (.returned z) := by
      rintro todo' fm' ⟨v, st', h1, h2⟩ hw hs
      refine ⟨v, st', h1, fun σ w a b cs e1 e2 e3 hR hF => ?_⟩
      obtain ⟨σ', w', fr, z, g1, g2, g3, g4, g5⟩ := h2 σ w a b cs e1 e2 e3 hR (hw σ a b hF)
      exact ⟨σ', w', fr, z, g1, g2, g3, .head (hs b a cs w σ hF) g4, g5⟩
    have same : ∀ σ a b, RF σ fm a b → RF σ fm a b := fun _ _ _ h => h
    split at h
    · exact h.elim
    · rename_i i k
      split at h
      · exact stp (ih k fm st h) same fun b a cs w σ _ => s_inBlock
      · exact stp (ih k fm st h) same fun b a cs w σ _ => s_inScope
      · exact stp (ih _ fm st h) same fun b a cs w σ _ => s_inLoop
      · rename_i c
        split at h
        · exact stp (ih k fm st h) same fun b a cs w σ _ => s_skip
        · exact stp (ih k fm st h) same fun b a cs w σ _ => s_label
        · exact stp (ih _ fm st h) same fun b a cs w σ _ => s_seq
        · rename_i c x y
          split at h
          · rename_i hc
            exact stp (ih _ fm st h) same fun b a cs w σ hF => s_cond (t := true) (by have := Fm.rho_sound hF.tm _ _ hc; simpa [RV] using this)
          · rename_i hc
            exact stp (ih _ fm st h) same fun b a cs w σ hF => s_cond (t := false) (by have := Fm.rho_sound hF.tm _ _ hc; simpa [RV] using this)
          · rename_i t hc
            cases t with
            | true => exact stp (ih _ _ st (h.1 rfl)) (fun σ a b hF => setC_RF hc hF) fun b a cs w σ hF => s_cond (t := true) (by have := Fm.rho_sound hF.tm _ _ hc; simpa [RV] using this)
            | false => exact stp (ih _ _ st (h.2 rfl)) (fun σ a b hF => setC_RF hc hF) fun b a cs w σ hF => s_cond (t := false) (by have := Fm.rho_sound hF.tm _ _ hc; simpa [RV] using this)
          · exact h.elim
        · exact stp (ih _ fm st h) same fun b a cs w σ _ => s_block
        · exact stp (ih _ fm st h) same fun b a cs w σ _ => s_scope
        · exact stp (ih _ fm st h) same fun b a cs w σ _ => s_loop
        · rename_i id
          split at h
          · rename_i k' hk
            exact stp (ih k' fm st h) same fun b a cs w σ _ => s_exit hk
          · exact h.elim
        · split at h
          · rename_i vs hd hrs
            refine ⟨_, st, h, fun σ w a b cs h3 h4 h5 hR hF => ?_⟩
            obtain ⟨z, ez, rz⟩ := run_results hR hF.tm hrs
            have hdf : a.defers = [] := by have := hF.df; rw [hd] at this; simpa [RDs] using this
            refine ⟨σ, w, { b with tmps := a.tmps, todo := .code .ret :: k, defers := a.defers, mode := .returning }, z, hR, .refl _ _, rz, ?_, h3, ?_⟩
            · exact .one (step_lone_go (by simp [stepG, stepG.exec, Fat, h5]))
            · exact ⟨rfl, hdf, h4, fn, by simp only; rw [h3]; exact hf, ez⟩
          · exact h.elim
        · rename_i id ops
          obtain ⟨fm', st', g1, gg⟩ := vcSeq_sound hC ops.toList 0 fm st rfl h
          obtain ⟨v, st2, h1, h2⟩ := ih k fm' st' g1
          refine ⟨v, st2, h1, fun σ w a b cs e1 e2 e3 hR hF => ?_⟩
          obtain ⟨σ', w', a', g2, gp, g4, g5⟩ := gg σ w a b k cs hR hF
          obtain ⟨σ2, w2, fr, z, k1, k2, k3, k4, k5⟩ := h2 σ' w' a' b cs e1 e2 e3 g2 g4
          have hrng : List.range' 0 ops.toList.length = List.range ops.size := by rw [List.range_eq_range']; simp
          rw [hrng] at g5
          exact ⟨σ2, w2, fr, z, k1, gp.trans k2, k3, (Steps.one s_region).trans (g5.trans k4), k5⟩
        · exact h.elim
      · exact h.elim

theorem handN_ok {P : Program} {W0 : World} {s0 : St} {E : Specs} {inl : List FuncId} (hE : SpecsOk P s0 E) (hB : Tab s0 W0) : ∀ n, HandOk P W0 (handN P E inl n)
  | 0 => handE_ok hE hB
  | n + 1 => by
    intro g args st K h
    simp only [handN] at h
    split at h
    · rename_i fn hin hf
      split at h
      · rename_i c hen hb
        obtain ⟨v, st', h1, h2⟩ := vin_sound (f := g) (handN_ok hE hB n) hf 100000 [.code c] _ st h
        refine ⟨v, st', h1, fun σ w args' hR ha => ⟨fun w => ?_, fun cs => ?_⟩⟩
        · have hne : (fn.name == "runtime.NumGoroutine") = false := by simpa [enterable] using hen
          simp [callFunc, hf, hb]
          simpa using hne
        · obtain ⟨b0, hb0⟩ : ∃ b0 : Frame, b0 = { fn := g, tmps := #[], todo := [], defers := [], mode := .run, kind := .normal, roundOf := none } := ⟨_, rfl⟩
          have henter : Frame.enter P g args' .normal = Fat b0 { tmps := args' ++ Array.replicate (fn.ntmps - args'.size) undef, defers := [] } [.code c] := by
            simp [Frame.enter, Fat, hf, hb, hb0]
          have hF := enter_RF (fn := fn) (b0 := b0) ha (by rw [hb0])
          obtain ⟨σ', w', fr, z, g1, g2, g3, g4, g5, g6⟩ := h2 σ w _ b0 cs (by rw [hb0]) (by rw [hb0]) (by rw [hb0]) hR hF
          exact ⟨σ', w', fr, g1, g2, by rw [henter]; exact g4, g5, z, g3, g6⟩
      · exact h.elim
    · exact handE_ok hE hB g args st K h

set_option maxHeartbeats 2000000 in
theorem vc_sound {E : Specs} {C : Hand} {ann : Ann} {fn : Func} (hE : SpecsOk P s0 E) (hC : HandOk P W0 C) (hB : Tab s0 W0) (hf : P.funcs[f]? = some fn) : ∀ (n : Nat) (todo : List VI) (fm : Fm) (st : St),
    vc P E C ann fn n todo fm st K → HOk P s0 f W0 fz0 K todo → J P s0 f W0 fz0 (todo.map VI.er) fm st K := by
  intro n
  induction n with
  | zero => intro todo fm st h; exact h.elim
  | succ n ih =>
    intro todo fm st h hH
    simp only [vc, fS_eq] at h
    split at h
    · exact h.elim
    · rename_i c A k; exact hH.1 fm st h
    · rename_i i k
      have hHk : HOk P s0 f W0 fz0 K k := hH
      split at h
      · exact (ih k fm st h hHk).step fun b a cs w σ _ _ => s_inBlock
      · exact (ih k fm st h hHk).step fun b a cs w σ _ _ => s_inScope
      · rename_i x
        exact (ih _ fm st h hHk).step fun b a cs w σ _ _ => s_inLoop
      · rename_i c
        split at h
        · exact (ih k fm st h hHk).step fun b a cs w σ _ _ => s_skip
        · exact (ih k fm st h hHk).step fun b a cs w σ _ _ => s_label
        · rename_i x y
          split at h
          · exact (ih _ fm st h hHk).step fun b a cs w σ _ _ => s_seq
          · rename_i L _
            obtain ⟨h1, h2⟩ := h
            refine (ih _ fm st h1 ⟨fun fm' st' ⟨a, hp, hs⟩ => ?_, hHk⟩).step fun b a cs w σ _ _ => s_seq
            exact (ih _ _ _ (h2 a hp) hHk).weak fun σ w b0 bb hR hF => by
              obtain ⟨g1, g2⟩ := subS_sound hs hR hF
              exact ⟨_, g1, rfl, fun _ _ _ e => e, g2⟩
        · rename_i c x y
          split at h
          · rename_i hc
            exact (ih _ fm st h hHk).step fun b a cs w σ hF _ => s_cond (t := true) (by have := Fm.rho_sound hF.tm _ _ hc; simpa [RV] using this)
          · rename_i hc
            exact (ih _ fm st h hHk).step fun b a cs w σ hF _ => s_cond (t := false) (by have := Fm.rho_sound hF.tm _ _ hc; simpa [RV] using this)
          · rename_i t hc
            cases t with
            | true =>
              have h := h.1 rfl
              have hj : J P s0 f W0 fz0 (.code x :: k.map VI.er) fm st K := (ih _ _ st h hHk).weak fun σ w a b hR hF => ⟨σ, hR, rfl, fun _ _ _ e => e, setC_RF hc hF⟩
              exact hj.step fun b a cs w σ hF _ => s_cond (t := true) (by have := Fm.rho_sound hF.tm _ _ hc; simpa [RV] using this)
            | false =>
              have h := h.2 rfl
              have hj : J P s0 f W0 fz0 (.code y :: k.map VI.er) fm st K := (ih _ _ st h hHk).weak fun σ w a b hR hF => ⟨σ, hR, rfl, fun _ _ _ e => e, setC_RF hc hF⟩
              exact hj.step fun b a cs w σ hF _ => s_cond (t := false) (by have := Fm.rho_sound hF.tm _ _ hc; simpa [RV] using this)
          · exact h.elim
        · exact (ih _ fm st h hHk).step fun b a cs w σ _ _ => s_block
        · exact (ih _ fm st h hHk).step fun b a cs w σ _ _ => s_scope
        · rename_i x
          split at h
          · exact (ih _ fm st h hHk).step fun b a cs w σ _ _ => s_loop
          · rename_i L _
            obtain ⟨fmz, stz, h, hz⟩ := fzK_sound _ _ _ _ h
            suffices hsuf : J P s0 f W0 fz0 (.code (.loop x) :: k.map VI.er) fmz stz K from hsuf.weak fun σ w b0 bb hR hF => hz W0 σ w b0 bb hR hF
            clear hz
            revert h
            generalize fmz = fm
            generalize stz = st
            intro h
            obtain ⟨⟨a0, hp0, hs0⟩, hrd⟩ := h
            -- every round
            have hall : ∀ (m : Nat) (a : L.α), L.mu a ≤ m → L.pre a → J P s0 f W0 fz0 (.code x :: .inLoop x :: k.map VI.er) (L.inv a (fm.without fn k x x) st).1 (L.inv a (fm.without fn k x x) st).2 K := by
              intro m
              induction m with
              | zero =>
                intro a hm hp
                have := ih _ _ _ (hrd a hp) ⟨fun fm' st' ⟨a', _, hlt, _⟩ => by omega, hHk⟩
                exact this
              | succ m ihm =>
                intro a hm hp
                have := ih _ _ _ (hrd a hp) ⟨fun fm' st' ⟨a', hp', hlt, hsub⟩ => ?_, hHk⟩
                · exact this
                · have hj := ihm a' (by omega) hp'
                  have hj2 : J P s0 f W0 fz0 (.code x :: .inLoop x :: k.map VI.er) fm' st' K := hj.weak fun σ w b0 bb hR hF => by
                    obtain ⟨g1, g2⟩ := subS_sound hsub hR hF
                    exact ⟨_, g1, rfl, fun _ _ _ e => e, g2⟩
                  exact hj2.step fun b a cs w σ _ _ => s_inLoop
            have hj : J P s0 f W0 fz0 (.code x :: .inLoop x :: k.map VI.er) fm st K := (hall _ a0 (Nat.le_refl _) hp0).weak fun σ w b0 bb hR hF => by
              obtain ⟨g1, g2⟩ := subS_sound hs0 hR hF
              exact ⟨_, g1, rfl, fun _ _ _ e => e, g2⟩
            exact hj.step fun b a cs w σ _ _ => s_loop
        · rename_i id
          split at h
          · rename_i k' hk
            obtain ⟨h1, p, h2⟩ := exitV_er k k' hk
            have hH' : HOk P s0 f W0 fz0 K k' := HOk.drop p k' (by rw [← h2]; exact hHk)
            exact (ih k' fm st h hH').step fun b a cs w σ _ _ => s_exit h1
          · exact h.elim
        · exact vcRet_sound hf h
        · rename_i id ops
          intro σ w a b cs h1 h2 h3 h4 h5 hR hF
          obtain ⟨fm', st', g1, gg⟩ := vcSeq_sound hC ops.toList 0 fm st rfl h
          obtain ⟨σ', w', a', g2, gp, g4, g5⟩ := gg σ w a b (k.map VI.er) cs hR hF
          have g3 := gp.le
          obtain ⟨z, w2, fr, fz', v, k1, k2, k3, k4, k5, k6, k7, k8⟩ := ih k fm' st' g1 hHk σ' w' a' b cs (g3.base.trans h1) (fun b o v e => g3.fz b o v (h2 b o v e)) h3 h4 h5 g2 g4
          refine ⟨z, w2, fr, fz', v, k1, k2, k3, k4, k5, k6, ?_, k8⟩
          have hrng : List.range' 0 ops.toList.length = List.range ops.size := by rw [List.range_eq_range']; simp
          rw [hrng] at g5
          exact (Steps.one s_region).trans (g5.trans k7)
        · rename_i id ops
          split at h
          · rename_i ord ms hm hp
            obtain ⟨fm', st', g1, g2⟩ := vcCanon_sound (fm0 := fm) ord fm st [] (fun p hp => by cases hp) h
            exact XOk.toJ (fun σ w a b cs hR hF => region_drawn (cfE_ok hE hB) yfN_ok hm hp g1 hR hF) (ih k fm' st' g2 hHk)
          · exact h.elim
        · exact h.elim
      · exact h.elim
end

/-- a contract, out of what is to be shown -/
theorem Ct.of_vc {P : Program} {s0 : St} {E : Specs} (hE : SpecsOk P s0 E) {f : FuncId} {args : List V} {v : V} {fn : Func} {body : Code} (inl : List FuncId) (ann : Ann) (n : Nat)
    (hf : P.funcs[f]? = some fn) (hen : enterable fn = true) (hb : fn.body = some body)
    (h : vc P E (handN P E inl 8) ann fn n [.it (.code body)] (Fm.enter fn args) s0 (fun u => eqL v u)) : Ct P s0 f args v :=
  Ct.of_body hf hen hb fun _ _ hB => (vc_sound hE (handN_ok hE hB 8) hB hf n [.it (.code body)] _ _ h trivial).mono fun _ hu fz z hr => eqL_sound hu fz z hr

def bodyOf (fn : Func) : Code := match fn.body with | some c => c | none => .skip
def ready (fn : Func) : Bool := match enterable fn, fn.body with | true, some _ => true | _, _ => false
/-- what is to be shown of a function: called with 'args' it comes to 'v' -/
def vcF (P : Program) (s0 : St) (E : Specs) (inl : List FuncId) (ann : Ann) (fn : Func) (args : List V) (v : V) : Prop :=
  vc P E (handN P E inl 8) ann fn 100000 [.it (.code (bodyOf fn))] (Fm.enter fn args) s0 fun u => eqL v u
theorem Ct.of_vcF {P : Program} {s0 : St} {E : Specs} (hE : SpecsOk P s0 E) {f : FuncId} {args : List V} {v : V} {fn : Func} {inl : List FuncId} {ann : Ann}
    (hf : P.funcs[f]? = some fn) (hr : ready fn = true) (h : vcF P s0 E inl ann fn args v) : Ct P s0 f args v := by
  unfold ready at hr
  split at hr
  · rename_i c he hb
    refine Ct.of_vc hE inl ann 100000 hf he hb ?_
    unfold vcF bodyOf at h
    rw [hb] at h
    exact h
  · cases hr
def noSpecs : Specs := fun _ _ => none
def noAnn : Ann := {}
/-- ways are joined ahead of these regions; nothing is kept of the ways -/
def joinAt (p : Prop) : Lp := { α := Unit, inv := fun _ fm st => (fm, st), pre := fun _ => p, mu := fun _ => 0 }
def cutsAt : List (Nat × Prop) → Nat → Option Lp
  | [], _ => none
  | p :: ps, i => match Nat.beq p.1 i with
    | true => some (joinAt p.2)
    | false => cutsAt ps i
def loopsAt : List (Nat × Lp) → Nat → Option Lp
  | [], _ => none
  | p :: ps, i => match Nat.beq p.1 i with
    | true => some p.2
    | false => loopsAt ps i
theorem noSpecs_ok (P : Program) (s0 : St) : SpecsOk P s0 noSpecs := fun _ _ _ _ h => by cases h
end Go.Proofs.YthnldpbkjegfaaaDoor.Sv
