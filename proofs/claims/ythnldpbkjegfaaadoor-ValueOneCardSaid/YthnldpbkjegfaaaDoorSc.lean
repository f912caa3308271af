/-
  Frames, regions in the order of the text and drawn.
-/
import Derived.Lib.Bytealg
import Derived.Laws.StandIn
import Derived.Orders
import Derived.Test.YthnldpbkjegfaaaDoorSb
set_option linter.unusedVariables false
set_option linter.unusedSimpArgs false
set_option linter.unnecessarySimpa false
noncomputable section
namespace Go.Proofs.YthnldpbkjegfaaaDoor.Sv
open Go Go.RowKit

/-! ### frames, as they run -/
def Fat (b : Frame) (a : Act) (todo : List Item) : Frame := { b with tmps := a.tmps, todo, defers := a.defers, mode := .run }

theorem Fat_eval (b : Frame) (a : Act) (todo : List Item) : (Fat b a todo).eval = a.eval := by
  funext x; cases x <;> rfl

section
variable {P : Program} {b : Frame} {a : Act} {k : List Item} {cs : List Frame} {w : World}
theorem s_skip : step P (lone (Fat b a (.code .skip :: k)) cs w) = .next (lone (Fat b a k) cs w) := step_lone_go (by simp [stepG, stepG.exec, Fat])
theorem s_label {l : Nat} : step P (lone (Fat b a (.code (.label l) :: k)) cs w) = .next (lone (Fat b a k) cs w) := step_lone_go (by simp [stepG, stepG.exec, Fat])
theorem s_inBlock {id : Nat} : step P (lone (Fat b a (.inBlock id :: k)) cs w) = .next (lone (Fat b a k) cs w) := step_lone_go (by simp [stepG, stepG.exec, Fat])
theorem s_inScope {c : Code} : step P (lone (Fat b a (.inScope c :: k)) cs w) = .next (lone (Fat b a k) cs w) := step_lone_go (by simp [stepG, stepG.exec, Fat])
theorem s_seq {x y : Code} : step P (lone (Fat b a (.code (.seq x y) :: k)) cs w) = .next (lone (Fat b a (.code x :: .code y :: k)) cs w) := step_lone_go (by simp [stepG, stepG.exec, Fat])
theorem s_cond {c : Operand} {x y : Code} {t : Bool} (h : a.eval c = .bool t) : step P (lone (Fat b a (.code (.cond c x y) :: k)) cs w) = .next (lone (Fat b a (.code (if t then x else y) :: k)) cs w) :=
  step_lone_go (by
    have := congrFun (Fat_eval b a (.code (.cond c x y) :: k)) c
    simp only [Fat] at this
    simp [stepG, stepG.exec, Fat, this, h])
theorem s_block {id : Nat} {c : Code} : step P (lone (Fat b a (.code (.block id c) :: k)) cs w) = .next (lone (Fat b a (.code c :: .inBlock id :: k)) cs w) := step_lone_go (by simp [stepG, stepG.exec, Fat])
theorem s_scope {c : Code} : step P (lone (Fat b a (.code (.scope c) :: k)) cs w) = .next (lone (Fat b a (.code c :: .inScope c :: k)) cs w) := step_lone_go (by simp [stepG, stepG.exec, Fat])
theorem s_loop {c : Code} : step P (lone (Fat b a (.code (.loop c) :: k)) cs w) = .next (lone (Fat b a (.code c :: .inLoop c :: k)) cs w) := step_lone_go (by simp [stepG, stepG.exec, Fat])
theorem s_inLoop {c : Code} : step P (lone (Fat b a (.inLoop c :: k)) cs w) = .next (lone (Fat b a (.code c :: .inLoop c :: k)) cs w) := step_lone_go (by simp [stepG, stepG.exec, Fat])
theorem s_exit {id : Nat} {k' : List Item} (h : exitTo id k = some k') : step P (lone (Fat b a (.code (.exit id) :: k)) cs w) = .next (lone (Fat b a k') cs w) :=
  step_lone_go (by simp [stepG, stepG.exec, Fat, h])
theorem s_region {id : Nat} {ops : Array Oper} : step P (lone (Fat b a (.code (.region id ops false) :: k)) cs w) = .next (lone (Fat b a (.inRegion ops (List.range ops.size) :: k)) cs w) :=
  step_lone_go (by simp [stepG, stepG.exec, Fat])
theorem s_draw {id : Nat} {ops : Array Oper} : step P (lone (Fat b a (.code (.region id ops true) :: k)) cs w) =
      .next (lone (Fat b a (.inRegion ops (Region.schedule (P.follows .mixedOrders) ops (w.tape w.drawn (.order b.fn id))) :: k)) cs { w with drawn := w.drawn + 1 }) :=
  step_lone_go (by simp [stepG, stepG.exec, Fat, choose, Sem.run, Question.forced, Question.cut])
theorem s_regionEnd {ops : Array Oper} : step P (lone (Fat b a (.inRegion ops [] :: k)) cs w) = .next (lone (Fat b a k) cs w) := step_lone_go (by simp [stepG, stepG.exec, Fat])

theorem finish_Fat (ops : Array Oper) (i : Nat) (rest : List Nat) (k : List Item) (v : Value) :
    (Fat b a (.inRegion ops (i :: rest) :: k)).finish v = Fat b (a.put ((ops[i]?).bind (·.dst)) v) (.inRegion ops rest :: k) := by
  cases h : (ops[i]?).bind (·.dst) <;> simp [Frame.finish, Fat, Act.put, h]

theorem s_skipOp {ops : Array Oper} {i : Nat} {rest : List Nat} {o : Oper} (ho : ops[i]? = some o) (hw : Region.wanted o (yielded ops a.tmps) = false) :
    step P (lone (Fat b a (.inRegion ops (i :: rest) :: k)) cs w) = .next (lone (Fat b (a.put o.dst undef) (.inRegion ops rest :: k)) cs w) := by
  have := finish_Fat (b := b) (a := a) ops i rest k undef
  rw [ho] at this
  simp only [Option.bind_some] at this
  rw [← this]
  exact step_lone_go (by
    simp only [Fat] at *
    simp [stepG, stepG.exec, ho, hw])

theorem sG_op {ops : Array Oper} {i : Nat} {rest : List Nat} {o : Oper} (ho : ops[i]? = some o) (hw : Region.wanted o (yielded ops a.tmps) = true) (hnd : (∀ c, o.op ≠ .defer c) ∨ b.roundOf = none) :
    stepG P true { frame := Fat b a (.inRegion ops (i :: rest) :: k), callers := cs, status := .running, dying := none } w =
      stepG.apply P true (Fat b a (.inRegion ops (i :: rest) :: k)) cs none (execOp a.eval o) w := by
  have he := Fat_eval b a (.inRegion ops (i :: rest) :: k)
  simp only [Fat] at he
  simp only [stepG, stepG.exec, Fat, ho, hw, Option.map_some, Option.getD_some, if_true, stepG.oper, Frame.oper?, he]
  rcases hnd with h | h
  · cases hr : b.roundOf with
    | none => rfl
    | some l =>
      cases hop : o.op <;> first | rfl | exact absurd hop (h _)
  · rw [h]

theorem s_value {ops : Array Oper} {i : Nat} {rest : List Nat} {o : Oper} {v : Value} {w' : World} (ho : ops[i]? = some o) (hw : Region.wanted o (yielded ops a.tmps) = true)
    (hnd : (∀ c, o.op ≠ .defer c) ∨ b.roundOf = none) (hr : (execOp a.eval o).run P w = .ok (.value v) w') :
    step P (lone (Fat b a (.inRegion ops (i :: rest) :: k)) cs w) = .next (lone (Fat b (a.put o.dst v) (.inRegion ops rest :: k)) cs w') := by
  have hf := finish_Fat (b := b) (a := a) ops i rest k v
  rw [ho] at hf
  simp only [Option.bind_some] at hf
  rw [← hf]
  refine step_lone_go ?_
  rw [sG_op ho hw hnd]; simp [stepG.apply, hr]

theorem s_skipped {ops : Array Oper} {i : Nat} {rest : List Nat} {o : Oper} {w' : World} (ho : ops[i]? = some o) (hw : Region.wanted o (yielded ops a.tmps) = true)
    (hnd : (∀ c, o.op ≠ .defer c) ∨ b.roundOf = none) (hr : (execOp a.eval o).run P w = .ok .skip w') :
    step P (lone (Fat b a (.inRegion ops (i :: rest) :: k)) cs w) = .next (lone (Fat b (a.put o.dst undef) (.inRegion ops rest :: k)) cs w') := by
  have hf := finish_Fat (b := b) (a := a) ops i rest k undef
  rw [ho] at hf
  simp only [Option.bind_some] at hf
  rw [← hf]
  refine step_lone_go ?_
  rw [sG_op ho hw hnd]; simp [stepG.apply, hr]

theorem s_enter {ops : Array Oper} {i : Nat} {rest : List Nat} {o : Oper} {f : FuncId} {args : Array Value} {w' : World} (ho : ops[i]? = some o) (hw : Region.wanted o (yielded ops a.tmps) = true)
    (hnd : (∀ c, o.op ≠ .defer c) ∨ b.roundOf = none) (hr : (execOp a.eval o).run P w = .ok (.enter f args) w') :
    step P (lone (Fat b a (.inRegion ops (i :: rest) :: k)) cs w) = .next (lone (Frame.enter P f args .normal) (Fat b a (.inRegion ops (i :: rest) :: k) :: cs) w') := by
  refine step_lone_go ?_
  rw [sG_op ho hw hnd]; simp [stepG.apply, hr, Fat]

theorem s_round {ops : Array Oper} {i : Nat} {rest : List Nat} {o : Oper} {l : Nat} {f : FuncId} {tmps : Array Value} {as bd : Code} {w' : World} (ho : ops[i]? = some o) (hw : Region.wanted o (yielded ops a.tmps) = true)
    (hnd : (∀ c, o.op ≠ .defer c) ∨ b.roundOf = none) (hr : (execOp a.eval o).run P w = .ok (.round l f tmps as bd) w') :
    step P (lone (Fat b a (.inRegion ops (i :: rest) :: k)) cs w) = .next (lone (Frame.round l f tmps as bd .normal) (Fat b a (.inRegion ops (i :: rest) :: k) :: cs) w') := by
  refine step_lone_go ?_
  rw [sG_op ho hw hnd]; simp [stepG.apply, hr]

theorem s_defer {ops : Array Oper} {i : Nat} {rest : List Nat} {o : Oper} {d : Deferred} {w' : World} (ho : ops[i]? = some o) (hw : Region.wanted o (yielded ops a.tmps) = true)
    (hnd : (∀ c, o.op ≠ .defer c) ∨ b.roundOf = none) (hr : (execOp a.eval o).run P w = .ok (.defer d) w') :
    step P (lone (Fat b a (.inRegion ops (i :: rest) :: k)) cs w) = .next (lone (Fat b ({ a with defers := d :: a.defers }.put o.dst undef) (.inRegion ops rest :: k)) cs w') := by
  have hf := finish_Fat (b := b) (a := { a with defers := d :: a.defers }) ops i rest k undef
  rw [ho] at hf
  simp only [Option.bind_some] at hf
  rw [← hf]
  refine step_lone_go ?_
  rw [sG_op ho hw hnd]; simp only [stepG.apply, Sem.runT_eq, hr, GStep.bare_after]; rfl

theorem s_recover {ops : Array Oper} {i : Nat} {rest : List Nat} {o : Oper} {w' : World} (ho : ops[i]? = some o) (hw : Region.wanted o (yielded ops a.tmps) = true)
    (hro : b.roundOf = none) (hr : (execOp a.eval o).run P w = .ok .recover w') :
    step P (lone (Fat b a (.inRegion ops (i :: rest) :: k)) cs w) = match tryRecover (Fat b a (.inRegion ops (i :: rest) :: k)) cs with
      | some (v, cs') => .next (lone (Fat b (a.put o.dst v) (.inRegion ops rest :: k)) cs' w')
      | none => .next (lone (Fat b (a.put o.dst .nilIface) (.inRegion ops rest :: k)) cs w') := by
  have hf := fun v => finish_Fat (b := b) (a := a) ops i rest k v
  simp only [ho, Option.bind_some] at hf
  have hro' : (Fat b a (.inRegion ops (i :: rest) :: k)).roundOf = none := hro
  split
  · rename_i v cs' ht
    rw [← hf]
    refine step_lone_go ?_
    rw [sG_op ho hw (.inr hro)]; simp only [stepG.apply, Sem.runT_eq, hr, hro', ht, GStep.bare_after]; rfl
  · rename_i ht
    rw [← hf]
    refine step_lone_go ?_
    rw [sG_op ho hw (.inr hro)]; simp only [stepG.apply, Sem.runT_eq, hr, hro', ht, GStep.bare_after]; rfl

theorem s_panic {ops : Array Oper} {i : Nat} {rest : List Nat} {o : Oper} {v : Value} {w' : World} (ho : ops[i]? = some o) (hw : Region.wanted o (yielded ops a.tmps) = true)
    (hnd : (∀ c, o.op ≠ .defer c) ∨ b.roundOf = none) (hr : (execOp a.eval o).run P w = .halt (.panic v) w') :
    step P (lone (Fat b a (.inRegion ops (i :: rest) :: k)) cs w) = .next (lone { Fat b a (.inRegion ops (i :: rest) :: k) with mode := .panicking [{ v, recovered := false }] } cs w') := by
  refine step_lone_go ?_
  rw [sG_op ho hw hnd]; simp [stepG.apply, hr, Fat, Frame.raise]
end

/-! ### how code ends -/
inductive Xc where
  | normal
  | exit (id : Nat)
  | ret
  | panic (chain : List PanicEntry)

def Arr (P : Program) (m : Machine) (b : Frame) (k : List Item) (cs : List Frame) : Xc → Act → World → Prop
  | .normal, a, w => Steps P m (lone (Fat b a k) cs w)
  | .exit id, a, w => ∃ k0, exitTo id k0 = exitTo id k ∧ Steps P m (lone (Fat b a (.code (.exit id) :: k0)) cs w)
  | .ret, a, w => ∃ k0, Steps P m (lone (Fat b a (.code .ret :: k0)) cs w)
  | .panic chain, a, w => ∃ todo, Steps P m (lone { Fat b a todo with mode := .panicking chain } cs w)

theorem Arr.of_steps {P : Program} {m m1 : Machine} {b : Frame} {k : List Item} {cs : List Frame} {e : Xc} {a : Act} {w : World} (h : Steps P m m1) (h' : Arr P m1 b k cs e a w) : Arr P m b k cs e a w := by
  cases e with
  | normal => exact h.trans h'
  | exit id => obtain ⟨k0, e, hs⟩ := h'; exact ⟨k0, e, h.trans hs⟩
  | ret => obtain ⟨k0, hs⟩ := h'; exact ⟨k0, h.trans hs⟩
  | panic c => obtain ⟨t, hs⟩ := h'; exact ⟨t, h.trans hs⟩

/-- an exit that is none of 'normal' goes past an item that is no block -/
theorem Arr.past {P : Program} {m : Machine} {b : Frame} {x : Item} {k : List Item} {cs : List Frame} {e : Xc} {a : Act} {w : World} (hx : ∀ id, x ≠ .inBlock id) (he : e ≠ .normal)
    (h : Arr P m b (x :: k) cs e a w) : Arr P m b k cs e a w := by
  cases e with
  | normal => exact absurd rfl he
  | exit id =>
    obtain ⟨k0, e, hs⟩ := h
    refine ⟨k0, e.trans ?_, hs⟩
    cases x <;> first | rfl | exact absurd rfl (hx _)
  | ret => exact h
  | panic c => exact h

/-! ### the evaluator's frames and ends -/
inductive D where
  | mark (i : Nat)
  | call (f : FuncId) (args captured : List V)

structure Fm where
  n : Nat
  tm : Tri V
  df : List D
  rd : Option Nat

inductive Ex where
  | normal
  | exit (id : Nat)
  | ret
  | panic (v : V)

def RD (σ : Sg) : D → Deferred → Prop
  | .mark i, d => ∃ p, σ i = some p ∧ d = { target := .collected p.blk, args := #[] }
  | .call f args cap, d => ∃ c x : Array Value, d = { target := .fn (.func f) c, args := x } ∧ RVs σ args x.toList ∧ RVs σ cap c.toList
def RDs (σ : Sg) : List D → List Deferred → Prop
  | [], l => l = []
  | d :: ds, l => ∃ x r, l = x :: r ∧ RD σ d x ∧ RDs σ ds r

theorem RDs.mono {σ σ' : Sg} (h : Le σ σ') : ∀ {ds : List D} {l : List Deferred}, RDs σ ds l → RDs σ' ds l
  | [], l, r => r
  | d :: ds, l, r => by
    simp only [RDs] at r ⊢; obtain ⟨x, rr, e, h1, h2⟩ := r
    refine ⟨x, rr, e, ?_, RDs.mono h h2⟩
    cases d with
    | mark i => simp only [RD] at h1 ⊢; obtain ⟨p, hp, e⟩ := h1; exact ⟨p, h _ _ hp, e⟩
    | call f a c => simp only [RD] at h1 ⊢; obtain ⟨c', x', e, h3, h4⟩ := h1; exact ⟨c', x', e, RVs.mono h _ _ h3, RVs.mono h _ _ h4⟩

def RRd (σ : Sg) (rd : Option Nat) (b : Option Nat) : Prop :=
  match rd with
  | none => b = none
  | some l => ∃ p, σ l = some p ∧ b = some p.blk

structure RF (σ : Sg) (fm : Fm) (a : Act) (b : Frame) : Prop where
  tm : RT σ fm.n fm.tm a.tmps
  df : RDs σ fm.df a.defers
  rd : RRd σ fm.rd b.roundOf

theorem RF.mono {σ σ' : Sg} (h : Le σ σ') {fm : Fm} {a : Act} {b : Frame} (r : RF σ fm a b) : RF σ' fm a b := ⟨r.tm.mono h, r.df.mono h, by
  have := r.rd; unfold RRd at this ⊢; split at this
  · exact this
  · obtain ⟨p, hp, e⟩ := this; exact ⟨p, h _ _ hp, e⟩⟩

def RX (σ : Sg) : Ex → Xc → Prop
  | .normal, e => e = .normal
  | .exit id, e => e = .exit id
  | .ret, e => e = .ret
  | .panic v, e => ∃ x, RV σ v x ∧ e = .panic [{ v := x, recovered := false }]

def Fm.rho (fm : Fm) : Rho
  | .tmp t => fm.tm.get t
  | .const v => ofValue v
  | .func f => some (.func (.func f) [] [])
  | .global g => some (.glob g 0)

theorem Fm.rho_sound {σ : Sg} {fm : Fm} {a : Act} {n : Nat} (h : RT σ n fm.tm a.tmps) (x : Operand) (v : V) (e : fm.rho x = some v) : RV σ v (a.eval x) := by
  cases x with
  | tmp t => exact (h.2 t v e).2
  | const c => exact ofValue_sound e
  | func f => simp only [Fm.rho, Option.some.injEq] at e; subst e; simp only [RV, RVs, Act.eval]; exact ⟨#[], #[], rfl, rfl, rfl⟩
  | global g => simp only [Fm.rho, Option.some.injEq] at e; subst e; simp only [RV, Act.eval]

/-- a value goes into a slot -/
def Fm.put (fm : Fm) (d : Option Tmp) (v : V) : Option Fm :=
  match d with
  | none => some fm
  | some t => match fm with
    | ⟨n, tm, df, rd⟩ => match Nat.ble (t + 1) n with
      | true => some ⟨n, tm.set t (some v), df, rd⟩
      | false => none

theorem Fm.put_eq (fm : Fm) (d : Option Tmp) (v : V) : fm.put d v = match d with
    | none => some fm
    | some t => match Nat.ble (t + 1) fm.n with
      | true => some { fm with tm := fm.tm.set t (some v) }
      | false => none := by
  cases fm; cases d <;> rfl

theorem Fm.put_sound {σ : Sg} {fm fm' : Fm} {a : Act} {b : Frame} {d : Option Tmp} {v : V} {x : Value} (h : fm.put d v = some fm') (r : RF σ fm a b) (hv : RV σ v x) : RF σ fm' (a.put d x) b := by
  rw [Fm.put_eq] at h
  split at h
  · cases h; exact r
  · rename_i t
    split at h
    · rename_i hle
      cases h
      have hle := Nat.le_of_ble_eq_true hle
      obtain ⟨h1, h2⟩ := r.tm
      refine ⟨⟨by simp [Act.put, h1], fun s u hs => ?_⟩, r.df, r.rd⟩
      simp only at hs
      rw [Tri.get_set] at hs
      simp only [Act.put]
      split at hs
      · rename_i e; subst e; obtain rfl := Option.some.inj hs
        refine ⟨by show s < fm.n; omega, ?_⟩
        have : (a.tmps.setIfInBounds s x).getD s undef = x := by rw [Array.getD_eq_getD_getElem?, Array.getElem?_setIfInBounds, if_pos rfl, if_pos (by omega)]; rfl
        rw [this]; exact hv
      · rename_i e
        obtain ⟨c1, c2⟩ := h2 s u hs
        refine ⟨c1, ?_⟩
        have : (a.tmps.setIfInBounds t x).getD s undef = a.tmps.getD s undef := by
          rw [Array.getD_eq_getD_getElem?, Array.getD_eq_getD_getElem?, Array.getElem?_setIfInBounds, if_neg (Ne.symm e)]
        rw [this]; exact c2
    · cases h
end Go.Proofs.YthnldpbkjegfaaaDoor.Sv

namespace Go.Proofs.YthnldpbkjegfaaaDoor.Sv
open Go Go.RowKit

inductive CR where
  | ok (v : V)
  | panic (v : V)

abbrev CF := FuncId → List V → St → Option (CR × St)
abbrev YF := Nat → List V → St → Option (CR × St)

def CallOk (P : Program) (W0 : World) (f : FuncId) (args : List V) (st : St) (r : CR) (st' : St) : Prop :=
  ∀ σ w (args' : Array Value), Rel W0 σ st w → RVs σ args args'.toList → (∀ w, (callFunc f args').run P w = .ok (.enter f args') w) ∧
    ∀ cs, ∃ σ' w' fr, Rel W0 σ' st' w' ∧ Post σ st σ' st' ∧ Steps P (lone (Frame.enter P f args' .normal) cs w) (lone fr cs w') ∧ fr.fn = f ∧
      match r with
      | .ok v => ∃ z, RV σ' v z ∧ fr.leaving P w' (.returned z)
      | .panic v => ∃ z, RV σ' v z ∧ fr.leaving P w' (.panicked [{ v := z, recovered := false }])

def YieldOk (P : Program) (W0 : World) (l : Nat) (args : List V) (st : St) (r : CR) (st' : St) : Prop :=
  ∀ σ w (args' : Array Value) p, Rel W0 σ st w → σ l = some p → RVs σ args args'.toList → ∃ f tmps as bd, (Instr.yield p.blk args').run P w = .ok (.round p.blk f tmps as bd) w ∧
    ∀ c cs, c.mode = .run → ∃ σ' w', Rel W0 σ' st' w' ∧ Post σ st σ' st' ∧
      match r with
      | .ok v => ∃ z, RV σ' v z ∧ Steps P (lone (Frame.round p.blk f tmps as bd .normal) (c :: cs) w) (lone (c.finish z) cs w')
      | .panic v => ∃ z, RV σ' v z ∧ Steps P (lone (Frame.round p.blk f tmps as bd .normal) (c :: cs) w) (lone { c with mode := .panicking [{ v := z, recovered := false }] } cs w')

def CFok (P : Program) (W0 : World) (cf : CF) : Prop := ∀ f args st r st', cf f args st = some (r, st') → CallOk P W0 f args st r st'
def YFok (P : Program) (W0 : World) (yf : YF) : Prop := ∀ l args st r st', yf l args st = some (r, st') → YieldOk P W0 l args st r st'

def OpOk (P : Program) (W0 : World) (σ : Sg) (st : St) (w : World) (b : Frame) (a : Act) (cs : List Frame) (ops : Array Oper) (i : Nat) (rest : List Nat) (k : List Item) (o : Oper) (r : CR) (st' : St) : Prop :=
  ∃ σ' w', Rel W0 σ' st' w' ∧ Post σ st σ' st' ∧
    match r with
    | .ok v => ∃ z, RV σ' v z ∧ Steps P (lone (Fat b a (.inRegion ops (i :: rest) :: k)) cs w) (lone (Fat b (a.put o.dst z) (.inRegion ops rest :: k)) cs w')
    | .panic v => ∃ z, RV σ' v z ∧ ∃ todo, Steps P (lone (Fat b a (.inRegion ops (i :: rest) :: k)) cs w) (lone { Fat b a todo with mode := .panicking [{ v := z, recovered := false }] } cs w')

section
variable {P : Program} {W0 : World} {σ σ' : Sg} {st st' : St} {w w' : World} {b : Frame} {a : Act} {cs : List Frame} {ops : Array Oper} {i : Nat} {rest : List Nat} {k : List Item} {o : Oper}

theorem OpOk.value {v : V} {z : Value} (ho : ops[i]? = some o) (hw : Region.wanted o (yielded ops a.tmps) = true) (hnd : (∀ c, o.op ≠ .defer c) ∨ b.roundOf = none)
    (hr : (execOp a.eval o).run P w = .ok (.value z) w') (hR : Rel W0 σ' st' w') (hP : Post σ st σ' st') (hv : RV σ' v z) : OpOk P W0 σ st w b a cs ops i rest k o (.ok v) st' :=
  ⟨σ', w', hR, hP, z, hv, .one (s_value ho hw hnd hr)⟩

theorem RV.undef (σ : Sg) : RV σ (.tuple []) undef := by simp only [RV, RVs]; exact ⟨#[], rfl, rfl⟩

theorem OpOk.skip (ho : ops[i]? = some o) (hw : Region.wanted o (yielded ops a.tmps) = true) (hnd : (∀ c, o.op ≠ .defer c) ∨ b.roundOf = none)
    (hr : (execOp a.eval o).run P w = .ok .skip w') (hR : Rel W0 σ' st' w') (hP : Post σ st σ' st') : OpOk P W0 σ st w b a cs ops i rest k o (.ok (.tuple [])) st' :=
  ⟨σ', w', hR, hP, _, RV.undef _, .one (s_skipped ho hw hnd hr)⟩

theorem OpOk.call {f : FuncId} {args : List V} {args' : Array Value} {r : CR} (hc : CallOk P W0 f args st r st') (ho : ops[i]? = some o) (hw : Region.wanted o (yielded ops a.tmps) = true)
    (hnd : (∀ c, o.op ≠ .defer c) ∨ b.roundOf = none) (hR : Rel W0 σ st w) (ha : RVs σ args args'.toList)
    (hr : ∀ nx, (callFunc f args').run P w = .ok nx w → (execOp a.eval o).run P w = .ok nx w) : OpOk P W0 σ st w b a cs ops i rest k o r st' := by
  obtain ⟨h1, h2⟩ := hc σ w args' hR ha
  obtain ⟨σ', w', fr, hR', hP', hst, hfn, hres⟩ := h2 (Fat b a (.inRegion ops (i :: rest) :: k) :: cs)
  have hen := s_enter (k := k) (cs := cs) (rest := rest) ho hw hnd (hr _ (h1 w))
  refine ⟨σ', w', hR', hP', ?_⟩
  cases r with
  | ok v =>
    obtain ⟨z, hz, hl⟩ := hres
    refine ⟨z, hz, .head hen (hst.trans (.one ?_))⟩
    have := step_leave_returned (c := Fat b a (.inRegion ops (i :: rest) :: k)) (cs := cs) hl
    rw [finish_Fat, ho] at this
    exact this
  | panic v =>
    obtain ⟨z, hz, hl⟩ := hres
    refine ⟨z, hz, .inRegion ops (i :: rest) :: k, .head hen (hst.trans (.one ?_))⟩
    have := step_leave_panicked (c := Fat b a (.inRegion ops (i :: rest) :: k)) (cs := cs) hl
    exact this

theorem OpOk.yield {l : Nat} {p : Pl} {args : List V} {args' : Array Value} {r : CR} (hc : YieldOk P W0 l args st r st') (ho : ops[i]? = some o) (hw : Region.wanted o (yielded ops a.tmps) = true)
    (hnd : (∀ c, o.op ≠ .defer c) ∨ b.roundOf = none) (hR : Rel W0 σ st w) (hp : σ l = some p) (ha : RVs σ args args'.toList)
    (hr : ∀ nx, (Instr.yield p.blk args').run P w = .ok nx w → (execOp a.eval o).run P w = .ok nx w) : OpOk P W0 σ st w b a cs ops i rest k o r st' := by
  obtain ⟨f, tmps, as, bd, h1, h2⟩ := hc σ w args' p hR hp ha
  obtain ⟨σ', w', hR', hP', hres⟩ := h2 (Fat b a (.inRegion ops (i :: rest) :: k)) cs rfl
  have hen := s_round (k := k) (cs := cs) (rest := rest) ho hw hnd (hr _ h1)
  refine ⟨σ', w', hR', hP', ?_⟩
  cases r with
  | ok v =>
    obtain ⟨z, hz, hl⟩ := hres
    refine ⟨z, hz, .head hen ?_⟩
    rw [finish_Fat, ho] at hl
    exact hl
  | panic v =>
    obtain ⟨z, hz, hl⟩ := hres
    exact ⟨z, hz, .inRegion ops (i :: rest) :: k, .head hen hl⟩
end

/-! ### a function without a body: the model's own entry -/
def idxB (c : Nat) : List Nat → Nat → Int
  | [], _ => -1
  | b :: l, i => match Nat.beq b c with
    | true => Int.ofNat i
    | false => idxB c l (i + 1)

theorem idxB_eq (c : Nat) (hc : c ≤ 255) : ∀ (l : List UInt8) (i : Nat), idxB c (l.map UInt8.toNat) i = if Lib.indexByte l c.toUInt8 == -1 then -1 else Lib.indexByte l c.toUInt8 + i
  | [], i => by simp [idxB, Lib.indexByte]
  | b :: l, i => by
    have ih := idxB_eq c hc l (i + 1)
    have hb : Nat.beq b.toNat c = (b == c.toUInt8) := by
      rw [Bool.eq_iff_iff, Nat.beq_eq, beq_iff_eq]
      constructor
      · intro e; subst e; simp
      · intro e; subst e; simp; omega
    simp only [List.map_cons, idxB, hb, Lib.indexByte]
    by_cases h : (b == c.toUInt8) = true
    · simp only [h, if_true]; simp
    · have h : (b == c.toUInt8) = false := by simpa using h
      simp only [h, Bool.false_eq_true, if_false]
      rw [ih]
      have hge := Lib.indexByte_ge l c.toUInt8
      by_cases h1 : Lib.indexByte l c.toUInt8 = -1
      · simp [h1]
      · have h2 : (Lib.indexByte l c.toUInt8 == -1) = false := by simpa using h1
        have h3 : (Lib.indexByte l c.toUInt8 + 1 == -1) = false := by rw [beq_eq_false_iff_ne]; omega
        simp only [h2, h3, Bool.false_eq_true, if_false]
        omega

def cmpB : List Nat → List Nat → Int
  | [], [] => 0
  | [], _ :: _ => -1
  | _ :: _, [] => 1
  | a :: x, b :: y => match Nat.ble (a + 1) b with
    | true => -1
    | false => match Nat.ble (b + 1) a with
      | true => 1
      | false => cmpB x y

theorem cmpB_eq : ∀ (l m : List UInt8), cmpB (l.map UInt8.toNat) (m.map UInt8.toNat) = Lib.compareBytes l m
  | [], [] => rfl
  | [], _ :: _ => rfl
  | _ :: _, [] => rfl
  | a :: x, b :: y => by
    simp only [List.map_cons, cmpB, Lib.compareBytes]
    have key : ∀ a b : UInt8, Nat.ble (a.toNat + 1) b.toNat = decide (a < b) := by
      intro a b
      rw [Bool.eq_iff_iff, Nat.ble_eq, decide_eq_true_iff, UInt8.lt_iff_toNat_lt]
      omega
    rw [key, key]
    by_cases h1 : a < b
    · simp only [h1, decide_true, if_true]
    · simp only [h1, decide_false, if_false]
      by_cases h2 : b < a
      · simp only [h2, decide_true, if_true]
      · simp only [h2, decide_false, if_false]
        exact cmpB_eq x y

def idxArm : List V → Option V
  | [.str s, .int .u8 (.ofNat c)] => match Nat.ble c 255 with
    | true => some (.int .i64 (idxB c s 0))
    | false => none
  | _ => none
def cmpArm : List V → Option V
  | [.str s, .str t] => some (.int .i64 (cmpB s t))
  | _ => none

def externV (P : Program) (g : FuncId) (args : List V) : Option V :=
  match P.funcs[g]? with
  | some fn => match fn.body with
    | none => match fn.origin == "" with
      | true => match fn.name == "internal/bytealg.IndexByteString" with
        | true => idxArm args
        | false => match fn.name == "internal/bytealg.abigen_runtime_cmpstring" with
          | true => cmpArm args
          | false => none
      | false => none
    | some _ => none
  | none => none

theorem look1 : Extern.allNextRows.lookup "internal/bytealg.IndexByteString" = none := by kernel_rfl
theorem look2 : Extern.allNextRows.lookup "" = none := by kernel_rfl
theorem look3 : Extern.allGenericRows.lookup "internal/bytealg.IndexByteString" = none := by kernel_rfl
theorem look4 : Extern.allTypedRows.lookup "internal/bytealg.IndexByteString" = none := by kernel_rfl
theorem look5 : Extern.allRows.lookup "internal/bytealg.IndexByteString" = some Extern.BytealgIndexByte.indexByte := by kernel_rfl
theorem look6 : Extern.allNextRows.lookup "internal/bytealg.abigen_runtime_cmpstring" = none := by kernel_rfl
theorem look7 : Extern.allGenericRows.lookup "internal/bytealg.abigen_runtime_cmpstring" = none := by kernel_rfl
theorem look8 : Extern.allTypedRows.lookup "internal/bytealg.abigen_runtime_cmpstring" = none := by kernel_rfl
theorem look9 : Extern.allRows.lookup "internal/bytealg.abigen_runtime_cmpstring" = some Extern.BytealgCompare.compare := by kernel_rfl

theorem externV_sound {P : Program} {σ : Sg} {g : FuncId} {args : List V} {v : V} {args' : Array Value} (h : externV P g args = some v) (ha : RVs σ args args'.toList) :
    ∃ z, (∀ w, (callFunc g args').run P w = .ok (.value z) w) ∧ RV σ v z := by
  unfold externV at h
  split at h
  · rename_i fn hf
    split at h
    · rename_i hb
      split at h
      · rename_i h2
        have h2 : fn.origin = "" := by simpa using h2
        split at h
        · rename_i h1
          have h1 : fn.name = "internal/bytealg.IndexByteString" := by simpa using h1
          unfold idxArm at h
          split at h
          · rename_i s c
            split at h
            · rename_i hc
              cases h
              have hc := Nat.le_of_ble_eq_true hc
              simp only [RVs, RV] at ha
              obtain ⟨x, r, e, ⟨t, rfl, ht⟩, y, r2, rfl, rfl, rfl⟩ := ha
              have hargs : args' = #[.string t, .int .u8 (Int.ofNat c)] := by apply Array.ext'; simpa using e
              have hn : Extern.findNext fn = none := by simp [Extern.findNext, h1, h2, look1, look2]
              have hf' : Extern.find fn = some Extern.BytealgIndexByte.indexByte := by simp [Extern.find, h1, look3, look4, look5]
              refine ⟨.int .i64 (Lib.indexByte t.data.toList c.toUInt8), fun w => ?_, ?_⟩
              · rw [run_callFunc_indexByte hf (by rw [h1]; decide) (by rw [hb]; rfl) hn hf', hargs, Lib.run_indexByteString]; rfl
              · simp only [RV]
                have := idxB_eq c hc t.data.toList 0
                subst ht
                unfold bs
                rw [this]
                have hge := Lib.indexByte_ge t.data.toList c.toUInt8
                by_cases h1 : Lib.indexByte t.data.toList c.toUInt8 = -1
                · simp [h1]
                · have h2 : (Lib.indexByte t.data.toList c.toUInt8 == -1) = false := by simpa using h1
                  simp [h2]
            · cases h
          · cases h
        · split at h
          · rename_i h1
            have h1 : fn.name = "internal/bytealg.abigen_runtime_cmpstring" := by simpa using h1
            unfold cmpArm at h
            split at h
            · rename_i s u
              cases h
              simp only [RVs, RV] at ha
              obtain ⟨x, r, e, ⟨t, rfl, ht⟩, y, r2, rfl, ⟨t2, rfl, ht2⟩, rfl⟩ := ha
              have hargs : args' = #[.string t, .string t2] := by apply Array.ext'; simpa using e
              have hn : Extern.findNext fn = none := by simp [Extern.findNext, h1, h2, look6, look2]
              have hf' : Extern.find fn = some Extern.BytealgCompare.compare := by simp [Extern.find, h1, look7, look8, look9]
              refine ⟨.int .i64 (Lib.compareBytes t.data.toList t2.data.toList), fun w => ?_, ?_⟩
              · rw [run_callFunc_extern hf (by rw [h1]; decide) (by rw [hb]; rfl) hn hf', hargs, Lib.run_compareString]; rfl
              · simp only [RV]
                subst ht ht2
                unfold bs
                rw [cmpB_eq]
            · cases h
          · cases h
      · cases h
    · cases h
  · cases h

/-- the method that an interface's value has for this name: its own alone, of a value that is no pointer or by pointer of a pointer -/
def methodV (P : Program) (t : TypeId) (name : String) : Option FuncId :=
  match P.info? t with
  | none => none
  | some i => match i.methods.find? (·.name == name) with
    | none => none
    | some m => match m.path.toList, m.func, P.underlying t with
      | [], some (f, p), some d => match d, p with
        | .pointer _, true => some f
        | .pointer _, false => none
        | _, false => some f
        | _, true => none
      | _, _, _ => none

theorem methodV_sound {P : Program} {t : TypeId} {name : String} {f : FuncId} (h : methodV P t name = some f) (v : Value) (args : Array Value) (w : World) (nx : Next)
    (hnx : (callFunc f (#[v] ++ args)).run P w = .ok nx w) : (callMethod (.iface t v) name args).run P w = .ok nx w := by
  unfold methodV at h
  split at h
  · cases h
  · rename_i i hi
    split at h
    · cases h
    · rename_i m hm
      split at h
      · rename_i f' p d hpath hfunc hu
        have hm' : method (P.types.size + Made.depth) t v name = method (P.types.size + (Made.depth - 1) + 1) t v name := rfl
        have key : (method (P.types.size + Made.depth) t v name).run P w = .ok (f, v) w := by
          rw [hm']
          split at h <;> cases h <;>
            simp_all [method, typeInfo, run_underlying hu, follow, receiverAt, Place.get]
        simp only [callMethod, Sem.run_bind, run_program, Result.andThen_ok, key]
        exact hnx
      · cases h


def evalE0 (P : Program) (cf : CF) (yf : YF) (ρ : Rho) (o : Oper) (st : St) : Option (CR × St) :=
  match o.op with
  | .store t a x => match storeE P st t (ρ a) (ρ x) with
    | some st' => some (.ok (.tuple []), st')
    | none => none
  | .mapUpdate t m k x => match mapUpdateE P st t (ρ m) (ρ k) (ρ x) with
    | some st' => some (.ok (.tuple []), st')
    | none => none
  | .insert t m k x => match mapUpdateE P st t (ρ m) (ρ k) (ρ x) with
    | some st' => some (.ok (.tuple []), st')
    | none => none
  | .mapEntry t m k => match mapEntryE P st t (ρ m) (ρ k) with
    | some (v, st') => some (.ok v, st')
    | none => none
  | .entryStore _ m s x => match entryStoreE st (ρ m) (ρ s) (ρ x) with
    | some st' => some (.ok (.tuple []), st')
    | none => none
  | .range t x => match rangeE P st t (ρ x) with
    | some (v, st') => some (.ok v, st')
    | none => none
  | .next it false => match overE st (ρ it) with
    | true => some (.ok (.tuple [.bool false]), st)
    | false => match oneE st (ρ it) with
      | some (v, st') => some (.ok v, st')
      | none => none
  | .entry it => match entryE st (ρ it) with
    | some v => some (.ok v, st)
    | none => none
  | .panic x => match ρ x with
    | some (.iface t v) => some (.panic (.iface t v), st)
    | _ => none
  | .call c => match c.callee with
    | .builtin .append => match c.args.toList with
      | [s, x] => match appendE P st c.argTypes (ρ s) (ρ x) with
        | some (v, st') => some (.ok v, st')
        | none => none
      | _ => none
    | .builtin .copy => match c.args.toList with
      | [s, x] => match copyE P st c.argTypes (ρ s) (ρ x) with
        | some (v, st') => some (.ok v, st')
        | none => none
      | _ => none
    | .builtin .delete => match c.args.toList with
      | [s, x] => match deleteE P st c.argTypes (ρ s) (ρ x) with
        | some st' => some (.ok (.tuple []), st')
        | none => none
      | _ => none
    | .builtin .clear => match c.args.toList with
      | [s] => match clearE P st c.argTypes (ρ s) with
        | some st' => some (.ok (.tuple []), st')
        | none => none
      | _ => none
    | .value f => match ρ f, rhoAll ρ c.args.toList with
      | some (.func (.func g) first cap), some args => match externV P g (first ++ args ++ cap) with
        | some v => some (.ok v, st)
        | none => cf g (first ++ args ++ cap) st
      | some (.yield l), some args => yf l args st
      | _, _ => none
    | .invoke r name => match ρ r, rhoAll ρ c.args.toList with
      | some (.iface t v), some args => match methodV P t name with
        | some g => cf g (v :: args) st
        | none => none
      | _, _ => none
    | _ => none
  | _ => none

set_option maxHeartbeats 2000000 in
theorem evalE0_sound {P : Program} {W0 : World} {cf : CF} {yf : YF} (hcf : CFok P W0 cf) (hyf : YFok P W0 yf) {σ : Sg} {st st' : St} {w : World} {ρ : Rho} {o : Oper} {r : CR}
    {b : Frame} {a : Act} {cs : List Frame} {ops : Array Oper} {i : Nat} {rest : List Nat} {k : List Item}
    (hR : Rel W0 σ st w) (h : evalE0 P cf yf ρ o st = some (r, st')) (hr : ∀ x ∈ o.op.operands, ∀ u, ρ x = some u → RV σ u (a.eval x))
    (ho : ops[i]? = some o) (hw : Region.wanted o (yielded ops a.tmps) = true) : OpOk P W0 σ st w b a cs ops i rest k o r st' := by
  unfold evalE0 at h
  split at h
  case h_11 => cases h
  all_goals (rename_i hop; rw [hop] at hr; simp only [Op.operands] at hr; have hnd : (∀ c, o.op ≠ .defer c) ∨ b.roundOf = none := .inl (by rw [hop]; intro c hc; cases hc))
  case h_1 t ad x =>
    split at h <;> cases h
    rename_i h1
    obtain ⟨w', e, r1, p1⟩ := storeE_sound (ua := a.eval ad) (ux := a.eval x) hR h1 (hr ad (by simp)) (hr x (by simp))
    exact .skip ho hw hnd (by simp [execOp, hop, e]) r1 p1
  case h_2 t m kk x =>
    split at h <;> cases h
    rename_i h1
    obtain ⟨w', e, r1, p1⟩ := mapUpdateE_sound (um := a.eval m) (uk := a.eval kk) (ux := a.eval x) hR h1 (hr m (by simp)) (hr kk (by simp)) (hr x (by simp))
    exact .skip ho hw hnd (by simp [execOp, hop, e]) r1 p1
  case h_3 t m kk x =>
    split at h <;> cases h
    rename_i h1
    obtain ⟨w', e, r1, p1⟩ := mapUpdateE_sound (um := a.eval m) (uk := a.eval kk) (ux := a.eval x) hR h1 (hr m (by simp)) (hr kk (by simp)) (hr x (by simp))
    exact .skip ho hw hnd (by simp [execOp, hop, e]) r1 p1
  case h_4 t m kk =>
    split at h <;> cases h
    rename_i h1
    obtain ⟨z, w', e, rz, r1, p1⟩ := mapEntryE_sound (um := a.eval m) (uk := a.eval kk) hR h1 (hr m (by simp)) (hr kk (by simp))
    exact .value ho hw hnd (by simp [execOp, hop, e]) r1 p1 rz
  case h_5 t m s x =>
    split at h <;> cases h
    rename_i h1
    obtain ⟨w', e, r1, p1⟩ := entryStoreE_sound (P := P) (t := t) (um := a.eval m) (us := a.eval s) (ux := a.eval x) hR h1 (hr m (by simp)) (hr s (by simp)) (hr x (by simp))
    exact .skip ho hw hnd (by simp [execOp, hop, e]) r1 p1
  case h_6 t x =>
    split at h <;> cases h
    rename_i h1
    obtain ⟨σ', z, w', e, rz, r1, p1⟩ := rangeE_sound (P := P) (u := a.eval x) hR h1 (hr x (by simp))
    exact .value ho hw hnd (by simp [execOp, hop, e]) r1 p1 rz
  case h_7 it =>
    split at h
    · cases h
      rename_i h1
      have e := overE_sound (P := P) (u := a.eval it) hR h1 (hr it (by simp)) o.type
      exact .value (z := .tuple #[.bool false]) ho hw hnd (by simp [execOp, hop, e]) hR (.refl _ _) (by simp only [RV]; exact ⟨_, rfl, by simp only [RVs, RV]; exact ⟨_, _, rfl, rfl, rfl⟩⟩)
    · split at h <;> cases h
      rename_i h1
      obtain ⟨z, w', e, rz, r1, p1⟩ := oneE_sound (P := P) (u := a.eval it) hR h1 (hr it (by simp)) o.type
      exact .value ho hw hnd (by simp [execOp, hop, e]) r1 p1 rz
  case h_8 it =>
    split at h <;> cases h
    rename_i h1
    obtain ⟨z, e, rz⟩ := entryE_sound (P := P) (u := a.eval it) hR h1 (hr it (by simp))
    exact .value ho hw hnd (by simp [execOp, hop, e]) hR (.refl _ _) rz
  case h_9 x =>
    split at h <;> cases h
    rename_i t v hx
    have hx := hr x (by simp) _ hx
    have hx' := hx
    simp only [RV] at hx
    obtain ⟨y, e, _⟩ := hx
    refine ⟨σ, w, hR, .refl _ _, a.eval x, hx', _, .one (s_panic ho hw hnd ?_)⟩
    simp [execOp, hop, e, Instr.panic]
  case h_10 c =>
    split at h
    · rename_i hc
      split at h
      · rename_i s x ha
        have ha := toList_eq_two ha
        split at h <;> cases h
        rename_i h1
        obtain ⟨σ', z, w', e, rz, r1, p1⟩ := appendE_sound (ty := o.type) (us := a.eval s) (u := a.eval x) hR h1 (hr s (by simp [Call.operands, hc, ha])) (hr x (by simp [Call.operands, hc, ha]))
        exact .value ho hw hnd (by simp [execOp, hop, resolve, hc, ha, invoke, builtin, e]) r1 p1 rz
      · cases h
    · rename_i hc
      split at h
      · rename_i s x ha
        have ha := toList_eq_two ha
        split at h <;> cases h
        rename_i h1
        obtain ⟨z, w', e, rz, r1, p1⟩ := copyE_sound (ty := o.type) (ud := a.eval s) (us := a.eval x) hR h1 (hr s (by simp [Call.operands, hc, ha])) (hr x (by simp [Call.operands, hc, ha]))
        exact .value ho hw hnd (by simp [execOp, hop, resolve, hc, ha, invoke, builtin, e]) r1 p1 rz
      · cases h
    · rename_i hc
      split at h
      · rename_i s x ha
        have ha := toList_eq_two ha
        split at h <;> cases h
        rename_i h1
        obtain ⟨w', e, r1, p1⟩ := deleteE_sound (ty := o.type) (um := a.eval s) (uk := a.eval x) hR h1 (hr s (by simp [Call.operands, hc, ha])) (hr x (by simp [Call.operands, hc, ha]))
        exact .value ho hw hnd (by simp [execOp, hop, resolve, hc, ha, invoke, builtin, e]; rfl) r1 p1 (RV.undef _)
      · cases h
    · rename_i hc
      split at h
      · rename_i s ha
        have ha := toList_eq_one ha
        split at h <;> cases h
        rename_i h1
        obtain ⟨w', e, r1, p1⟩ := clearE_sound (ty := o.type) (u := a.eval s) hR h1 (hr s (by simp [Call.operands, hc, ha]))
        exact .value ho hw hnd (by simp [execOp, hop, resolve, hc, ha, invoke, builtin, e]) r1 p1 (RV.undef _)
      · cases h
    · rename_i f hc
      split at h
      · rename_i g first cap args hf hargs
        have hfv := hr f (by simp [Call.operands, hc]) _ hf
        simp only [RV] at hfv
        obtain ⟨f', c', e, h1, h2⟩ := hfv
        have h3 := rhoAll_sound (σ := σ) (ρ' := a.eval) hargs (fun x hx => hr x (by simp [Call.operands, hc]; exact .inr (by simpa using hx)))
        have hargs : RVs σ (first ++ args ++ cap) (f' ++ c.args.map a.eval ++ c').toList := by
          rw [Array.toList_append, Array.toList_append, Array.toList_map]
          exact (h1.append h3).append h2
        have hinv : ∀ nx, (callFunc g (f' ++ c.args.map a.eval ++ c')).run P w = .ok nx w → (execOp a.eval o).run P w = .ok nx w := by
          intro nx hnx
          simp only [execOp, hop, resolve, hc, e, Deferred.ofValue, Sem.run_bind, Sem.run_pure, Result.andThen_ok, invoke]
          exact hnx
        split at h
        · rename_i v hv
          cases h
          obtain ⟨z, ez, rz⟩ := externV_sound hv hargs
          exact .value ho hw hnd (hinv _ (ez w)) hR (.refl _ _) rz
        · exact OpOk.call (args' := f' ++ c.args.map a.eval ++ c') (hcf _ _ _ _ _ h) ho hw hnd hR hargs hinv
      · rename_i l args hf hargs
        have hfv := hr f (by simp [Call.operands, hc]) _ hf
        simp only [RV] at hfv
        obtain ⟨p, hp, e⟩ := hfv
        have h3 := rhoAll_sound (σ := σ) (ρ' := a.eval) hargs (fun x hx => hr x (by simp [Call.operands, hc]; exact .inr (by simpa using hx)))
        refine OpOk.yield (args' := c.args.map a.eval) (hyf _ _ _ _ _ h) ho hw hnd hR hp ?_ ?_
        · rw [Array.toList_map]; exact h3
        · intro nx hnx
          simp only [execOp, hop, resolve, hc, e, Deferred.ofValue, Sem.run_bind, Sem.run_pure, Result.andThen_ok, invoke, Array.empty_append]
          exact hnx
      · cases h
    · rename_i r name hc
      split at h
      · rename_i t v args hf hargs
        have hfv := hr r (by simp [Call.operands, hc]) _ hf
        simp only [RV] at hfv
        obtain ⟨y, e, hy⟩ := hfv
        have h3 := rhoAll_sound (σ := σ) (ρ' := a.eval) hargs (fun x hx => hr x (by simp [Call.operands, hc]; exact .inr (by simpa using hx)))
        split at h
        · rename_i g hm
          refine OpOk.call (args' := #[y] ++ c.args.map a.eval) (hcf _ _ _ _ _ h) ho hw hnd hR ?_ ?_
          · simp only [Array.toList_append, Array.toList_map, List.cons_append, List.nil_append, RVs]
            exact ⟨_, _, rfl, hy, h3⟩
          · intro nx hnx
            have hx : ∀ (z : Value) (l : Array Value), (#[z] ++ l)[0]? = some z ∧ (#[z] ++ l).extract 1 (#[z] ++ l).size = l := fun z l => ⟨by rw [Array.getElem?_append_left (by show 0 < 1; omega)]; rfl, by
              apply Array.ext'; simp⟩
            simp only [execOp, hop, resolve, hc, e, Sem.run_bind, Sem.run_pure, Result.andThen_ok, invoke, (hx _ _).1, (hx _ _).2]
            exact methodV_sound hm _ _ _ _ hnx
        · cases h
      · cases h
    · cases h

/-- an append to a slice of which not all is known by numerals -/
def appS (P : Program) (st : St) (ρ : Rho) (o : Oper) : Option (Prop × V × St) :=
  match o.op with
  | .call c => match c.callee with
    | .builtin .append => match c.args.toList with
      | [s, x] => symApp P st c.argTypes (ρ s) (ρ x)
      | _ => none
    | _ => none
  | .convert s d x => symTxt P st s d (ρ x)
  | _ => none

def evalE (P : Program) (cf : CF) (yf : YF) (ρ : Rho) (o : Oper) (st : St) : Option (CR × St) :=
  match askC (appS P st ρ o) with
  | some (v, st') => some (.ok v, st')
  | none => evalE0 P cf yf ρ o st

theorem evalE_sound {P : Program} {W0 : World} {cf : CF} {yf : YF} (hcf : CFok P W0 cf) (hyf : YFok P W0 yf) {σ : Sg} {st st' : St} {w : World} {ρ : Rho} {o : Oper} {r : CR}
    {b : Frame} {a : Act} {cs : List Frame} {ops : Array Oper} {i : Nat} {rest : List Nat} {k : List Item}
    (hR : Rel W0 σ st w) (h : evalE P cf yf ρ o st = some (r, st')) (hr : ∀ x ∈ o.op.operands, ∀ u, ρ x = some u → RV σ u (a.eval x))
    (ho : ops[i]? = some o) (hw : Region.wanted o (yielded ops a.tmps) = true) : OpOk P W0 σ st w b a cs ops i rest k o r st' := by
  unfold evalE at h
  split at h
  · rename_i v st1 hv
    cases h
    obtain ⟨G, h1, hG⟩ := askC_some hv
    unfold appS at h1
    split at h1
    · rename_i c hop
      rw [hop] at hr; simp only [Op.operands] at hr
      split at h1
      · rename_i hc
        split at h1
        · rename_i s x ha
          have ha := toList_eq_two ha
          obtain ⟨σ', z, w', e, rz, r1, p1⟩ := symApp_sound (ty := o.type) (us := a.eval s) (u := a.eval x) hR h1 hG (hr s (by simp [Call.operands, hc, ha])) (hr x (by simp [Call.operands, hc, ha]))
          exact .value ho hw (.inl (by rw [hop]; intro c hc; cases hc)) (by simp [execOp, hop, resolve, hc, ha, invoke, builtin, e]) r1 p1 rz
        · cases h1
      · cases h1
    · rename_i s d x hop
      rw [hop] at hr; simp only [Op.operands] at hr
      obtain ⟨rfl, z, e, rz⟩ := symTxt_sound (u := a.eval x) hR h1 hG (hr x (by simp))
      exact .value ho hw (.inl (by rw [hop]; intro c hc; cases hc)) (by simp [execOp, hop, e]) hR (.refl _ _) rz
    · cases h1
  · exact evalE0_sound hcf hyf hR h hr ho hw

/-- one operation, whatever it is -/
def evalOp (P : Program) (cf : CF) (yf : YF) (ρ : Rho) (o : Oper) (st : St) : Option (CR × St) :=
  match evalP P ρ o with
  | some v => some (.ok v, st)
  | none => match evalL P st ρ o with
    | some v => some (.ok v, st)
    | none => match evalA P ρ o with
      | some (ob, mk) => some (.ok (mk st.next), st.add ob)
      | none => evalE P cf yf ρ o st

theorem evalP_nodefer {P : Program} {ρ : Rho} {o : Oper} {v : V} (h : evalP P ρ o = some v) : ∀ c, o.op ≠ .defer c := by
  intro c e; unfold evalP evalP0 symP symP0 at h; rw [e] at h; simp only at h
  obtain ⟨_, h, _⟩ := askC_some h; cases h
theorem evalL_nodefer {P : Program} {st : St} {ρ : Rho} {o : Oper} {v : V} (h : evalL P st ρ o = some v) : ∀ c, o.op ≠ .defer c := by
  intro c e; unfold evalL at h; rw [e] at h; cases h
theorem evalA_nodefer {P : Program} {ρ : Rho} {o : Oper} {v : O × (Nat → V)} (h : evalA P ρ o = some v) : ∀ c, o.op ≠ .defer c := by
  intro c e; unfold evalA at h; rw [e] at h; cases h

theorem Post.ofPut {σ : Sg} {st : St} {ob : O} {p : Pl} (hs : σ st.next = none) : Post σ st (σ.put st.next p) (st.add ob) := Post.put hs

theorem evalOp_sound {P : Program} {W0 : World} {cf : CF} {yf : YF} (hcf : CFok P W0 cf) (hyf : YFok P W0 yf) {σ : Sg} {st st' : St} {w : World} {ρ : Rho} {o : Oper} {r : CR}
    {b : Frame} {a : Act} {cs : List Frame} {ops : Array Oper} {i : Nat} {rest : List Nat} {k : List Item}
    (hR : Rel W0 σ st w) (h : evalOp P cf yf ρ o st = some (r, st')) (hr : ∀ x ∈ o.op.operands, ∀ u, ρ x = some u → RV σ u (a.eval x))
    (ho : ops[i]? = some o) (hw : Region.wanted o (yielded ops a.tmps) = true) : OpOk P W0 σ st w b a cs ops i rest k o r st' := by
  unfold evalOp at h
  split at h
  · rename_i v hv
    cases h
    obtain ⟨z, e, rz⟩ := evalP_sound hv hr
    exact .value ho hw (.inl (evalP_nodefer hv)) (e w) hR (.refl _ _) rz
  · split at h
    · rename_i v hv
      cases h
      obtain ⟨z, e, rz⟩ := evalL_sound hR hv hr
      exact .value ho hw (.inl (evalL_nodefer hv)) e hR (.refl _ _) rz
    · split at h
      · rename_i ob mk hv
        cases h
        have hfr := hR.fresh
        obtain ⟨z, w', p, e, r1, rz⟩ := evalA_sound (x := st.next) (hR.add ob) hv hr (by simp [St.add]) hfr (by simp only [St.add]; rw [Tri.get_set, if_pos rfl])
        exact .value ho hw (.inl (evalA_nodefer hv)) e r1 (Post.put hfr) rz
      · exact evalE_sound hcf hyf hR h hr ho hw
end Go.Proofs.YthnldpbkjegfaaaDoor.Sv

namespace Go.Proofs.YthnldpbkjegfaaaDoor.Sv
open Go Go.RowKit

/-! ### guards -/
def wantedV (ops : Array Oper) (fm : Fm) (o : Oper) : Option Bool :=
  match o.guard with
  | none => some true
  | some (j, want) => match (ops[j]?).bind (·.dst) with
    | none => some false
    | some t => match fm.tm.get t with
      | some (.bool b) => some (b == want)
      | some (.sb b) => some (b == want)
      | some (.tuple []) => some false
      | _ => none

/-- what an operation looks at -/
def reads (ops : Array Oper) (o : Oper) : List Tmp := o.looksAt ops

theorem wantedV_sound {σ : Sg} {ops : Array Oper} {fm : Fm} {o : Oper} {r : Bool} {tmps : Array Value} (h : wantedV ops fm o = some r)
    (ht : ∀ t ∈ reads ops o, ∀ v, fm.tm.get t = some v → t < tmps.size ∧ RV σ v (tmps.getD t undef)) : Region.wanted o (yielded ops tmps) = r := by
  unfold wantedV at h
  unfold Region.wanted
  split at h
  · rename_i hg; rw [hg]; cases h; rfl
  · rename_i j want hg
    rw [hg]
    split at h
    · rename_i hd; cases h; simp [yielded, hd]
    · rename_i t hd
      have hmem : t ∈ reads ops o := by
        unfold reads Oper.looksAt; rw [hg]; simp only [hd]; exact List.mem_append_right _ (by simp)
      have hget : ∀ v, fm.tm.get t = some v → tmps[t]? = some (tmps.getD t undef) ∧ RV σ v (tmps.getD t undef) := by
        intro v hv
        obtain ⟨h1, h2⟩ := ht t hmem v hv
        refine ⟨?_, h2⟩
        rw [Array.getD_eq_getD_getElem?, Array.getElem?_eq_getElem h1]; rfl
      split at h
      · rename_i b hv
        cases h
        obtain ⟨e1, e2⟩ := hget _ hv
        simp only [RV] at e2
        simp only [yielded, hd, Option.bind_some, e1, e2]
        cases b <;> cases want <;> rfl
      · rename_i b hv
        cases h
        obtain ⟨e1, e2⟩ := hget _ hv
        simp only [RV] at e2
        simp only [yielded, hd, Option.bind_some, e1, e2]
        cases b <;> cases want <;> rfl
      · rename_i hv
        cases h
        obtain ⟨e1, e2⟩ := hget _ hv
        simp only [RV, RVs] at e2
        obtain ⟨a, e3, _⟩ := e2
        simp only [yielded, hd, Option.bind_some, e1, e3]; rfl
      · cases h

theorem operand_reads {ops : Array Oper} {o : Oper} {t : Tmp} (h : Operand.tmp t ∈ o.op.operands) : t ∈ reads ops o := by
  unfold reads Oper.looksAt
  exact List.mem_append_left _ (List.mem_filterMap.2 ⟨.tmp t, by simpa using h, rfl⟩)

theorem rho_reads {σ : Sg} {ops : Array Oper} {fm : Fm} {o : Oper} {a : Act} (ht : ∀ t ∈ reads ops o, ∀ v, fm.tm.get t = some v → t < a.tmps.size ∧ RV σ v (a.tmps.getD t undef)) :
    ∀ x ∈ o.op.operands, ∀ u, fm.rho x = some u → RV σ u (a.eval x) := by
  intro x hx u hu
  cases x with
  | tmp t => exact (ht t (operand_reads hx) u hu).2
  | const c => exact ofValue_sound hu
  | func f => simp only [Fm.rho, Option.some.injEq] at hu; subst hu; simp only [RV, RVs, Act.eval]; exact ⟨#[], #[], rfl, rfl, rfl⟩
  | global g => simp only [Fm.rho, Option.some.injEq] at hu; subst hu; simp only [RV, Act.eval]

theorem RT.reads {σ : Sg} {fm : Fm} {a : Act} (h : RT σ fm.n fm.tm a.tmps) {ops : Array Oper} {o : Oper} : ∀ t ∈ reads ops o, ∀ v, fm.tm.get t = some v → t < a.tmps.size ∧ RV σ v (a.tmps.getD t undef) :=
  fun t _ v hv => ⟨by rw [h.1]; exact (h.2 t v hv).1, (h.2 t v hv).2⟩

/-! ### regions in the order of the text -/
def deferV (fm : Fm) (c : Call) : Option D :=
  match fm.rd, c.callee with
  | none, .value f => match fm.rho f, rhoAll fm.rho c.args.toList with
    | some (.func (.func g) first cap), some args => some (.call g (first ++ args) cap)
    | _, _ => none
  | _, _ => none

def isDefer : Op → Option Call
  | .defer c => some c
  | _ => none

def seqOps (P : Program) (cf : CF) (yf : YF) (ops : Array Oper) : List Oper → Fm → St → Option (Ex × Fm × St)
  | [], fm, st => some (.normal, fm, st)
  | o :: os, fm, st => match wantedV ops fm o with
    | none => none
    | some false => match fm.put o.dst (.tuple []) with
      | some fm' => seqOps P cf yf ops os fm' st
      | none => none
    | some true => match isDefer o.op with
      | some c => match deferV fm c with
        | some d => match ({ fm with df := d :: fm.df } : Fm).put o.dst (.tuple []) with
          | some fm' => seqOps P cf yf ops os fm' st
          | none => none
        | none => none
      | none => match evalOp P cf yf fm.rho o st with
        | some (.ok v, st') => match fm.put o.dst v with
          | some fm' => seqOps P cf yf ops os fm' st'
          | none => none
        | some (.panic v, st') => some (.panic v, fm, st')
        | none => none

def XOk (P : Program) (W0 : World) (σ : Sg) (st : St) (m : Machine) (b : Frame) (k : List Item) (cs : List Frame) (ex : Ex) (fm' : Fm) (st' : St) : Prop :=
  ∃ σ' w' a' e', RX σ' ex e' ∧ Rel W0 σ' st' w' ∧ Post σ st σ' st' ∧ RF σ' fm' a' b ∧ Arr P m b k cs e' a' w'

theorem XOk.of_steps {P : Program} {W0 : World} {σ σ1 : Sg} {st st1 : St} {m m1 : Machine} {b : Frame} {k : List Item} {cs : List Frame} {ex : Ex} {fm' : Fm} {st' : St}
    (hs : Steps P m m1) (hp : Post σ st σ1 st1) (h : XOk P W0 σ1 st1 m1 b k cs ex fm' st') : XOk P W0 σ st m b k cs ex fm' st' := by
  obtain ⟨σ', w', a', e', h1, h2, h3, h4, h5⟩ := h
  exact ⟨σ', w', a', e', h1, h2, hp.trans h3, h4, .of_steps hs h5⟩

theorem Fm.put_rd {fm fm' : Fm} {d : Option Tmp} {v : V} (h : fm.put d v = some fm') : fm'.rd = fm.rd ∧ fm'.n = fm.n := by
  rw [Fm.put_eq] at h
  split at h
  · cases h; exact ⟨rfl, rfl⟩
  · split at h <;> cases h; exact ⟨rfl, rfl⟩

theorem seqOps_sound {P : Program} {W0 : World} {cf : CF} {yf : YF} (hcf : CFok P W0 cf) (hyf : YFok P W0 yf) {ops : Array Oper} {b : Frame} {k : List Item} {cs : List Frame} :
    ∀ (os : List Oper) (i : Nat) (fm : Fm) (st : St) (ex : Ex) (fm' : Fm) (st' : St), ops.toList.drop i = os → seqOps P cf yf ops os fm st = some (ex, fm', st') →
      ∀ σ w a, Rel W0 σ st w → RF σ fm a b → XOk P W0 σ st (lone (Fat b a (.inRegion ops (List.range' i os.length) :: k)) cs w) b k cs ex fm' st' := by
  intro os
  induction os with
  | nil =>
    intro i fm st ex fm' st' _ h σ w a hR hF
    simp only [seqOps, Option.some.injEq, Prod.mk.injEq] at h
    obtain ⟨rfl, rfl, rfl⟩ := h
    exact ⟨σ, w, a, .normal, rfl, hR, .refl _ _, hF, .one s_regionEnd⟩
  | cons o os ih =>
    intro i fm st ex fm' st' hd h σ w a hR hF
    have hi : i < ops.toList.length := by
      rcases Nat.lt_or_ge i ops.toList.length with h1 | h1
      · exact h1
      · rw [List.drop_of_length_le h1] at hd; cases hd
    rw [List.drop_eq_getElem_cons hi] at hd
    injection hd with hd1 hd2
    have ho : ops[i]? = some o := by rw [← Array.getElem?_toList, List.getElem?_eq_getElem hi, hd1]
    have hrng : List.range' i (o :: os).length = i :: List.range' (i + 1) os.length := by simp [List.range'_succ]
    rw [hrng]
    simp only [seqOps] at h
    have hrd := hF.tm.reads (ops := ops) (o := o)
    split at h
    · cases h
    · rename_i hwv
      have hw := wantedV_sound hwv hrd
      split at h
      · rename_i fm1 hput
        exact XOk.of_steps (.one (s_skipOp ho hw)) (.refl _ _) (ih (i + 1) _ _ _ _ _ hd2 h σ w _ hR (Fm.put_sound hput hF (RV.undef σ)))
      · cases h
    · rename_i hwv
      have hw := wantedV_sound hwv hrd
      split at h
      · rename_i c hdef
        have hop : o.op = .defer c := by unfold isDefer at hdef; split at hdef <;> cases hdef; assumption
        split at h
        · rename_i d hd'
          split at h
          · rename_i fm1 hput
            unfold deferV at hd'
            split at hd'
            · rename_i f hrd0 hcal
              have hro : b.roundOf = none := by have := hF.rd; unfold RRd at this; rw [hrd0] at this; exact this
              split at hd'
              · rename_i g first cap args hf hargs
                cases hd'
                have hrho := rho_reads hrd
                rw [hop] at hrho
                simp only [Op.operands] at hrho
                have hfv := hrho f (by simp [Call.operands, hcal]) _ hf
                simp only [RV] at hfv
                obtain ⟨f', c', e, h1, h2⟩ := hfv
                have h3 := rhoAll_sound (σ := σ) (ρ' := a.eval) hargs (fun x hx => hrho x (by simp [Call.operands, hcal]; exact .inr (by simpa using hx)))
                have hrun : (execOp a.eval o).run P w = .ok (.defer { target := .fn (.func g) c', args := f' ++ c.args.map a.eval }) w := by
                  simp only [execOp, hop, resolve, hcal, e, Deferred.ofValue, Sem.run_bind, Sem.run_pure, Result.andThen_ok]
                have hstep := s_defer (b := b) (k := k) (cs := cs) (rest := List.range' (i + 1) os.length) ho hw (.inr hro) hrun
                have hF2 : RF σ { fm with df := .call g (first ++ args) cap :: fm.df } { a with defers := { target := .fn (.func g) c', args := f' ++ c.args.map a.eval } :: a.defers } b := by
                  refine ⟨hF.tm, ?_, hF.rd⟩
                  simp only [RDs]
                  refine ⟨_, _, rfl, ?_, hF.df⟩
                  simp only [RD]
                  refine ⟨_, _, rfl, ?_, h2⟩
                  rw [Array.toList_append, Array.toList_map]; exact h1.append h3
                exact XOk.of_steps (.one hstep) (.refl _ _) (ih (i + 1) _ _ _ _ _ hd2 h σ w _ hR (Fm.put_sound hput hF2 (RV.undef σ)))
              · cases hd'
            · cases hd'
          · cases h
        · cases h
      · split at h
        · rename_i v st1 hev
          split at h
          · rename_i fm1 hput
            obtain ⟨σ1, w1, hR1, hP1, z, hz, hst⟩ := evalOp_sound (b := b) (k := k) (cs := cs) (rest := List.range' (i + 1) os.length) hcf hyf hR hev (rho_reads hrd) ho hw
            exact XOk.of_steps hst hP1 (ih (i + 1) _ _ _ _ _ hd2 h σ1 w1 _ hR1 (Fm.put_sound hput (hF.mono hP1.le) hz))
          · cases h
        · rename_i v st1 hev
          cases h
          obtain ⟨σ1, w1, hR1, hP1, z, hz, todo, hst⟩ := evalOp_sound (b := b) (k := k) (cs := cs) (rest := List.range' (i + 1) os.length) hcf hyf hR hev (rho_reads hrd) ho hw
          refine ⟨σ1, w1, a, .panic [{ v := z, recovered := false }], ?_, hR1, hP1, hF.mono hP1.le, ⟨todo, hst⟩⟩
          simp only [RX]; exact ⟨z, hz, rfl⟩
        · cases h
end Go.Proofs.YthnldpbkjegfaaaDoor.Sv

namespace Go.Proofs.YthnldpbkjegfaaaDoor.Sv
open Go Go.RowKit

/-- may its effect be seen? -/
def isE : Op → Bool
  | .move _ | .assign _ | .pick .. | .build .. | .nilCheck _ | .binOp .. | .unOp .. | .convert .. | .makeInterface .. | .makeFunc .. | .slice .. | .fieldAddr .. | .field .. | .indexAddr ..
  | .index .. | .typeAssert .. | .extract .. | .load .. | .lookup .. | .alloc _ | .box .. | .buildSlice .. | .makeSlice .. | .makeMap .. => false
  | .call c => match c.callee with
    | .builtin .len | .builtin .cap | .builtin .min | .builtin .max => false
    | _ => true
  | _ => true

structure PL where
  i : Nat
  o : Oper
  fm : Fm
  v : V

open Classical in
def V.sameC (x y : V) : Bool := decide (x = y)
theorem sameC_sound {x y : V} (h : V.sameC x y = true) : x = y := by unfold V.sameC at h; exact @of_decide_eq_true _ (Classical.propDecidable _) h
theorem sameC_of {x y : V} (h : x = y) : V.sameC x y = true := by unfold V.sameC; exact @decide_eq_true _ (Classical.propDecidable _) h

/-! ### in a region whose order is drawn a truth is a numeral's (whoever reckons parts it in two) -/
def V.nb : V → V
  | .sb b => .bool b
  | v => v
theorem RV.nb {σ : Sg} {v : V} {x : Value} (h : RV σ v x) : RV σ v.nb x := by cases v <;> exact h

/-- does another operation hang on what this one comes to? -/
def guardsN (ops : Array Oper) (d : Tmp) : List Oper → Bool
  | [] => false
  | o :: os => match o.guard with
    | some (j, _) => match (ops[j]?).bind (·.dst) with
      | some t => match Nat.beq t d with
        | true => true
        | false => guardsN ops d os
      | none => guardsN ops d os
    | none => guardsN ops d os
def guards (ops : Array Oper) (o : Oper) : Bool :=
  match o.dst with
  | some d => guardsN ops d ops.toList
  | none => false
def V.nbw (w : Bool) (v : V) : V := match w with | true => v.nb | false => v
theorem RV.nbw {σ : Sg} {v : V} {x : Value} (w : Bool) (h : RV σ v x) : RV σ (v.nbw w) x := by cases w; exact h; exact h.nb

def evalPn (ops : Array Oper) (P : Program) (ρ : Rho) (o : Oper) : Option V := (evalP P ρ o).map (V.nbw (guards ops o))
def evalLn (ops : Array Oper) (P : Program) (st : St) (ρ : Rho) (o : Oper) : Option V := (evalL P st ρ o).map (V.nbw (guards ops o))
def CR.nb (w : Bool) : CR → CR
  | .ok v => .ok (v.nbw w)
  | .panic v => .panic v
def evalEn (ops : Array Oper) (P : Program) (cf : CF) (yf : YF) (ρ : Rho) (o : Oper) (st : St) : Option (CR × St) := (evalE P cf yf ρ o st).map fun r => (r.1.nb (guards ops o), r.2)

theorem evalPn_sound {ops : Array Oper} {P : Program} {σ : Sg} {ρ : Rho} {ρ' : Operand → Value} {o : Oper} {v : V} (h : evalPn ops P ρ o = some v)
    (hr : ∀ x ∈ o.op.operands, ∀ u, ρ x = some u → RV σ u (ρ' x)) :
    ∃ z, (∀ w, (execOp ρ' o).run P w = .ok (.value z) w) ∧ RV σ v z := by
  unfold evalPn at h
  obtain ⟨u, hu, rfl⟩ := Option.map_eq_some_iff.1 h
  obtain ⟨z, h1, h2⟩ := evalP_sound hu hr
  exact ⟨z, h1, h2.nbw _⟩
theorem evalLn_sound {ops : Array Oper} {P : Program} {W0 : World} {σ : Sg} {st : St} {w : World} {ρ : Rho} {ρ' : Operand → Value} {o : Oper} {v : V} (hR : Rel W0 σ st w) (h : evalLn ops P st ρ o = some v)
    (hr : ∀ x ∈ o.op.operands, ∀ u, ρ x = some u → RV σ u (ρ' x)) :
    ∃ z, (execOp ρ' o).run P w = .ok (.value z) w ∧ RV σ v z := by
  unfold evalLn at h
  obtain ⟨u, hu, rfl⟩ := Option.map_eq_some_iff.1 h
  obtain ⟨z, h1, h2⟩ := evalL_sound hR hu hr
  exact ⟨z, h1, h2.nbw _⟩
theorem evalPn_nodefer {ops : Array Oper} {P : Program} {ρ : Rho} {o : Oper} {v : V} (h : evalPn ops P ρ o = some v) : ∀ c, o.op ≠ .defer c := by
  unfold evalPn at h
  obtain ⟨u, hu, rfl⟩ := Option.map_eq_some_iff.1 h
  exact evalP_nodefer hu
theorem evalLn_nodefer {ops : Array Oper} {P : Program} {st : St} {ρ : Rho} {o : Oper} {v : V} (h : evalLn ops P st ρ o = some v) : ∀ c, o.op ≠ .defer c := by
  unfold evalLn at h
  obtain ⟨u, hu, rfl⟩ := Option.map_eq_some_iff.1 h
  exact evalL_nodefer hu
theorem OpOk.nb {P : Program} {W0 : World} {σ : Sg} {st : St} {w : World} {b : Frame} {a : Act} {cs : List Frame} {ops : Array Oper} {i : Nat} {rest : List Nat} {k : List Item} {o : Oper} {r : CR} {st' : St}
    (g : Bool) (h : OpOk P W0 σ st w b a cs ops i rest k o r st') : OpOk P W0 σ st w b a cs ops i rest k o (r.nb g) st' := by
  obtain ⟨σ', w', h1, h2, h3⟩ := h
  refine ⟨σ', w', h1, h2, ?_⟩
  cases r with
  | ok v => obtain ⟨z, h4, h5⟩ := h3; exact ⟨z, h4.nbw g, h5⟩
  | panic v => exact h3
theorem evalEn_sound {gops : Array Oper} {P : Program} {W0 : World} {cf : CF} {yf : YF} (hcf : CFok P W0 cf) (hyf : YFok P W0 yf) {σ : Sg} {st st' : St} {w : World} {ρ : Rho} {o : Oper} {r : CR}
    {b : Frame} {a : Act} {cs : List Frame} {ops : Array Oper} {i : Nat} {rest : List Nat} {k : List Item}
    (hR : Rel W0 σ st w) (h : evalEn gops P cf yf ρ o st = some (r, st')) (hr : ∀ x ∈ o.op.operands, ∀ u, ρ x = some u → RV σ u (a.eval x))
    (ho : ops[i]? = some o) (hw : Region.wanted o (yielded ops a.tmps) = true) : OpOk P W0 σ st w b a cs ops i rest k o r st' := by
  unfold evalEn at h
  obtain ⟨⟨r0, st0⟩, hu, e⟩ := Option.map_eq_some_iff.1 h
  injection e with e1 e2
  subst e1 e2
  exact (evalE_sound hcf hyf hR hu hr ho hw).nb _

def recheck (ops : Array Oper) (P : Program) (st : St) : List PL → Bool
  | [] => true
  | p :: ps => match evalLn ops P st p.fm.rho p.o with
    | some v => match V.sameC v p.v with
      | true => recheck ops P st ps
      | false => false
    | none => false

theorem recheck_sound {ops : Array Oper} {P : Program} {st : St} : ∀ {pl : List PL}, recheck ops P st pl = true → ∀ p ∈ pl, evalLn ops P st p.fm.rho p.o = some p.v
  | [], _, p, hp => by cases hp
  | q :: ps, h, p, hp => by
    simp only [recheck] at h
    split at h
    · rename_i v hv
      split at h
      · rename_i hs
        rcases List.mem_cons.1 hp with rfl | hp
        · rw [hv, sameC_sound hs]
        · exact recheck_sound h p hp
      · cases h
    · cases h

/-- slots that a region writes hold nothing known -/
def clears : List Oper → Tri V → Tri V
  | [], t => t
  | o :: os, t => clears os (match o.dst with | some d => t.set d none | none => t)

theorem clears_get : ∀ (os : List Oper) (t : Tri V) (k : Nat) (v : V), (clears os t).get k = some v → t.get k = some v ∧ ∀ o ∈ os, o.dst ≠ some k
  | [], t, k, v, h => ⟨h, by simp⟩
  | o :: os, t, k, v, h => by
    simp only [clears] at h
    obtain ⟨h1, h2⟩ := clears_get os _ k v h
    cases hd : o.dst with
    | none => rw [hd] at h1; exact ⟨h1, fun o' ho' => by rcases List.mem_cons.1 ho' with rfl | ho'; · rw [hd]; simp
                                                         · exact h2 o' ho'⟩
    | some d =>
      rw [hd] at h1; simp only at h1
      rw [Tri.get_set] at h1
      split at h1
      · cases h1
      · rename_i hne
        refine ⟨h1, fun o' ho' => ?_⟩
        rcases List.mem_cons.1 ho' with rfl | ho'
        · rw [hd]; intro e; exact hne (Option.some.inj e).symm
        · exact h2 o' ho'

def canon (P : Program) (cf : CF) (yf : YF) (ops : Array Oper) (c : Nat → Nat → Bool) (fm0 : Fm) : List Nat → Fm → St → List PL → Option (Ex × Fm × St)
  | [], fm, st, pl => match recheck ops P st pl with
    | true => some (.normal, fm, st)
    | false => none
  | i :: is, fm, st, pl => match ops[i]? with
    | none => none
    | some o => match wantedV ops fm o with
      | none => none
      | some false => match fm.put o.dst (.tuple []) with
        | some fm' => canon P cf yf ops c fm0 is fm' st pl
        | none => none
      | some true => match isE o.op with
        | false => match evalPn ops P fm.rho o with
          | some v => match fm.put o.dst v with
            | some fm' => canon P cf yf ops c fm0 is fm' st pl
            | none => none
          | none => match evalLn ops P st fm.rho o with
            | some v => match fm.put o.dst v with
              | some fm' => canon P cf yf ops c fm0 is fm' st (⟨i, o, fm, v⟩ :: pl)
              | none => none
            | none => match evalA P fm.rho o with
              | some (ob, mk) => match fm.put o.dst (mk st.next) with
                | some fm' => canon P cf yf ops c fm0 is fm' (st.add ob) pl
                | none => none
              | none => none
        | true => match recheck ops P st pl with
          | false => none
          | true => match evalEn ops P cf yf fm.rho o st with
            | some (.ok v, st') => match fm.put o.dst v with
              | some fm' => canon P cf yf ops c fm0 is fm' st' (pl.filter fun p => !c i p.i)
              | none => none
            | some (.panic v, st') => some (.panic v, { fm0 with tm := clears ops.toList fm0.tm }, st')
            | none => none

/-- what is asked of an order, and of what hangs on what -/
structure Plan (ops : Array Oper) (ord : List Nat) (c : Nat → Nat → Bool) : Prop where
  nodup : ord.Nodup
  all : ∀ i, i < ops.size → i ∈ ord
  lt : ∀ i, i ∈ ord → i < ops.size
  down : ∀ i o j, ops[i]? = some o → c i j = true → ∃ e ∈ o.after.toList, Region.binds .any e = true ∧ (e.on = j ∨ c e.on j = true)
  edge : ∀ i o e, ops[i]? = some o → e ∈ o.after.toList → Region.binds .any e = true → c i e.on = true
  one : ∀ (i j : Nat) (oi oj : Oper) (t : Tmp), i ≠ j → ops[i]? = some oi → ops[j]? = some oj → oi.dst = some t → oj.dst ≠ some t
  look : ∀ (i j : Nat) (oi oj : Oper) (t : Tmp), i ≠ j → ops[i]? = some oi → ops[j]? = some oj → oj.dst = some t → t ∈ reads ops oi → c i j = true ∨ c j i = true
  before : ∀ p i s, ord = p ++ i :: s → ∀ j, c i j = true → j ∈ p
  behind : ∀ p i s, ord = p ++ i :: s → ∀ o, ops[i]? = some o → isE o.op = true → ∀ j, j ∈ s → c j i = true

inductive Kd where
  | P
  | L
  | A (x : Nat) (ob : O) (mk : Nat → V)
  | S
  | E

structure Rec where
  i : Nat
  o : Oper
  fm : Fm
  v : V
  k : Kd

def Rec.fact (P : Program) (ops : Array Oper) (r : Rec) : Prop :=
  match r.k with
  | .P => wantedV ops r.fm r.o = some true ∧ evalPn ops P r.fm.rho r.o = some r.v
  | .L => wantedV ops r.fm r.o = some true
  | .A x ob mkv => wantedV ops r.fm r.o = some true ∧ evalA P r.fm.rho r.o = some (ob, mkv) ∧ r.v = mkv x
  | .S => wantedV ops r.fm r.o = some false ∧ r.v = .tuple []
  | .E => True

def Rec.sees (ops : Array Oper) (c : Nat → Nat → Bool) (fm0 : Fm) (pre : List Rec) (r : Rec) : Prop :=
  ∀ t ∈ reads ops r.o, ∀ v, r.fm.tm.get t = some v →
    (∃ r' ∈ pre, r'.o.dst = some t ∧ c r.i r'.i = true ∧ v = r'.v) ∨ (fm0.tm.get t = some v ∧ ∀ j oj, ops[j]? = some oj → oj.dst = some t → c r.i j = false)

structure Inv (P : Program) (W0 : World) (cf : CF) (yf : YF) (ops : Array Oper) (ord : List Nat) (c : Nat → Nat → Bool) (fm0 : Fm) (b : Frame) (σ0 : Sg) (st0 : St) (fin : Ex × Fm × St)
    (pre : List Rec) (rest : List Nat) (fm : Fm) (st : St) (pl : List PL) (σ : Sg) (w : World) (a : Act) (ls : Array Bool) : Prop where
  can : canon P cf yf ops c fm0 rest fm st pl = some fin
  oeq : pre.map (·.i) ++ rest = ord
  size : ls.size = ops.size
  dwn : ∀ i j, ls[i]? = some true → c i j = true → ls[j]? = some true
  sub : ∀ i, ls[i]? = some true → ∃ r ∈ pre, r.i = i
  es : ∀ r ∈ pre, r.k = .E → ls[r.i]? = some true
  isop : ∀ r ∈ pre, ops[r.i]? = some r.o
  fact : ∀ r ∈ pre, r.fact P ops
  sees : ∀ r ∈ pre, r.sees ops c fm0 pre
  rel : Rel W0 σ st w
  post : Post σ0 st0 σ st
  lds : ∀ r ∈ pre, r.k = .L → ls[r.i]? = some false → (⟨r.i, r.o, r.fm, r.v⟩ : PL) ∈ pl
  als : ∀ r ∈ pre, ∀ x ob mk, r.k = .A x ob mk → st0.next ≤ x ∧ x < st.next ∧ (ls[r.i]? = some false → σ x = none ∧ st.mem.get x = some ob)
  ald : ∀ r ∈ pre, ∀ r' ∈ pre, ∀ x ob mk x' ob' mk', r.k = .A x ob mk → r'.k = .A x' ob' mk' → r.i ≠ r'.i → x ≠ x'
  env : ∀ t, (∃ r ∈ pre, r.o.dst = some t ∧ fm.tm.get t = some r.v) ∨ ((∀ r ∈ pre, r.o.dst ≠ some t) ∧ fm.tm.get t = fm0.tm.get t)
  same : fm.n = fm0.n ∧ fm.df = fm0.df ∧ fm.rd = fm0.rd
  dst : ∀ r ∈ pre, ∀ t, r.o.dst = some t → t < fm0.n
  tml : ∀ r ∈ pre, ls[r.i]? = some true → ∀ t, r.o.dst = some t → RV σ r.v (a.tmps.getD t undef)
  tm0 : ∀ t v, fm0.tm.get t = some v → t < fm0.n ∧ ((∀ r ∈ pre, ls[r.i]? = some true → r.o.dst ≠ some t) → RV σ v (a.tmps.getD t undef))
  asz : a.tmps.size = fm0.n
  dfs : RDs σ fm0.df a.defers
  rds : RRd σ fm0.rd b.roundOf
end Go.Proofs.YthnldpbkjegfaaaDoor.Sv

namespace Go.Proofs.YthnldpbkjegfaaaDoor.Sv
open Go Go.RowKit

section
variable {P : Program} {W0 : World} {cf : CF} {yf : YF} {ops : Array Oper} {ord : List Nat} {c : Nat → Nat → Bool} {fm0 : Fm} {b : Frame} {σ0 : Sg} {st0 : St} {fin : Ex × Fm × St}
  {pre : List Rec} {rest : List Nat} {fm : Fm} {st : St} {pl : List PL} {σ : Sg} {w : World} {a : Act} {ls : Array Bool}

theorem Rec.sees_mono {r : Rec} {x : List Rec} (h : r.sees ops c fm0 pre) : r.sees ops c fm0 (pre ++ x) := by
  intro t ht v hv
  rcases h t ht v hv with ⟨r', h1, h2⟩ | h1
  · exact .inl ⟨r', List.mem_append_left _ h1, h2⟩
  · exact .inr h1

theorem nodup_mid {p s : List Nat} {i : Nat} (h : (p ++ i :: s).Nodup) : i ∉ p ∧ i ∉ s := by
  rw [List.nodup_append] at h
  obtain ⟨_, h2, h3⟩ := h
  rw [List.nodup_cons] at h2
  exact ⟨fun hp => h3 i hp i (by simp) rfl, h2.1⟩

/-- what is about to be done next sees what is there -/
theorem Inv.mkSees (hp : Plan ops ord c) {i : Nat} {is : List Nat} (h : Inv P W0 cf yf ops ord c fm0 b σ0 st0 fin pre (i :: is) fm st pl σ w a ls) {o : Oper} (ho : ops[i]? = some o) (v : V) (kd : Kd) :
    (⟨i, o, fm, v, kd⟩ : Rec).sees ops c fm0 pre := by
  intro t ht u hu
  have hnd := hp.nodup
  rw [← h.oeq] at hnd
  have hni := (nodup_mid hnd).1
  rcases h.env t with ⟨r', h1, h2, h3⟩ | ⟨h1, h2⟩
  · left
    refine ⟨r', h1, h2, ?_, ?_⟩
    · have hne : i ≠ r'.i := fun e => hni (by rw [e]; exact List.mem_map_of_mem h1)
      rcases hp.look i r'.i o r'.o t hne ho (h.isop r' h1) h2 ht with hc | hc
      · exact hc
      · exfalso
        have hm : r'.i ∈ pre.map (·.i) := List.mem_map_of_mem h1
        obtain ⟨p1, p2, e⟩ := List.append_of_mem hm
        have := hp.before p1 r'.i (p2 ++ i :: is) (by rw [← h.oeq, e]; simp) i hc
        exact hni (by rw [e]; exact List.mem_append_left _ this)
    · simp only at hu; rw [h3] at hu; exact (Option.some.inj hu).symm
  · right
    simp only at hu
    refine ⟨by rw [← h2]; exact hu, fun j oj hj hd => ?_⟩
    cases hc : c i j with
    | false => rfl
    | true =>
      exfalso
      have := hp.before (pre.map (·.i)) i is h.oeq.symm j hc
      obtain ⟨r, hr, e⟩ := List.mem_map.1 this
      have hop := h.isop r hr
      rw [e, hj] at hop
      obtain rfl := Option.some.inj hop
      exact h1 r hr hd

/-- what it looks at is what it saw -/
theorem Inv.looks (hp : Plan ops ord c) (h : Inv P W0 cf yf ops ord c fm0 b σ0 st0 fin pre rest fm st pl σ w a ls) {r : Rec} (hs : r.sees ops c fm0 pre) (ho : ops[r.i]? = some r.o)
    (hn : ls[r.i]? ≠ some true) (hr : ∀ j, c r.i j = true → ls[j]? = some true) :
    ∀ t ∈ reads ops r.o, ∀ v, r.fm.tm.get t = some v → t < a.tmps.size ∧ RV σ v (a.tmps.getD t undef) := by
  intro t ht v hv
  rcases hs t ht v hv with ⟨r', h1, h2, h3, rfl⟩ | ⟨h1, h2⟩
  · exact ⟨by rw [h.asz]; exact h.dst r' h1 t h2, h.tml r' h1 (hr _ h3) t h2⟩
  · obtain ⟨h3, h4⟩ := h.tm0 t v h1
    refine ⟨by rw [h.asz]; exact h3, h4 fun r' hr' hl hd => ?_⟩
    have hne : r.i ≠ r'.i := fun e => hn (by rw [e]; exact hl)
    rcases hp.look r.i r'.i r.o r'.o t hne ho (h.isop r' hr') hd ht with hc | hc
    · rw [h2 r'.i r'.o (h.isop r' hr') hd] at hc; cases hc
    · exact hn (h.dwn _ _ hl hc)

theorem Inv.unlisted (hp : Plan ops ord c) {i : Nat} {is : List Nat} (h : Inv P W0 cf yf ops ord c fm0 b σ0 st0 fin pre (i :: is) fm st pl σ w a ls) : ls[i]? = some false := by
  have hnd := hp.nodup
  rw [← h.oeq] at hnd
  have hni := (nodup_mid hnd).1
  have hlt : i < ls.size := by rw [h.size]; exact hp.lt i (by rw [← h.oeq]; simp)
  rw [Array.getElem?_eq_getElem hlt]
  cases e : ls[i] with
  | false => rfl
  | true =>
    obtain ⟨r, hr, e'⟩ := h.sub i (by rw [Array.getElem?_eq_getElem hlt, e])
    exact absurd (List.mem_map.2 ⟨r, hr, e'⟩) hni

theorem Fm.put_get {fm fm' : Fm} {d : Option Tmp} {v : V} (h : fm.put d v = some fm') (t : Tmp) : fm'.tm.get t = if d = some t then some v else fm.tm.get t := by
  rw [Fm.put_eq] at h
  split at h
  · cases h; simp
  · rename_i s
    split at h <;> cases h
    simp only
    rw [Tri.get_set]
    by_cases e : t = s
    · subst e; simp
    · rw [if_neg e, if_neg (fun e' => e (Option.some.inj e').symm)]

theorem Fm.put_lt {fm fm' : Fm} {d : Option Tmp} {v : V} (h : fm.put d v = some fm') (t : Tmp) (hd : d = some t) : t < fm.n := by
  subst hd
  rw [Fm.put_eq] at h
  split at h
  · rename_i e; cases e
  · rename_i s e; cases e
    split at h
    · rename_i hle; exact Nat.le_of_ble_eq_true hle
    · cases h

/-- one more is done ahead, that is no effect -/
theorem Inv.grow (hp : Plan ops ord c) {i : Nat} {is : List Nat} (h : Inv P W0 cf yf ops ord c fm0 b σ0 st0 fin pre (i :: is) fm st pl σ w a ls) {o : Oper} (ho : ops[i]? = some o) {v : V} {kd : Kd}
    {fm' : Fm} {st' : St} {pl' : List PL} (hput : fm.put o.dst v = some fm') (hcan : canon P cf yf ops c fm0 is fm' st' pl' = some fin) (hf : (⟨i, o, fm, v, kd⟩ : Rec).fact P ops) (hE : kd ≠ .E)
    (hrel : Rel W0 σ st' w) (hpost : Post σ0 st0 σ st') (hpl : ∀ p ∈ pl, p ∈ pl') (hL : kd = .L → (⟨i, o, fm, v⟩ : PL) ∈ pl') (hn : st.next ≤ st'.next) (hg : ∀ x, x < st.next → st'.mem.get x = st.mem.get x)
    (hA : ∀ x ob mk, kd = .A x ob mk → x = st.next ∧ x < st'.next ∧ st'.mem.get x = some ob) :
    Inv P W0 cf yf ops ord c fm0 b σ0 st0 fin (pre ++ [⟨i, o, fm, v, kd⟩]) is fm' st' pl' σ w a ls := by
  have hun := h.unlisted hp
  have hsees := h.mkSees hp ho v kd
  have hmem : ∀ {q : Rec → Prop}, (∀ r ∈ pre, q r) → q ⟨i, o, fm, v, kd⟩ → ∀ r ∈ pre ++ [⟨i, o, fm, v, kd⟩], q r := by
    intro q h1 h2 r hr
    rcases List.mem_append.1 hr with hr | hr
    · exact h1 r hr
    · rw [List.mem_singleton] at hr; subst hr; exact h2
  have hs := Fm.put_rd hput
  have hdf : fm'.df = fm.df := by
    rw [Fm.put_eq] at hput
    split at hput
    · cases hput; rfl
    · split at hput <;> cases hput; rfl
  have hnot : ∀ {q : Prop}, ls[i]? = some true → q := fun e => by rw [hun] at e; cases e
  refine ⟨hcan, ?_, h.size, h.dwn, ?_, ?_, ?_, ?_, ?_, hrel, hpost, ?_, ?_, ?_, ?_, ?_, ?_, ?_, ?_, h.asz, h.dfs, h.rds⟩
  · rw [List.map_append, List.append_assoc]; exact h.oeq
  · intro j hj; obtain ⟨r, hr, e⟩ := h.sub j hj; exact ⟨r, List.mem_append_left _ hr, e⟩
  · exact hmem h.es fun e => absurd e hE
  · exact hmem h.isop ho
  · exact hmem h.fact hf
  · exact hmem (fun r hr => Rec.sees_mono (h.sees r hr)) (Rec.sees_mono hsees)
  · exact hmem (fun r hr hk hl => hpl _ (h.lds r hr hk hl)) fun hk _ => hL hk
  · refine hmem (fun r hr x ob mk hk => ?_) fun x ob mk hk => ?_
    · obtain ⟨h1, h2, h3⟩ := h.als r hr x ob mk hk
      exact ⟨h1, by omega, fun hl => ⟨(h3 hl).1, by rw [hg x h2]; exact (h3 hl).2⟩⟩
    · obtain ⟨rfl, h2, h3⟩ := hA x ob mk hk
      exact ⟨h.post.nxt, h2, fun _ => ⟨h.rel.fresh, h3⟩⟩
  · intro r hr r' hr' x ob mk x' ob' mk' hk hk' hne
    rcases List.mem_append.1 hr with hr | hr
    · rcases List.mem_append.1 hr' with hr' | hr'
      · exact h.ald r hr r' hr' x ob mk x' ob' mk' hk hk' hne
      · rw [List.mem_singleton] at hr'; subst hr'
        have h1 := (h.als r hr x ob mk hk).2.1
        have h2 := (hA x' ob' mk' hk').1
        omega
    · rw [List.mem_singleton] at hr; subst hr
      rcases List.mem_append.1 hr' with hr' | hr'
      · have h1 := (h.als r' hr' x' ob' mk' hk').2.1
        have h2 := (hA x ob mk hk).1
        omega
      · rw [List.mem_singleton] at hr'; subst hr'; exact absurd rfl hne
  · intro t
    rw [Fm.put_get hput t]
    by_cases hd : o.dst = some t
    · left; exact ⟨⟨i, o, fm, v, kd⟩, by simp, hd, by rw [if_pos hd]⟩
    · rw [if_neg hd]
      rcases h.env t with ⟨r, h1, h2, h3⟩ | ⟨h1, h2⟩
      · exact .inl ⟨r, List.mem_append_left _ h1, h2, h3⟩
      · exact .inr ⟨hmem h1 hd, h2⟩
  · exact ⟨hs.2.trans h.same.1, hdf.trans h.same.2.1, hs.1.trans h.same.2.2⟩
  · refine hmem h.dst fun t ht => ?_
    rw [← h.same.1]; exact Fm.put_lt hput t ht
  · exact hmem h.tml fun hl => hnot hl
  · intro t u hu
    obtain ⟨h1, h2⟩ := h.tm0 t u hu
    exact ⟨h1, fun h3 => h2 fun r hr hl => h3 r (List.mem_append_left _ hr) hl⟩

def Edge (ops : Array Oper) (fm : Fm) (rest : List Nat) : Prop :=
  rest = [] ∨ ∃ i is o, rest = i :: is ∧ ops[i]? = some o ∧ wantedV ops fm o = some true ∧ isE o.op = true

theorem Inv.advance (hp : Plan ops ord c) : ∀ (rest : List Nat) (pre : List Rec) (fm : Fm) (st : St) (pl : List PL), Inv P W0 cf yf ops ord c fm0 b σ0 st0 fin pre rest fm st pl σ w a ls →
    ∃ pre' rest' fm' st' pl', Inv P W0 cf yf ops ord c fm0 b σ0 st0 fin pre' rest' fm' st' pl' σ w a ls ∧ Edge ops fm' rest' := by
  intro rest
  induction rest with
  | nil => intro pre fm st pl h; exact ⟨pre, [], fm, st, pl, h, .inl rfl⟩
  | cons i is ih =>
    intro pre fm st pl h
    have hc := h.can
    simp only [canon] at hc
    split at hc
    · cases hc
    · rename_i o ho
      split at hc
      · cases hc
      · rename_i hw
        split at hc
        · rename_i fm' hput
          exact ih _ _ _ _ (h.grow hp ho (kd := .S) hput hc ⟨hw, rfl⟩ (by simp) h.rel h.post (fun p hp => hp) (by simp) (Nat.le_refl _) (fun _ _ => rfl) (by simp))
        · cases hc
      · rename_i hw
        split at hc
        · split at hc
          · rename_i v hv
            split at hc
            · rename_i fm' hput
              exact ih _ _ _ _ (h.grow hp ho (kd := .P) hput hc ⟨hw, hv⟩ (by simp) h.rel h.post (fun p hp => hp) (by simp) (Nat.le_refl _) (fun _ _ => rfl) (by simp))
            · cases hc
          · split at hc
            · rename_i v hv
              split at hc
              · rename_i fm' hput
                exact ih _ _ _ _ (h.grow hp ho (kd := .L) hput hc hw (by simp) h.rel h.post (fun p hp => List.mem_cons_of_mem _ hp) (by simp) (Nat.le_refl _) (fun _ _ => rfl) (by simp))
              · cases hc
            · split at hc
              · rename_i ob mk hv
                split at hc
                · rename_i fm' hput
                  refine ih _ _ _ _ (h.grow hp ho (kd := .A st.next ob mk) hput hc ⟨hw, hv, rfl⟩ (by simp) (h.rel.add ob) (h.post.trans (Post.add h.rel ob)) (fun p hp => hp) (by simp) (Nat.le_succ _) (fun x hx => ?_) ?_)
                  · simp only [St.add]; rw [Tri.get_set, if_neg (by omega)]
                  · intro x ob' mk' e
                    injection e with e1 e2 e3
                    subst e1 e2
                    exact ⟨rfl, Nat.lt_succ_self _, by simp only [St.add]; rw [Tri.get_set, if_pos rfl]⟩
                · cases hc
              · cases hc
        · rename_i hE
          exact ⟨pre, i :: is, fm, st, pl, h, .inr ⟨i, is, o, rfl, ho, hw, hE⟩⟩

/-- what was done ahead is done -/
theorem Inv.done (hp : Plan ops ord c) (h : Inv P W0 cf yf ops ord c fm0 b σ0 st0 fin pre rest fm st pl σ w a ls) {r : Rec} (hr : r ∈ pre) (hl : ls[r.i]? = some false) (hrd : ∀ j, c r.i j = true → ls[j]? = some true)
    {σ' : Sg} {w' : World} {z : Value} (hrel : Rel W0 σ' st w') (hpost : Post σ0 st0 σ' st) (hle : Le σ σ') (hz : RV σ' r.v z)
    (hpe : ∀ r' ∈ pre, ∀ x ob mk, r'.k = .A x ob mk → r'.i ≠ r.i → σ x = none → σ' x = none) :
    Inv P W0 cf yf ops ord c fm0 b σ0 st0 fin pre rest fm st pl σ' w' (a.put r.o.dst z) (ls.setIfInBounds r.i true) := by
  have hlt : r.i < ls.size := (Array.getElem?_eq_some_iff.1 hl).1
  have hset : ∀ j, (ls.setIfInBounds r.i true)[j]? = if j = r.i then some true else ls[j]? := by
    intro j; rw [Array.getElem?_setIfInBounds]
    by_cases e : r.i = j
    · subst e; simp [hlt]
    · rw [if_neg e, if_neg (Ne.symm e)]
  have hput : ∀ t, r.o.dst ≠ some t → (a.put r.o.dst z).tmps.getD t undef = a.tmps.getD t undef := by
    intro t ht
    cases hd : r.o.dst with
    | none => rfl
    | some d =>
      have : d ≠ t := fun e => ht (by rw [hd, e])
      simp only [Act.put]
      rw [Array.getD_eq_getD_getElem?, Array.getD_eq_getD_getElem?, Array.getElem?_setIfInBounds, if_neg this]
  have hputd : (a.put r.o.dst z).defers = a.defers := by cases r.o.dst <;> rfl
  have hputs : (a.put r.o.dst z).tmps.size = a.tmps.size := by cases r.o.dst <;> simp [Act.put]
  refine ⟨h.can, h.oeq, by simpa using h.size, ?_, ?_, ?_, h.isop, h.fact, h.sees, hrel, hpost, ?_, ?_, h.ald, h.env, h.same, h.dst, ?_, ?_, hputs.trans h.asz, ?_, ?_⟩
  · intro i j hi hc
    rw [hset] at hi ⊢
    split
    · rfl
    · split at hi
      · rename_i e; subst e; exact hrd j hc
      · exact h.dwn i j hi hc
  · intro i hi
    rw [hset] at hi
    split at hi
    · rename_i e; subst e; exact ⟨r, hr, rfl⟩
    · exact h.sub i hi
  · intro r' hr' hk; rw [hset]; split
    · rfl
    · exact h.es r' hr' hk
  · intro r' hr' hk hl'
    rw [hset] at hl'
    split at hl'
    · cases hl'
    · exact h.lds r' hr' hk hl'
  · intro r' hr' x ob mk hk
    obtain ⟨h1, h2, h3⟩ := h.als r' hr' x ob mk hk
    refine ⟨h1, h2, fun hl' => ?_⟩
    rw [hset] at hl'
    split at hl'
    · cases hl'
    · rename_i hne
      obtain ⟨h4, h5⟩ := h3 hl'
      exact ⟨hpe r' hr' x ob mk hk hne h4, h5⟩
  · intro r' hr' hl' t ht
    rw [hset] at hl'
    by_cases e : r'.i = r.i
    · have ho := h.isop r' hr'
      rw [e, h.isop r hr] at ho
      have hor : r.o = r'.o := Option.some.inj ho
      have hrr : r' = r := by
        -- numbers are unlike
        have hnd := hp.nodup
        rw [← h.oeq] at hnd
        have hnd' := (List.nodup_append.1 hnd).1
        have key : ∀ (l : List Rec), (l.map (·.i)).Nodup → r ∈ l → r' ∈ l → r' = r := by
          intro l
          induction l with
          | nil => intro _ h; cases h
          | cons x l ih =>
            intro hn h1 h2
            rw [List.map_cons, List.nodup_cons] at hn
            rcases List.mem_cons.1 h1 with k1 | k1
            · rcases List.mem_cons.1 h2 with k2 | k2
              · rw [k1, k2]
              · exact absurd (List.mem_map.2 ⟨r', k2, by rw [e, k1]⟩) hn.1
            · rcases List.mem_cons.1 h2 with k2 | k2
              · exact absurd (List.mem_map.2 ⟨r, k1, by rw [← e, k2]⟩) hn.1
              · exact ih hn.2 k1 k2
        exact key pre hnd' hr hr'
      subst hrr
      have hts : t < a.tmps.size := by rw [h.asz]; exact h.dst r' hr' t ht
      have : (a.put r'.o.dst z).tmps.getD t undef = z := by
        rw [ht]; simp only [Act.put]
        rw [Array.getD_eq_getD_getElem?, Array.getElem?_setIfInBounds, if_pos rfl, if_pos hts]; rfl
      rw [this]; exact hz
    · rw [if_neg e] at hl'
      have hne : r.o.dst ≠ some t := fun hd => hp.one r'.i r.i r'.o r.o t e (h.isop r' hr') (h.isop r hr) ht hd
      rw [hput t hne]
      exact RV.mono hle _ _ (h.tml r' hr' hl' t ht)
  · intro t v hv
    obtain ⟨h1, h2⟩ := h.tm0 t v hv
    refine ⟨h1, fun h3 => ?_⟩
    have hne : r.o.dst ≠ some t := h3 r hr (by rw [hset, if_pos rfl])
    rw [hput t hne]
    refine RV.mono hle _ _ (h2 fun r' hr' hl' => h3 r' hr' ?_)
    rw [hset]; split
    · rfl
    · exact hl'
  · rw [hputd]; exact h.dfs.mono hle
  · have := h.rds
    unfold RRd at this ⊢
    split at this
    · exact this
    · obtain ⟨p, hp', e⟩ := this; exact ⟨p, hle _ _ hp', e⟩
end
end Go.Proofs.YthnldpbkjegfaaaDoor.Sv

namespace Go.Proofs.YthnldpbkjegfaaaDoor.Sv
open Go Go.RowKit

theorem ready_spec {ops : Array Oper} {ls : Array Bool} {i : Nat} (h : i ∈ Region.ready .any ops ls) (hs : ls.size = ops.size) :
    ls[i]? = some false ∧ ∃ o, ops[i]? = some o ∧ ∀ e ∈ o.after.toList, Region.binds .any e = true → ls[e.on]? = some true := by
  unfold Region.ready at h
  rw [List.mem_filter] at h
  obtain ⟨h1, h2⟩ := h
  rw [List.mem_range] at h1
  rw [Bool.and_eq_true] at h2
  obtain ⟨h2, h3⟩ := h2
  have hl : ls[i]? = some false := by
    have hlt : i < ls.size := by omega
    rw [Array.getElem?_eq_getElem hlt]
    rw [Array.getD_eq_getD_getElem?, Array.getElem?_eq_getElem hlt] at h2
    simpa using h2
  refine ⟨hl, ops[i], Array.getElem?_eq_getElem h1, fun e he hb => ?_⟩
  rw [Array.getElem?_eq_getElem h1] at h3
  simp only [Option.map_some, Option.getD_some] at h3
  rw [Array.all_eq_true_iff_forall_mem] at h3
  have := h3 e (by simpa using he)
  rw [hb] at this
  simp only [Bool.not_true, Bool.false_or] at this
  rw [Array.getD_eq_getD_getElem?] at this
  cases hx : ls[e.on]? with
  | none => rw [hx] at this; cases this
  | some v => rw [hx] at this; simp at this; rw [this]

theorem ready_mem {ops : Array Oper} {ls : Array Bool} {i : Nat} {o : Oper} (hl : ls[i]? = some false) (ho : ops[i]? = some o) (he : ∀ e ∈ o.after.toList, Region.binds .any e = true → ls[e.on]? = some true) :
    i ∈ Region.ready .any ops ls := by
  unfold Region.ready
  rw [List.mem_filter, List.mem_range, Bool.and_eq_true]
  refine ⟨(Array.getElem?_eq_some_iff.1 ho).1, ?_, ?_⟩
  · rw [Array.getD_eq_getD_getElem?, hl]; rfl
  · rw [ho]; simp only [Option.map_some, Option.getD_some]
    rw [Array.all_eq_true_iff_forall_mem]
    intro e hm
    cases hb : Region.binds .any e with
    | false => rfl
    | true => rw [Array.getD_eq_getD_getElem?, he e (by simpa using hm) hb]; rfl

theorem all_listed {ops : Array Oper} {ord : List Nat} {c : Nat → Nat → Bool} (hp : Plan ops ord c) {ls : Array Bool} (hs : ls.size = ops.size) (hr : Region.ready .any ops ls = []) :
    ∀ (s p : List Nat), ord = p ++ s → (∀ i ∈ p, ls[i]? = some true) → ∀ i ∈ ord, ls[i]? = some true := by
  intro s
  induction s with
  | nil => intro p e h i hi; rw [e, List.append_nil] at hi; exact h i hi
  | cons j s ih =>
    intro p e h
    refine ih (p ++ [j]) (by rw [e]; simp) fun i hi => ?_
    rcases List.mem_append.1 hi with hi | hi
    · exact h i hi
    · rw [List.mem_singleton] at hi; subst hi
      have hlt := hp.lt i (by rw [e]; simp)
      have ho : ops[i]? = some ops[i] := Array.getElem?_eq_getElem hlt
      cases hl : ls[i]? with
      | none => rw [Array.getElem?_eq_none_iff] at hl; omega
      | some v =>
        cases v with
        | true => rfl
        | false =>
          exfalso
          have : i ∈ Region.ready .any ops ls := ready_mem hl ho fun ed he hb => h _ (hp.before p i s e _ (hp.edge i _ ed ho he hb))
          rw [hr] at this; cases this

theorem filter_less {p p' : Nat → Bool} {i : Nat} : ∀ (l : List Nat), i ∈ l → (∀ j, p' j = true → p j = true) → p i = true → p' i = false → (l.filter p').length < (l.filter p).length := by
  have mono : ∀ (l : List Nat), (∀ j, p' j = true → p j = true) → (l.filter p').length ≤ (l.filter p).length := by
    intro l h
    induction l with
    | nil => simp
    | cons x l ih =>
      simp only [List.filter_cons]
      cases h1 : p' x with
      | true => rw [h x h1]; simp; exact ih
      | false => cases p x <;> simp <;> omega
  intro l
  induction l with
  | nil => intro h; cases h
  | cons x l ih =>
    intro hi h h1 h2
    simp only [List.filter_cons]
    rcases List.mem_cons.1 hi with rfl | hi
    · rw [h1, h2]; simp; have := mono l h; omega
    · have := ih hi h h1 h2
      cases h3 : p' x with
      | true => rw [h x h3]; simp; exact this
      | false => cases p x <;> simp <;> omega

section
variable {P : Program} {W0 : World} {cf : CF} {yf : YF} {ops : Array Oper} {ord : List Nat} {c : Nat → Nat → Bool} {fm0 : Fm} {b : Frame} {σ0 : Sg} {st0 : St} {fin : Ex × Fm × St}

theorem Inv.effect (hp : Plan ops ord c) {pre : List Rec} {i : Nat} {is : List Nat} {fm : Fm} {st : St} {pl : List PL} {σ : Sg} {w : World} {a : Act} {ls : Array Bool}
    (h : Inv P W0 cf yf ops ord c fm0 b σ0 st0 fin pre (i :: is) fm st pl σ w a ls) {o : Oper} (ho : ops[i]? = some o) (hrd : ∀ j, c i j = true → ls[j]? = some true)
    {v : V} {fm' : Fm} {st' : St} (hput : fm.put o.dst v = some fm') (hcan : canon P cf yf ops c fm0 is fm' st' (pl.filter fun p => !c i p.i) = some fin)
    {σ' : Sg} {w' : World} {z : Value} (hrel : Rel W0 σ' st' w') (hpost : Post σ st σ' st') (hz : RV σ' v z) :
    Inv P W0 cf yf ops ord c fm0 b σ0 st0 fin (pre ++ [⟨i, o, fm, v, .E⟩]) is fm' st' (pl.filter fun p => !c i p.i) σ' w' (a.put o.dst z) (ls.setIfInBounds i true) := by
  have hun := h.unlisted hp
  have hlt : i < ls.size := (Array.getElem?_eq_some_iff.1 hun).1
  have hset : ∀ j, (ls.setIfInBounds i true)[j]? = if j = i then some true else ls[j]? := by
    intro j; rw [Array.getElem?_setIfInBounds]
    by_cases e : i = j
    · subst e; simp [hlt]
    · rw [if_neg e, if_neg (Ne.symm e)]
  have hnd := hp.nodup
  rw [← h.oeq] at hnd
  have hni := (nodup_mid hnd).1
  have hne : ∀ r ∈ pre, r.i ≠ i := fun r hr e => hni (List.mem_map.2 ⟨r, hr, e⟩)
  have hsees := h.mkSees hp ho v .E
  have hmem : ∀ {q : Rec → Prop}, (∀ r ∈ pre, q r) → q ⟨i, o, fm, v, .E⟩ → ∀ r ∈ pre ++ [⟨i, o, fm, v, .E⟩], q r := by
    intro q h1 h2 r hr
    rcases List.mem_append.1 hr with hr | hr
    · exact h1 r hr
    · rw [List.mem_singleton] at hr; subst hr; exact h2
  have hs := Fm.put_rd hput
  have hdf : fm'.df = fm.df := by
    rw [Fm.put_eq] at hput
    split at hput
    · cases hput; rfl
    · split at hput <;> cases hput; rfl
  have hputt : ∀ t, o.dst ≠ some t → (a.put o.dst z).tmps.getD t undef = a.tmps.getD t undef := by
    intro t ht
    cases hd : o.dst with
    | none => rfl
    | some d =>
      have : d ≠ t := fun e => ht (by rw [hd, e])
      simp only [Act.put]
      rw [Array.getD_eq_getD_getElem?, Array.getD_eq_getD_getElem?, Array.getElem?_setIfInBounds, if_neg this]
  have hputd : (a.put o.dst z).defers = a.defers := by cases o.dst <;> rfl
  have hputs : (a.put o.dst z).tmps.size = a.tmps.size := by cases o.dst <;> simp [Act.put]
  refine ⟨hcan, ?_, by simpa using h.size, ?_, ?_, ?_, ?_, ?_, ?_, hrel, h.post.trans hpost, ?_, ?_, ?_, ?_, ?_, ?_, ?_, ?_, hputs.trans h.asz, ?_, ?_⟩
  · rw [List.map_append, List.append_assoc]; exact h.oeq
  · intro x j hx hc
    rw [hset] at hx ⊢
    split
    · rfl
    · split at hx
      · rename_i e; subst e; exact hrd j hc
      · exact h.dwn x j hx hc
  · intro j hj
    rw [hset] at hj
    split at hj
    · rename_i e; subst e; exact ⟨_, List.mem_append_right _ (List.mem_singleton.2 rfl), rfl⟩
    · obtain ⟨r, hr, e⟩ := h.sub j hj; exact ⟨r, List.mem_append_left _ hr, e⟩
  · refine hmem (fun r hr hk => ?_) fun _ => by rw [hset, if_pos rfl]
    rw [hset, if_neg (hne r hr)]; exact h.es r hr hk
  · exact hmem h.isop ho
  · exact hmem h.fact trivial
  · exact hmem (fun r hr => Rec.sees_mono (h.sees r hr)) (Rec.sees_mono hsees)
  · refine hmem (fun r hr hk hl => ?_) fun hk => by cases hk
    rw [hset, if_neg (hne r hr)] at hl
    refine List.mem_filter.2 ⟨h.lds r hr hk hl, ?_⟩
    cases hc : c i r.i with
    | false => rfl
    | true => rw [hrd _ hc] at hl; cases hl
  · refine hmem (fun r hr x ob mk hk => ?_) fun x ob mk hk => by cases hk
    obtain ⟨h1, h2, h3⟩ := h.als r hr x ob mk hk
    refine ⟨h1, Nat.lt_of_lt_of_le h2 hpost.nxt, fun hl => ?_⟩
    rw [hset, if_neg (hne r hr)] at hl
    obtain ⟨h4, h5⟩ := h3 hl
    obtain ⟨h6, h7⟩ := hpost.pend x h2 h4
    have hfa := h.fact r hr
    unfold Rec.fact at hfa
    rw [hk] at hfa
    exact ⟨h6, h7 _ (evalA_waits hfa.2.1) h5⟩
  · intro r hr r' hr' x ob mk x' ob' mk' hk hk' hne'
    rcases List.mem_append.1 hr with hr | hr
    · rcases List.mem_append.1 hr' with hr' | hr'
      · exact h.ald r hr r' hr' x ob mk x' ob' mk' hk hk' hne'
      · rw [List.mem_singleton] at hr'; subst hr'; cases hk'
    · rw [List.mem_singleton] at hr; subst hr; cases hk
  · intro t
    rw [Fm.put_get hput t]
    by_cases hd : o.dst = some t
    · left; exact ⟨⟨i, o, fm, v, .E⟩, by simp, hd, by rw [if_pos hd]⟩
    · rw [if_neg hd]
      rcases h.env t with ⟨r, h1, h2, h3⟩ | ⟨h1, h2⟩
      · exact .inl ⟨r, List.mem_append_left _ h1, h2, h3⟩
      · exact .inr ⟨hmem h1 hd, h2⟩
  · exact ⟨hs.2.trans h.same.1, hdf.trans h.same.2.1, hs.1.trans h.same.2.2⟩
  · refine hmem h.dst fun t ht => ?_
    rw [← h.same.1]; exact Fm.put_lt hput t ht
  · refine hmem (fun r hr hl t ht => ?_) fun _ t ht => ?_
    · rw [hset, if_neg (hne r hr)] at hl
      have hno : o.dst ≠ some t := fun hd => hp.one r.i i r.o o t (hne r hr) (h.isop r hr) ho ht hd
      rw [hputt t hno]
      exact RV.mono hpost.le _ _ (h.tml r hr hl t ht)
    · have hts : t < a.tmps.size := by rw [h.asz, ← h.same.1]; exact Fm.put_lt hput t ht
      have : (a.put o.dst z).tmps.getD t undef = z := by
        simp only at ht
        rw [ht]; simp only [Act.put]
        rw [Array.getD_eq_getD_getElem?, Array.getElem?_setIfInBounds, if_pos rfl, if_pos hts]; rfl
      rw [this]; exact hz
  · intro t u hu
    obtain ⟨h1, h2⟩ := h.tm0 t u hu
    refine ⟨h1, fun h3 => ?_⟩
    have hno : o.dst ≠ some t := h3 ⟨i, o, fm, v, .E⟩ (by simp) (by rw [hset, if_pos rfl])
    rw [hputt t hno]
    refine RV.mono hpost.le _ _ (h2 fun r hr hl => h3 r (List.mem_append_left _ hr) ?_)
    rw [hset]; split
    · rfl
    · exact hl
  · rw [hputd]; exact h.dfs.mono hpost.le
  · have := h.rds
    unfold RRd at this ⊢
    split at this
    · exact this
    · obtain ⟨p, hp', e⟩ := this; exact ⟨p, hpost.le _ _ hp', e⟩

theorem drawn_sound (hcf : CFok P W0 cf) (hyf : YFok P W0 yf) (hp : Plan ops ord c) {k : List Item} {cs : List Frame} : ∀ (fuel t : Nat) (pre : List Rec) (rest : List Nat) (fm : Fm) (st : St) (pl : List PL) (σ : Sg) (w : World) (a : Act) (ls : Array Bool),
    Inv P W0 cf yf ops ord c fm0 b σ0 st0 fin pre rest fm st pl σ w a ls → Edge ops fm rest → (ord.filter fun i => ls[i]? != some true).length ≤ fuel →
    XOk P W0 σ0 st0 (lone (Fat b a (.inRegion ops (Region.linearise.go .any ops fuel t ls []) :: k)) cs w) b k cs fin.1 fin.2.1 fin.2.2 := by
  -- at the end
  have atEnd : ∀ (pre : List Rec) (rest : List Nat) (fm : Fm) (st : St) (pl : List PL) (σ : Sg) (w : World) (a : Act) (ls : Array Bool),
      Inv P W0 cf yf ops ord c fm0 b σ0 st0 fin pre rest fm st pl σ w a ls → Edge ops fm rest → (∀ i ∈ ord, ls[i]? = some true) →
      XOk P W0 σ0 st0 (lone (Fat b a (.inRegion ops [] :: k)) cs w) b k cs fin.1 fin.2.1 fin.2.2 := by
    intro pre rest fm st pl σ w a ls h hE hall
    have hrest : rest = [] := by
      rcases hE with e | ⟨i, is, o, rfl, _⟩
      · exact e
      · have := h.unlisted hp
        rw [hall i (by rw [← h.oeq]; simp)] at this; cases this
    subst hrest
    have hc := h.can
    simp only [canon] at hc
    split at hc
    · obtain rfl := Option.some.inj hc
      refine ⟨σ, w, a, .normal, rfl, h.rel, h.post, ⟨⟨h.asz.trans h.same.1.symm, fun t v hv => ?_⟩, by rw [h.same.2.1]; exact h.dfs, by rw [h.same.2.2]; exact h.rds⟩, .one s_regionEnd⟩
      rcases h.env t with ⟨r, h1, h2, h3⟩ | ⟨h1, h2⟩
      · rw [h3] at hv; obtain rfl := Option.some.inj hv
        have hri : r.i ∈ ord := by rw [← h.oeq]; exact List.mem_append_left _ (List.mem_map_of_mem h1)
        exact ⟨by rw [h.same.1]; exact h.dst r h1 t h2, h.tml r h1 (hall _ hri) t h2⟩
      · rw [h2] at hv
        obtain ⟨h3, h4⟩ := h.tm0 t v hv
        exact ⟨by rw [h.same.1]; exact h3, h4 fun r hr _ => h1 r hr⟩
    · cases hc
  intro fuel
  induction fuel with
  | zero =>
    intro t pre rest fm st pl σ w a ls h hE hf
    have : Region.linearise.go .any ops 0 t ls [] = [] := by simp [Region.linearise.go]
    rw [this]
    refine atEnd pre rest fm st pl σ w a ls h hE fun i hi => ?_
    have hz : ord.filter (fun i => ls[i]? != some true) = [] := List.length_eq_zero_iff.1 (by omega)
    rw [List.filter_eq_nil_iff] at hz
    have := hz i hi
    simpa using this
  | succ fuel ih =>
    intro t pre rest fm st pl σ w a ls h hE hf
    simp only [Region.linearise.go]
    change XOk P W0 σ0 st0 (lone (Fat b a (.inRegion ops (match (Region.ready .any ops ls)[t % (Region.ready .any ops ls).length]? with
      | some i => Region.linearise.go .any ops fuel (t / (Region.ready .any ops ls).length) (ls.setIfInBounds i true) [i]
      | none => [].reverse) :: k)) cs w) b k cs fin.1 fin.2.1 fin.2.2
    cases hi : (Region.ready .any ops ls)[t % (Region.ready .any ops ls).length]? with
    | none =>
      have hnil : Region.ready .any ops ls = [] := by
        cases hr : Region.ready .any ops ls with
        | nil => rfl
        | cons x xs =>
          rw [hr] at hi
          have hlt : t % (x :: xs).length < (x :: xs).length := Nat.mod_lt _ (by simp)
          simp at hi
          simp at hlt
          omega
      exact atEnd pre rest fm st pl σ w a ls h hE (all_listed hp h.size hnil ord [] (by simp) (by simp))
    | some i =>
      simp only []
      rw [linearise_go_acc, List.reverse_singleton, List.singleton_append]
      have hrdy := List.mem_of_getElem? hi
      obtain ⟨hl, o, ho, hed⟩ := ready_spec hrdy h.size
      have hrd : ∀ j, c i j = true → ls[j]? = some true := by
        intro j hc
        obtain ⟨e, he, hb, hj⟩ := hp.down i o j ho hc
        have := hed e he hb
        rcases hj with rfl | hj
        · exact this
        · exact h.dwn _ _ this hj
      have hio : i ∈ ord := hp.all i (Array.getElem?_eq_some_iff.1 ho).1
      have hlt : i < ls.size := (Array.getElem?_eq_some_iff.1 hl).1
      have hfuel : (ord.filter fun j => (ls.setIfInBounds i true)[j]? != some true).length ≤ fuel := by
        have := filter_less (p := fun j => ls[j]? != some true) (p' := fun j => (ls.setIfInBounds i true)[j]? != some true) (i := i) ord hio (fun j hj => by
          rw [Array.getElem?_setIfInBounds] at hj
          split at hj
          · simp at hj
          · exact hj) (by simp [hl]) (by rw [Array.getElem?_setIfInBounds, if_pos rfl, if_pos hlt]; rfl)
        omega
      by_cases hin : ∃ r ∈ pre, r.i = i
      · -- done ahead
        obtain ⟨r, hr, rfl⟩ := hin
        have hor := h.isop r hr
        rw [ho] at hor; obtain rfl := Option.some.inj hor
        have hlk := h.looks hp (h.sees r hr) ho (by rw [hl]; simp) hrd
        have hrho := rho_reads hlk
        have hfact := h.fact r hr
        unfold Rec.fact at hfact
        -- what comes of it
        have go : ∀ (σ' : Sg) (w' : World) (z : Value), step P (lone (Fat b a (.inRegion ops (r.i :: Region.linearise.go .any ops fuel (t / (Region.ready .any ops ls).length) (ls.setIfInBounds r.i true) []) :: k)) cs w) =
              .next (lone (Fat b (a.put r.o.dst z) (.inRegion ops (Region.linearise.go .any ops fuel (t / (Region.ready .any ops ls).length) (ls.setIfInBounds r.i true) []) :: k)) cs w') →
            Rel W0 σ' st w' → Post σ0 st0 σ' st → Le σ σ' → RV σ' r.v z → (∀ r' ∈ pre, ∀ x ob mk, r'.k = .A x ob mk → r'.i ≠ r.i → σ x = none → σ' x = none) →
            XOk P W0 σ0 st0 (lone (Fat b a (.inRegion ops (r.i :: Region.linearise.go .any ops fuel (t / (Region.ready .any ops ls).length) (ls.setIfInBounds r.i true) []) :: k)) cs w) b k cs fin.1 fin.2.1 fin.2.2 := by
          intro σ' w' z hst h1 h2 h3 h4 h5
          exact XOk.of_steps (.one hst) (.refl _ _) (ih _ _ _ _ _ _ _ _ _ _ (h.done hp hr hl hrd h1 h2 h3 h4 h5) hE hfuel)
        split at hfact
        · obtain ⟨hw, hv⟩ := hfact
          obtain ⟨z, e, rz⟩ := evalPn_sound hv hrho
          exact go σ w z (s_value ho (wantedV_sound hw hlk) (.inl (evalPn_nodefer hv)) (e w)) h.rel h.post (.refl _) rz (fun _ _ _ _ _ _ _ hx => hx)
        · rename_i hk
          have hpl := h.lds r hr hk hl
          have hre : recheck ops P st pl = true := by
            have hc := h.can
            rcases hE with rfl | ⟨i', is, o', rfl, ho', hw', hE'⟩
            · simp only [canon] at hc
              split at hc
              · assumption
              · cases hc
            · simp only [canon, ho', hw', hE'] at hc
              split at hc
              · cases hc
              · assumption
          have hv := recheck_sound hre _ hpl
          simp only at hv
          obtain ⟨z, e, rz⟩ := evalLn_sound h.rel hv hrho
          exact go σ w z (s_value ho (wantedV_sound hfact hlk) (.inl (evalLn_nodefer hv)) e) h.rel h.post (.refl _) rz (fun _ _ _ _ _ _ _ hx => hx)
        · rename_i x ob mkv hk
          obtain ⟨hw, hv, hrv⟩ := hfact
          obtain ⟨h1, h2, h3⟩ := h.als r hr x ob mkv hk
          obtain ⟨h4, h5⟩ := h3 hl
          obtain ⟨z, w', p, e, r1, rz⟩ := evalA_sound h.rel hv hrho h2 h4 h5
          refine go (σ.put x p) w' z (s_value ho (wantedV_sound hw hlk) (.inl (evalA_nodefer hv)) e) r1 ?_ (Sg.le_put h4) (by rw [hrv]; exact rz) ?_
          · refine ⟨h.post.le.trans (Sg.le_put h4), h.post.nxt, fun y hy hn => ?_⟩
            obtain ⟨g1, g2⟩ := h.post.pend y hy hn
            exact ⟨by rw [Sg.put_ne (by omega)]; exact g1, g2⟩
          · intro r' hr' x' ob' mk' hk' hne hx'
            rw [Sg.put_ne (h.ald r' hr' r hr x' ob' mk' x ob mkv hk' hk hne)]; exact hx'
        · obtain ⟨hw, hrv⟩ := hfact
          exact go σ w undef (s_skipOp ho (wantedV_sound hw hlk)) h.rel h.post (.refl _) (by rw [hrv]; exact RV.undef σ) (fun _ _ _ _ _ _ _ hx => hx)
        · rename_i hk
          rw [h.es r hr hk] at hl; cases hl
      · -- the next effect
        rcases hE with rfl | ⟨i', is, o', rfl, ho', hw', hE'⟩
        · exfalso
          rw [← h.oeq, List.append_nil] at hio
          obtain ⟨r, hr, e⟩ := List.mem_map.1 hio
          exact hin ⟨r, hr, e⟩
        · have hii : i = i' := by
            rw [← h.oeq] at hio
            rcases List.mem_append.1 hio with hio | hio
            · obtain ⟨r, hr, e⟩ := List.mem_map.1 hio
              exact absurd ⟨r, hr, e⟩ hin
            · rcases List.mem_cons.1 hio with e | hio
              · exact e
              · exfalso
                have := hrd _ (hp.behind _ _ _ h.oeq.symm o' ho' hE' i hio)
                rw [h.unlisted hp] at this; cases this
          subst hii
          rw [ho] at ho'; obtain rfl := Option.some.inj ho'
          have hsees := h.mkSees hp ho (.tuple []) .E
          have hlk := h.looks hp hsees ho (by simp only; rw [hl]; simp) hrd
          simp only at hlk
          have hrho := rho_reads hlk
          have hwt := wantedV_sound hw' hlk
          have hc := h.can
          simp only [canon, ho, hw', hE'] at hc
          split at hc
          · cases hc
          · split at hc
            · rename_i v st1 hev
              split at hc
              · rename_i fm1 hput
                obtain ⟨σ1, w1, hR1, hP1, z, hz, hst⟩ := evalEn_sound (b := b) (k := k) (cs := cs) (rest := Region.linearise.go .any ops fuel (t / (Region.ready .any ops ls).length) (ls.setIfInBounds i true) []) hcf hyf h.rel hev hrho ho hwt
                have hI := h.effect hp ho hrd hput hc hR1 hP1 hz
                obtain ⟨pre', rest', fm', st', pl', hI', hE''⟩ := Inv.advance hp _ _ _ _ _ hI
                exact XOk.of_steps hst (.refl _ _) (ih _ _ _ _ _ _ _ _ _ _ hI' hE'' hfuel)
              · cases hc
            · rename_i v st1 hev
              obtain rfl := Option.some.inj hc
              obtain ⟨σ1, w1, hR1, hP1, z, hz, todo, hst⟩ := evalEn_sound (b := b) (k := k) (cs := cs) (rest := Region.linearise.go .any ops fuel (t / (Region.ready .any ops ls).length) (ls.setIfInBounds i true) []) hcf hyf h.rel hev hrho ho hwt
              refine ⟨σ1, w1, a, .panic [{ v := z, recovered := false }], ?_, hR1, h.post.trans hP1, ⟨⟨h.asz, fun s u hu => ?_⟩, h.dfs.mono hP1.le, ?_⟩, ⟨todo, hst⟩⟩
              · simp only [RX]; exact ⟨z, hz, rfl⟩
              · simp only at hu
                obtain ⟨g1, g2⟩ := clears_get _ _ _ _ hu
                obtain ⟨g3, g4⟩ := h.tm0 s u g1
                refine ⟨g3, RV.mono hP1.le _ _ (g4 fun r hr _ => g2 r.o ?_)⟩
                have := h.isop r hr
                exact List.mem_of_getElem? (by rw [Array.getElem?_toList]; exact this)
              · have := h.rds
                unfold RRd at this ⊢
                simp only
                split at this
                · exact this
                · obtain ⟨p, hp', e⟩ := this; exact ⟨p, hP1.le _ _ hp', e⟩
            · cases hc
end
end Go.Proofs.YthnldpbkjegfaaaDoor.Sv

namespace Go.Proofs.YthnldpbkjegfaaaDoor.Sv
open Go Go.RowKit

def predMask (ms : List Nat) : List Go.Edge → Nat
  | [] => 0
  | e :: es => match Region.binds .any e with
    | true => (2 ^ e.on ||| ms.getD e.on 0) ||| predMask ms es
    | false => predMask ms es

def mkMasks : List Oper → List Nat → List Nat
  | [], ms => ms
  | o :: os, ms => mkMasks os (ms ++ [predMask ms o.after.toList])

def cbit (ms : List Nat) (i j : Nat) : Bool := (ms.getD i 0).testBit j

def maskOk (ms : List Nat) : List Oper → Nat → Bool
  | [], _ => true
  | o :: os, i => match Nat.beq (ms.getD i 0) (predMask ms o.after.toList) with
    | true => maskOk ms os (i + 1)
    | false => false

def isEat (ops : Array Oper) (i : Nat) : Bool :=
  match ops[i]? with
  | some o => isE o.op
  | none => false

def walk (ops : Array Oper) (ms : List Nat) : List Nat → Nat → Nat → Bool
  | [], pm, _ => Nat.beq pm (2 ^ ops.size - 1)
  | i :: is, pm, em =>
    match Nat.ble (i + 1) ops.size, Nat.beq (ms.getD i 0 ||| pm) pm, Nat.beq (em ||| ms.getD i 0) (ms.getD i 0), pm.testBit i with
    | true, true, true, false => walk ops ms is (pm ||| 2 ^ i) (match isEat ops i with | true => em ||| 2 ^ i | false => em)
    | _, _, _, _ => false

def memT (t : Tmp) : List Tmp → Bool
  | [] => false
  | s :: l => match Nat.beq t s with
    | true => true
    | false => memT t l

def dstIs (o : Oper) (t : Tmp) : Bool :=
  match o.dst with
  | some s => Nat.beq s t
  | none => false

def lookAt (ops : Array Oper) (ms : List Nat) (j : Nat) (t : Tmp) : List Oper → Nat → Bool
  | [], _ => true
  | o :: os, i => match Nat.beq i j with
    | true => lookAt ops ms j t os (i + 1)
    | false => match dstIs o t with
      | true => false
      | false => match memT t (reads ops o) with
        | false => lookAt ops ms j t os (i + 1)
        | true => match cbit ms i j || cbit ms j i with
          | true => lookAt ops ms j t os (i + 1)
          | false => false

def lookAll (ops : Array Oper) (ms : List Nat) : List Oper → Nat → Bool
  | [], _ => true
  | o :: os, j => match o.dst with
    | none => lookAll ops ms os (j + 1)
    | some t => match lookAt ops ms j t ops.toList 0 with
      | true => lookAll ops ms os (j + 1)
      | false => false

def pick (e : Bool) (ms : List Nat) (dm : Nat) : List Oper → Nat → Option Nat
  | [], _ => none
  | o :: os, i => match dm.testBit i, Nat.beq (ms.getD i 0 ||| dm) dm with
    | false, true => match isE o.op == e with
      | true => some i
      | false => pick e ms dm os (i + 1)
    | _, _ => pick e ms dm os (i + 1)

def mkOrd (ops : Array Oper) (ms : List Nat) : Nat → Nat → List Nat
  | 0, _ => []
  | f + 1, dm => match pick false ms dm ops.toList 0 with
    | some i => i :: mkOrd ops ms f (dm ||| 2 ^ i)
    | none => match pick true ms dm ops.toList 0 with
      | some i => i :: mkOrd ops ms f (dm ||| 2 ^ i)
      | none => []

def planChk (ops : Array Oper) (ms : List Nat) (ord : List Nat) : Option (List Nat × List Nat) :=
  match maskOk ms ops.toList 0, walk ops ms ord 0 0, lookAll ops ms ops.toList 0 with
  | true, true, true => some (ord, ms)
  | _, _, _ => none

def planMs (ops : Array Oper) (ms : List Nat) : Option (List Nat × List Nat) := planChk ops ms (mkOrd ops ms ops.size 0)
def planOf (ops : Array Oper) : Option (List Nat × List Nat) := planMs ops (mkMasks ops.toList [])

theorem predMask_bit (ms : List Nat) (j : Nat) : ∀ (es : List Go.Edge), (predMask ms es).testBit j = true ↔ ∃ e ∈ es, Region.binds .any e = true ∧ (e.on = j ∨ cbit ms e.on j = true)
  | [] => by simp [predMask]
  | e :: es => by
    simp only [predMask]
    split
    · rename_i hb
      rw [Nat.testBit_or, Nat.testBit_or, Bool.or_eq_true, Bool.or_eq_true, predMask_bit ms j es, Nat.testBit_two_pow]
      constructor
      · rintro ((h | h) | ⟨e', h1, h2⟩)
        · exact ⟨e, by simp, hb, .inl (by simpa using h)⟩
        · exact ⟨e, by simp, hb, .inr h⟩
        · exact ⟨e', by simp [h1], h2⟩
      · rintro ⟨e', h1, h2, h3⟩
        rcases List.mem_cons.1 h1 with rfl | h1
        · rcases h3 with h3 | h3
          · exact .inl (.inl (by simp [h3]))
          · exact .inl (.inr h3)
        · exact .inr ⟨e', h1, h2, h3⟩
    · rename_i hb
      rw [predMask_bit ms j es]
      constructor
      · rintro ⟨e', h1, h2⟩; exact ⟨e', by simp [h1], h2⟩
      · rintro ⟨e', h1, h2, h3⟩
        rcases List.mem_cons.1 h1 with rfl | h1
        · rw [hb] at h2; cases h2
        · exact ⟨e', h1, h2, h3⟩

theorem maskOk_spec (ms : List Nat) : ∀ (os : List Oper) (i : Nat), maskOk ms os i = true → ∀ k o, os[k]? = some o → ms.getD (i + k) 0 = predMask ms o.after.toList
  | [], i, _, k, o, h => by simp at h
  | o' :: os, i, h, k, o, hk => by
    simp only [maskOk] at h
    split at h
    · rename_i e
      cases k with
      | zero => simp at hk; subst hk; simpa using Nat.eq_of_beq_eq_true e
      | succ k => simp at hk; have := maskOk_spec ms os (i + 1) h k o hk; rwa [show i + (k + 1) = i + 1 + k by omega]
    · cases h

theorem or_sub {a b : Nat} (h : Nat.beq (a ||| b) b = true) (j : Nat) (hj : a.testBit j = true) : b.testBit j = true := by
  have := Nat.eq_of_beq_eq_true h
  rw [← this, Nat.testBit_or, hj]; rfl

theorem or_sub' {a b : Nat} (h : Nat.beq (a ||| b) b = true) (j : Nat) (hj : a.testBit j = true) : b.testBit j = true := or_sub h j hj

theorem walk_spec {ops : Array Oper} {ms : List Nat} : ∀ (rest p : List Nat) (pm em : Nat), walk ops ms rest pm em = true → (∀ j, pm.testBit j = true ↔ j ∈ p) → (∀ j, em.testBit j = true ↔ j ∈ p ∧ isEat ops j = true) → p.Nodup →
    (p ++ rest).Nodup ∧ (∀ j, j < ops.size → j ∈ p ++ rest) ∧ (∀ j ∈ rest, j < ops.size) ∧
      (∀ p' i s, rest = p' ++ i :: s → (∀ j, cbit ms i j = true → j ∈ p ++ p') ∧ (∀ e, e ∈ p ++ p' → isEat ops e = true → cbit ms i e = true)) := by
  intro rest
  induction rest with
  | nil =>
    intro p pm em h hp _ hn
    simp only [walk] at h
    have h := Nat.eq_of_beq_eq_true h
    refine ⟨by simpa using hn, fun j hj => ?_, by simp, fun p' i s e => by simp at e⟩
    rw [List.append_nil, ← hp j, h, Nat.testBit_two_pow_sub_one]; simpa using hj
  | cons i is ih =>
    intro p pm em h hp he hn
    simp only [walk] at h
    split at h
    · rename_i h1 h2 h3 h4
      have h1 := Nat.le_of_ble_eq_true h1
      have hip : i ∉ p := fun hi => by rw [(hp i).2 hi] at h4; cases h4
      have hp' : ∀ j, (pm ||| 2 ^ i).testBit j = true ↔ j ∈ p ++ [i] := by
        intro j; rw [Nat.testBit_or, Bool.or_eq_true, hp j, Nat.testBit_two_pow, List.mem_append, List.mem_singleton]
        simp [eq_comm]
      have he' : ∀ j, (match isEat ops i with | true => em ||| 2 ^ i | false => em).testBit j = true ↔ j ∈ p ++ [i] ∧ isEat ops j = true := by
        intro j
        rw [List.mem_append, List.mem_singleton]
        split
        · rename_i hE
          rw [Nat.testBit_or, Bool.or_eq_true, he j, Nat.testBit_two_pow]
          constructor
          · rintro (⟨a, b⟩ | h)
            · exact ⟨.inl a, b⟩
            · have : i = j := by simpa using h
              subst this; exact ⟨.inr rfl, hE⟩
          · rintro ⟨a | a, b⟩
            · exact .inl ⟨a, b⟩
            · right; simp [a]
        · rename_i hE
          rw [he j]
          constructor
          · rintro ⟨a, b⟩; exact ⟨.inl a, b⟩
          · rintro ⟨a | a, b⟩
            · exact ⟨a, b⟩
            · subst a; rw [hE] at b; cases b
      have hn' : (p ++ [i]).Nodup := by
        rw [List.nodup_append]
        exact ⟨hn, by simp, fun a ha b hb e => by rw [List.mem_singleton] at hb; subst hb; subst e; exact hip ha⟩
      obtain ⟨k1, k2, k3, k4⟩ := ih (p ++ [i]) _ _ h hp' he' hn'
      refine ⟨by simpa using k1, fun j hj => by simpa using k2 j hj, fun j hj => ?_, fun p' i' s e => ?_⟩
      · rcases List.mem_cons.1 hj with rfl | hj
        · omega
        · exact k3 j hj
      · cases p' with
        | nil =>
          simp only [List.nil_append] at e
          injection e with e1 e2
          subst e1 e2
          refine ⟨fun j hj => ?_, fun e he1 he2 => ?_⟩
          · rw [List.append_nil, ← hp j]; exact or_sub h2 j hj
          · rw [List.append_nil] at he1
            exact or_sub h3 e ((he e).2 ⟨he1, he2⟩)
        | cons x p' =>
          simp only [List.cons_append] at e
          injection e with e1 e2
          subst e1
          obtain ⟨g1, g2⟩ := k4 p' i' s e2
          exact ⟨fun j hj => by simpa using g1 j hj, fun e h1 h2 => g2 e (by simpa using h1) h2⟩
    · cases h

theorem memT_false {t : Tmp} : ∀ {l : List Tmp}, memT t l = false → t ∉ l
  | [], _ => by simp
  | s :: l, h => by
    simp only [memT] at h
    split at h
    · cases h
    · rename_i e
      have e := Nat.ne_of_beq_eq_false e
      intro hm
      rcases List.mem_cons.1 hm with h1 | h1
      · exact e h1
      · exact memT_false h h1

theorem lookAt_spec {ops : Array Oper} {ms : List Nat} {j : Nat} {t : Tmp} : ∀ (os : List Oper) (i : Nat), lookAt ops ms j t os i = true → ∀ k o, os[k]? = some o → i + k ≠ j →
    o.dst ≠ some t ∧ (t ∈ reads ops o → cbit ms (i + k) j = true ∨ cbit ms j (i + k) = true)
  | [], i, _, k, o, h, _ => by simp at h
  | o' :: os, i, h, k, o, hk, hne => by
    simp only [lookAt] at h
    have next : lookAt ops ms j t os (i + 1) = true → k ≠ 0 → o.dst ≠ some t ∧ (t ∈ reads ops o → cbit ms (i + k) j = true ∨ cbit ms j (i + k) = true) := by
      intro h' hk0
      obtain ⟨k, rfl⟩ : ∃ k', k = k' + 1 := ⟨k - 1, by omega⟩
      simp at hk
      have := lookAt_spec os (i + 1) h' k o hk (by omega)
      rwa [show i + (k + 1) = i + 1 + k by omega]
    split at h
    · rename_i e
      have e := Nat.eq_of_beq_eq_true e
      exact next h (by omega)
    · split at h
      · cases h
      · rename_i hd
        split at h
        · rename_i hm
          by_cases hk0 : k = 0
          · subst hk0
            simp at hk; subst hk
            refine ⟨fun e => ?_, fun ht => absurd ht (memT_false hm)⟩
            unfold dstIs at hd; rw [e] at hd; simp at hd
          · exact next h hk0
        · split at h
          · rename_i hc
            by_cases hk0 : k = 0
            · subst hk0
              simp at hk; subst hk
              refine ⟨fun e => ?_, fun _ => by simpa using hc⟩
              unfold dstIs at hd; rw [e] at hd; simp at hd
            · exact next h hk0
          · cases h

theorem lookAll_spec {ops : Array Oper} {ms : List Nat} : ∀ (os : List Oper) (j : Nat), lookAll ops ms os j = true → ∀ k o t, os[k]? = some o → o.dst = some t → lookAt ops ms (j + k) t ops.toList 0 = true
  | [], j, _, k, o, t, h, _ => by simp at h
  | o' :: os, j, h, k, o, t, hk, hd => by
    simp only [lookAll] at h
    cases k with
    | zero =>
      simp at hk; subst hk
      rw [hd] at h; simp only at h
      split at h
      · assumption
      · cases h
    | succ k =>
      simp at hk
      have h' : lookAll ops ms os (j + 1) = true := by
        split at h
        · exact h
        · split at h
          · exact h
          · cases h
      have := lookAll_spec os (j + 1) h' k o t hk hd
      rwa [show j + (k + 1) = j + 1 + k by omega]

theorem planOf_sound {ops : Array Oper} {ord ms : List Nat} (h : planOf ops = some (ord, ms)) : Plan ops ord (cbit ms) := by
  unfold planOf planMs planChk at h
  split at h <;> cases h
  rename_i h1 h2 h3
  generalize mkMasks ops.toList [] = ms at *
  generalize mkOrd ops ms ops.size 0 = ord at *
  obtain ⟨k1, k2, k3, k4⟩ := walk_spec ord [] 0 0 h2 (by simp) (by simp) (by simp)
  simp only [List.nil_append] at k1 k2 k4
  have hm : ∀ i o, ops[i]? = some o → ms.getD i 0 = predMask ms o.after.toList := by
    intro i o ho
    have := maskOk_spec ms ops.toList 0 h1 i o (by rw [Array.getElem?_toList]; exact ho)
    simpa using this
  refine ⟨k1, k2, k3, ?_, ?_, ?_, ?_, fun p i s e => (k4 p i s e).1, ?_⟩
  · intro i o j ho hc
    unfold cbit at hc
    rw [hm i o ho, predMask_bit] at hc
    exact hc
  · intro i o e ho he hb
    unfold cbit
    rw [hm i o ho, predMask_bit]
    exact ⟨e, he, hb, .inl rfl⟩
  · intro i j oi oj t hne hi hj hdi hdj
    have := lookAt_spec _ _ (lookAll_spec _ _ h3 j oj t (by rw [Array.getElem?_toList]; exact hj) hdj) i oi (by rw [Array.getElem?_toList]; exact hi) (by omega)
    exact this.1 hdi
  · intro i j oi oj t hne hi hj hdj ht
    have := lookAt_spec _ _ (lookAll_spec _ _ h3 j oj t (by rw [Array.getElem?_toList]; exact hj) hdj) i oi (by rw [Array.getElem?_toList]; exact hi) (by omega)
    simpa using this.2 ht
  · intro p i s e o ho hE j hj
    obtain ⟨s1, s2, rfl⟩ := List.append_of_mem hj
    exact (k4 (p ++ i :: s1) j s2 (by rw [e]; simp)).2 i (by simp) (by unfold isEat; rw [ho]; exact hE)

/-- a region whose order is drawn, from its beginning -/
theorem region_drawn {P : Program} {W0 : World} {cf : CF} {yf : YF} (hcf : CFok P W0 cf) (hyf : YFok P W0 yf) {ops : Array Oper} {ord ms : List Nat} {fm fm' : Fm} {st st' : St} {ex : Ex} {b : Frame} {k : List Item} {cs : List Frame}
    {σ : Sg} {w : World} {a : Act} {id : Nat} (hm : P.follows .mixedOrders = true) (hp : planOf ops = some (ord, ms)) (h : canon P cf yf ops (cbit ms) fm ord fm st [] = some (ex, fm', st')) (hR : Rel W0 σ st w) (hF : RF σ fm a b) :
    XOk P W0 σ st (lone (Fat b a (.code (.region id ops true) :: k)) cs w) b k cs ex fm' st' := by
  have hpl := planOf_sound hp
  have hst := s_draw (P := P) (b := b) (a := a) (k := k) (cs := cs) (w := w) (id := id) (ops := ops)
  simp only [Region.schedule, hm, Bool.true_or, if_true, Region.linearise] at hst
  have hI : Inv P W0 cf yf ops ord (cbit ms) fm b σ st (ex, fm', st') [] ord fm st [] σ { w with drawn := w.drawn + 1 } a (Array.replicate ops.size false) := by
    have hf : ∀ i : Nat, (Array.replicate ops.size false)[i]? ≠ some true := by
      intro i; rw [Array.getElem?_replicate]; split <;> simp
    refine ⟨h, by simp, by simp, fun i j hi => absurd hi (hf i), fun i hi => absurd hi (hf i), by simp, by simp, by simp, by simp, hR.drew _, .refl _ _, by simp, by simp, by simp, fun t => .inr ⟨by simp, rfl⟩, ⟨rfl, rfl, rfl⟩, by simp, by simp, fun t v hv => ?_, hF.tm.1, hF.df, hF.rd⟩
    obtain ⟨h1, h2⟩ := hF.tm.2 t v hv
    exact ⟨h1, fun _ => h2⟩
  obtain ⟨pre', rest', fm1, st1, pl', hI', hE⟩ := Inv.advance hpl _ _ _ _ _ hI
  refine XOk.of_steps (.one hst) (.refl _ _) (drawn_sound hcf hyf hpl ops.size _ pre' rest' fm1 st1 pl' σ _ a _ hI' hE ?_)
  have : ∀ (l : List Nat), l.Nodup → (∀ i ∈ l, i < ops.size) → l.length ≤ ops.size := by
    intro l hn hl
    have := List.Nodup.length_le_of_subset (l₂ := List.range ops.size) hn (fun i hi => List.mem_range.2 (hl i hi))
    simpa using this
  exact Nat.le_trans (List.length_filter_le _ _) (this ord hpl.nodup hpl.lt)
end Go.Proofs.YthnldpbkjegfaaaDoor.Sv
