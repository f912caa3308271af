/-
  Frames, regions in the order of the text and drawn, calls, loops over functions; the evaluator is sound.
-/
import Derived.Lib.Bytealg
import Derived.Laws.StandIn
import Derived.Orders
import GoSem.ClaimJoined
import Derived.LaidLaws
import Derived.Test.YtepkbpdldghjnaaEb
set_option linter.unusedVariables false
set_option linter.unusedSimpArgs false
set_option linter.unnecessarySimpa false
noncomputable section
namespace Go.Proofs.Ytepkbpdldghjnaa.Ev
open Go Go.RowKit

/-! ### frames, as they run -/
def Fat (b : Frame) (a : Act) (todo : List Item) : Frame := { b with tmps := a.tmps, todo, defers := a.defers, mode := .run }

theorem Fat_eval (b : Frame) (a : Act) (todo : List Item) : (Fat b a todo).eval = a.eval := by
  funext x; cases x <;> rfl

section
variable {P : Program} {b : Frame} {a : Act} {k : List Item} {cs : List Frame} {w : World}
theorem s_skip : step P (lone (Fat b a (.code .skip :: k)) cs w) = .next (lone (Fat b a k) cs w) := step_lone_go (by simp [stepG, stepG.exec, Fat])
theorem s_label {l : Nat} : step P (lone (Fat b a (.code (.label l) :: k)) cs w) = .next (lone (Fat b a k) cs w) := step_lone_go (by simp [stepG, stepG.exec, Fat])
theorem s_inBlock {id : Nat} : step P (lone (Fat b a (.inBlock id :: k)) cs w) = .next (lone (Fat b a k) cs w) := step_lone_go (by simp [stepG, stepG.exec, Fat])
theorem s_inScope {c : Code} : step P (lone (Fat b a (.inScope c :: k)) cs w) = .next (lone (Fat b a k) cs w) := step_lone_go (by simp [stepG, stepG.exec, Fat])
theorem s_seq {x y : Code} : step P (lone (Fat b a (.code (.seq x y) :: k)) cs w) = .next (lone (Fat b a (.code x :: .code y :: k)) cs w) := step_lone_go (by simp [stepG, stepG.exec, Fat])
theorem s_cond {c : Operand} {x y : Code} {t : Bool} (h : a.eval c = .bool t) : step P (lone (Fat b a (.code (.cond c x y) :: k)) cs w) = .next (lone (Fat b a (.code (if t then x else y) :: k)) cs w) :=
  step_lone_go (by
    have := congrFun (Fat_eval b a (.code (.cond c x y) :: k)) c
    simp only [Fat] at this
    simp [stepG, stepG.exec, Fat, this, h])
theorem s_block {id : Nat} {c : Code} : step P (lone (Fat b a (.code (.block id c) :: k)) cs w) = .next (lone (Fat b a (.code c :: .inBlock id :: k)) cs w) := step_lone_go (by simp [stepG, stepG.exec, Fat])
theorem s_scope {c : Code} : step P (lone (Fat b a (.code (.scope c) :: k)) cs w) = .next (lone (Fat b a (.code c :: .inScope c :: k)) cs w) := step_lone_go (by simp [stepG, stepG.exec, Fat])
theorem s_loop {c : Code} : step P (lone (Fat b a (.code (.loop c) :: k)) cs w) = .next (lone (Fat b a (.code c :: .inLoop c :: k)) cs w) := step_lone_go (by simp [stepG, stepG.exec, Fat])
theorem s_inLoop {c : Code} : step P (lone (Fat b a (.inLoop c :: k)) cs w) = .next (lone (Fat b a (.code c :: .inLoop c :: k)) cs w) := step_lone_go (by simp [stepG, stepG.exec, Fat])
theorem s_exit {id : Nat} {k' : List Item} (h : exitTo id k = some k') : step P (lone (Fat b a (.code (.exit id) :: k)) cs w) = .next (lone (Fat b a k') cs w) :=
  step_lone_go (by simp [stepG, stepG.exec, Fat, h])
theorem s_region {id : Nat} {ops : Array Oper} : step P (lone (Fat b a (.code (.region id ops false) :: k)) cs w) = .next (lone (Fat b a (.inRegion ops (List.range ops.size) :: k)) cs w) :=
  step_lone_go (by simp [stepG, stepG.exec, Fat])
theorem s_draw {id : Nat} {ops : Array Oper} : step P (lone (Fat b a (.code (.region id ops true) :: k)) cs w) =
      .next (lone (Fat b a (.inRegion ops (Region.schedule (P.follows .mixedOrders) ops (w.tape w.drawn (.order b.fn id))) :: k)) cs { w with drawn := w.drawn + 1 }) :=
  step_lone_go (by simp [stepG, stepG.exec, Fat, choose, Sem.run, Question.forced, Question.cut])
theorem s_regionEnd {ops : Array Oper} : step P (lone (Fat b a (.inRegion ops [] :: k)) cs w) = .next (lone (Fat b a k) cs w) := step_lone_go (by simp [stepG, stepG.exec, Fat])

theorem finish_Fat (ops : Array Oper) (i : Nat) (rest : List Nat) (k : List Item) (v : Value) :
    (Fat b a (.inRegion ops (i :: rest) :: k)).finish v = Fat b (a.put ((ops[i]?).bind (·.dst)) v) (.inRegion ops rest :: k) := by
  cases h : (ops[i]?).bind (·.dst) <;> simp [Frame.finish, Fat, Act.put, h]

theorem s_skipOp {ops : Array Oper} {i : Nat} {rest : List Nat} {o : Oper} (ho : ops[i]? = some o) (hw : Region.wanted o (yielded ops a.tmps) = false) :
    step P (lone (Fat b a (.inRegion ops (i :: rest) :: k)) cs w) = .next (lone (Fat b (a.put o.dst undef) (.inRegion ops rest :: k)) cs w) := by
  have := finish_Fat (b := b) (a := a) ops i rest k undef
  rw [ho] at this
  simp only [Option.bind_some] at this
  rw [← this]
  exact step_lone_go (by
    simp only [Fat] at *
    simp [stepG, stepG.exec, ho, hw])

theorem sG_op {ops : Array Oper} {i : Nat} {rest : List Nat} {o : Oper} (ho : ops[i]? = some o) (hw : Region.wanted o (yielded ops a.tmps) = true) (hnd : (∀ c, o.op ≠ .defer c) ∨ b.roundOf = none) :
    stepG P true { frame := Fat b a (.inRegion ops (i :: rest) :: k), callers := cs, status := .running, dying := none } w =
      stepG.apply P true (Fat b a (.inRegion ops (i :: rest) :: k)) cs none (execOp a.eval o) w := by
  have he := Fat_eval b a (.inRegion ops (i :: rest) :: k)
  simp only [Fat] at he
  simp only [stepG, stepG.exec, Fat, ho, hw, Option.map_some, Option.getD_some, if_true, stepG.oper, Frame.oper?, he]
  rcases hnd with h | h
  · cases hr : b.roundOf with
    | none => rfl
    | some l =>
      cases hop : o.op <;> first | rfl | exact absurd hop (h _)
  · rw [h]

theorem s_value {ops : Array Oper} {i : Nat} {rest : List Nat} {o : Oper} {v : Value} {w' : World} (ho : ops[i]? = some o) (hw : Region.wanted o (yielded ops a.tmps) = true)
    (hnd : (∀ c, o.op ≠ .defer c) ∨ b.roundOf = none) (hr : (execOp a.eval o).run P w = .ok (.value v) w') :
    step P (lone (Fat b a (.inRegion ops (i :: rest) :: k)) cs w) = .next (lone (Fat b (a.put o.dst v) (.inRegion ops rest :: k)) cs w') := by
  have hf := finish_Fat (b := b) (a := a) ops i rest k v
  rw [ho] at hf
  simp only [Option.bind_some] at hf
  rw [← hf]
  refine step_lone_go ?_
  rw [sG_op ho hw hnd]; simp [stepG.apply, hr]

theorem s_skipped {ops : Array Oper} {i : Nat} {rest : List Nat} {o : Oper} {w' : World} (ho : ops[i]? = some o) (hw : Region.wanted o (yielded ops a.tmps) = true)
    (hnd : (∀ c, o.op ≠ .defer c) ∨ b.roundOf = none) (hr : (execOp a.eval o).run P w = .ok .skip w') :
    step P (lone (Fat b a (.inRegion ops (i :: rest) :: k)) cs w) = .next (lone (Fat b (a.put o.dst undef) (.inRegion ops rest :: k)) cs w') := by
  have hf := finish_Fat (b := b) (a := a) ops i rest k undef
  rw [ho] at hf
  simp only [Option.bind_some] at hf
  rw [← hf]
  refine step_lone_go ?_
  rw [sG_op ho hw hnd]; simp [stepG.apply, hr]

theorem s_enter {ops : Array Oper} {i : Nat} {rest : List Nat} {o : Oper} {f : FuncId} {args : Array Value} {w' : World} (ho : ops[i]? = some o) (hw : Region.wanted o (yielded ops a.tmps) = true)
    (hnd : (∀ c, o.op ≠ .defer c) ∨ b.roundOf = none) (hr : (execOp a.eval o).run P w = .ok (.enter f args) w') :
    step P (lone (Fat b a (.inRegion ops (i :: rest) :: k)) cs w) = .next (lone (Frame.enter P f args .normal) (Fat b a (.inRegion ops (i :: rest) :: k) :: cs) w') := by
  refine step_lone_go ?_
  rw [sG_op ho hw hnd]; simp [stepG.apply, hr, Fat]

theorem s_round {ops : Array Oper} {i : Nat} {rest : List Nat} {o : Oper} {l : Nat} {f : FuncId} {tmps : Array Value} {as bd : Code} {w' : World} (ho : ops[i]? = some o) (hw : Region.wanted o (yielded ops a.tmps) = true)
    (hnd : (∀ c, o.op ≠ .defer c) ∨ b.roundOf = none) (hr : (execOp a.eval o).run P w = .ok (.round l f tmps as bd) w') :
    step P (lone (Fat b a (.inRegion ops (i :: rest) :: k)) cs w) = .next (lone (Frame.round l f tmps as bd .normal) (Fat b a (.inRegion ops (i :: rest) :: k) :: cs) w') := by
  refine step_lone_go ?_
  rw [sG_op ho hw hnd]; simp [stepG.apply, hr]

theorem s_defer {ops : Array Oper} {i : Nat} {rest : List Nat} {o : Oper} {d : Deferred} {w' : World} (ho : ops[i]? = some o) (hw : Region.wanted o (yielded ops a.tmps) = true)
    (hnd : (∀ c, o.op ≠ .defer c) ∨ b.roundOf = none) (hr : (execOp a.eval o).run P w = .ok (.defer d) w') :
    step P (lone (Fat b a (.inRegion ops (i :: rest) :: k)) cs w) = .next (lone (Fat b ({ a with defers := d :: a.defers }.put o.dst undef) (.inRegion ops rest :: k)) cs w') := by
  have hf := finish_Fat (b := b) (a := { a with defers := d :: a.defers }) ops i rest k undef
  rw [ho] at hf
  simp only [Option.bind_some] at hf
  rw [← hf]
  refine step_lone_go ?_
  rw [sG_op ho hw hnd]; simp only [stepG.apply, Sem.runT_eq, hr, GStep.bare_after]; rfl

theorem s_recover {ops : Array Oper} {i : Nat} {rest : List Nat} {o : Oper} {w' : World} (ho : ops[i]? = some o) (hw : Region.wanted o (yielded ops a.tmps) = true)
    (hro : b.roundOf = none) (hr : (execOp a.eval o).run P w = .ok .recover w') :
    step P (lone (Fat b a (.inRegion ops (i :: rest) :: k)) cs w) = match tryRecover (Fat b a (.inRegion ops (i :: rest) :: k)) cs with
      | some (v, cs') => .next (lone (Fat b (a.put o.dst v) (.inRegion ops rest :: k)) cs' w')
      | none => .next (lone (Fat b (a.put o.dst .nilIface) (.inRegion ops rest :: k)) cs w') := by
  have hf := fun v => finish_Fat (b := b) (a := a) ops i rest k v
  simp only [ho, Option.bind_some] at hf
  have hro' : (Fat b a (.inRegion ops (i :: rest) :: k)).roundOf = none := hro
  split
  · rename_i v cs' ht
    rw [← hf]
    refine step_lone_go ?_
    rw [sG_op ho hw (.inr hro)]; simp only [stepG.apply, Sem.runT_eq, hr, hro', ht, GStep.bare_after]; rfl
  · rename_i ht
    rw [← hf]
    refine step_lone_go ?_
    rw [sG_op ho hw (.inr hro)]; simp only [stepG.apply, Sem.runT_eq, hr, hro', ht, GStep.bare_after]; rfl

theorem s_panic {ops : Array Oper} {i : Nat} {rest : List Nat} {o : Oper} {v : Value} {w' : World} (ho : ops[i]? = some o) (hw : Region.wanted o (yielded ops a.tmps) = true)
    (hnd : (∀ c, o.op ≠ .defer c) ∨ b.roundOf = none) (hr : (execOp a.eval o).run P w = .halt (.panic v) w') :
    step P (lone (Fat b a (.inRegion ops (i :: rest) :: k)) cs w) = .next (lone { Fat b a (.inRegion ops (i :: rest) :: k) with mode := .panicking [{ v, recovered := false }] } cs w') := by
  refine step_lone_go ?_
  rw [sG_op ho hw hnd]; simp [stepG.apply, hr, Fat, Frame.raise]
end

/-! ### how code ends -/
inductive Xc where
  | normal
  | exit (id : Nat)
  | ret
  | panic (chain : List PanicEntry)

def Arr (P : Program) (m : Machine) (b : Frame) (k : List Item) (cs : List Frame) : Xc → Act → World → Prop
  | .normal, a, w => Steps P m (lone (Fat b a k) cs w)
  | .exit id, a, w => ∃ k0, exitTo id k0 = exitTo id k ∧ Steps P m (lone (Fat b a (.code (.exit id) :: k0)) cs w)
  | .ret, a, w => ∃ k0, Steps P m (lone (Fat b a (.code .ret :: k0)) cs w)
  | .panic chain, a, w => ∃ todo, Steps P m (lone { Fat b a todo with mode := .panicking chain } cs w)

theorem Arr.of_steps {P : Program} {m m1 : Machine} {b : Frame} {k : List Item} {cs : List Frame} {e : Xc} {a : Act} {w : World} (h : Steps P m m1) (h' : Arr P m1 b k cs e a w) : Arr P m b k cs e a w := by
  cases e with
  | normal => exact h.trans h'
  | exit id => obtain ⟨k0, e, hs⟩ := h'; exact ⟨k0, e, h.trans hs⟩
  | ret => obtain ⟨k0, hs⟩ := h'; exact ⟨k0, h.trans hs⟩
  | panic c => obtain ⟨t, hs⟩ := h'; exact ⟨t, h.trans hs⟩

/-- an exit that is none of 'normal' goes past an item that is no block -/
theorem Arr.past {P : Program} {m : Machine} {b : Frame} {x : Item} {k : List Item} {cs : List Frame} {e : Xc} {a : Act} {w : World} (hx : ∀ id, x ≠ .inBlock id) (he : e ≠ .normal)
    (h : Arr P m b (x :: k) cs e a w) : Arr P m b k cs e a w := by
  cases e with
  | normal => exact absurd rfl he
  | exit id =>
    obtain ⟨k0, e, hs⟩ := h
    refine ⟨k0, e.trans ?_, hs⟩
    cases x <;> first | rfl | exact absurd rfl (hx _)
  | ret => exact h
  | panic c => exact h

/-! ### the evaluator's frames and ends -/
inductive D where
  | mark (i : Nat)
  | call (f : FuncId) (args captured : List V)

structure Fm where
  n : Nat
  tm : Tri V
  df : List D
  rd : Option Nat

inductive Ex where
  | normal
  | exit (id : Nat)
  | ret
  | panic (v : V)

def RD (σ : Sg) : D → Deferred → Prop
  | .mark i, d => ∃ p, σ i = some p ∧ d = { target := .collected p.blk, args := #[] }
  | .call f args cap, d => ∃ c x : Array Value, d = { target := .fn (.func f) c, args := x } ∧ RVs σ args x.toList ∧ RVs σ cap c.toList
def RDs (σ : Sg) : List D → List Deferred → Prop
  | [], l => l = []
  | d :: ds, l => ∃ x r, l = x :: r ∧ RD σ d x ∧ RDs σ ds r

theorem RDs.mono {σ σ' : Sg} (h : Le σ σ') : ∀ {ds : List D} {l : List Deferred}, RDs σ ds l → RDs σ' ds l
  | [], l, r => r
  | d :: ds, l, r => by
    simp only [RDs] at r ⊢; obtain ⟨x, rr, e, h1, h2⟩ := r
    refine ⟨x, rr, e, ?_, RDs.mono h h2⟩
    cases d with
    | mark i => simp only [RD] at h1 ⊢; obtain ⟨p, hp, e⟩ := h1; exact ⟨p, h _ _ hp, e⟩
    | call f a c => simp only [RD] at h1 ⊢; obtain ⟨c', x', e, h3, h4⟩ := h1; exact ⟨c', x', e, RVs.mono h _ _ h3, RVs.mono h _ _ h4⟩

def RRd (σ : Sg) (rd : Option Nat) (b : Option Nat) : Prop :=
  match rd with
  | none => b = none
  | some l => ∃ p, σ l = some p ∧ b = some p.blk

structure RF (σ : Sg) (fm : Fm) (a : Act) (b : Frame) : Prop where
  tm : RT σ fm.n fm.tm a.tmps
  df : RDs σ fm.df a.defers
  rd : RRd σ fm.rd b.roundOf

theorem RF.mono {σ σ' : Sg} (h : Le σ σ') {fm : Fm} {a : Act} {b : Frame} (r : RF σ fm a b) : RF σ' fm a b := ⟨r.tm.mono h, r.df.mono h, by
  have := r.rd; unfold RRd at this ⊢; split at this
  · exact this
  · obtain ⟨p, hp, e⟩ := this; exact ⟨p, h _ _ hp, e⟩⟩

def RX (σ : Sg) : Ex → Xc → Prop
  | .normal, e => e = .normal
  | .exit id, e => e = .exit id
  | .ret, e => e = .ret
  | .panic v, e => ∃ x, RV σ v x ∧ e = .panic [{ v := x, recovered := false }]

def Fm.rho (fm : Fm) : Rho
  | .tmp t => fm.tm.get t
  | .const v => ofValue v
  | .func f => some (.func (.func f) [] [])
  | .global g => some (.glob g 0)

theorem Fm.rho_sound {σ : Sg} {fm : Fm} {a : Act} {n : Nat} (h : RT σ n fm.tm a.tmps) (x : Operand) (v : V) (e : fm.rho x = some v) : RV σ v (a.eval x) := by
  cases x with
  | tmp t => exact (h.2 t v e).2
  | const c => exact ofValue_sound e
  | func f => simp only [Fm.rho, Option.some.injEq] at e; subst e; simp only [RV, RVs, Act.eval]; exact ⟨#[], #[], rfl, rfl, rfl⟩
  | global g => simp only [Fm.rho, Option.some.injEq] at e; subst e; simp only [RV, Act.eval]

/-- a value goes into a slot -/
def Fm.put (fm : Fm) (d : Option Tmp) (v : V) : Option Fm :=
  match d with
  | none => some fm
  | some t => match fm with
    | ⟨n, tm, df, rd⟩ => match Nat.ble (t + 1) n with
      | true => some ⟨n, tm.set t (some v), df, rd⟩
      | false => none

theorem Fm.put_eq (fm : Fm) (d : Option Tmp) (v : V) : fm.put d v = match d with
    | none => some fm
    | some t => match Nat.ble (t + 1) fm.n with
      | true => some { fm with tm := fm.tm.set t (some v) }
      | false => none := by
  cases fm; cases d <;> rfl

theorem Fm.put_sound {σ : Sg} {fm fm' : Fm} {a : Act} {b : Frame} {d : Option Tmp} {v : V} {x : Value} (h : fm.put d v = some fm') (r : RF σ fm a b) (hv : RV σ v x) : RF σ fm' (a.put d x) b := by
  rw [Fm.put_eq] at h
  split at h
  · cases h; exact r
  · rename_i t
    split at h
    · rename_i hle
      cases h
      have hle := Nat.le_of_ble_eq_true hle
      obtain ⟨h1, h2⟩ := r.tm
      refine ⟨⟨by simp [Act.put, h1], fun s u hs => ?_⟩, r.df, r.rd⟩
      simp only at hs
      rw [Tri.get_set] at hs
      simp only [Act.put]
      split at hs
      · rename_i e; subst e; obtain rfl := Option.some.inj hs
        refine ⟨by show s < fm.n; omega, ?_⟩
        have : (a.tmps.setIfInBounds s x).getD s undef = x := by rw [Array.getD_eq_getD_getElem?, Array.getElem?_setIfInBounds, if_pos rfl, if_pos (by omega)]; rfl
        rw [this]; exact hv
      · rename_i e
        obtain ⟨c1, c2⟩ := h2 s u hs
        refine ⟨c1, ?_⟩
        have : (a.tmps.setIfInBounds t x).getD s undef = a.tmps.getD s undef := by
          rw [Array.getD_eq_getD_getElem?, Array.getD_eq_getD_getElem?, Array.getElem?_setIfInBounds, if_neg (Ne.symm e)]
        rw [this]; exact c2
    · cases h
end Go.Proofs.Ytepkbpdldghjnaa.Ev

namespace Go.Proofs.Ytepkbpdldghjnaa.Ev
open Go Go.RowKit

inductive CR where
  | ok (v : V)
  | panic (v : V)

abbrev CF := FuncId → List V → St → Option (CR × St)
abbrev YF := Nat → List V → St → Option (CR × St)

def CallOk (P : Program) (W0 : World) (f : FuncId) (args : List V) (st : St) (r : CR) (st' : St) : Prop :=
  ∀ σ w (args' : Array Value), Rel W0 σ st w → RVs σ args args'.toList → (∀ w, (callFunc f args').run P w = .ok (.enter f args') w) ∧
    ∀ cs, ∃ σ' w' fr, Rel W0 σ' st' w' ∧ Post σ st σ' st' ∧ Steps P (lone (Frame.enter P f args' .normal) cs w) (lone fr cs w') ∧ fr.fn = f ∧
      match r with
      | .ok v => ∃ z, RV σ' v z ∧ fr.leaving P w' (.returned z)
      | .panic v => ∃ z, RV σ' v z ∧ fr.leaving P w' (.panicked [{ v := z, recovered := false }])

def YieldOk (P : Program) (W0 : World) (l : Nat) (args : List V) (st : St) (r : CR) (st' : St) : Prop :=
  ∀ σ w (args' : Array Value) p, Rel W0 σ st w → σ l = some p → RVs σ args args'.toList → ∃ f tmps as bd, (Instr.yield p.blk args').run P w = .ok (.round p.blk f tmps as bd) w ∧
    ∀ c cs, c.mode = .run → ∃ σ' w', Rel W0 σ' st' w' ∧ Post σ st σ' st' ∧
      match r with
      | .ok v => ∃ z, RV σ' v z ∧ Steps P (lone (Frame.round p.blk f tmps as bd .normal) (c :: cs) w) (lone (c.finish z) cs w')
      | .panic v => ∃ z, RV σ' v z ∧ Steps P (lone (Frame.round p.blk f tmps as bd .normal) (c :: cs) w) (lone { c with mode := .panicking [{ v := z, recovered := false }] } cs w')

def CFok (P : Program) (W0 : World) (cf : CF) : Prop := ∀ f args st r st', cf f args st = some (r, st') → CallOk P W0 f args st r st'
def YFok (P : Program) (W0 : World) (yf : YF) : Prop := ∀ l args st r st', yf l args st = some (r, st') → YieldOk P W0 l args st r st'

def OpOk (P : Program) (W0 : World) (σ : Sg) (st : St) (w : World) (b : Frame) (a : Act) (cs : List Frame) (ops : Array Oper) (i : Nat) (rest : List Nat) (k : List Item) (o : Oper) (r : CR) (st' : St) : Prop :=
  ∃ σ' w', Rel W0 σ' st' w' ∧ Post σ st σ' st' ∧
    match r with
    | .ok v => ∃ z, RV σ' v z ∧ Steps P (lone (Fat b a (.inRegion ops (i :: rest) :: k)) cs w) (lone (Fat b (a.put o.dst z) (.inRegion ops rest :: k)) cs w')
    | .panic v => ∃ z, RV σ' v z ∧ ∃ todo, Steps P (lone (Fat b a (.inRegion ops (i :: rest) :: k)) cs w) (lone { Fat b a todo with mode := .panicking [{ v := z, recovered := false }] } cs w')

section
variable {P : Program} {W0 : World} {σ σ' : Sg} {st st' : St} {w w' : World} {b : Frame} {a : Act} {cs : List Frame} {ops : Array Oper} {i : Nat} {rest : List Nat} {k : List Item} {o : Oper}

theorem OpOk.value {v : V} {z : Value} (ho : ops[i]? = some o) (hw : Region.wanted o (yielded ops a.tmps) = true) (hnd : (∀ c, o.op ≠ .defer c) ∨ b.roundOf = none)
    (hr : (execOp a.eval o).run P w = .ok (.value z) w') (hR : Rel W0 σ' st' w') (hP : Post σ st σ' st') (hv : RV σ' v z) : OpOk P W0 σ st w b a cs ops i rest k o (.ok v) st' :=
  ⟨σ', w', hR, hP, z, hv, .one (s_value ho hw hnd hr)⟩

theorem RV.undef (σ : Sg) : RV σ (.tuple []) undef := by simp only [RV, RVs]; exact ⟨#[], rfl, rfl⟩

theorem OpOk.skip (ho : ops[i]? = some o) (hw : Region.wanted o (yielded ops a.tmps) = true) (hnd : (∀ c, o.op ≠ .defer c) ∨ b.roundOf = none)
    (hr : (execOp a.eval o).run P w = .ok .skip w') (hR : Rel W0 σ' st' w') (hP : Post σ st σ' st') : OpOk P W0 σ st w b a cs ops i rest k o (.ok (.tuple [])) st' :=
  ⟨σ', w', hR, hP, _, RV.undef _, .one (s_skipped ho hw hnd hr)⟩

theorem OpOk.call {f : FuncId} {args : List V} {args' : Array Value} {r : CR} (hc : CallOk P W0 f args st r st') (ho : ops[i]? = some o) (hw : Region.wanted o (yielded ops a.tmps) = true)
    (hnd : (∀ c, o.op ≠ .defer c) ∨ b.roundOf = none) (hR : Rel W0 σ st w) (ha : RVs σ args args'.toList)
    (hr : ∀ nx, (callFunc f args').run P w = .ok nx w → (execOp a.eval o).run P w = .ok nx w) : OpOk P W0 σ st w b a cs ops i rest k o r st' := by
  obtain ⟨h1, h2⟩ := hc σ w args' hR ha
  obtain ⟨σ', w', fr, hR', hP', hst, hfn, hres⟩ := h2 (Fat b a (.inRegion ops (i :: rest) :: k) :: cs)
  have hen := s_enter (k := k) (cs := cs) (rest := rest) ho hw hnd (hr _ (h1 w))
  refine ⟨σ', w', hR', hP', ?_⟩
  cases r with
  | ok v =>
    obtain ⟨z, hz, hl⟩ := hres
    refine ⟨z, hz, .head hen (hst.trans (.one ?_))⟩
    have := step_leave_returned (c := Fat b a (.inRegion ops (i :: rest) :: k)) (cs := cs) hl
    rw [finish_Fat, ho] at this
    exact this
  | panic v =>
    obtain ⟨z, hz, hl⟩ := hres
    refine ⟨z, hz, .inRegion ops (i :: rest) :: k, .head hen (hst.trans (.one ?_))⟩
    have := step_leave_panicked (c := Fat b a (.inRegion ops (i :: rest) :: k)) (cs := cs) hl
    exact this

theorem OpOk.yield {l : Nat} {p : Pl} {args : List V} {args' : Array Value} {r : CR} (hc : YieldOk P W0 l args st r st') (ho : ops[i]? = some o) (hw : Region.wanted o (yielded ops a.tmps) = true)
    (hnd : (∀ c, o.op ≠ .defer c) ∨ b.roundOf = none) (hR : Rel W0 σ st w) (hp : σ l = some p) (ha : RVs σ args args'.toList)
    (hr : ∀ nx, (Instr.yield p.blk args').run P w = .ok nx w → (execOp a.eval o).run P w = .ok nx w) : OpOk P W0 σ st w b a cs ops i rest k o r st' := by
  obtain ⟨f, tmps, as, bd, h1, h2⟩ := hc σ w args' p hR hp ha
  obtain ⟨σ', w', hR', hP', hres⟩ := h2 (Fat b a (.inRegion ops (i :: rest) :: k)) cs rfl
  have hen := s_round (k := k) (cs := cs) (rest := rest) ho hw hnd (hr _ h1)
  refine ⟨σ', w', hR', hP', ?_⟩
  cases r with
  | ok v =>
    obtain ⟨z, hz, hl⟩ := hres
    refine ⟨z, hz, .head hen ?_⟩
    rw [finish_Fat, ho] at hl
    exact hl
  | panic v =>
    obtain ⟨z, hz, hl⟩ := hres
    exact ⟨z, hz, .inRegion ops (i :: rest) :: k, .head hen hl⟩
end

/-! ### a function without a body: the model's own entry -/
def idxB (c : Nat) : List Nat → Nat → Int
  | [], _ => -1
  | b :: l, i => match Nat.beq b c with
    | true => Int.ofNat i
    | false => idxB c l (i + 1)

theorem idxB_eq (c : Nat) (hc : c ≤ 255) : ∀ (l : List UInt8) (i : Nat), idxB c (l.map UInt8.toNat) i = if Lib.indexByte l c.toUInt8 == -1 then -1 else Lib.indexByte l c.toUInt8 + i
  | [], i => by simp [idxB, Lib.indexByte]
  | b :: l, i => by
    have ih := idxB_eq c hc l (i + 1)
    have hb : Nat.beq b.toNat c = (b == c.toUInt8) := by
      rw [Bool.eq_iff_iff, Nat.beq_eq, beq_iff_eq]
      constructor
      · intro e; subst e; simp
      · intro e; subst e; simp; omega
    simp only [List.map_cons, idxB, hb, Lib.indexByte]
    by_cases h : (b == c.toUInt8) = true
    · simp only [h, if_true]; simp
    · have h : (b == c.toUInt8) = false := by simpa using h
      simp only [h, Bool.false_eq_true, if_false]
      rw [ih]
      have hge := Lib.indexByte_ge l c.toUInt8
      by_cases h1 : Lib.indexByte l c.toUInt8 = -1
      · simp [h1]
      · have h2 : (Lib.indexByte l c.toUInt8 == -1) = false := by simpa using h1
        have h3 : (Lib.indexByte l c.toUInt8 + 1 == -1) = false := by rw [beq_eq_false_iff_ne]; omega
        simp only [h2, h3, Bool.false_eq_true, if_false]
        omega

def cmpB : List Nat → List Nat → Int
  | [], [] => 0
  | [], _ :: _ => -1
  | _ :: _, [] => 1
  | a :: x, b :: y => match Nat.ble (a + 1) b with
    | true => -1
    | false => match Nat.ble (b + 1) a with
      | true => 1
      | false => cmpB x y

theorem cmpB_eq : ∀ (l m : List UInt8), cmpB (l.map UInt8.toNat) (m.map UInt8.toNat) = Lib.compareBytes l m
  | [], [] => rfl
  | [], _ :: _ => rfl
  | _ :: _, [] => rfl
  | a :: x, b :: y => by
    simp only [List.map_cons, cmpB, Lib.compareBytes]
    have key : ∀ a b : UInt8, Nat.ble (a.toNat + 1) b.toNat = decide (a < b) := by
      intro a b
      rw [Bool.eq_iff_iff, Nat.ble_eq, decide_eq_true_iff, UInt8.lt_iff_toNat_lt]
      omega
    rw [key, key]
    by_cases h1 : a < b
    · simp only [h1, decide_true, if_true]
    · simp only [h1, decide_false, if_false]
      by_cases h2 : b < a
      · simp only [h2, decide_true, if_true]
      · simp only [h2, decide_false, if_false]
        exact cmpB_eq x y

def idxArm : List V → Option V
  | [.str s, .int .u8 (.ofNat c)] => match Nat.ble c 255 with
    | true => some (.int .i64 (idxB c s 0))
    | false => none
  | _ => none
def cmpArm : List V → Option V
  | [.str s, .str t] => some (.int .i64 (cmpB s t))
  | _ => none

def externV (P : Program) (g : FuncId) (args : List V) : Option V :=
  match P.funcs[g]? with
  | some fn => match fn.body with
    | none => match fn.origin == "" with
      | true => match fn.name == "internal/bytealg.IndexByteString" with
        | true => idxArm args
        | false => match fn.name == "internal/bytealg.abigen_runtime_cmpstring" with
          | true => cmpArm args
          | false => none
      | false => none
    | some _ => none
  | none => none

theorem look1 : Extern.allNextRows.lookup "internal/bytealg.IndexByteString" = none := by kernel_rfl
theorem look2 : Extern.allNextRows.lookup "" = none := by kernel_rfl
theorem look3 : Extern.allGenericRows.lookup "internal/bytealg.IndexByteString" = none := by kernel_rfl
theorem look4 : Extern.allTypedRows.lookup "internal/bytealg.IndexByteString" = none := by kernel_rfl
theorem look5 : Extern.allRows.lookup "internal/bytealg.IndexByteString" = some Extern.BytealgIndexByte.indexByte := by kernel_rfl
theorem look6 : Extern.allNextRows.lookup "internal/bytealg.abigen_runtime_cmpstring" = none := by kernel_rfl
theorem look7 : Extern.allGenericRows.lookup "internal/bytealg.abigen_runtime_cmpstring" = none := by kernel_rfl
theorem look8 : Extern.allTypedRows.lookup "internal/bytealg.abigen_runtime_cmpstring" = none := by kernel_rfl
theorem look9 : Extern.allRows.lookup "internal/bytealg.abigen_runtime_cmpstring" = some Extern.BytealgCompare.compare := by kernel_rfl

theorem externV_sound {P : Program} {σ : Sg} {g : FuncId} {args : List V} {v : V} {args' : Array Value} (h : externV P g args = some v) (ha : RVs σ args args'.toList) :
    ∃ z, (∀ w, (callFunc g args').run P w = .ok (.value z) w) ∧ RV σ v z := by
  unfold externV at h
  split at h
  · rename_i fn hf
    split at h
    · rename_i hb
      split at h
      · rename_i h2
        have h2 : fn.origin = "" := by simpa using h2
        split at h
        · rename_i h1
          have h1 : fn.name = "internal/bytealg.IndexByteString" := by simpa using h1
          unfold idxArm at h
          split at h
          · rename_i s c
            split at h
            · rename_i hc
              cases h
              have hc := Nat.le_of_ble_eq_true hc
              simp only [RVs, RV] at ha
              obtain ⟨x, r, e, ⟨t, rfl, ht⟩, y, r2, rfl, rfl, rfl⟩ := ha
              have hargs : args' = #[.string t, .int .u8 (Int.ofNat c)] := by apply Array.ext'; simpa using e
              have hn : Extern.findNext fn = none := by simp [Extern.findNext, h1, h2, look1, look2]
              have hf' : Extern.find fn = some Extern.BytealgIndexByte.indexByte := by simp [Extern.find, h1, look3, look4, look5]
              refine ⟨.int .i64 (Lib.indexByte t.data.toList c.toUInt8), fun w => ?_, ?_⟩
              · rw [run_callFunc_indexByte hf (by rw [h1]; decide) (by rw [hb]; rfl) hn hf', hargs, Lib.run_indexByteString]; rfl
              · simp only [RV]
                have := idxB_eq c hc t.data.toList 0
                subst ht
                unfold bs
                rw [this]
                have hge := Lib.indexByte_ge t.data.toList c.toUInt8
                by_cases h1 : Lib.indexByte t.data.toList c.toUInt8 = -1
                · simp [h1]
                · have h2 : (Lib.indexByte t.data.toList c.toUInt8 == -1) = false := by simpa using h1
                  simp [h2]
            · cases h
          · cases h
        · split at h
          · rename_i h1
            have h1 : fn.name = "internal/bytealg.abigen_runtime_cmpstring" := by simpa using h1
            unfold cmpArm at h
            split at h
            · rename_i s u
              cases h
              simp only [RVs, RV] at ha
              obtain ⟨x, r, e, ⟨t, rfl, ht⟩, y, r2, rfl, ⟨t2, rfl, ht2⟩, rfl⟩ := ha
              have hargs : args' = #[.string t, .string t2] := by apply Array.ext'; simpa using e
              have hn : Extern.findNext fn = none := by simp [Extern.findNext, h1, h2, look6, look2]
              have hf' : Extern.find fn = some Extern.BytealgCompare.compare := by simp [Extern.find, h1, look7, look8, look9]
              refine ⟨.int .i64 (Lib.compareBytes t.data.toList t2.data.toList), fun w => ?_, ?_⟩
              · rw [run_callFunc_extern hf (by rw [h1]; decide) (by rw [hb]; rfl) hn hf', hargs, Lib.run_compareString]; rfl
              · simp only [RV]
                subst ht ht2
                unfold bs
                rw [cmpB_eq]
            · cases h
          · cases h
      · cases h
    · cases h
  · cases h

/-- the method that an interface's value has for this name: its own alone, of a value that is no pointer or by pointer of a pointer -/
def methodV (P : Program) (t : TypeId) (name : String) : Option FuncId :=
  match P.info? t with
  | none => none
  | some i => match i.methods.find? (·.name == name) with
    | none => none
    | some m => match m.path.toList, m.func, P.underlying t with
      | [], some (f, p), some d => match d, p with
        | .pointer _, true => some f
        | .pointer _, false => none
        | _, false => some f
        | _, true => none
      | _, _, _ => none

theorem methodV_sound {P : Program} {t : TypeId} {name : String} {f : FuncId} (h : methodV P t name = some f) (v : Value) (args : Array Value) (w : World) (nx : Next)
    (hnx : (callFunc f (#[v] ++ args)).run P w = .ok nx w) : (callMethod (.iface t v) name args).run P w = .ok nx w := by
  unfold methodV at h
  split at h
  · cases h
  · rename_i i hi
    split at h
    · cases h
    · rename_i m hm
      split at h
      · rename_i f' p d hpath hfunc hu
        have hm' : method (P.types.size + Made.depth) t v name = method (P.types.size + (Made.depth - 1) + 1) t v name := rfl
        have key : (method (P.types.size + Made.depth) t v name).run P w = .ok (f, v) w := by
          rw [hm']
          split at h <;> cases h <;>
            simp_all [method, typeInfo, run_underlying hu, follow, receiverAt, Place.get]
        simp only [callMethod, Sem.run_bind, run_program, Result.andThen_ok, key]
        exact hnx
      · cases h


def evalE (P : Program) (cf : CF) (yf : YF) (ρ : Rho) (o : Oper) (st : St) : Option (CR × St) :=
  match o.op with
  | .store t a x => match storeE P st t (ρ a) (ρ x) with
    | some st' => some (.ok (.tuple []), st')
    | none => none
  | .mapUpdate t m k x => match mapUpdateE P st t (ρ m) (ρ k) (ρ x) with
    | some st' => some (.ok (.tuple []), st')
    | none => none
  | .insert t m k x => match mapUpdateE P st t (ρ m) (ρ k) (ρ x) with
    | some st' => some (.ok (.tuple []), st')
    | none => none
  | .mapEntry t m k => match mapEntryE P st t (ρ m) (ρ k) with
    | some (v, st') => some (.ok v, st')
    | none => none
  | .entryStore _ m s x => match entryStoreE st (ρ m) (ρ s) (ρ x) with
    | some st' => some (.ok (.tuple []), st')
    | none => none
  | .range t x => match rangeE P st t (ρ x) with
    | some (v, st') => some (.ok v, st')
    | none => none
  | .next it false => match overE st (ρ it) with
    | true => some (.ok (.tuple [.bool false]), st)
    | false => match oneE st (ρ it) with
      | some (v, st') => some (.ok v, st')
      | none => none
  | .entry it => match entryE st (ρ it) with
    | some v => some (.ok v, st)
    | none => none
  | .panic x => match ρ x with
    | some (.iface t v) => some (.panic (.iface t v), st)
    | _ => none
  | .call c => match c.callee with
    | .builtin .append => match c.args.toList with
      | [s, x] => match appendE P st c.argTypes (ρ s) (ρ x) with
        | some (v, st') => some (.ok v, st')
        | none => none
      | _ => none
    | .builtin .copy => match c.args.toList with
      | [s, x] => match copyE P st c.argTypes (ρ s) (ρ x) with
        | some (v, st') => some (.ok v, st')
        | none => none
      | _ => none
    | .builtin .delete => match c.args.toList with
      | [s, x] => match deleteE P st c.argTypes (ρ s) (ρ x) with
        | some st' => some (.ok (.tuple []), st')
        | none => none
      | _ => none
    | .builtin .clear => match c.args.toList with
      | [s] => match clearE P st c.argTypes (ρ s) with
        | some st' => some (.ok (.tuple []), st')
        | none => none
      | _ => none
    | .value f => match ρ f, rhoAll ρ c.args.toList with
      | some (.func (.func g) first cap), some args => match externV P g (first ++ args ++ cap) with
        | some v => some (.ok v, st)
        | none => cf g (first ++ args ++ cap) st
      | some (.yield l), some args => yf l args st
      | _, _ => none
    | .invoke r name => match ρ r, rhoAll ρ c.args.toList with
      | some (.iface t v), some args => match methodV P t name with
        | some g => cf g (v :: args) st
        | none => none
      | _, _ => none
    | _ => none
  | _ => none

set_option maxHeartbeats 2000000 in
theorem evalE_sound {P : Program} {W0 : World} {cf : CF} {yf : YF} (hcf : CFok P W0 cf) (hyf : YFok P W0 yf) {σ : Sg} {st st' : St} {w : World} {ρ : Rho} {o : Oper} {r : CR}
    {b : Frame} {a : Act} {cs : List Frame} {ops : Array Oper} {i : Nat} {rest : List Nat} {k : List Item}
    (hR : Rel W0 σ st w) (h : evalE P cf yf ρ o st = some (r, st')) (hr : ∀ x ∈ o.op.operands, ∀ u, ρ x = some u → RV σ u (a.eval x))
    (ho : ops[i]? = some o) (hw : Region.wanted o (yielded ops a.tmps) = true) : OpOk P W0 σ st w b a cs ops i rest k o r st' := by
  unfold evalE at h
  split at h
  case h_11 => cases h
  all_goals (rename_i hop; rw [hop] at hr; simp only [Op.operands] at hr; have hnd : (∀ c, o.op ≠ .defer c) ∨ b.roundOf = none := .inl (by rw [hop]; intro c hc; cases hc))
  case h_1 t ad x =>
    split at h <;> cases h
    rename_i h1
    obtain ⟨w', e, r1, p1⟩ := storeE_sound (ua := a.eval ad) (ux := a.eval x) hR h1 (hr ad (by simp)) (hr x (by simp))
    exact .skip ho hw hnd (by simp [execOp, hop, e]) r1 p1
  case h_2 t m kk x =>
    split at h <;> cases h
    rename_i h1
    obtain ⟨w', e, r1, p1⟩ := mapUpdateE_sound (um := a.eval m) (uk := a.eval kk) (ux := a.eval x) hR h1 (hr m (by simp)) (hr kk (by simp)) (hr x (by simp))
    exact .skip ho hw hnd (by simp [execOp, hop, e]) r1 p1
  case h_3 t m kk x =>
    split at h <;> cases h
    rename_i h1
    obtain ⟨w', e, r1, p1⟩ := mapUpdateE_sound (um := a.eval m) (uk := a.eval kk) (ux := a.eval x) hR h1 (hr m (by simp)) (hr kk (by simp)) (hr x (by simp))
    exact .skip ho hw hnd (by simp [execOp, hop, e]) r1 p1
  case h_4 t m kk =>
    split at h <;> cases h
    rename_i h1
    obtain ⟨z, w', e, rz, r1, p1⟩ := mapEntryE_sound (um := a.eval m) (uk := a.eval kk) hR h1 (hr m (by simp)) (hr kk (by simp))
    exact .value ho hw hnd (by simp [execOp, hop, e]) r1 p1 rz
  case h_5 t m s x =>
    split at h <;> cases h
    rename_i h1
    obtain ⟨w', e, r1, p1⟩ := entryStoreE_sound (P := P) (t := t) (um := a.eval m) (us := a.eval s) (ux := a.eval x) hR h1 (hr m (by simp)) (hr s (by simp)) (hr x (by simp))
    exact .skip ho hw hnd (by simp [execOp, hop, e]) r1 p1
  case h_6 t x =>
    split at h <;> cases h
    rename_i h1
    obtain ⟨σ', z, w', e, rz, r1, p1⟩ := rangeE_sound (P := P) (u := a.eval x) hR h1 (hr x (by simp))
    exact .value ho hw hnd (by simp [execOp, hop, e]) r1 p1 rz
  case h_7 it =>
    split at h
    · cases h
      rename_i h1
      have e := overE_sound (P := P) (u := a.eval it) hR h1 (hr it (by simp)) o.type
      exact .value (z := .tuple #[.bool false]) ho hw hnd (by simp [execOp, hop, e]) hR (.refl _ _) (by simp only [RV]; exact ⟨_, rfl, by simp only [RVs, RV]; exact ⟨_, _, rfl, rfl, rfl⟩⟩)
    · split at h <;> cases h
      rename_i h1
      obtain ⟨z, w', e, rz, r1, p1⟩ := oneE_sound (P := P) (u := a.eval it) hR h1 (hr it (by simp)) o.type
      exact .value ho hw hnd (by simp [execOp, hop, e]) r1 p1 rz
  case h_8 it =>
    split at h <;> cases h
    rename_i h1
    obtain ⟨z, e, rz⟩ := entryE_sound (P := P) (u := a.eval it) hR h1 (hr it (by simp))
    exact .value ho hw hnd (by simp [execOp, hop, e]) hR (.refl _ _) rz
  case h_9 x =>
    split at h <;> cases h
    rename_i t v hx
    have hx := hr x (by simp) _ hx
    have hx' := hx
    simp only [RV] at hx
    obtain ⟨y, e, _⟩ := hx
    refine ⟨σ, w, hR, .refl _ _, a.eval x, hx', _, .one (s_panic ho hw hnd ?_)⟩
    simp [execOp, hop, e, Instr.panic]
  case h_10 c =>
    split at h
    · rename_i hc
      split at h
      · rename_i s x ha
        have ha := toList_eq_two ha
        split at h <;> cases h
        rename_i h1
        obtain ⟨σ', z, w', e, rz, r1, p1⟩ := appendE_sound (ty := o.type) (us := a.eval s) (u := a.eval x) hR h1 (hr s (by simp [Call.operands, hc, ha])) (hr x (by simp [Call.operands, hc, ha]))
        exact .value ho hw hnd (by simp [execOp, hop, resolve, hc, ha, invoke, builtin, e]) r1 p1 rz
      · cases h
    · rename_i hc
      split at h
      · rename_i s x ha
        have ha := toList_eq_two ha
        split at h <;> cases h
        rename_i h1
        obtain ⟨z, w', e, rz, r1, p1⟩ := copyE_sound (ty := o.type) (ud := a.eval s) (us := a.eval x) hR h1 (hr s (by simp [Call.operands, hc, ha])) (hr x (by simp [Call.operands, hc, ha]))
        exact .value ho hw hnd (by simp [execOp, hop, resolve, hc, ha, invoke, builtin, e]) r1 p1 rz
      · cases h
    · rename_i hc
      split at h
      · rename_i s x ha
        have ha := toList_eq_two ha
        split at h <;> cases h
        rename_i h1
        obtain ⟨w', e, r1, p1⟩ := deleteE_sound (ty := o.type) (um := a.eval s) (uk := a.eval x) hR h1 (hr s (by simp [Call.operands, hc, ha])) (hr x (by simp [Call.operands, hc, ha]))
        exact .value ho hw hnd (by simp [execOp, hop, resolve, hc, ha, invoke, builtin, e]; rfl) r1 p1 (RV.undef _)
      · cases h
    · rename_i hc
      split at h
      · rename_i s ha
        have ha := toList_eq_one ha
        split at h <;> cases h
        rename_i h1
        obtain ⟨w', e, r1, p1⟩ := clearE_sound (ty := o.type) (u := a.eval s) hR h1 (hr s (by simp [Call.operands, hc, ha]))
        exact .value ho hw hnd (by simp [execOp, hop, resolve, hc, ha, invoke, builtin, e]) r1 p1 (RV.undef _)
      · cases h
    · rename_i f hc
      split at h
      · rename_i g first cap args hf hargs
        have hfv := hr f (by simp [Call.operands, hc]) _ hf
        simp only [RV] at hfv
        obtain ⟨f', c', e, h1, h2⟩ := hfv
        have h3 := rhoAll_sound (σ := σ) (ρ' := a.eval) hargs (fun x hx => hr x (by simp [Call.operands, hc]; exact .inr (by simpa using hx)))
        have hargs : RVs σ (first ++ args ++ cap) (f' ++ c.args.map a.eval ++ c').toList := by
          rw [Array.toList_append, Array.toList_append, Array.toList_map]
          exact (h1.append h3).append h2
        have hinv : ∀ nx, (callFunc g (f' ++ c.args.map a.eval ++ c')).run P w = .ok nx w → (execOp a.eval o).run P w = .ok nx w := by
          intro nx hnx
          simp only [execOp, hop, resolve, hc, e, Deferred.ofValue, Sem.run_bind, Sem.run_pure, Result.andThen_ok, invoke]
          exact hnx
        split at h
        · rename_i v hv
          cases h
          obtain ⟨z, ez, rz⟩ := externV_sound hv hargs
          exact .value ho hw hnd (hinv _ (ez w)) hR (.refl _ _) rz
        · exact OpOk.call (args' := f' ++ c.args.map a.eval ++ c') (hcf _ _ _ _ _ h) ho hw hnd hR hargs hinv
      · rename_i l args hf hargs
        have hfv := hr f (by simp [Call.operands, hc]) _ hf
        simp only [RV] at hfv
        obtain ⟨p, hp, e⟩ := hfv
        have h3 := rhoAll_sound (σ := σ) (ρ' := a.eval) hargs (fun x hx => hr x (by simp [Call.operands, hc]; exact .inr (by simpa using hx)))
        refine OpOk.yield (args' := c.args.map a.eval) (hyf _ _ _ _ _ h) ho hw hnd hR hp ?_ ?_
        · rw [Array.toList_map]; exact h3
        · intro nx hnx
          simp only [execOp, hop, resolve, hc, e, Deferred.ofValue, Sem.run_bind, Sem.run_pure, Result.andThen_ok, invoke, Array.empty_append]
          exact hnx
      · cases h
    · rename_i r name hc
      split at h
      · rename_i t v args hf hargs
        have hfv := hr r (by simp [Call.operands, hc]) _ hf
        simp only [RV] at hfv
        obtain ⟨y, e, hy⟩ := hfv
        have h3 := rhoAll_sound (σ := σ) (ρ' := a.eval) hargs (fun x hx => hr x (by simp [Call.operands, hc]; exact .inr (by simpa using hx)))
        split at h
        · rename_i g hm
          refine OpOk.call (args' := #[y] ++ c.args.map a.eval) (hcf _ _ _ _ _ h) ho hw hnd hR ?_ ?_
          · simp only [Array.toList_append, Array.toList_map, List.cons_append, List.nil_append, RVs]
            exact ⟨_, _, rfl, hy, h3⟩
          · intro nx hnx
            have hx : ∀ (z : Value) (l : Array Value), (#[z] ++ l)[0]? = some z ∧ (#[z] ++ l).extract 1 (#[z] ++ l).size = l := fun z l => ⟨by rw [Array.getElem?_append_left (by show 0 < 1; omega)]; rfl, by
              apply Array.ext'; simp⟩
            simp only [execOp, hop, resolve, hc, e, Sem.run_bind, Sem.run_pure, Result.andThen_ok, invoke, (hx _ _).1, (hx _ _).2]
            exact methodV_sound hm _ _ _ _ hnx
        · cases h
      · cases h
    · cases h

/-- one operation, whatever it is -/
def evalOp (P : Program) (cf : CF) (yf : YF) (ρ : Rho) (o : Oper) (st : St) : Option (CR × St) :=
  match evalP P ρ o with
  | some v => some (.ok v, st)
  | none => match evalL P st ρ o with
    | some v => some (.ok v, st)
    | none => match evalA P ρ o with
      | some (ob, mk) => some (.ok (mk st.next), st.add ob)
      | none => evalE P cf yf ρ o st

theorem evalP_nodefer {P : Program} {ρ : Rho} {o : Oper} {v : V} (h : evalP P ρ o = some v) : ∀ c, o.op ≠ .defer c := by
  intro c e; unfold evalP at h; rw [e] at h; cases h
theorem evalL_nodefer {P : Program} {st : St} {ρ : Rho} {o : Oper} {v : V} (h : evalL P st ρ o = some v) : ∀ c, o.op ≠ .defer c := by
  intro c e; unfold evalL at h; rw [e] at h; cases h
theorem evalA_nodefer {P : Program} {ρ : Rho} {o : Oper} {v : O × (Nat → V)} (h : evalA P ρ o = some v) : ∀ c, o.op ≠ .defer c := by
  intro c e; unfold evalA at h; rw [e] at h; cases h

theorem Post.ofPut {σ : Sg} {st : St} {ob : O} {p : Pl} (hs : σ st.next = none) : Post σ st (σ.put st.next p) (st.add ob) := Post.put hs

theorem evalOp_sound {P : Program} {W0 : World} {cf : CF} {yf : YF} (hcf : CFok P W0 cf) (hyf : YFok P W0 yf) {σ : Sg} {st st' : St} {w : World} {ρ : Rho} {o : Oper} {r : CR}
    {b : Frame} {a : Act} {cs : List Frame} {ops : Array Oper} {i : Nat} {rest : List Nat} {k : List Item}
    (hR : Rel W0 σ st w) (h : evalOp P cf yf ρ o st = some (r, st')) (hr : ∀ x ∈ o.op.operands, ∀ u, ρ x = some u → RV σ u (a.eval x))
    (ho : ops[i]? = some o) (hw : Region.wanted o (yielded ops a.tmps) = true) : OpOk P W0 σ st w b a cs ops i rest k o r st' := by
  unfold evalOp at h
  split at h
  · rename_i v hv
    cases h
    obtain ⟨z, e, rz⟩ := evalP_sound hv hr
    exact .value ho hw (.inl (evalP_nodefer hv)) (e w) hR (.refl _ _) rz
  · split at h
    · rename_i v hv
      cases h
      obtain ⟨z, e, rz⟩ := evalL_sound hR hv hr
      exact .value ho hw (.inl (evalL_nodefer hv)) e hR (.refl _ _) rz
    · split at h
      · rename_i ob mk hv
        cases h
        have hfr := hR.fresh
        obtain ⟨z, w', p, e, r1, rz⟩ := evalA_sound (x := st.next) (hR.add ob) hv hr (by simp [St.add]) hfr (by simp only [St.add]; rw [Tri.get_set, if_pos rfl])
        exact .value ho hw (.inl (evalA_nodefer hv)) e r1 (Post.put hfr) rz
      · exact evalE_sound hcf hyf hR h hr ho hw
end Go.Proofs.Ytepkbpdldghjnaa.Ev

namespace Go.Proofs.Ytepkbpdldghjnaa.Ev
open Go Go.RowKit

/-! ### guards -/
def wantedV (ops : Array Oper) (fm : Fm) (o : Oper) : Option Bool :=
  match o.guard with
  | none => some true
  | some (j, want) => match (ops[j]?).bind (·.dst) with
    | none => some false
    | some t => match fm.tm.get t with
      | some (.bool b) => some (b == want)
      | some (.tuple []) => some false
      | _ => none

/-- what an operation looks at -/
def reads (ops : Array Oper) (o : Oper) : List Tmp := o.looksAt ops

theorem wantedV_sound {σ : Sg} {ops : Array Oper} {fm : Fm} {o : Oper} {r : Bool} {tmps : Array Value} (h : wantedV ops fm o = some r)
    (ht : ∀ t ∈ reads ops o, ∀ v, fm.tm.get t = some v → t < tmps.size ∧ RV σ v (tmps.getD t undef)) : Region.wanted o (yielded ops tmps) = r := by
  unfold wantedV at h
  unfold Region.wanted
  split at h
  · rename_i hg; rw [hg]; cases h; rfl
  · rename_i j want hg
    rw [hg]
    split at h
    · rename_i hd; cases h; simp [yielded, hd]
    · rename_i t hd
      have hmem : t ∈ reads ops o := by
        unfold reads Oper.looksAt; rw [hg]; simp only [hd]; exact List.mem_append_right _ (by simp)
      have hget : ∀ v, fm.tm.get t = some v → tmps[t]? = some (tmps.getD t undef) ∧ RV σ v (tmps.getD t undef) := by
        intro v hv
        obtain ⟨h1, h2⟩ := ht t hmem v hv
        refine ⟨?_, h2⟩
        rw [Array.getD_eq_getD_getElem?, Array.getElem?_eq_getElem h1]; rfl
      split at h
      · rename_i b hv
        cases h
        obtain ⟨e1, e2⟩ := hget _ hv
        simp only [RV] at e2
        simp only [yielded, hd, Option.bind_some, e1, e2]
        cases b <;> cases want <;> rfl
      · rename_i hv
        cases h
        obtain ⟨e1, e2⟩ := hget _ hv
        simp only [RV, RVs] at e2
        obtain ⟨a, e3, _⟩ := e2
        simp only [yielded, hd, Option.bind_some, e1, e3]; rfl
      · cases h

theorem operand_reads {ops : Array Oper} {o : Oper} {t : Tmp} (h : Operand.tmp t ∈ o.op.operands) : t ∈ reads ops o := by
  unfold reads Oper.looksAt
  exact List.mem_append_left _ (List.mem_filterMap.2 ⟨.tmp t, by simpa using h, rfl⟩)

theorem rho_reads {σ : Sg} {ops : Array Oper} {fm : Fm} {o : Oper} {a : Act} (ht : ∀ t ∈ reads ops o, ∀ v, fm.tm.get t = some v → t < a.tmps.size ∧ RV σ v (a.tmps.getD t undef)) :
    ∀ x ∈ o.op.operands, ∀ u, fm.rho x = some u → RV σ u (a.eval x) := by
  intro x hx u hu
  cases x with
  | tmp t => exact (ht t (operand_reads hx) u hu).2
  | const c => exact ofValue_sound hu
  | func f => simp only [Fm.rho, Option.some.injEq] at hu; subst hu; simp only [RV, RVs, Act.eval]; exact ⟨#[], #[], rfl, rfl, rfl⟩
  | global g => simp only [Fm.rho, Option.some.injEq] at hu; subst hu; simp only [RV, Act.eval]

theorem RT.reads {σ : Sg} {fm : Fm} {a : Act} (h : RT σ fm.n fm.tm a.tmps) {ops : Array Oper} {o : Oper} : ∀ t ∈ reads ops o, ∀ v, fm.tm.get t = some v → t < a.tmps.size ∧ RV σ v (a.tmps.getD t undef) :=
  fun t _ v hv => ⟨by rw [h.1]; exact (h.2 t v hv).1, (h.2 t v hv).2⟩

/-! ### regions in the order of the text -/
def deferV (fm : Fm) (c : Call) : Option D :=
  match fm.rd, c.callee with
  | none, .value f => match fm.rho f, rhoAll fm.rho c.args.toList with
    | some (.func (.func g) first cap), some args => some (.call g (first ++ args) cap)
    | _, _ => none
  | _, _ => none

def isDefer : Op → Option Call
  | .defer c => some c
  | _ => none

def seqOps (P : Program) (cf : CF) (yf : YF) (ops : Array Oper) : List Oper → Fm → St → Option (Ex × Fm × St)
  | [], fm, st => some (.normal, fm, st)
  | o :: os, fm, st => match wantedV ops fm o with
    | none => none
    | some false => match fm.put o.dst (.tuple []) with
      | some fm' => seqOps P cf yf ops os fm' st
      | none => none
    | some true => match isDefer o.op with
      | some c => match deferV fm c with
        | some d => match ({ fm with df := d :: fm.df } : Fm).put o.dst (.tuple []) with
          | some fm' => seqOps P cf yf ops os fm' st
          | none => none
        | none => none
      | none => match evalOp P cf yf fm.rho o st with
        | some (.ok v, st') => match fm.put o.dst v with
          | some fm' => seqOps P cf yf ops os fm' st'
          | none => none
        | some (.panic v, st') => some (.panic v, fm, st')
        | none => none

def XOk (P : Program) (W0 : World) (σ : Sg) (st : St) (m : Machine) (b : Frame) (k : List Item) (cs : List Frame) (ex : Ex) (fm' : Fm) (st' : St) : Prop :=
  ∃ σ' w' a' e', RX σ' ex e' ∧ Rel W0 σ' st' w' ∧ Post σ st σ' st' ∧ RF σ' fm' a' b ∧ Arr P m b k cs e' a' w'

theorem XOk.of_steps {P : Program} {W0 : World} {σ σ1 : Sg} {st st1 : St} {m m1 : Machine} {b : Frame} {k : List Item} {cs : List Frame} {ex : Ex} {fm' : Fm} {st' : St}
    (hs : Steps P m m1) (hp : Post σ st σ1 st1) (h : XOk P W0 σ1 st1 m1 b k cs ex fm' st') : XOk P W0 σ st m b k cs ex fm' st' := by
  obtain ⟨σ', w', a', e', h1, h2, h3, h4, h5⟩ := h
  exact ⟨σ', w', a', e', h1, h2, hp.trans h3, h4, .of_steps hs h5⟩

theorem Fm.put_rd {fm fm' : Fm} {d : Option Tmp} {v : V} (h : fm.put d v = some fm') : fm'.rd = fm.rd ∧ fm'.n = fm.n := by
  rw [Fm.put_eq] at h
  split at h
  · cases h; exact ⟨rfl, rfl⟩
  · split at h <;> cases h; exact ⟨rfl, rfl⟩

theorem seqOps_sound {P : Program} {W0 : World} {cf : CF} {yf : YF} (hcf : CFok P W0 cf) (hyf : YFok P W0 yf) {ops : Array Oper} {b : Frame} {k : List Item} {cs : List Frame} :
    ∀ (os : List Oper) (i : Nat) (fm : Fm) (st : St) (ex : Ex) (fm' : Fm) (st' : St), ops.toList.drop i = os → seqOps P cf yf ops os fm st = some (ex, fm', st') →
      ∀ σ w a, Rel W0 σ st w → RF σ fm a b → XOk P W0 σ st (lone (Fat b a (.inRegion ops (List.range' i os.length) :: k)) cs w) b k cs ex fm' st' := by
  intro os
  induction os with
  | nil =>
    intro i fm st ex fm' st' _ h σ w a hR hF
    simp only [seqOps, Option.some.injEq, Prod.mk.injEq] at h
    obtain ⟨rfl, rfl, rfl⟩ := h
    exact ⟨σ, w, a, .normal, rfl, hR, .refl _ _, hF, .one s_regionEnd⟩
  | cons o os ih =>
    intro i fm st ex fm' st' hd h σ w a hR hF
    have hi : i < ops.toList.length := by
      rcases Nat.lt_or_ge i ops.toList.length with h1 | h1
      · exact h1
      · rw [List.drop_of_length_le h1] at hd; cases hd
    rw [List.drop_eq_getElem_cons hi] at hd
    injection hd with hd1 hd2
    have ho : ops[i]? = some o := by rw [← Array.getElem?_toList, List.getElem?_eq_getElem hi, hd1]
    have hrng : List.range' i (o :: os).length = i :: List.range' (i + 1) os.length := by simp [List.range'_succ]
    rw [hrng]
    simp only [seqOps] at h
    have hrd := hF.tm.reads (ops := ops) (o := o)
    split at h
    · cases h
    · rename_i hwv
      have hw := wantedV_sound hwv hrd
      split at h
      · rename_i fm1 hput
        exact XOk.of_steps (.one (s_skipOp ho hw)) (.refl _ _) (ih (i + 1) _ _ _ _ _ hd2 h σ w _ hR (Fm.put_sound hput hF (RV.undef σ)))
      · cases h
    · rename_i hwv
      have hw := wantedV_sound hwv hrd
      split at h
      · rename_i c hdef
        have hop : o.op = .defer c := by unfold isDefer at hdef; split at hdef <;> cases hdef; assumption
        split at h
        · rename_i d hd'
          split at h
          · rename_i fm1 hput
            unfold deferV at hd'
            split at hd'
            · rename_i f hrd0 hcal
              have hro : b.roundOf = none := by have := hF.rd; unfold RRd at this; rw [hrd0] at this; exact this
              split at hd'
              · rename_i g first cap args hf hargs
                cases hd'
                have hrho := rho_reads hrd
                rw [hop] at hrho
                simp only [Op.operands] at hrho
                have hfv := hrho f (by simp [Call.operands, hcal]) _ hf
                simp only [RV] at hfv
                obtain ⟨f', c', e, h1, h2⟩ := hfv
                have h3 := rhoAll_sound (σ := σ) (ρ' := a.eval) hargs (fun x hx => hrho x (by simp [Call.operands, hcal]; exact .inr (by simpa using hx)))
                have hrun : (execOp a.eval o).run P w = .ok (.defer { target := .fn (.func g) c', args := f' ++ c.args.map a.eval }) w := by
                  simp only [execOp, hop, resolve, hcal, e, Deferred.ofValue, Sem.run_bind, Sem.run_pure, Result.andThen_ok]
                have hstep := s_defer (b := b) (k := k) (cs := cs) (rest := List.range' (i + 1) os.length) ho hw (.inr hro) hrun
                have hF2 : RF σ { fm with df := .call g (first ++ args) cap :: fm.df } { a with defers := { target := .fn (.func g) c', args := f' ++ c.args.map a.eval } :: a.defers } b := by
                  refine ⟨hF.tm, ?_, hF.rd⟩
                  simp only [RDs]
                  refine ⟨_, _, rfl, ?_, hF.df⟩
                  simp only [RD]
                  refine ⟨_, _, rfl, ?_, h2⟩
                  rw [Array.toList_append, Array.toList_map]; exact h1.append h3
                exact XOk.of_steps (.one hstep) (.refl _ _) (ih (i + 1) _ _ _ _ _ hd2 h σ w _ hR (Fm.put_sound hput hF2 (RV.undef σ)))
              · cases hd'
            · cases hd'
          · cases h
        · cases h
      · split at h
        · rename_i v st1 hev
          split at h
          · rename_i fm1 hput
            obtain ⟨σ1, w1, hR1, hP1, z, hz, hst⟩ := evalOp_sound (b := b) (k := k) (cs := cs) (rest := List.range' (i + 1) os.length) hcf hyf hR hev (rho_reads hrd) ho hw
            exact XOk.of_steps hst hP1 (ih (i + 1) _ _ _ _ _ hd2 h σ1 w1 _ hR1 (Fm.put_sound hput (hF.mono hP1.le) hz))
          · cases h
        · rename_i v st1 hev
          cases h
          obtain ⟨σ1, w1, hR1, hP1, z, hz, todo, hst⟩ := evalOp_sound (b := b) (k := k) (cs := cs) (rest := List.range' (i + 1) os.length) hcf hyf hR hev (rho_reads hrd) ho hw
          refine ⟨σ1, w1, a, .panic [{ v := z, recovered := false }], ?_, hR1, hP1, hF.mono hP1.le, ⟨todo, hst⟩⟩
          simp only [RX]; exact ⟨z, hz, rfl⟩
        · cases h
end Go.Proofs.Ytepkbpdldghjnaa.Ev

namespace Go.Proofs.Ytepkbpdldghjnaa.Ev
open Go Go.RowKit

/-- may its effect be seen? -/
def isE : Op → Bool
  | .move _ | .assign _ | .pick .. | .build .. | .nilCheck _ | .binOp .. | .unOp .. | .convert .. | .makeInterface .. | .makeFunc .. | .slice .. | .fieldAddr .. | .field .. | .indexAddr ..
  | .index .. | .typeAssert .. | .extract .. | .load .. | .lookup .. | .alloc _ | .box .. | .buildSlice .. | .makeSlice .. | .makeMap .. => false
  | .call c => match c.callee with
    | .builtin .len | .builtin .cap | .builtin .min | .builtin .max => false
    | _ => true
  | _ => true

structure PL where
  i : Nat
  o : Oper
  fm : Fm
  v : V

def recheck (P : Program) (st : St) : List PL → Bool
  | [] => true
  | p :: ps => match evalL P st p.fm.rho p.o with
    | some v => match V.same v p.v with
      | true => recheck P st ps
      | false => false
    | none => false

theorem recheck_sound {P : Program} {st : St} : ∀ {pl : List PL}, recheck P st pl = true → ∀ p ∈ pl, evalL P st p.fm.rho p.o = some p.v
  | [], _, p, hp => by cases hp
  | q :: ps, h, p, hp => by
    simp only [recheck] at h
    split at h
    · rename_i v hv
      split at h
      · rename_i hs
        rcases List.mem_cons.1 hp with rfl | hp
        · rw [hv, same_sound hs]
        · exact recheck_sound h p hp
      · cases h
    · cases h

/-- slots that a region writes hold nothing known -/
def clears : List Oper → Tri V → Tri V
  | [], t => t
  | o :: os, t => clears os (match o.dst with | some d => t.set d none | none => t)

theorem clears_get : ∀ (os : List Oper) (t : Tri V) (k : Nat) (v : V), (clears os t).get k = some v → t.get k = some v ∧ ∀ o ∈ os, o.dst ≠ some k
  | [], t, k, v, h => ⟨h, by simp⟩
  | o :: os, t, k, v, h => by
    simp only [clears] at h
    obtain ⟨h1, h2⟩ := clears_get os _ k v h
    cases hd : o.dst with
    | none => rw [hd] at h1; exact ⟨h1, fun o' ho' => by rcases List.mem_cons.1 ho' with rfl | ho'; · rw [hd]; simp
                                                         · exact h2 o' ho'⟩
    | some d =>
      rw [hd] at h1; simp only at h1
      rw [Tri.get_set] at h1
      split at h1
      · cases h1
      · rename_i hne
        refine ⟨h1, fun o' ho' => ?_⟩
        rcases List.mem_cons.1 ho' with rfl | ho'
        · rw [hd]; intro e; exact hne (Option.some.inj e).symm
        · exact h2 o' ho'

def canon (P : Program) (cf : CF) (yf : YF) (ops : Array Oper) (c : Nat → Nat → Bool) (fm0 : Fm) : List Nat → Fm → St → List PL → Option (Ex × Fm × St)
  | [], fm, st, pl => match recheck P st pl with
    | true => some (.normal, fm, st)
    | false => none
  | i :: is, fm, st, pl => match ops[i]? with
    | none => none
    | some o => match wantedV ops fm o with
      | none => none
      | some false => match fm.put o.dst (.tuple []) with
        | some fm' => canon P cf yf ops c fm0 is fm' st pl
        | none => none
      | some true => match isE o.op with
        | false => match evalP P fm.rho o with
          | some v => match fm.put o.dst v with
            | some fm' => canon P cf yf ops c fm0 is fm' st pl
            | none => none
          | none => match evalL P st fm.rho o with
            | some v => match fm.put o.dst v with
              | some fm' => canon P cf yf ops c fm0 is fm' st (⟨i, o, fm, v⟩ :: pl)
              | none => none
            | none => match evalA P fm.rho o with
              | some (ob, mk) => match fm.put o.dst (mk st.next) with
                | some fm' => canon P cf yf ops c fm0 is fm' (st.add ob) pl
                | none => none
              | none => none
        | true => match recheck P st pl with
          | false => none
          | true => match evalE P cf yf fm.rho o st with
            | some (.ok v, st') => match fm.put o.dst v with
              | some fm' => canon P cf yf ops c fm0 is fm' st' (pl.filter fun p => !c i p.i)
              | none => none
            | some (.panic v, st') => some (.panic v, { fm0 with tm := clears ops.toList fm0.tm }, st')
            | none => none

/-- what is asked of an order, and of what hangs on what -/
structure Plan (ops : Array Oper) (ord : List Nat) (c : Nat → Nat → Bool) : Prop where
  nodup : ord.Nodup
  all : ∀ i, i < ops.size → i ∈ ord
  lt : ∀ i, i ∈ ord → i < ops.size
  down : ∀ i o j, ops[i]? = some o → c i j = true → ∃ e ∈ o.after.toList, Region.binds .any e = true ∧ (e.on = j ∨ c e.on j = true)
  edge : ∀ i o e, ops[i]? = some o → e ∈ o.after.toList → Region.binds .any e = true → c i e.on = true
  one : ∀ (i j : Nat) (oi oj : Oper) (t : Tmp), i ≠ j → ops[i]? = some oi → ops[j]? = some oj → oi.dst = some t → oj.dst ≠ some t
  look : ∀ (i j : Nat) (oi oj : Oper) (t : Tmp), i ≠ j → ops[i]? = some oi → ops[j]? = some oj → oj.dst = some t → t ∈ reads ops oi → c i j = true ∨ c j i = true
  before : ∀ p i s, ord = p ++ i :: s → ∀ j, c i j = true → j ∈ p
  behind : ∀ p i s, ord = p ++ i :: s → ∀ o, ops[i]? = some o → isE o.op = true → ∀ j, j ∈ s → c j i = true

inductive Kd where
  | P
  | L
  | A (x : Nat) (ob : O) (mk : Nat → V)
  | S
  | E

structure Rec where
  i : Nat
  o : Oper
  fm : Fm
  v : V
  k : Kd

def Rec.fact (P : Program) (ops : Array Oper) (r : Rec) : Prop :=
  match r.k with
  | .P => wantedV ops r.fm r.o = some true ∧ evalP P r.fm.rho r.o = some r.v
  | .L => wantedV ops r.fm r.o = some true
  | .A x ob mkv => wantedV ops r.fm r.o = some true ∧ evalA P r.fm.rho r.o = some (ob, mkv) ∧ r.v = mkv x
  | .S => wantedV ops r.fm r.o = some false ∧ r.v = .tuple []
  | .E => True

def Rec.sees (ops : Array Oper) (c : Nat → Nat → Bool) (fm0 : Fm) (pre : List Rec) (r : Rec) : Prop :=
  ∀ t ∈ reads ops r.o, ∀ v, r.fm.tm.get t = some v →
    (∃ r' ∈ pre, r'.o.dst = some t ∧ c r.i r'.i = true ∧ v = r'.v) ∨ (fm0.tm.get t = some v ∧ ∀ j oj, ops[j]? = some oj → oj.dst = some t → c r.i j = false)

structure Inv (P : Program) (W0 : World) (cf : CF) (yf : YF) (ops : Array Oper) (ord : List Nat) (c : Nat → Nat → Bool) (fm0 : Fm) (b : Frame) (σ0 : Sg) (st0 : St) (fin : Ex × Fm × St)
    (pre : List Rec) (rest : List Nat) (fm : Fm) (st : St) (pl : List PL) (σ : Sg) (w : World) (a : Act) (ls : Array Bool) : Prop where
  can : canon P cf yf ops c fm0 rest fm st pl = some fin
  oeq : pre.map (·.i) ++ rest = ord
  size : ls.size = ops.size
  dwn : ∀ i j, ls[i]? = some true → c i j = true → ls[j]? = some true
  sub : ∀ i, ls[i]? = some true → ∃ r ∈ pre, r.i = i
  es : ∀ r ∈ pre, r.k = .E → ls[r.i]? = some true
  isop : ∀ r ∈ pre, ops[r.i]? = some r.o
  fact : ∀ r ∈ pre, r.fact P ops
  sees : ∀ r ∈ pre, r.sees ops c fm0 pre
  rel : Rel W0 σ st w
  post : Post σ0 st0 σ st
  lds : ∀ r ∈ pre, r.k = .L → ls[r.i]? = some false → (⟨r.i, r.o, r.fm, r.v⟩ : PL) ∈ pl
  als : ∀ r ∈ pre, ∀ x ob mk, r.k = .A x ob mk → st0.next ≤ x ∧ x < st.next ∧ (ls[r.i]? = some false → σ x = none ∧ st.mem.get x = some ob)
  ald : ∀ r ∈ pre, ∀ r' ∈ pre, ∀ x ob mk x' ob' mk', r.k = .A x ob mk → r'.k = .A x' ob' mk' → r.i ≠ r'.i → x ≠ x'
  env : ∀ t, (∃ r ∈ pre, r.o.dst = some t ∧ fm.tm.get t = some r.v) ∨ ((∀ r ∈ pre, r.o.dst ≠ some t) ∧ fm.tm.get t = fm0.tm.get t)
  same : fm.n = fm0.n ∧ fm.df = fm0.df ∧ fm.rd = fm0.rd
  dst : ∀ r ∈ pre, ∀ t, r.o.dst = some t → t < fm0.n
  tml : ∀ r ∈ pre, ls[r.i]? = some true → ∀ t, r.o.dst = some t → RV σ r.v (a.tmps.getD t undef)
  tm0 : ∀ t v, fm0.tm.get t = some v → t < fm0.n ∧ ((∀ r ∈ pre, ls[r.i]? = some true → r.o.dst ≠ some t) → RV σ v (a.tmps.getD t undef))
  asz : a.tmps.size = fm0.n
  dfs : RDs σ fm0.df a.defers
  rds : RRd σ fm0.rd b.roundOf
end Go.Proofs.Ytepkbpdldghjnaa.Ev

namespace Go.Proofs.Ytepkbpdldghjnaa.Ev
open Go Go.RowKit

section
variable {P : Program} {W0 : World} {cf : CF} {yf : YF} {ops : Array Oper} {ord : List Nat} {c : Nat → Nat → Bool} {fm0 : Fm} {b : Frame} {σ0 : Sg} {st0 : St} {fin : Ex × Fm × St}
  {pre : List Rec} {rest : List Nat} {fm : Fm} {st : St} {pl : List PL} {σ : Sg} {w : World} {a : Act} {ls : Array Bool}

theorem Rec.sees_mono {r : Rec} {x : List Rec} (h : r.sees ops c fm0 pre) : r.sees ops c fm0 (pre ++ x) := by
  intro t ht v hv
  rcases h t ht v hv with ⟨r', h1, h2⟩ | h1
  · exact .inl ⟨r', List.mem_append_left _ h1, h2⟩
  · exact .inr h1

theorem nodup_mid {p s : List Nat} {i : Nat} (h : (p ++ i :: s).Nodup) : i ∉ p ∧ i ∉ s := by
  rw [List.nodup_append] at h
  obtain ⟨_, h2, h3⟩ := h
  rw [List.nodup_cons] at h2
  exact ⟨fun hp => h3 i hp i (by simp) rfl, h2.1⟩

/-- what is about to be done next sees what is there -/
theorem Inv.mkSees (hp : Plan ops ord c) {i : Nat} {is : List Nat} (h : Inv P W0 cf yf ops ord c fm0 b σ0 st0 fin pre (i :: is) fm st pl σ w a ls) {o : Oper} (ho : ops[i]? = some o) (v : V) (kd : Kd) :
    (⟨i, o, fm, v, kd⟩ : Rec).sees ops c fm0 pre := by
  intro t ht u hu
  have hnd := hp.nodup
  rw [← h.oeq] at hnd
  have hni := (nodup_mid hnd).1
  rcases h.env t with ⟨r', h1, h2, h3⟩ | ⟨h1, h2⟩
  · left
    refine ⟨r', h1, h2, ?_, ?_⟩
    · have hne : i ≠ r'.i := fun e => hni (by rw [e]; exact List.mem_map_of_mem h1)
      rcases hp.look i r'.i o r'.o t hne ho (h.isop r' h1) h2 ht with hc | hc
      · exact hc
      · exfalso
        have hm : r'.i ∈ pre.map (·.i) := List.mem_map_of_mem h1
        obtain ⟨p1, p2, e⟩ := List.append_of_mem hm
        have := hp.before p1 r'.i (p2 ++ i :: is) (by rw [← h.oeq, e]; simp) i hc
        exact hni (by rw [e]; exact List.mem_append_left _ this)
    · simp only at hu; rw [h3] at hu; exact (Option.some.inj hu).symm
  · right
    simp only at hu
    refine ⟨by rw [← h2]; exact hu, fun j oj hj hd => ?_⟩
    cases hc : c i j with
    | false => rfl
    | true =>
      exfalso
      have := hp.before (pre.map (·.i)) i is h.oeq.symm j hc
      obtain ⟨r, hr, e⟩ := List.mem_map.1 this
      have hop := h.isop r hr
      rw [e, hj] at hop
      obtain rfl := Option.some.inj hop
      exact h1 r hr hd

/-- what it looks at is what it saw -/
theorem Inv.looks (hp : Plan ops ord c) (h : Inv P W0 cf yf ops ord c fm0 b σ0 st0 fin pre rest fm st pl σ w a ls) {r : Rec} (hs : r.sees ops c fm0 pre) (ho : ops[r.i]? = some r.o)
    (hn : ls[r.i]? ≠ some true) (hr : ∀ j, c r.i j = true → ls[j]? = some true) :
    ∀ t ∈ reads ops r.o, ∀ v, r.fm.tm.get t = some v → t < a.tmps.size ∧ RV σ v (a.tmps.getD t undef) := by
  intro t ht v hv
  rcases hs t ht v hv with ⟨r', h1, h2, h3, rfl⟩ | ⟨h1, h2⟩
  · exact ⟨by rw [h.asz]; exact h.dst r' h1 t h2, h.tml r' h1 (hr _ h3) t h2⟩
  · obtain ⟨h3, h4⟩ := h.tm0 t v h1
    refine ⟨by rw [h.asz]; exact h3, h4 fun r' hr' hl hd => ?_⟩
    have hne : r.i ≠ r'.i := fun e => hn (by rw [e]; exact hl)
    rcases hp.look r.i r'.i r.o r'.o t hne ho (h.isop r' hr') hd ht with hc | hc
    · rw [h2 r'.i r'.o (h.isop r' hr') hd] at hc; cases hc
    · exact hn (h.dwn _ _ hl hc)

theorem Inv.unlisted (hp : Plan ops ord c) {i : Nat} {is : List Nat} (h : Inv P W0 cf yf ops ord c fm0 b σ0 st0 fin pre (i :: is) fm st pl σ w a ls) : ls[i]? = some false := by
  have hnd := hp.nodup
  rw [← h.oeq] at hnd
  have hni := (nodup_mid hnd).1
  have hlt : i < ls.size := by rw [h.size]; exact hp.lt i (by rw [← h.oeq]; simp)
  rw [Array.getElem?_eq_getElem hlt]
  cases e : ls[i] with
  | false => rfl
  | true =>
    obtain ⟨r, hr, e'⟩ := h.sub i (by rw [Array.getElem?_eq_getElem hlt, e])
    exact absurd (List.mem_map.2 ⟨r, hr, e'⟩) hni

theorem Fm.put_get {fm fm' : Fm} {d : Option Tmp} {v : V} (h : fm.put d v = some fm') (t : Tmp) : fm'.tm.get t = if d = some t then some v else fm.tm.get t := by
  rw [Fm.put_eq] at h
  split at h
  · cases h; simp
  · rename_i s
    split at h <;> cases h
    simp only
    rw [Tri.get_set]
    by_cases e : t = s
    · subst e; simp
    · rw [if_neg e, if_neg (fun e' => e (Option.some.inj e').symm)]

theorem Fm.put_lt {fm fm' : Fm} {d : Option Tmp} {v : V} (h : fm.put d v = some fm') (t : Tmp) (hd : d = some t) : t < fm.n := by
  subst hd
  rw [Fm.put_eq] at h
  split at h
  · rename_i e; cases e
  · rename_i s e; cases e
    split at h
    · rename_i hle; exact Nat.le_of_ble_eq_true hle
    · cases h

/-- one more is done ahead, that is no effect -/
theorem Inv.grow (hp : Plan ops ord c) {i : Nat} {is : List Nat} (h : Inv P W0 cf yf ops ord c fm0 b σ0 st0 fin pre (i :: is) fm st pl σ w a ls) {o : Oper} (ho : ops[i]? = some o) {v : V} {kd : Kd}
    {fm' : Fm} {st' : St} {pl' : List PL} (hput : fm.put o.dst v = some fm') (hcan : canon P cf yf ops c fm0 is fm' st' pl' = some fin) (hf : (⟨i, o, fm, v, kd⟩ : Rec).fact P ops) (hE : kd ≠ .E)
    (hrel : Rel W0 σ st' w) (hpost : Post σ0 st0 σ st') (hpl : ∀ p ∈ pl, p ∈ pl') (hL : kd = .L → (⟨i, o, fm, v⟩ : PL) ∈ pl') (hn : st.next ≤ st'.next) (hg : ∀ x, x < st.next → st'.mem.get x = st.mem.get x)
    (hA : ∀ x ob mk, kd = .A x ob mk → x = st.next ∧ x < st'.next ∧ st'.mem.get x = some ob) :
    Inv P W0 cf yf ops ord c fm0 b σ0 st0 fin (pre ++ [⟨i, o, fm, v, kd⟩]) is fm' st' pl' σ w a ls := by
  have hun := h.unlisted hp
  have hsees := h.mkSees hp ho v kd
  have hmem : ∀ {q : Rec → Prop}, (∀ r ∈ pre, q r) → q ⟨i, o, fm, v, kd⟩ → ∀ r ∈ pre ++ [⟨i, o, fm, v, kd⟩], q r := by
    intro q h1 h2 r hr
    rcases List.mem_append.1 hr with hr | hr
    · exact h1 r hr
    · rw [List.mem_singleton] at hr; subst hr; exact h2
  have hs := Fm.put_rd hput
  have hdf : fm'.df = fm.df := by
    rw [Fm.put_eq] at hput
    split at hput
    · cases hput; rfl
    · split at hput <;> cases hput; rfl
  have hnot : ∀ {q : Prop}, ls[i]? = some true → q := fun e => by rw [hun] at e; cases e
  refine ⟨hcan, ?_, h.size, h.dwn, ?_, ?_, ?_, ?_, ?_, hrel, hpost, ?_, ?_, ?_, ?_, ?_, ?_, ?_, ?_, h.asz, h.dfs, h.rds⟩
  · rw [List.map_append, List.append_assoc]; exact h.oeq
  · intro j hj; obtain ⟨r, hr, e⟩ := h.sub j hj; exact ⟨r, List.mem_append_left _ hr, e⟩
  · exact hmem h.es fun e => absurd e hE
  · exact hmem h.isop ho
  · exact hmem h.fact hf
  · exact hmem (fun r hr => Rec.sees_mono (h.sees r hr)) (Rec.sees_mono hsees)
  · exact hmem (fun r hr hk hl => hpl _ (h.lds r hr hk hl)) fun hk _ => hL hk
  · refine hmem (fun r hr x ob mk hk => ?_) fun x ob mk hk => ?_
    · obtain ⟨h1, h2, h3⟩ := h.als r hr x ob mk hk
      exact ⟨h1, by omega, fun hl => ⟨(h3 hl).1, by rw [hg x h2]; exact (h3 hl).2⟩⟩
    · obtain ⟨rfl, h2, h3⟩ := hA x ob mk hk
      exact ⟨h.post.nxt, h2, fun _ => ⟨h.rel.fresh, h3⟩⟩
  · intro r hr r' hr' x ob mk x' ob' mk' hk hk' hne
    rcases List.mem_append.1 hr with hr | hr
    · rcases List.mem_append.1 hr' with hr' | hr'
      · exact h.ald r hr r' hr' x ob mk x' ob' mk' hk hk' hne
      · rw [List.mem_singleton] at hr'; subst hr'
        have h1 := (h.als r hr x ob mk hk).2.1
        have h2 := (hA x' ob' mk' hk').1
        omega
    · rw [List.mem_singleton] at hr; subst hr
      rcases List.mem_append.1 hr' with hr' | hr'
      · have h1 := (h.als r' hr' x' ob' mk' hk').2.1
        have h2 := (hA x ob mk hk).1
        omega
      · rw [List.mem_singleton] at hr'; subst hr'; exact absurd rfl hne
  · intro t
    rw [Fm.put_get hput t]
    by_cases hd : o.dst = some t
    · left; exact ⟨⟨i, o, fm, v, kd⟩, by simp, hd, by rw [if_pos hd]⟩
    · rw [if_neg hd]
      rcases h.env t with ⟨r, h1, h2, h3⟩ | ⟨h1, h2⟩
      · exact .inl ⟨r, List.mem_append_left _ h1, h2, h3⟩
      · exact .inr ⟨hmem h1 hd, h2⟩
  · exact ⟨hs.2.trans h.same.1, hdf.trans h.same.2.1, hs.1.trans h.same.2.2⟩
  · refine hmem h.dst fun t ht => ?_
    rw [← h.same.1]; exact Fm.put_lt hput t ht
  · exact hmem h.tml fun hl => hnot hl
  · intro t u hu
    obtain ⟨h1, h2⟩ := h.tm0 t u hu
    exact ⟨h1, fun h3 => h2 fun r hr hl => h3 r (List.mem_append_left _ hr) hl⟩

def Edge (ops : Array Oper) (fm : Fm) (rest : List Nat) : Prop :=
  rest = [] ∨ ∃ i is o, rest = i :: is ∧ ops[i]? = some o ∧ wantedV ops fm o = some true ∧ isE o.op = true

theorem Inv.advance (hp : Plan ops ord c) : ∀ (rest : List Nat) (pre : List Rec) (fm : Fm) (st : St) (pl : List PL), Inv P W0 cf yf ops ord c fm0 b σ0 st0 fin pre rest fm st pl σ w a ls →
    ∃ pre' rest' fm' st' pl', Inv P W0 cf yf ops ord c fm0 b σ0 st0 fin pre' rest' fm' st' pl' σ w a ls ∧ Edge ops fm' rest' := by
  intro rest
  induction rest with
  | nil => intro pre fm st pl h; exact ⟨pre, [], fm, st, pl, h, .inl rfl⟩
  | cons i is ih =>
    intro pre fm st pl h
    have hc := h.can
    simp only [canon] at hc
    split at hc
    · cases hc
    · rename_i o ho
      split at hc
      · cases hc
      · rename_i hw
        split at hc
        · rename_i fm' hput
          exact ih _ _ _ _ (h.grow hp ho (kd := .S) hput hc ⟨hw, rfl⟩ (by simp) h.rel h.post (fun p hp => hp) (by simp) (Nat.le_refl _) (fun _ _ => rfl) (by simp))
        · cases hc
      · rename_i hw
        split at hc
        · split at hc
          · rename_i v hv
            split at hc
            · rename_i fm' hput
              exact ih _ _ _ _ (h.grow hp ho (kd := .P) hput hc ⟨hw, hv⟩ (by simp) h.rel h.post (fun p hp => hp) (by simp) (Nat.le_refl _) (fun _ _ => rfl) (by simp))
            · cases hc
          · split at hc
            · rename_i v hv
              split at hc
              · rename_i fm' hput
                exact ih _ _ _ _ (h.grow hp ho (kd := .L) hput hc hw (by simp) h.rel h.post (fun p hp => List.mem_cons_of_mem _ hp) (by simp) (Nat.le_refl _) (fun _ _ => rfl) (by simp))
              · cases hc
            · split at hc
              · rename_i ob mk hv
                split at hc
                · rename_i fm' hput
                  refine ih _ _ _ _ (h.grow hp ho (kd := .A st.next ob mk) hput hc ⟨hw, hv, rfl⟩ (by simp) (h.rel.add ob) (h.post.trans (Post.add h.rel ob)) (fun p hp => hp) (by simp) (Nat.le_succ _) (fun x hx => ?_) ?_)
                  · simp only [St.add]; rw [Tri.get_set, if_neg (by omega)]
                  · intro x ob' mk' e
                    injection e with e1 e2 e3
                    subst e1 e2
                    exact ⟨rfl, Nat.lt_succ_self _, by simp only [St.add]; rw [Tri.get_set, if_pos rfl]⟩
                · cases hc
              · cases hc
        · rename_i hE
          exact ⟨pre, i :: is, fm, st, pl, h, .inr ⟨i, is, o, rfl, ho, hw, hE⟩⟩

/-- what was done ahead is done -/
theorem Inv.done (hp : Plan ops ord c) (h : Inv P W0 cf yf ops ord c fm0 b σ0 st0 fin pre rest fm st pl σ w a ls) {r : Rec} (hr : r ∈ pre) (hl : ls[r.i]? = some false) (hrd : ∀ j, c r.i j = true → ls[j]? = some true)
    {σ' : Sg} {w' : World} {z : Value} (hrel : Rel W0 σ' st w') (hpost : Post σ0 st0 σ' st) (hle : Le σ σ') (hz : RV σ' r.v z)
    (hpe : ∀ r' ∈ pre, ∀ x ob mk, r'.k = .A x ob mk → r'.i ≠ r.i → σ x = none → σ' x = none) :
    Inv P W0 cf yf ops ord c fm0 b σ0 st0 fin pre rest fm st pl σ' w' (a.put r.o.dst z) (ls.setIfInBounds r.i true) := by
  have hlt : r.i < ls.size := (Array.getElem?_eq_some_iff.1 hl).1
  have hset : ∀ j, (ls.setIfInBounds r.i true)[j]? = if j = r.i then some true else ls[j]? := by
    intro j; rw [Array.getElem?_setIfInBounds]
    by_cases e : r.i = j
    · subst e; simp [hlt]
    · rw [if_neg e, if_neg (Ne.symm e)]
  have hput : ∀ t, r.o.dst ≠ some t → (a.put r.o.dst z).tmps.getD t undef = a.tmps.getD t undef := by
    intro t ht
    cases hd : r.o.dst with
    | none => rfl
    | some d =>
      have : d ≠ t := fun e => ht (by rw [hd, e])
      simp only [Act.put]
      rw [Array.getD_eq_getD_getElem?, Array.getD_eq_getD_getElem?, Array.getElem?_setIfInBounds, if_neg this]
  have hputd : (a.put r.o.dst z).defers = a.defers := by cases r.o.dst <;> rfl
  have hputs : (a.put r.o.dst z).tmps.size = a.tmps.size := by cases r.o.dst <;> simp [Act.put]
  refine ⟨h.can, h.oeq, by simpa using h.size, ?_, ?_, ?_, h.isop, h.fact, h.sees, hrel, hpost, ?_, ?_, h.ald, h.env, h.same, h.dst, ?_, ?_, hputs.trans h.asz, ?_, ?_⟩
  · intro i j hi hc
    rw [hset] at hi ⊢
    split
    · rfl
    · split at hi
      · rename_i e; subst e; exact hrd j hc
      · exact h.dwn i j hi hc
  · intro i hi
    rw [hset] at hi
    split at hi
    · rename_i e; subst e; exact ⟨r, hr, rfl⟩
    · exact h.sub i hi
  · intro r' hr' hk; rw [hset]; split
    · rfl
    · exact h.es r' hr' hk
  · intro r' hr' hk hl'
    rw [hset] at hl'
    split at hl'
    · cases hl'
    · exact h.lds r' hr' hk hl'
  · intro r' hr' x ob mk hk
    obtain ⟨h1, h2, h3⟩ := h.als r' hr' x ob mk hk
    refine ⟨h1, h2, fun hl' => ?_⟩
    rw [hset] at hl'
    split at hl'
    · cases hl'
    · rename_i hne
      obtain ⟨h4, h5⟩ := h3 hl'
      exact ⟨hpe r' hr' x ob mk hk hne h4, h5⟩
  · intro r' hr' hl' t ht
    rw [hset] at hl'
    by_cases e : r'.i = r.i
    · have ho := h.isop r' hr'
      rw [e, h.isop r hr] at ho
      have hor : r.o = r'.o := Option.some.inj ho
      have hrr : r' = r := by
        -- numbers are unlike
        have hnd := hp.nodup
        rw [← h.oeq] at hnd
        have hnd' := (List.nodup_append.1 hnd).1
        have key : ∀ (l : List Rec), (l.map (·.i)).Nodup → r ∈ l → r' ∈ l → r' = r := by
          intro l
          induction l with
          | nil => intro _ h; cases h
          | cons x l ih =>
            intro hn h1 h2
            rw [List.map_cons, List.nodup_cons] at hn
            rcases List.mem_cons.1 h1 with k1 | k1
            · rcases List.mem_cons.1 h2 with k2 | k2
              · rw [k1, k2]
              · exact absurd (List.mem_map.2 ⟨r', k2, by rw [e, k1]⟩) hn.1
            · rcases List.mem_cons.1 h2 with k2 | k2
              · exact absurd (List.mem_map.2 ⟨r, k1, by rw [← e, k2]⟩) hn.1
              · exact ih hn.2 k1 k2
        exact key pre hnd' hr hr'
      subst hrr
      have hts : t < a.tmps.size := by rw [h.asz]; exact h.dst r' hr' t ht
      have : (a.put r'.o.dst z).tmps.getD t undef = z := by
        rw [ht]; simp only [Act.put]
        rw [Array.getD_eq_getD_getElem?, Array.getElem?_setIfInBounds, if_pos rfl, if_pos hts]; rfl
      rw [this]; exact hz
    · rw [if_neg e] at hl'
      have hne : r.o.dst ≠ some t := fun hd => hp.one r'.i r.i r'.o r.o t e (h.isop r' hr') (h.isop r hr) ht hd
      rw [hput t hne]
      exact RV.mono hle _ _ (h.tml r' hr' hl' t ht)
  · intro t v hv
    obtain ⟨h1, h2⟩ := h.tm0 t v hv
    refine ⟨h1, fun h3 => ?_⟩
    have hne : r.o.dst ≠ some t := h3 r hr (by rw [hset, if_pos rfl])
    rw [hput t hne]
    refine RV.mono hle _ _ (h2 fun r' hr' hl' => h3 r' hr' ?_)
    rw [hset]; split
    · rfl
    · exact hl'
  · rw [hputd]; exact h.dfs.mono hle
  · have := h.rds
    unfold RRd at this ⊢
    split at this
    · exact this
    · obtain ⟨p, hp', e⟩ := this; exact ⟨p, hle _ _ hp', e⟩
end
end Go.Proofs.Ytepkbpdldghjnaa.Ev

namespace Go.Proofs.Ytepkbpdldghjnaa.Ev
open Go Go.RowKit

theorem ready_spec {ops : Array Oper} {ls : Array Bool} {i : Nat} (h : i ∈ Region.ready .any ops ls) (hs : ls.size = ops.size) :
    ls[i]? = some false ∧ ∃ o, ops[i]? = some o ∧ ∀ e ∈ o.after.toList, Region.binds .any e = true → ls[e.on]? = some true := by
  unfold Region.ready at h
  rw [List.mem_filter] at h
  obtain ⟨h1, h2⟩ := h
  rw [List.mem_range] at h1
  rw [Bool.and_eq_true] at h2
  obtain ⟨h2, h3⟩ := h2
  have hl : ls[i]? = some false := by
    have hlt : i < ls.size := by omega
    rw [Array.getElem?_eq_getElem hlt]
    rw [Array.getD_eq_getD_getElem?, Array.getElem?_eq_getElem hlt] at h2
    simpa using h2
  refine ⟨hl, ops[i], Array.getElem?_eq_getElem h1, fun e he hb => ?_⟩
  rw [Array.getElem?_eq_getElem h1] at h3
  simp only [Option.map_some, Option.getD_some] at h3
  rw [Array.all_eq_true_iff_forall_mem] at h3
  have := h3 e (by simpa using he)
  rw [hb] at this
  simp only [Bool.not_true, Bool.false_or] at this
  rw [Array.getD_eq_getD_getElem?] at this
  cases hx : ls[e.on]? with
  | none => rw [hx] at this; cases this
  | some v => rw [hx] at this; simp at this; rw [this]

theorem ready_mem {ops : Array Oper} {ls : Array Bool} {i : Nat} {o : Oper} (hl : ls[i]? = some false) (ho : ops[i]? = some o) (he : ∀ e ∈ o.after.toList, Region.binds .any e = true → ls[e.on]? = some true) :
    i ∈ Region.ready .any ops ls := by
  unfold Region.ready
  rw [List.mem_filter, List.mem_range, Bool.and_eq_true]
  refine ⟨(Array.getElem?_eq_some_iff.1 ho).1, ?_, ?_⟩
  · rw [Array.getD_eq_getD_getElem?, hl]; rfl
  · rw [ho]; simp only [Option.map_some, Option.getD_some]
    rw [Array.all_eq_true_iff_forall_mem]
    intro e hm
    cases hb : Region.binds .any e with
    | false => rfl
    | true => rw [Array.getD_eq_getD_getElem?, he e (by simpa using hm) hb]; rfl

theorem all_listed {ops : Array Oper} {ord : List Nat} {c : Nat → Nat → Bool} (hp : Plan ops ord c) {ls : Array Bool} (hs : ls.size = ops.size) (hr : Region.ready .any ops ls = []) :
    ∀ (s p : List Nat), ord = p ++ s → (∀ i ∈ p, ls[i]? = some true) → ∀ i ∈ ord, ls[i]? = some true := by
  intro s
  induction s with
  | nil => intro p e h i hi; rw [e, List.append_nil] at hi; exact h i hi
  | cons j s ih =>
    intro p e h
    refine ih (p ++ [j]) (by rw [e]; simp) fun i hi => ?_
    rcases List.mem_append.1 hi with hi | hi
    · exact h i hi
    · rw [List.mem_singleton] at hi; subst hi
      have hlt := hp.lt i (by rw [e]; simp)
      have ho : ops[i]? = some ops[i] := Array.getElem?_eq_getElem hlt
      cases hl : ls[i]? with
      | none => rw [Array.getElem?_eq_none_iff] at hl; omega
      | some v =>
        cases v with
        | true => rfl
        | false =>
          exfalso
          have : i ∈ Region.ready .any ops ls := ready_mem hl ho fun ed he hb => h _ (hp.before p i s e _ (hp.edge i _ ed ho he hb))
          rw [hr] at this; cases this

theorem filter_less {p p' : Nat → Bool} {i : Nat} : ∀ (l : List Nat), i ∈ l → (∀ j, p' j = true → p j = true) → p i = true → p' i = false → (l.filter p').length < (l.filter p).length := by
  have mono : ∀ (l : List Nat), (∀ j, p' j = true → p j = true) → (l.filter p').length ≤ (l.filter p).length := by
    intro l h
    induction l with
    | nil => simp
    | cons x l ih =>
      simp only [List.filter_cons]
      cases h1 : p' x with
      | true => rw [h x h1]; simp; exact ih
      | false => cases p x <;> simp <;> omega
  intro l
  induction l with
  | nil => intro h; cases h
  | cons x l ih =>
    intro hi h h1 h2
    simp only [List.filter_cons]
    rcases List.mem_cons.1 hi with rfl | hi
    · rw [h1, h2]; simp; have := mono l h; omega
    · have := ih hi h h1 h2
      cases h3 : p' x with
      | true => rw [h x h3]; simp; exact this
      | false => cases p x <;> simp <;> omega

section
variable {P : Program} {W0 : World} {cf : CF} {yf : YF} {ops : Array Oper} {ord : List Nat} {c : Nat → Nat → Bool} {fm0 : Fm} {b : Frame} {σ0 : Sg} {st0 : St} {fin : Ex × Fm × St}

theorem Inv.effect (hp : Plan ops ord c) {pre : List Rec} {i : Nat} {is : List Nat} {fm : Fm} {st : St} {pl : List PL} {σ : Sg} {w : World} {a : Act} {ls : Array Bool}
    (h : Inv P W0 cf yf ops ord c fm0 b σ0 st0 fin pre (i :: is) fm st pl σ w a ls) {o : Oper} (ho : ops[i]? = some o) (hrd : ∀ j, c i j = true → ls[j]? = some true)
    {v : V} {fm' : Fm} {st' : St} (hput : fm.put o.dst v = some fm') (hcan : canon P cf yf ops c fm0 is fm' st' (pl.filter fun p => !c i p.i) = some fin)
    {σ' : Sg} {w' : World} {z : Value} (hrel : Rel W0 σ' st' w') (hpost : Post σ st σ' st') (hz : RV σ' v z) :
    Inv P W0 cf yf ops ord c fm0 b σ0 st0 fin (pre ++ [⟨i, o, fm, v, .E⟩]) is fm' st' (pl.filter fun p => !c i p.i) σ' w' (a.put o.dst z) (ls.setIfInBounds i true) := by
  have hun := h.unlisted hp
  have hlt : i < ls.size := (Array.getElem?_eq_some_iff.1 hun).1
  have hset : ∀ j, (ls.setIfInBounds i true)[j]? = if j = i then some true else ls[j]? := by
    intro j; rw [Array.getElem?_setIfInBounds]
    by_cases e : i = j
    · subst e; simp [hlt]
    · rw [if_neg e, if_neg (Ne.symm e)]
  have hnd := hp.nodup
  rw [← h.oeq] at hnd
  have hni := (nodup_mid hnd).1
  have hne : ∀ r ∈ pre, r.i ≠ i := fun r hr e => hni (List.mem_map.2 ⟨r, hr, e⟩)
  have hsees := h.mkSees hp ho v .E
  have hmem : ∀ {q : Rec → Prop}, (∀ r ∈ pre, q r) → q ⟨i, o, fm, v, .E⟩ → ∀ r ∈ pre ++ [⟨i, o, fm, v, .E⟩], q r := by
    intro q h1 h2 r hr
    rcases List.mem_append.1 hr with hr | hr
    · exact h1 r hr
    · rw [List.mem_singleton] at hr; subst hr; exact h2
  have hs := Fm.put_rd hput
  have hdf : fm'.df = fm.df := by
    rw [Fm.put_eq] at hput
    split at hput
    · cases hput; rfl
    · split at hput <;> cases hput; rfl
  have hputt : ∀ t, o.dst ≠ some t → (a.put o.dst z).tmps.getD t undef = a.tmps.getD t undef := by
    intro t ht
    cases hd : o.dst with
    | none => rfl
    | some d =>
      have : d ≠ t := fun e => ht (by rw [hd, e])
      simp only [Act.put]
      rw [Array.getD_eq_getD_getElem?, Array.getD_eq_getD_getElem?, Array.getElem?_setIfInBounds, if_neg this]
  have hputd : (a.put o.dst z).defers = a.defers := by cases o.dst <;> rfl
  have hputs : (a.put o.dst z).tmps.size = a.tmps.size := by cases o.dst <;> simp [Act.put]
  refine ⟨hcan, ?_, by simpa using h.size, ?_, ?_, ?_, ?_, ?_, ?_, hrel, h.post.trans hpost, ?_, ?_, ?_, ?_, ?_, ?_, ?_, ?_, hputs.trans h.asz, ?_, ?_⟩
  · rw [List.map_append, List.append_assoc]; exact h.oeq
  · intro x j hx hc
    rw [hset] at hx ⊢
    split
    · rfl
    · split at hx
      · rename_i e; subst e; exact hrd j hc
      · exact h.dwn x j hx hc
  · intro j hj
    rw [hset] at hj
    split at hj
    · rename_i e; subst e; exact ⟨_, List.mem_append_right _ (List.mem_singleton.2 rfl), rfl⟩
    · obtain ⟨r, hr, e⟩ := h.sub j hj; exact ⟨r, List.mem_append_left _ hr, e⟩
  · refine hmem (fun r hr hk => ?_) fun _ => by rw [hset, if_pos rfl]
    rw [hset, if_neg (hne r hr)]; exact h.es r hr hk
  · exact hmem h.isop ho
  · exact hmem h.fact trivial
  · exact hmem (fun r hr => Rec.sees_mono (h.sees r hr)) (Rec.sees_mono hsees)
  · refine hmem (fun r hr hk hl => ?_) fun hk => by cases hk
    rw [hset, if_neg (hne r hr)] at hl
    refine List.mem_filter.2 ⟨h.lds r hr hk hl, ?_⟩
    cases hc : c i r.i with
    | false => rfl
    | true => rw [hrd _ hc] at hl; cases hl
  · refine hmem (fun r hr x ob mk hk => ?_) fun x ob mk hk => by cases hk
    obtain ⟨h1, h2, h3⟩ := h.als r hr x ob mk hk
    refine ⟨h1, Nat.lt_of_lt_of_le h2 hpost.nxt, fun hl => ?_⟩
    rw [hset, if_neg (hne r hr)] at hl
    obtain ⟨h4, h5⟩ := h3 hl
    obtain ⟨h6, h7⟩ := hpost.pend x h2 h4
    have hfa := h.fact r hr
    unfold Rec.fact at hfa
    rw [hk] at hfa
    exact ⟨h6, h7 _ (evalA_waits hfa.2.1) h5⟩
  · intro r hr r' hr' x ob mk x' ob' mk' hk hk' hne'
    rcases List.mem_append.1 hr with hr | hr
    · rcases List.mem_append.1 hr' with hr' | hr'
      · exact h.ald r hr r' hr' x ob mk x' ob' mk' hk hk' hne'
      · rw [List.mem_singleton] at hr'; subst hr'; cases hk'
    · rw [List.mem_singleton] at hr; subst hr; cases hk
  · intro t
    rw [Fm.put_get hput t]
    by_cases hd : o.dst = some t
    · left; exact ⟨⟨i, o, fm, v, .E⟩, by simp, hd, by rw [if_pos hd]⟩
    · rw [if_neg hd]
      rcases h.env t with ⟨r, h1, h2, h3⟩ | ⟨h1, h2⟩
      · exact .inl ⟨r, List.mem_append_left _ h1, h2, h3⟩
      · exact .inr ⟨hmem h1 hd, h2⟩
  · exact ⟨hs.2.trans h.same.1, hdf.trans h.same.2.1, hs.1.trans h.same.2.2⟩
  · refine hmem h.dst fun t ht => ?_
    rw [← h.same.1]; exact Fm.put_lt hput t ht
  · refine hmem (fun r hr hl t ht => ?_) fun _ t ht => ?_
    · rw [hset, if_neg (hne r hr)] at hl
      have hno : o.dst ≠ some t := fun hd => hp.one r.i i r.o o t (hne r hr) (h.isop r hr) ho ht hd
      rw [hputt t hno]
      exact RV.mono hpost.le _ _ (h.tml r hr hl t ht)
    · have hts : t < a.tmps.size := by rw [h.asz, ← h.same.1]; exact Fm.put_lt hput t ht
      have : (a.put o.dst z).tmps.getD t undef = z := by
        simp only at ht
        rw [ht]; simp only [Act.put]
        rw [Array.getD_eq_getD_getElem?, Array.getElem?_setIfInBounds, if_pos rfl, if_pos hts]; rfl
      rw [this]; exact hz
  · intro t u hu
    obtain ⟨h1, h2⟩ := h.tm0 t u hu
    refine ⟨h1, fun h3 => ?_⟩
    have hno : o.dst ≠ some t := h3 ⟨i, o, fm, v, .E⟩ (by simp) (by rw [hset, if_pos rfl])
    rw [hputt t hno]
    refine RV.mono hpost.le _ _ (h2 fun r hr hl => h3 r (List.mem_append_left _ hr) ?_)
    rw [hset]; split
    · rfl
    · exact hl
  · rw [hputd]; exact h.dfs.mono hpost.le
  · have := h.rds
    unfold RRd at this ⊢
    split at this
    · exact this
    · obtain ⟨p, hp', e⟩ := this; exact ⟨p, hpost.le _ _ hp', e⟩

theorem drawn_sound (hcf : CFok P W0 cf) (hyf : YFok P W0 yf) (hp : Plan ops ord c) {k : List Item} {cs : List Frame} : ∀ (fuel t : Nat) (pre : List Rec) (rest : List Nat) (fm : Fm) (st : St) (pl : List PL) (σ : Sg) (w : World) (a : Act) (ls : Array Bool),
    Inv P W0 cf yf ops ord c fm0 b σ0 st0 fin pre rest fm st pl σ w a ls → Edge ops fm rest → (ord.filter fun i => ls[i]? != some true).length ≤ fuel →
    XOk P W0 σ0 st0 (lone (Fat b a (.inRegion ops (Region.linearise.go .any ops fuel t ls []) :: k)) cs w) b k cs fin.1 fin.2.1 fin.2.2 := by
  -- at the end
  have atEnd : ∀ (pre : List Rec) (rest : List Nat) (fm : Fm) (st : St) (pl : List PL) (σ : Sg) (w : World) (a : Act) (ls : Array Bool),
      Inv P W0 cf yf ops ord c fm0 b σ0 st0 fin pre rest fm st pl σ w a ls → Edge ops fm rest → (∀ i ∈ ord, ls[i]? = some true) →
      XOk P W0 σ0 st0 (lone (Fat b a (.inRegion ops [] :: k)) cs w) b k cs fin.1 fin.2.1 fin.2.2 := by
    intro pre rest fm st pl σ w a ls h hE hall
    have hrest : rest = [] := by
      rcases hE with e | ⟨i, is, o, rfl, _⟩
      · exact e
      · have := h.unlisted hp
        rw [hall i (by rw [← h.oeq]; simp)] at this; cases this
    subst hrest
    have hc := h.can
    simp only [canon] at hc
    split at hc
    · obtain rfl := Option.some.inj hc
      refine ⟨σ, w, a, .normal, rfl, h.rel, h.post, ⟨⟨h.asz.trans h.same.1.symm, fun t v hv => ?_⟩, by rw [h.same.2.1]; exact h.dfs, by rw [h.same.2.2]; exact h.rds⟩, .one s_regionEnd⟩
      rcases h.env t with ⟨r, h1, h2, h3⟩ | ⟨h1, h2⟩
      · rw [h3] at hv; obtain rfl := Option.some.inj hv
        have hri : r.i ∈ ord := by rw [← h.oeq]; exact List.mem_append_left _ (List.mem_map_of_mem h1)
        exact ⟨by rw [h.same.1]; exact h.dst r h1 t h2, h.tml r h1 (hall _ hri) t h2⟩
      · rw [h2] at hv
        obtain ⟨h3, h4⟩ := h.tm0 t v hv
        exact ⟨by rw [h.same.1]; exact h3, h4 fun r hr _ => h1 r hr⟩
    · cases hc
  intro fuel
  induction fuel with
  | zero =>
    intro t pre rest fm st pl σ w a ls h hE hf
    have : Region.linearise.go .any ops 0 t ls [] = [] := by simp [Region.linearise.go]
    rw [this]
    refine atEnd pre rest fm st pl σ w a ls h hE fun i hi => ?_
    have hz : ord.filter (fun i => ls[i]? != some true) = [] := List.length_eq_zero_iff.1 (by omega)
    rw [List.filter_eq_nil_iff] at hz
    have := hz i hi
    simpa using this
  | succ fuel ih =>
    intro t pre rest fm st pl σ w a ls h hE hf
    simp only [Region.linearise.go]
    change XOk P W0 σ0 st0 (lone (Fat b a (.inRegion ops (match (Region.ready .any ops ls)[t % (Region.ready .any ops ls).length]? with
      | some i => Region.linearise.go .any ops fuel (t / (Region.ready .any ops ls).length) (ls.setIfInBounds i true) [i]
      | none => [].reverse) :: k)) cs w) b k cs fin.1 fin.2.1 fin.2.2
    cases hi : (Region.ready .any ops ls)[t % (Region.ready .any ops ls).length]? with
    | none =>
      have hnil : Region.ready .any ops ls = [] := by
        cases hr : Region.ready .any ops ls with
        | nil => rfl
        | cons x xs =>
          rw [hr] at hi
          have hlt : t % (x :: xs).length < (x :: xs).length := Nat.mod_lt _ (by simp)
          simp at hi
          simp at hlt
          omega
      exact atEnd pre rest fm st pl σ w a ls h hE (all_listed hp h.size hnil ord [] (by simp) (by simp))
    | some i =>
      simp only []
      rw [linearise_go_acc, List.reverse_singleton, List.singleton_append]
      have hrdy := List.mem_of_getElem? hi
      obtain ⟨hl, o, ho, hed⟩ := ready_spec hrdy h.size
      have hrd : ∀ j, c i j = true → ls[j]? = some true := by
        intro j hc
        obtain ⟨e, he, hb, hj⟩ := hp.down i o j ho hc
        have := hed e he hb
        rcases hj with rfl | hj
        · exact this
        · exact h.dwn _ _ this hj
      have hio : i ∈ ord := hp.all i (Array.getElem?_eq_some_iff.1 ho).1
      have hlt : i < ls.size := (Array.getElem?_eq_some_iff.1 hl).1
      have hfuel : (ord.filter fun j => (ls.setIfInBounds i true)[j]? != some true).length ≤ fuel := by
        have := filter_less (p := fun j => ls[j]? != some true) (p' := fun j => (ls.setIfInBounds i true)[j]? != some true) (i := i) ord hio (fun j hj => by
          rw [Array.getElem?_setIfInBounds] at hj
          split at hj
          · simp at hj
          · exact hj) (by simp [hl]) (by rw [Array.getElem?_setIfInBounds, if_pos rfl, if_pos hlt]; rfl)
        omega
      by_cases hin : ∃ r ∈ pre, r.i = i
      · -- done ahead
        obtain ⟨r, hr, rfl⟩ := hin
        have hor := h.isop r hr
        rw [ho] at hor; obtain rfl := Option.some.inj hor
        have hlk := h.looks hp (h.sees r hr) ho (by rw [hl]; simp) hrd
        have hrho := rho_reads hlk
        have hfact := h.fact r hr
        unfold Rec.fact at hfact
        -- what comes of it
        have go : ∀ (σ' : Sg) (w' : World) (z : Value), step P (lone (Fat b a (.inRegion ops (r.i :: Region.linearise.go .any ops fuel (t / (Region.ready .any ops ls).length) (ls.setIfInBounds r.i true) []) :: k)) cs w) =
              .next (lone (Fat b (a.put r.o.dst z) (.inRegion ops (Region.linearise.go .any ops fuel (t / (Region.ready .any ops ls).length) (ls.setIfInBounds r.i true) []) :: k)) cs w') →
            Rel W0 σ' st w' → Post σ0 st0 σ' st → Le σ σ' → RV σ' r.v z → (∀ r' ∈ pre, ∀ x ob mk, r'.k = .A x ob mk → r'.i ≠ r.i → σ x = none → σ' x = none) →
            XOk P W0 σ0 st0 (lone (Fat b a (.inRegion ops (r.i :: Region.linearise.go .any ops fuel (t / (Region.ready .any ops ls).length) (ls.setIfInBounds r.i true) []) :: k)) cs w) b k cs fin.1 fin.2.1 fin.2.2 := by
          intro σ' w' z hst h1 h2 h3 h4 h5
          exact XOk.of_steps (.one hst) (.refl _ _) (ih _ _ _ _ _ _ _ _ _ _ (h.done hp hr hl hrd h1 h2 h3 h4 h5) hE hfuel)
        split at hfact
        · obtain ⟨hw, hv⟩ := hfact
          obtain ⟨z, e, rz⟩ := evalP_sound hv hrho
          exact go σ w z (s_value ho (wantedV_sound hw hlk) (.inl (evalP_nodefer hv)) (e w)) h.rel h.post (.refl _) rz (fun _ _ _ _ _ _ _ hx => hx)
        · rename_i hk
          have hpl := h.lds r hr hk hl
          have hre : recheck P st pl = true := by
            have hc := h.can
            rcases hE with rfl | ⟨i', is, o', rfl, ho', hw', hE'⟩
            · simp only [canon] at hc
              split at hc
              · assumption
              · cases hc
            · simp only [canon, ho', hw', hE'] at hc
              split at hc
              · cases hc
              · assumption
          have hv := recheck_sound hre _ hpl
          simp only at hv
          obtain ⟨z, e, rz⟩ := evalL_sound h.rel hv hrho
          exact go σ w z (s_value ho (wantedV_sound hfact hlk) (.inl (evalL_nodefer hv)) e) h.rel h.post (.refl _) rz (fun _ _ _ _ _ _ _ hx => hx)
        · rename_i x ob mkv hk
          obtain ⟨hw, hv, hrv⟩ := hfact
          obtain ⟨h1, h2, h3⟩ := h.als r hr x ob mkv hk
          obtain ⟨h4, h5⟩ := h3 hl
          obtain ⟨z, w', p, e, r1, rz⟩ := evalA_sound h.rel hv hrho h2 h4 h5
          refine go (σ.put x p) w' z (s_value ho (wantedV_sound hw hlk) (.inl (evalA_nodefer hv)) e) r1 ?_ (Sg.le_put h4) (by rw [hrv]; exact rz) ?_
          · refine ⟨h.post.le.trans (Sg.le_put h4), h.post.nxt, fun y hy hn => ?_⟩
            obtain ⟨g1, g2⟩ := h.post.pend y hy hn
            exact ⟨by rw [Sg.put_ne (by omega)]; exact g1, g2⟩
          · intro r' hr' x' ob' mk' hk' hne hx'
            rw [Sg.put_ne (h.ald r' hr' r hr x' ob' mk' x ob mkv hk' hk hne)]; exact hx'
        · obtain ⟨hw, hrv⟩ := hfact
          exact go σ w undef (s_skipOp ho (wantedV_sound hw hlk)) h.rel h.post (.refl _) (by rw [hrv]; exact RV.undef σ) (fun _ _ _ _ _ _ _ hx => hx)
        · rename_i hk
          rw [h.es r hr hk] at hl; cases hl
      · -- the next effect
        rcases hE with rfl | ⟨i', is, o', rfl, ho', hw', hE'⟩
        · exfalso
          rw [← h.oeq, List.append_nil] at hio
          obtain ⟨r, hr, e⟩ := List.mem_map.1 hio
          exact hin ⟨r, hr, e⟩
        · have hii : i = i' := by
            rw [← h.oeq] at hio
            rcases List.mem_append.1 hio with hio | hio
            · obtain ⟨r, hr, e⟩ := List.mem_map.1 hio
              exact absurd ⟨r, hr, e⟩ hin
            · rcases List.mem_cons.1 hio with e | hio
              · exact e
              · exfalso
                have := hrd _ (hp.behind _ _ _ h.oeq.symm o' ho' hE' i hio)
                rw [h.unlisted hp] at this; cases this
          subst hii
          rw [ho] at ho'; obtain rfl := Option.some.inj ho'
          have hsees := h.mkSees hp ho (.tuple []) .E
          have hlk := h.looks hp hsees ho (by simp only; rw [hl]; simp) hrd
          simp only at hlk
          have hrho := rho_reads hlk
          have hwt := wantedV_sound hw' hlk
          have hc := h.can
          simp only [canon, ho, hw', hE'] at hc
          split at hc
          · cases hc
          · split at hc
            · rename_i v st1 hev
              split at hc
              · rename_i fm1 hput
                obtain ⟨σ1, w1, hR1, hP1, z, hz, hst⟩ := evalE_sound (b := b) (k := k) (cs := cs) (rest := Region.linearise.go .any ops fuel (t / (Region.ready .any ops ls).length) (ls.setIfInBounds i true) []) hcf hyf h.rel hev hrho ho hwt
                have hI := h.effect hp ho hrd hput hc hR1 hP1 hz
                obtain ⟨pre', rest', fm', st', pl', hI', hE''⟩ := Inv.advance hp _ _ _ _ _ hI
                exact XOk.of_steps hst (.refl _ _) (ih _ _ _ _ _ _ _ _ _ _ hI' hE'' hfuel)
              · cases hc
            · rename_i v st1 hev
              obtain rfl := Option.some.inj hc
              obtain ⟨σ1, w1, hR1, hP1, z, hz, todo, hst⟩ := evalE_sound (b := b) (k := k) (cs := cs) (rest := Region.linearise.go .any ops fuel (t / (Region.ready .any ops ls).length) (ls.setIfInBounds i true) []) hcf hyf h.rel hev hrho ho hwt
              refine ⟨σ1, w1, a, .panic [{ v := z, recovered := false }], ?_, hR1, h.post.trans hP1, ⟨⟨h.asz, fun s u hu => ?_⟩, h.dfs.mono hP1.le, ?_⟩, ⟨todo, hst⟩⟩
              · simp only [RX]; exact ⟨z, hz, rfl⟩
              · simp only at hu
                obtain ⟨g1, g2⟩ := clears_get _ _ _ _ hu
                obtain ⟨g3, g4⟩ := h.tm0 s u g1
                refine ⟨g3, RV.mono hP1.le _ _ (g4 fun r hr _ => g2 r.o ?_)⟩
                have := h.isop r hr
                exact List.mem_of_getElem? (by rw [Array.getElem?_toList]; exact this)
              · have := h.rds
                unfold RRd at this ⊢
                simp only
                split at this
                · exact this
                · obtain ⟨p, hp', e⟩ := this; exact ⟨p, hP1.le _ _ hp', e⟩
            · cases hc
end
end Go.Proofs.Ytepkbpdldghjnaa.Ev

namespace Go.Proofs.Ytepkbpdldghjnaa.Ev
open Go Go.RowKit

def predMask (ms : List Nat) : List Go.Edge → Nat
  | [] => 0
  | e :: es => match Region.binds .any e with
    | true => (2 ^ e.on ||| ms.getD e.on 0) ||| predMask ms es
    | false => predMask ms es

def mkMasks : List Oper → List Nat → List Nat
  | [], ms => ms
  | o :: os, ms => mkMasks os (ms ++ [predMask ms o.after.toList])

def cbit (ms : List Nat) (i j : Nat) : Bool := (ms.getD i 0).testBit j

def maskOk (ms : List Nat) : List Oper → Nat → Bool
  | [], _ => true
  | o :: os, i => match Nat.beq (ms.getD i 0) (predMask ms o.after.toList) with
    | true => maskOk ms os (i + 1)
    | false => false

def isEat (ops : Array Oper) (i : Nat) : Bool :=
  match ops[i]? with
  | some o => isE o.op
  | none => false

def walk (ops : Array Oper) (ms : List Nat) : List Nat → Nat → Nat → Bool
  | [], pm, _ => Nat.beq pm (2 ^ ops.size - 1)
  | i :: is, pm, em =>
    match Nat.ble (i + 1) ops.size, Nat.beq (ms.getD i 0 ||| pm) pm, Nat.beq (em ||| ms.getD i 0) (ms.getD i 0), pm.testBit i with
    | true, true, true, false => walk ops ms is (pm ||| 2 ^ i) (match isEat ops i with | true => em ||| 2 ^ i | false => em)
    | _, _, _, _ => false

def memT (t : Tmp) : List Tmp → Bool
  | [] => false
  | s :: l => match Nat.beq t s with
    | true => true
    | false => memT t l

def dstIs (o : Oper) (t : Tmp) : Bool :=
  match o.dst with
  | some s => Nat.beq s t
  | none => false

def lookAt (ops : Array Oper) (ms : List Nat) (j : Nat) (t : Tmp) : List Oper → Nat → Bool
  | [], _ => true
  | o :: os, i => match Nat.beq i j with
    | true => lookAt ops ms j t os (i + 1)
    | false => match dstIs o t with
      | true => false
      | false => match memT t (reads ops o) with
        | false => lookAt ops ms j t os (i + 1)
        | true => match cbit ms i j || cbit ms j i with
          | true => lookAt ops ms j t os (i + 1)
          | false => false

def lookAll (ops : Array Oper) (ms : List Nat) : List Oper → Nat → Bool
  | [], _ => true
  | o :: os, j => match o.dst with
    | none => lookAll ops ms os (j + 1)
    | some t => match lookAt ops ms j t ops.toList 0 with
      | true => lookAll ops ms os (j + 1)
      | false => false

def pick (e : Bool) (ms : List Nat) (dm : Nat) : List Oper → Nat → Option Nat
  | [], _ => none
  | o :: os, i => match dm.testBit i, Nat.beq (ms.getD i 0 ||| dm) dm with
    | false, true => match isE o.op == e with
      | true => some i
      | false => pick e ms dm os (i + 1)
    | _, _ => pick e ms dm os (i + 1)

def mkOrd (ops : Array Oper) (ms : List Nat) : Nat → Nat → List Nat
  | 0, _ => []
  | f + 1, dm => match pick false ms dm ops.toList 0 with
    | some i => i :: mkOrd ops ms f (dm ||| 2 ^ i)
    | none => match pick true ms dm ops.toList 0 with
      | some i => i :: mkOrd ops ms f (dm ||| 2 ^ i)
      | none => []

def planChk (ops : Array Oper) (ms : List Nat) (ord : List Nat) : Option (List Nat × List Nat) :=
  match maskOk ms ops.toList 0, walk ops ms ord 0 0, lookAll ops ms ops.toList 0 with
  | true, true, true => some (ord, ms)
  | _, _, _ => none

def planMs (ops : Array Oper) (ms : List Nat) : Option (List Nat × List Nat) := planChk ops ms (mkOrd ops ms ops.size 0)
def planOf (ops : Array Oper) : Option (List Nat × List Nat) := planMs ops (mkMasks ops.toList [])

theorem predMask_bit (ms : List Nat) (j : Nat) : ∀ (es : List Go.Edge), (predMask ms es).testBit j = true ↔ ∃ e ∈ es, Region.binds .any e = true ∧ (e.on = j ∨ cbit ms e.on j = true)
  | [] => by simp [predMask]
  | e :: es => by
    simp only [predMask]
    split
    · rename_i hb
      rw [Nat.testBit_or, Nat.testBit_or, Bool.or_eq_true, Bool.or_eq_true, predMask_bit ms j es, Nat.testBit_two_pow]
      constructor
      · rintro ((h | h) | ⟨e', h1, h2⟩)
        · exact ⟨e, by simp, hb, .inl (by simpa using h)⟩
        · exact ⟨e, by simp, hb, .inr h⟩
        · exact ⟨e', by simp [h1], h2⟩
      · rintro ⟨e', h1, h2, h3⟩
        rcases List.mem_cons.1 h1 with rfl | h1
        · rcases h3 with h3 | h3
          · exact .inl (.inl (by simp [h3]))
          · exact .inl (.inr h3)
        · exact .inr ⟨e', h1, h2, h3⟩
    · rename_i hb
      rw [predMask_bit ms j es]
      constructor
      · rintro ⟨e', h1, h2⟩; exact ⟨e', by simp [h1], h2⟩
      · rintro ⟨e', h1, h2, h3⟩
        rcases List.mem_cons.1 h1 with rfl | h1
        · rw [hb] at h2; cases h2
        · exact ⟨e', h1, h2, h3⟩

theorem maskOk_spec (ms : List Nat) : ∀ (os : List Oper) (i : Nat), maskOk ms os i = true → ∀ k o, os[k]? = some o → ms.getD (i + k) 0 = predMask ms o.after.toList
  | [], i, _, k, o, h => by simp at h
  | o' :: os, i, h, k, o, hk => by
    simp only [maskOk] at h
    split at h
    · rename_i e
      cases k with
      | zero => simp at hk; subst hk; simpa using Nat.eq_of_beq_eq_true e
      | succ k => simp at hk; have := maskOk_spec ms os (i + 1) h k o hk; rwa [show i + (k + 1) = i + 1 + k by omega]
    · cases h

theorem or_sub {a b : Nat} (h : Nat.beq (a ||| b) b = true) (j : Nat) (hj : a.testBit j = true) : b.testBit j = true := by
  have := Nat.eq_of_beq_eq_true h
  rw [← this, Nat.testBit_or, hj]; rfl

theorem or_sub' {a b : Nat} (h : Nat.beq (a ||| b) b = true) (j : Nat) (hj : a.testBit j = true) : b.testBit j = true := or_sub h j hj

theorem walk_spec {ops : Array Oper} {ms : List Nat} : ∀ (rest p : List Nat) (pm em : Nat), walk ops ms rest pm em = true → (∀ j, pm.testBit j = true ↔ j ∈ p) → (∀ j, em.testBit j = true ↔ j ∈ p ∧ isEat ops j = true) → p.Nodup →
    (p ++ rest).Nodup ∧ (∀ j, j < ops.size → j ∈ p ++ rest) ∧ (∀ j ∈ rest, j < ops.size) ∧
      (∀ p' i s, rest = p' ++ i :: s → (∀ j, cbit ms i j = true → j ∈ p ++ p') ∧ (∀ e, e ∈ p ++ p' → isEat ops e = true → cbit ms i e = true)) := by
  intro rest
  induction rest with
  | nil =>
    intro p pm em h hp _ hn
    simp only [walk] at h
    have h := Nat.eq_of_beq_eq_true h
    refine ⟨by simpa using hn, fun j hj => ?_, by simp, fun p' i s e => by simp at e⟩
    rw [List.append_nil, ← hp j, h, Nat.testBit_two_pow_sub_one]; simpa using hj
  | cons i is ih =>
    intro p pm em h hp he hn
    simp only [walk] at h
    split at h
    · rename_i h1 h2 h3 h4
      have h1 := Nat.le_of_ble_eq_true h1
      have hip : i ∉ p := fun hi => by rw [(hp i).2 hi] at h4; cases h4
      have hp' : ∀ j, (pm ||| 2 ^ i).testBit j = true ↔ j ∈ p ++ [i] := by
        intro j; rw [Nat.testBit_or, Bool.or_eq_true, hp j, Nat.testBit_two_pow, List.mem_append, List.mem_singleton]
        simp [eq_comm]
      have he' : ∀ j, (match isEat ops i with | true => em ||| 2 ^ i | false => em).testBit j = true ↔ j ∈ p ++ [i] ∧ isEat ops j = true := by
        intro j
        rw [List.mem_append, List.mem_singleton]
        split
        · rename_i hE
          rw [Nat.testBit_or, Bool.or_eq_true, he j, Nat.testBit_two_pow]
          constructor
          · rintro (⟨a, b⟩ | h)
            · exact ⟨.inl a, b⟩
            · have : i = j := by simpa using h
              subst this; exact ⟨.inr rfl, hE⟩
          · rintro ⟨a | a, b⟩
            · exact .inl ⟨a, b⟩
            · right; simp [a]
        · rename_i hE
          rw [he j]
          constructor
          · rintro ⟨a, b⟩; exact ⟨.inl a, b⟩
          · rintro ⟨a | a, b⟩
            · exact ⟨a, b⟩
            · subst a; rw [hE] at b; cases b
      have hn' : (p ++ [i]).Nodup := by
        rw [List.nodup_append]
        exact ⟨hn, by simp, fun a ha b hb e => by rw [List.mem_singleton] at hb; subst hb; subst e; exact hip ha⟩
      obtain ⟨k1, k2, k3, k4⟩ := ih (p ++ [i]) _ _ h hp' he' hn'
      refine ⟨by simpa using k1, fun j hj => by simpa using k2 j hj, fun j hj => ?_, fun p' i' s e => ?_⟩
      · rcases List.mem_cons.1 hj with rfl | hj
        · omega
        · exact k3 j hj
      · cases p' with
        | nil =>
          simp only [List.nil_append] at e
          injection e with e1 e2
          subst e1 e2
          refine ⟨fun j hj => ?_, fun e he1 he2 => ?_⟩
          · rw [List.append_nil, ← hp j]; exact or_sub h2 j hj
          · rw [List.append_nil] at he1
            exact or_sub h3 e ((he e).2 ⟨he1, he2⟩)
        | cons x p' =>
          simp only [List.cons_append] at e
          injection e with e1 e2
          subst e1
          obtain ⟨g1, g2⟩ := k4 p' i' s e2
          exact ⟨fun j hj => by simpa using g1 j hj, fun e h1 h2 => g2 e (by simpa using h1) h2⟩
    · cases h

theorem memT_false {t : Tmp} : ∀ {l : List Tmp}, memT t l = false → t ∉ l
  | [], _ => by simp
  | s :: l, h => by
    simp only [memT] at h
    split at h
    · cases h
    · rename_i e
      have e := Nat.ne_of_beq_eq_false e
      intro hm
      rcases List.mem_cons.1 hm with h1 | h1
      · exact e h1
      · exact memT_false h h1

theorem lookAt_spec {ops : Array Oper} {ms : List Nat} {j : Nat} {t : Tmp} : ∀ (os : List Oper) (i : Nat), lookAt ops ms j t os i = true → ∀ k o, os[k]? = some o → i + k ≠ j →
    o.dst ≠ some t ∧ (t ∈ reads ops o → cbit ms (i + k) j = true ∨ cbit ms j (i + k) = true)
  | [], i, _, k, o, h, _ => by simp at h
  | o' :: os, i, h, k, o, hk, hne => by
    simp only [lookAt] at h
    have next : lookAt ops ms j t os (i + 1) = true → k ≠ 0 → o.dst ≠ some t ∧ (t ∈ reads ops o → cbit ms (i + k) j = true ∨ cbit ms j (i + k) = true) := by
      intro h' hk0
      obtain ⟨k, rfl⟩ : ∃ k', k = k' + 1 := ⟨k - 1, by omega⟩
      simp at hk
      have := lookAt_spec os (i + 1) h' k o hk (by omega)
      rwa [show i + (k + 1) = i + 1 + k by omega]
    split at h
    · rename_i e
      have e := Nat.eq_of_beq_eq_true e
      exact next h (by omega)
    · split at h
      · cases h
      · rename_i hd
        split at h
        · rename_i hm
          by_cases hk0 : k = 0
          · subst hk0
            simp at hk; subst hk
            refine ⟨fun e => ?_, fun ht => absurd ht (memT_false hm)⟩
            unfold dstIs at hd; rw [e] at hd; simp at hd
          · exact next h hk0
        · split at h
          · rename_i hc
            by_cases hk0 : k = 0
            · subst hk0
              simp at hk; subst hk
              refine ⟨fun e => ?_, fun _ => by simpa using hc⟩
              unfold dstIs at hd; rw [e] at hd; simp at hd
            · exact next h hk0
          · cases h

theorem lookAll_spec {ops : Array Oper} {ms : List Nat} : ∀ (os : List Oper) (j : Nat), lookAll ops ms os j = true → ∀ k o t, os[k]? = some o → o.dst = some t → lookAt ops ms (j + k) t ops.toList 0 = true
  | [], j, _, k, o, t, h, _ => by simp at h
  | o' :: os, j, h, k, o, t, hk, hd => by
    simp only [lookAll] at h
    cases k with
    | zero =>
      simp at hk; subst hk
      rw [hd] at h; simp only at h
      split at h
      · assumption
      · cases h
    | succ k =>
      simp at hk
      have h' : lookAll ops ms os (j + 1) = true := by
        split at h
        · exact h
        · split at h
          · exact h
          · cases h
      have := lookAll_spec os (j + 1) h' k o t hk hd
      rwa [show j + (k + 1) = j + 1 + k by omega]

theorem planOf_sound {ops : Array Oper} {ord ms : List Nat} (h : planOf ops = some (ord, ms)) : Plan ops ord (cbit ms) := by
  unfold planOf planMs planChk at h
  split at h <;> cases h
  rename_i h1 h2 h3
  generalize mkMasks ops.toList [] = ms at *
  generalize mkOrd ops ms ops.size 0 = ord at *
  obtain ⟨k1, k2, k3, k4⟩ := walk_spec ord [] 0 0 h2 (by simp) (by simp) (by simp)
  simp only [List.nil_append] at k1 k2 k4
  have hm : ∀ i o, ops[i]? = some o → ms.getD i 0 = predMask ms o.after.toList := by
    intro i o ho
    have := maskOk_spec ms ops.toList 0 h1 i o (by rw [Array.getElem?_toList]; exact ho)
    simpa using this
  refine ⟨k1, k2, k3, ?_, ?_, ?_, ?_, fun p i s e => (k4 p i s e).1, ?_⟩
  · intro i o j ho hc
    unfold cbit at hc
    rw [hm i o ho, predMask_bit] at hc
    exact hc
  · intro i o e ho he hb
    unfold cbit
    rw [hm i o ho, predMask_bit]
    exact ⟨e, he, hb, .inl rfl⟩
  · intro i j oi oj t hne hi hj hdi hdj
    have := lookAt_spec _ _ (lookAll_spec _ _ h3 j oj t (by rw [Array.getElem?_toList]; exact hj) hdj) i oi (by rw [Array.getElem?_toList]; exact hi) (by omega)
    exact this.1 hdi
  · intro i j oi oj t hne hi hj hdj ht
    have := lookAt_spec _ _ (lookAll_spec _ _ h3 j oj t (by rw [Array.getElem?_toList]; exact hj) hdj) i oi (by rw [Array.getElem?_toList]; exact hi) (by omega)
    simpa using this.2 ht
  · intro p i s e o ho hE j hj
    obtain ⟨s1, s2, rfl⟩ := List.append_of_mem hj
    exact (k4 (p ++ i :: s1) j s2 (by rw [e]; simp)).2 i (by simp) (by unfold isEat; rw [ho]; exact hE)

/-- a region whose order is drawn, from its beginning -/
theorem region_drawn {P : Program} {W0 : World} {cf : CF} {yf : YF} (hcf : CFok P W0 cf) (hyf : YFok P W0 yf) {ops : Array Oper} {ord ms : List Nat} {fm fm' : Fm} {st st' : St} {ex : Ex} {b : Frame} {k : List Item} {cs : List Frame}
    {σ : Sg} {w : World} {a : Act} {id : Nat} (hm : P.follows .mixedOrders = true) (hp : planOf ops = some (ord, ms)) (h : canon P cf yf ops (cbit ms) fm ord fm st [] = some (ex, fm', st')) (hR : Rel W0 σ st w) (hF : RF σ fm a b) :
    XOk P W0 σ st (lone (Fat b a (.code (.region id ops true) :: k)) cs w) b k cs ex fm' st' := by
  have hpl := planOf_sound hp
  have hst := s_draw (P := P) (b := b) (a := a) (k := k) (cs := cs) (w := w) (id := id) (ops := ops)
  simp only [Region.schedule, hm, Bool.true_or, if_true, Region.linearise] at hst
  have hI : Inv P W0 cf yf ops ord (cbit ms) fm b σ st (ex, fm', st') [] ord fm st [] σ { w with drawn := w.drawn + 1 } a (Array.replicate ops.size false) := by
    have hf : ∀ i : Nat, (Array.replicate ops.size false)[i]? ≠ some true := by
      intro i; rw [Array.getElem?_replicate]; split <;> simp
    refine ⟨h, by simp, by simp, fun i j hi => absurd hi (hf i), fun i hi => absurd hi (hf i), by simp, by simp, by simp, by simp, hR.drew _, .refl _ _, by simp, by simp, by simp, fun t => .inr ⟨by simp, rfl⟩, ⟨rfl, rfl, rfl⟩, by simp, by simp, fun t v hv => ?_, hF.tm.1, hF.df, hF.rd⟩
    obtain ⟨h1, h2⟩ := hF.tm.2 t v hv
    exact ⟨h1, fun _ => h2⟩
  obtain ⟨pre', rest', fm1, st1, pl', hI', hE⟩ := Inv.advance hpl _ _ _ _ _ hI
  refine XOk.of_steps (.one hst) (.refl _ _) (drawn_sound hcf hyf hpl ops.size _ pre' rest' fm1 st1 pl' σ _ a _ hI' hE ?_)
  have : ∀ (l : List Nat), l.Nodup → (∀ i ∈ l, i < ops.size) → l.length ≤ ops.size := by
    intro l hn hl
    have := List.Nodup.length_le_of_subset (l₂ := List.range ops.size) hn (fun i hi => List.mem_range.2 (hl i hi))
    simpa using this
  exact Nat.le_trans (List.length_filter_le _ _) (this ord hpl.nodup hpl.lt)
end Go.Proofs.Ytepkbpdldghjnaa.Ev

namespace Go.Proofs.Ytepkbpdldghjnaa.Ev
open Go Go.RowKit

abbrev SF := Code → Fm → St → Option (Ex × Fm × St)

/-! ### calls -/
def Fm.enter (fn : Func) (args : List V) : Fm := { n := args.length + (fn.ntmps - args.length), tm := Tri.ofList args 0 .nil, df := [], rd := none }

def resultsV (P : Program) (st : St) (fm : Fm) : List ResultVar → Option (List V)
  | [] => some []
  | .tmp t :: rs => match fm.tm.get t with
    | none => none
    | some v => match resultsV P st fm rs with
      | some vs => some (v :: vs)
      | none => none
  | .cell a t :: rs => match loadV P st t (fm.tm.get a) with
    | none => none
    | some v => match resultsV P st fm rs with
      | some vs => some (v :: vs)
      | none => none

def tupleV : List V → V
  | [v] => v
  | vs => .tuple vs

def isRecover : Op → Bool
  | .call c => match c.callee, c.args.toList with
    | .builtin .recover, [] => true
    | _, _ => false
  | _ => false

def enterable (fn : Func) : Bool := !(fn.name == "runtime.NumGoroutine")

/-- the end of a deferred call -/
def dendF (P : Program) (fn : Func) (ex : Ex) (fm : Fm) (st : St) : Option St :=
  match fm.df with
  | [] => match resultsV P st fm fn.results.toList with
    | some _ => match ex with
      | .normal | .ret => some st
      | _ => none
    | none => none
  | _ => none

/-- a body that asks first of all what is panicking -/
def recHead : Code → Option (Nat × Array Oper × Oper × List Oper × Code)
  | .seq (.region id ops false) y => match ops.toList with
    | o :: os => match isRecover o.op with
      | true => some (id, ops, o, os, y)
      | false => none
    | [] => none
  | _ => none

/-- a deferred call: of a function that asks first of all what is panicking; else of one that does not ask -/
def dcallF (P : Program) (self : SF) (f : FuncId) (args : List V) (pv : Option V) (st : St) : Option (Bool × St) :=
  match P.funcs[f]? with
  | none => none
  | some fn => match enterable fn, fn.body with
    | true, some c => match recHead c with
      | some (_, ops, o, os, y) => match wantedV ops (Fm.enter fn args) o with
        | some true => match (Fm.enter fn args).put o.dst (pv.getD .nilIface) with
          | some fm1 => match seqOps P (fun _ _ _ => none) (fun _ _ _ => none) ops os fm1 st with
            | some (.normal, fm2, st2) => match self y fm2 st2 with
              | some (ex, fm3, st3) => match dendF P fn ex fm3 st3 with
                | some st' => some (pv.isSome, st')
                | none => none
              | none => none
            | _ => none
          | none => none
        | _ => none
      | none => match self c (Fm.enter fn args) st with
        | some (ex, fm3, st3) => match dendF P fn ex fm3 st3 with
          | some st' => some (false, st')
          | none => none
        | none => none
    | _, _ => none

/-- the deferred calls of a frame that returns (none) or panics -/
def unwindF (dc : FuncId → List V → Option V → St → Option (Bool × St)) : List D → Option V → St → Option (Option V × St)
  | [], pv, st => some (pv, st)
  | .mark i :: ds, pv, st => match st.mem.get i with
    | some (.dfr false) => unwindF dc ds pv { st with mem := st.mem.set i (some (.dfr true)) }
    | _ => none
  | .call f args cap :: ds, pv, st => match dc f (args ++ cap) pv st with
    | some (true, st') => unwindF dc ds none st'
    | some (false, st') => unwindF dc ds pv st'
    | none => none

def leaveF (P : Program) (self : SF) (fn : Func) (ex : Ex) (fm : Fm) (st : St) : Option (CR × St) :=
  match (match ex with
    | .exit _ => none
    | .panic v => unwindF (dcallF P self) fm.df (some v) st
    | _ => unwindF (dcallF P self) fm.df none st) with
  | some (some v, st') => some (.panic v, st')
  | some (none, st') => match resultsV P st' fm fn.results.toList with
    | some vs => some (.ok (tupleV vs), st')
    | none => none
  | none => none

def callF (P : Program) (self : SF) : CF := fun f args st =>
  match P.funcs[f]? with
  | none => none
  | some fn => match enterable fn, fn.body with
    | true, some c => match self c (Fm.enter fn args) st with
      | some (ex, fm, st') => leaveF P self fn ex fm st'
      | none => none
    | _, _ => none

/-! ### rounds of a loop over a function -/
def setParams : List Tmp → List V → Tri V → Nat → Option (Tri V)
  | [], [], t, _ => some t
  | p :: ps, v :: vs, t, n => match Nat.ble (p + 1) n with
    | true => setParams ps vs (t.set p (some v)) n
    | false => none
  | _, _, _, _ => none

def roundEnd (st : St) (l : Nat) (jump : Option Code) : Option (CR × St) :=
  match st.mem.get l with
  | some (.loop _ _ n tm ps as bd d) => some (.ok (.bool jump.isNone), { st with mem := st.mem.set l (some (.loop (if jump.isNone then .ready else .done) jump n tm ps as bd d)) })
  | _ => none

def yieldF (self : SF) : YF := fun l args st =>
  match st.mem.get l with
  | some (.loop _ _ n tm ps as bd _) => match setParams ps.toList args tm n with
    | none => none
    | some tm' => match self as { n, tm := tm', df := [], rd := some l } st with
      | some (.normal, fm1, st1) => match st1.mem.get l with
        | some (.loop .ready pe n1 tm1 ps1 as1 bd1 d1) =>
          match self bd fm1 { st1 with mem := st1.mem.set l (some (.loop .busy pe n1 tm1 ps1 as1 bd1 d1)) } with
          | some (ex, fm2, st2) => match fm2.df with
            | [] => match ex with
              | .normal => roundEnd st2 l none
              | .ret => roundEnd st2 l (some .ret)
              | .exit id => roundEnd st2 l (some (.exit id))
              | .panic _ => none
            | _ :: _ => none
          | none => none
        | _ => none
      | _ => none
  | _ => none

def rangeGo (cf : CF) (f : Option V) (l : Nat) (fm : Fm) (st : St) : Option (Ex × Fm × St) :=
  match f with
  | some (.func (.func g) first cap) => match cf g (first ++ [.yield l] ++ cap) st with
    | some (.ok _, st') => match st'.mem.get l with
      | some (.loop s pe n tm ps as bd d) => match s with
        | .busy => none
        | _ =>
          let st'' : St := { st' with mem := st'.mem.set l (some (.loop .exhausted pe n tm ps as bd d)) }
          match pe with
          | none => some (.normal, fm, st'')
          | some .ret => some (.ret, fm, st'')
          | some (.exit id) => some (.exit id, fm, st'')
          | _ => none
      | _ => none
    | some (.panic v, st') => some (.panic v, fm, st')
    | none => none
  | _ => none

def rangeF (cf : CF) (f : Option V) (ps : Array Tmp) (as bd : Code) (fm : Fm) (st : St) : Option (Ex × Fm × St) :=
  match fm.rd with
  | none =>
    let st1 := st.add (.dfr false)
    let fm1 : Fm := { fm with df := .mark st.next :: fm.df }
    let st2 := st1.add (.loop .ready none fm.n fm.tm ps as bd st.next)
    rangeGo cf f st1.next fm1 st2
  | some l0 => match st.mem.get l0 with
    | some (.loop _ _ _ _ _ _ _ d) => rangeGo cf f st.next fm (st.add (.loop .ready none fm.n fm.tm ps as bd d))
    | _ => none
/-! ### code -/
def exec (P : Program) (cf : CF) (yf : YF) (self : SF) : SF := fun code fm st =>
  match code with
  | .skip => some (.normal, fm, st)
  | .label _ => some (.normal, fm, st)
  | .exit id => some (.exit id, fm, st)
  | .ret => some (.ret, fm, st)
  | .seq x y => match self x fm st with
    | some (.normal, fm', st') => self y fm' st'
    | r => r
  | .cond c x y => match fm.rho c with
    | some (.bool true) => self x fm st
    | some (.bool false) => self y fm st
    | _ => none
  | .block id x => match self x fm st with
    | some (.exit i, fm', st') => match Nat.beq i id with
      | true => some (.normal, fm', st')
      | false => some (.exit i, fm', st')
    | r => r
  | .scope x => self x fm st
  | .loop x => match self x fm st with
    | some (.normal, fm', st') => self (.loop x) fm' st'
    | r => r
  | .region _ ops false => seqOps P cf yf ops ops.toList fm st
  | .region _ ops true => match P.follows .mixedOrders with
    | true => match planOf ops with
      | some (ord, ms) => canon P cf yf ops (cbit ms) fm ord fm st []
      | none => none
    | false => none
  | .rangeFunc f ps as bd => rangeF cf (fm.rho f) ps as bd fm st
  | _ => none

def run (P : Program) (pt : SF → CF → CF) : Nat → SF
  | 0 => fun _ _ _ => none
  | n + 1 => exec P (pt (run P pt n) (callF P (run P pt n))) (yieldF (run P pt n)) (run P pt n)

def noPt : SF → CF → CF := fun _ cf => cf

def SOk (P : Program) (W0 : World) (self : SF) : Prop :=
  ∀ code fm st ex fm' st', self code fm st = some (ex, fm', st') → ∀ σ w a b k cs, Rel W0 σ st w → RF σ fm a b →
    XOk P W0 σ st (lone (Fat b a (.code code :: k)) cs w) b k cs ex fm' st' ∧
    (∀ c, code = .loop c → XOk P W0 σ st (lone (Fat b a (.inLoop c :: k)) cs w) b k cs ex fm' st')

/-! ### the end of a call -/
theorem resultsV_sound {P : Program} {W0 : World} {σ : Sg} {st : St} {w : World} {fm : Fm} {tmps : Array Value} (hR : Rel W0 σ st w) (ht : RT σ fm.n fm.tm tmps) : ∀ (rs : List ResultVar) (vs : List V), resultsV P st fm rs = some vs →
    ∃ xs, (rs.mapM (fun | .tmp t => pure (tmps.getD t undef) | .cell a t => do loadVar t (← asAddr (tmps.getD a undef)) : ResultVar → Sem Value)).run P w = .ok xs w ∧ RVs σ vs xs
  | [], vs, h => by simp [resultsV] at h; subst h; exact ⟨[], by simp, by simp [RVs]⟩
  | .tmp t :: rs, vs, h => by
    simp only [resultsV] at h
    split at h
    · cases h
    · rename_i v hv
      split at h
      · rename_i us hu
        cases h
        obtain ⟨xs, e, r⟩ := resultsV_sound hR ht rs us hu
        refine ⟨tmps.getD t undef :: xs, ?_, ?_⟩
        · rw [List.mapM_cons]; simp only [Sem.run_bind, Sem.run_pure, Result.andThen_ok, e]
        · simp only [RVs]; exact ⟨_, _, rfl, (ht.2 t v hv).2, r⟩
      · cases h
  | .cell a t :: rs, vs, h => by
    simp only [resultsV] at h
    split at h
    · cases h
    · rename_i v hv
      split at h
      · rename_i us hu
        cases h
        obtain ⟨xs, e, r⟩ := resultsV_sound hR ht rs us hu
        obtain ⟨z, ez, rz⟩ := loadV_sound (u := tmps.getD a undef) hR hv (fun u hu => (ht.2 a u hu).2)
        refine ⟨z :: xs, ?_, ?_⟩
        · have hptr : ∃ ad, tmps.getD a undef = .pointer (some ad) := by
            unfold loadV at hv
            split at hv
            · rename_i hx
              have := (ht.2 a _ hx).2
              simp only [RV] at this
              obtain ⟨p, _, e⟩ := this
              exact ⟨_, e⟩
            · rename_i hx
              have := (ht.2 a _ hx).2
              simp only [RV] at this
              exact ⟨_, this⟩
            · cases hv
          obtain ⟨ad, had⟩ := hptr
          rw [had] at ez
          simp only [Instr.loadAt, Instr.sureAddr, Sem.run_bind, Sem.run_pure, Result.andThen_ok] at ez
          have hasA : ∀ w, (asAddr (tmps.getD a undef)).run P w = .ok ad w := by intro w; rw [had]; rfl
          rw [List.mapM_cons]; simp only [Sem.run_bind, hasA, Sem.run_pure, Result.andThen_ok, ez, e]
        · simp only [RVs]; exact ⟨_, _, rfl, rz, r⟩
      · cases h

theorem run_results {P : Program} {W0 : World} {σ : Sg} {st : St} {w : World} {fm : Fm} {fn : Func} {tmps : Array Value} {vs : List V} (hR : Rel W0 σ st w) (ht : RT σ fm.n fm.tm tmps)
    (h : resultsV P st fm fn.results.toList = some vs) : ∃ z, (results fn tmps).run P w = .ok z w ∧ RV σ (tupleV vs) z := by
  obtain ⟨xs, e, r⟩ := resultsV_sound hR ht _ _ h
  have hm : (fn.results.mapM (fun | .tmp t => pure (tmps.getD t undef) | .cell a t => do loadVar t (← asAddr (tmps.getD a undef)) : ResultVar → Sem Value)).run P w = .ok xs.toArray w := by
    rw [Array.mapM_eq_mapM_toList]
    simp only [Sem.run_map, e, Result.andThen_ok]
  refine ⟨if h : xs.toArray.size = 1 then xs.toArray[0] else .tuple xs.toArray, ?_, ?_⟩
  · unfold results
    rw [Sem.run_bind]
    refine (congrArg (fun q => Result.andThen q _) hm).trans ?_
    rfl
  · have hl := r.length
    cases vs with
    | nil =>
      have : xs = [] := by simpa using hl
      subst this
      simp only [tupleV, RV]; exact ⟨#[], by simp, by simp [RVs]⟩
    | cons v vs =>
      cases vs with
      | nil =>
        simp only [RVs] at r
        obtain ⟨x, r', rfl, h1, rfl⟩ := r
        simp only [tupleV]; simpa using h1
      | cons u us =>
        have h2 : xs.toArray.size ≠ 1 := by simp at hl ⊢; omega
        rw [dif_neg h2]
        simp only [tupleV, RV]; exact ⟨xs.toArray, rfl, by simpa using r⟩


def RMode (σ : Sg) (pv : Option V) (md : FrameMode) : Prop :=
  match pv with
  | none => md = .returning
  | some v => ∃ x, RV σ v x ∧ md = .panicking [{ v := x, recovered := false }]

theorem RMode.mono {σ σ' : Sg} (h : Le σ σ') {pv : Option V} {md : FrameMode} (r : RMode σ pv md) : RMode σ' pv md := by
  cases pv with
  | none => exact r
  | some v => obtain ⟨x, h1, h2⟩ := r; exact ⟨x, RV.mono h _ _ h1, h2⟩

/-- what a caller's mode is behind a deferred call -/
def afterD : FrameMode → FrameMode
  | .panicking [{ v := v, recovered := true, goexit := false }] => .returning
  | m => m

theorem step_dleave {P : Program} {fr c : Frame} {cs : List Frame} {w : World} {z : Value} {fn : Func} (hm : fr.mode = .returning) (hd : fr.defers = []) (hk : fr.kind = .deferred) (hf : P.funcs[fr.fn]? = some fn)
    (hr : (results fn fr.tmps).run P w = .ok z w) (hc : c.mode = .returning ∨ ∃ x, c.mode = .panicking [{ v := x, recovered := false }] ∨ c.mode = .panicking [{ v := x, recovered := true }]) :
    step P (lone fr (c :: cs) w) = .next (lone { c with mode := afterD c.mode } cs w) := by
  refine step_lone_go ?_
  rcases hc with h | ⟨x, h | h⟩
  · have : ({ c with mode := afterD c.mode } : Frame) = c := by cases c; simp only at h; subst h; rfl
    rw [this]; simp [stepG, unwind, doReturn, hm, hd, hk, hf, hr, h]
  · have : ({ c with mode := afterD c.mode } : Frame) = c := by cases c; simp only at h; subst h; rfl
    rw [this]; simp [stepG, unwind, doReturn, hm, hd, hk, hf, hr, h]
  · have : ({ c with mode := afterD c.mode } : Frame) = { c with mode := .returning } := by cases c; simp only at h; subst h; rfl
    rw [this]; simp [stepG, unwind, doReturn, hm, hd, hk, hf, hr, h]

/-- the end of a deferred call's frame -/
theorem dend_sound {P : Program} {W0 : World} {σ : Sg} {st st3 st' : St} {m : Machine} {b0 c : Frame} {cs : List Frame} {ex : Ex} {fm3 : Fm} {fn : Func} (hro : b0.roundOf = none) (hk : b0.kind = .deferred) (hf : P.funcs[b0.fn]? = some fn)
    (h : dendF P fn ex fm3 st3 = some st') (hx : XOk P W0 σ st m b0 [] (c :: cs) ex fm3 st3)
    (hc : c.mode = .returning ∨ ∃ x, c.mode = .panicking [{ v := x, recovered := false }] ∨ c.mode = .panicking [{ v := x, recovered := true }]) :
    ∃ σ' w', Rel W0 σ' st' w' ∧ Post σ st σ' st' ∧ Steps P m (lone { c with mode := afterD c.mode } cs w') := by
  obtain ⟨σ1, w1, a1, e1, hX, hR1, hP1, hF1, hA⟩ := hx
  unfold dendF at h
  split at h
  · rename_i hdf
    split at h
    · rename_i vs hrs
      have hdf' : a1.defers = [] := by have := hF1.df; rw [hdf] at this; simpa [RDs] using this
      obtain ⟨z, ez, _⟩ := run_results hR1 hF1.tm hrs
      have fin : ∀ todo, Steps P m (lone { b0 with tmps := a1.tmps, todo := todo, defers := a1.defers, mode := .returning } (c :: cs) w1) →
          ∃ σ' w', Rel W0 σ' st3 w' ∧ Post σ st σ' st3 ∧ Steps P m (lone { c with mode := afterD c.mode } cs w') := fun todo hst =>
        ⟨σ1, w1, hR1, hP1, hst.trans (.one (step_dleave rfl hdf' hk hf ez hc))⟩
      cases ex with
      | exit id => simp at h
      | panic v => simp at h
      | normal =>
        simp only [Option.some.injEq] at h; subst h
        simp only [RX] at hX; subst hX
        simp only [Arr] at hA
        exact fin [] (hA.trans (.one (step_lone_go (by simp [stepG, stepG.exec, Fat, hro]))))
      | ret =>
        simp only [Option.some.injEq] at h; subst h
        simp only [RX] at hX; subst hX
        simp only [Arr] at hA
        obtain ⟨k0, hA⟩ := hA
        exact fin (.code .ret :: k0) (hA.trans (.one (step_lone_go (by simp [stepG, stepG.exec, Fat, hro]))))
    · cases h
  · cases h

theorem recHead_eq {c : Code} {id : Nat} {ops : Array Oper} {o : Oper} {os : List Oper} {y : Code} (h : recHead c = some (id, ops, o, os, y)) :
    c = .seq (.region id ops false) y ∧ ops.toList = o :: os ∧ isRecover o.op = true := by
  unfold recHead at h
  split at h
  · split at h
    · rename_i ho
      split at h
      · rename_i hr
        simp only [Option.some.injEq, Prod.mk.injEq] at h
        obtain ⟨rfl, rfl, rfl, rfl, rfl⟩ := h
        exact ⟨rfl, ho, hr⟩
      · cases h
    · cases h
  · cases h

theorem run_recover {P : Program} {o : Oper} {ρ : Operand → Value} {w : World} (h : isRecover o.op = true) : (execOp ρ o).run P w = .ok .recover w := by
  unfold isRecover at h
  split at h
  · rename_i c hop
    split at h
    · rename_i hc ha
      have ha : c.args = #[] := by simpa using ha
      simp [execOp, hop, resolve, hc, ha, invoke, builtin]
    · cases h
  · cases h

theorem enter_RF {σ : Sg} {fn : Func} {args : List V} {args' : Array Value} {b0 : Frame} (ha : RVs σ args args'.toList) (hro : b0.roundOf = none) :
    RF σ (Fm.enter fn args) { tmps := args' ++ Array.replicate (fn.ntmps - args'.size) undef, defers := [] } b0 := by
  have hlen : args'.size = args.length := by have := ha.length; simpa using this
  refine ⟨⟨by simp [Fm.enter, hlen], fun t v hv => ?_⟩, rfl, by simp only [Fm.enter, RRd]; exact hro⟩
  simp only [Fm.enter] at hv ⊢
  rw [Tri.get_ofList] at hv
  split at hv
  · rename_i hin
    simp only [Nat.sub_zero] at hv
    obtain ⟨x, hx, hr⟩ := ha.get hv
    refine ⟨by omega, ?_⟩
    have : (args' ++ Array.replicate (fn.ntmps - args'.size) undef).getD t undef = x := by
      rw [Array.getD_eq_getD_getElem?, Array.getElem?_append_left (by omega), ← Array.getElem?_toList, hx]; rfl
    rw [this]; exact hr
  · simp at hv

theorem dcall_sound {P : Program} {W0 : World} {self : SF} (hs : SOk P W0 self) {f : FuncId} {args : List V} {pv : Option V} {st st' : St} {rec : Bool} (h : dcallF P self f args pv st = some (rec, st'))
    {σ : Sg} {w : World} {args' : Array Value} {c0 : Frame} {cs : List Frame} (hR : Rel W0 σ st w) (ha : RVs σ args args'.toList) (hm : RMode σ pv c0.mode) :
    (∀ w, (callFunc f args').run P w = .ok (.enter f args') w) ∧
      ∃ σ' w' md', Rel W0 σ' st' w' ∧ Post σ st σ' st' ∧ RMode σ' (if rec then none else pv) md' ∧ Steps P (lone (Frame.enter P f args' .deferred) (c0 :: cs) w) (lone { c0 with mode := md' } cs w') := by
  unfold dcallF at h
  split at h
  · cases h
  · rename_i fn hf
    split at h
    · rename_i c hen hb
      obtain ⟨b0, hb0⟩ : ∃ b0 : Frame, b0 = { fn := f, tmps := #[], todo := [], defers := [], mode := .run, kind := .deferred, roundOf := none } := ⟨_, rfl⟩
      have henter : Frame.enter P f args' .deferred = Fat b0 { tmps := args' ++ Array.replicate (fn.ntmps - args'.size) undef, defers := [] } [.code c] := by
        simp [Frame.enter, Fat, hf, hb, hb0]
      have hro : b0.roundOf = none := by rw [hb0]
      have hk : b0.kind = .deferred := by rw [hb0]
      have hf' : P.funcs[b0.fn]? = some fn := by rw [hb0]; exact hf
      have hF := enter_RF (fn := fn) (b0 := b0) ha hro
      refine ⟨fun w => ?_, ?_⟩
      · have hne : (fn.name == "runtime.NumGoroutine") = false := by simpa [enterable] using hen
        simp [callFunc, hf, hb]
        simpa using hne
      · rw [henter]
        have hmc : c0.mode = .returning ∨ ∃ x, c0.mode = .panicking [{ v := x, recovered := false }] ∨ c0.mode = .panicking [{ v := x, recovered := true }] := by
          cases pv with
          | none => exact .inl hm
          | some v => obtain ⟨x, _, e⟩ := hm; exact .inr ⟨x, .inl e⟩
        have hafter : afterD c0.mode = c0.mode := by
          cases pv with
          | none => simp only [RMode] at hm; rw [hm]; rfl
          | some v => obtain ⟨x, _, e⟩ := hm; rw [e]; rfl
        split at h
        · rename_i id ops o os y hrh
          obtain ⟨rfl, hops, hrec⟩ := recHead_eq hrh
          split at h
          · rename_i hwv
            split at h
            · rename_i fm1 hput
              split at h
              · rename_i fm2 st2 hseq
                split at h
                · rename_i ex fm3 st3 hy
                  split at h
                  · rename_i st4 hde
                    simp only [Option.some.injEq, Prod.mk.injEq] at h
                    obtain ⟨rfl, rfl⟩ := h
                    have ho : ops[0]? = some o := by rw [← Array.getElem?_toList, hops]; rfl
                    have hdr : ops.toList.drop 1 = os := by rw [hops]; rfl
                    have hrng : List.range ops.size = 0 :: List.range' 1 os.length := by
                      have : ops.size = os.length + 1 := by have := congrArg List.length hops; simpa using this
                      rw [this, List.range_eq_range', List.range'_succ]
                    have hw := wantedV_sound hwv hF.tm.reads
                    have hr := run_recover (P := P) (ρ := Act.eval { tmps := args' ++ Array.replicate (fn.ntmps - args'.size) undef, defers := [] }) (w := w) hrec
                    have hrun := s_recover (P := P) (b := b0) (a := { tmps := args' ++ Array.replicate (fn.ntmps - args'.size) undef, defers := [] }) (k := [.code y]) (cs := c0 :: cs) (w := w) (rest := List.range' 1 os.length) ho hw hro hr
                    have hpre : ∀ {M : Machine}, Steps P (lone (Fat b0 { tmps := args' ++ Array.replicate (fn.ntmps - args'.size) undef, defers := [] } (.inRegion ops (0 :: List.range' 1 os.length) :: [.code y])) (c0 :: cs) w) M →
                        Steps P (lone (Fat b0 { tmps := args' ++ Array.replicate (fn.ntmps - args'.size) undef, defers := [] } [.code (.seq (.region id ops false) y)]) (c0 :: cs) w) M := fun hs => by
                      refine .head s_seq (.head s_region ?_)
                      rw [hrng]; exact hs
                    have rest : ∀ (z : Value) (c1 : Frame), RV σ (pv.getD .nilIface) z → (c1.mode = .returning ∨ ∃ x, c1.mode = .panicking [{ v := x, recovered := false }] ∨ c1.mode = .panicking [{ v := x, recovered := true }]) →
                        Steps P (lone (Fat b0 { tmps := args' ++ Array.replicate (fn.ntmps - args'.size) undef, defers := [] } (.inRegion ops (0 :: List.range' 1 os.length) :: [.code y])) (c0 :: cs) w)
                          (lone (Fat b0 (Act.put { tmps := args' ++ Array.replicate (fn.ntmps - args'.size) undef, defers := [] } o.dst z) (.inRegion ops (List.range' 1 os.length) :: [.code y])) (c1 :: cs) w) →
                        ∃ σ' w', Rel W0 σ' st4 w' ∧ Post σ st σ' st4 ∧
                          Steps P (lone (Fat b0 { tmps := args' ++ Array.replicate (fn.ntmps - args'.size) undef, defers := [] } [.code (.seq (.region id ops false) y)]) (c0 :: cs) w) (lone { c1 with mode := afterD c1.mode } cs w') := by
                      intro z c1 hz hc1 hst
                      have hF1 := Fm.put_sound hput hF hz
                      obtain ⟨σ2, w2, a2, e2, hX2, hR2, hP2, hF2, hA2⟩ := seqOps_sound (P := P) (W0 := W0) (cf := fun _ _ _ => none) (yf := fun _ _ _ => none) (fun _ _ _ _ _ e => by cases e) (fun _ _ _ _ _ e => by cases e)
                        (ops := ops) (b := b0) (k := [.code y]) (cs := c1 :: cs) os 1 fm1 st .normal fm2 st2 hdr hseq σ w _ hR hF1
                      simp only [RX] at hX2; subst hX2
                      simp only [Arr] at hA2
                      have hx := (hs y fm2 st2 ex fm3 st3 hy σ2 w2 a2 b0 [] (c1 :: cs) hR2 hF2).1
                      obtain ⟨σ3, w3, hR3, hP3, hst3⟩ := dend_sound hro hk hf' hde hx hc1
                      exact ⟨σ3, w3, hR3, hP2.trans hP3, hpre (hst.trans (hA2.trans hst3))⟩
                    cases pv with
                    | none =>
                      simp only [RMode] at hm
                      have htr : tryRecover (Fat b0 { tmps := args' ++ Array.replicate (fn.ntmps - args'.size) undef, defers := [] } (.inRegion ops (0 :: List.range' 1 os.length) :: [.code y])) (c0 :: cs) = none := by
                        simp [tryRecover, Fat, hk, hm]
                      rw [htr] at hrun
                      obtain ⟨σ3, w3, hR3, hP3, hst3⟩ := rest .nilIface c0 (by simp only [Option.getD_none, RV]) hmc (.one hrun)
                      exact ⟨σ3, w3, _, hR3, hP3, by simp only [Option.isSome_none, Bool.false_eq_true, if_false, RMode]; rw [hafter]; exact hm, hst3⟩
                    | some v =>
                      obtain ⟨x, hx, hm⟩ := hm
                      have htr : tryRecover (Fat b0 { tmps := args' ++ Array.replicate (fn.ntmps - args'.size) undef, defers := [] } (.inRegion ops (0 :: List.range' 1 os.length) :: [.code y])) (c0 :: cs) =
                          some (x, { c0 with mode := .panicking [{ v := x, recovered := true }] } :: cs) := by
                        simp [tryRecover, Fat, hk, hm]
                      rw [htr] at hrun
                      obtain ⟨σ3, w3, hR3, hP3, hst3⟩ := rest x { c0 with mode := .panicking [{ v := x, recovered := true }] } hx (.inr ⟨x, .inr rfl⟩) (.one hrun)
                      exact ⟨σ3, w3, .returning, hR3, hP3, by simp [RMode], hst3⟩
                  · cases h
                · cases h
              · cases h
            · cases h
          · cases h
        · split at h
          · rename_i ex fm3 st3 hx0
            split at h
            · rename_i st4 hde
              simp only [Option.some.injEq, Prod.mk.injEq] at h
              obtain ⟨rfl, rfl⟩ := h
              have hx := (hs c _ st ex fm3 st3 hx0 σ w _ b0 [] (c0 :: cs) hR hF).1
              obtain ⟨σ3, w3, hR3, hP3, hst3⟩ := dend_sound hro hk hf' hde hx hmc
              exact ⟨σ3, w3, _, hR3, hP3, by simp only [Bool.false_eq_true, if_false]; rw [hafter]; exact hm.mono hP3.le, hst3⟩
            · cases h
          · cases h
    · cases h

theorem unwindF_sound {P : Program} {W0 : World} {self : SF} (hs : SOk P W0 self) {b : Frame} {cs : List Frame} {tmps : Array Value} {todo : List Item} : ∀ (ds : List D) (pv pv' : Option V) (st st' : St), unwindF (dcallF P self) ds pv st = some (pv', st') →
    ∀ σ w l md, Rel W0 σ st w → RDs σ ds l → RMode σ pv md →
    ∃ σ' w' md', Rel W0 σ' st' w' ∧ Post σ st σ' st' ∧ RMode σ' pv' md' ∧
      Steps P (lone { b with tmps := tmps, todo := todo, defers := l, mode := md } cs w) (lone { b with tmps := tmps, todo := todo, defers := [], mode := md' } cs w')
  | [], pv, pv', st, st', h, σ, w, l, md, hR, hd, hm => by
    simp only [unwindF, Option.some.injEq, Prod.mk.injEq] at h
    obtain ⟨rfl, rfl⟩ := h
    simp only [RDs] at hd; subst hd
    exact ⟨σ, w, md, hR, .refl _ _, hm, .refl _ _⟩
  | .call f args cap :: ds, pv, pv', st, st', h, σ, w, l, md, hR, hd, hm => by
    simp only [RDs] at hd
    obtain ⟨x, r, rfl, h1, h2⟩ := hd
    simp only [RD] at h1
    obtain ⟨c, y, rfl, ha, hc⟩ := h1
    simp only [unwindF] at h
    have key : ∀ (rec : Bool) (st1 : St), dcallF P self f (args ++ cap) pv st = some (rec, st1) → unwindF (dcallF P self) ds (if rec then none else pv) st1 = some (pv', st') →
        ∃ σ' w' md', Rel W0 σ' st' w' ∧ Post σ st σ' st' ∧ RMode σ' pv' md' ∧
          Steps P (lone { b with tmps := tmps, todo := todo, defers := { target := .fn (.func f) c, args := y } :: r, mode := md } cs w) (lone { b with tmps := tmps, todo := todo, defers := [], mode := md' } cs w') := by
      intro rec st1 hdc hu
      obtain ⟨hcf, σ1, w1, md1, hR1, hP1, hm1, hst1⟩ := dcall_sound hs hdc (args' := y ++ c) (c0 := { b with tmps := tmps, todo := todo, defers := r, mode := md }) (cs := cs) hR (by rw [Array.toList_append]; exact ha.append hc) hm
      obtain ⟨σ2, w2, md2, hR2, hP2, hm2, hst2⟩ := unwindF_sound hs (b := b) (cs := cs) (tmps := tmps) (todo := todo) ds _ pv' st1 st' hu σ1 w1 r md1 hR1 (h2.mono hP1.le) hm1
      refine ⟨σ2, w2, md2, hR2, hP1.trans hP2, hm2, .head ?_ (hst1.trans hst2)⟩
      refine step_lone_go ?_
      have hcf' := hcf w
      cases pv with
      | none => simp only [RMode] at hm; subst hm; simp [stepG, unwind, callDeferred, invoke, Sem.runT_eq, hcf']
      | some v => obtain ⟨x, _, rfl⟩ := hm; simp [stepG, unwind, callDeferred, invoke, Sem.runT_eq, hcf']
    split at h
    · rename_i st1 hdc; exact key true st1 hdc h
    · rename_i st1 hdc; exact key false st1 hdc h
    · cases h
  | .mark i :: ds, pv, pv', st, st', h, σ, w, l, md, hR, hd, hm => by
    simp only [RDs] at hd
    obtain ⟨x, r, rfl, h1, h2⟩ := hd
    simp only [RD] at h1
    obtain ⟨p, hp, rfl⟩ := h1
    simp only [unwindF] at h
    split at h
    · rename_i hg
      have ho := hR.obj i p _ hp hg
      simp only [ObjOk] at ho
      obtain ⟨hh, hb0⟩ := ho
      have hbk := hR.blk i p hp
      have hown := hR.own hp hg rfl
      have hrel : Rel W0 σ { st with mem := st.mem.set i (some (.dfr true)) } { w with heap := w.heap.setIfInBounds p.blk (.deferred none) } := by
        refine hR.turn hp hown ⟨hR.below.os, hR.below.tape, hR.below.output, by simp; exact hR.below.size, fun k hk => ?_⟩ (by simp) (fun b hb' => ?_) (o' := .dfr true) (by rw [Tri.get_set, if_pos rfl]) (fun j hj => ?_) (fun j q hj hq hbq => ?_) ?_
        · rw [Array.getElem?_setIfInBounds, if_neg (by omega)]; exact hR.below.block k hk
        · rw [Array.getElem?_setIfInBounds, if_neg (Ne.symm hb')]
        · rw [Tri.get_set, if_neg hj]; exact .inl rfl
        · rw [Tri.get_set, if_neg hj]
          cases hgj : st.mem.get j with
          | none => rfl
          | some oj =>
            have := hR.sep i j p q _ oj (Ne.symm hj) hp hq hg hgj hbq.symm
            simp only [Sh] at this
        · simp only [ObjOk]; exact ⟨by rw [Array.getElem?_setIfInBounds, if_pos rfl, if_pos hbk.2]; rfl, hb0⟩
      have hpost : Post σ st σ { st with mem := st.mem.set i (some (.dfr true)) } := Post.turn hp fun j hj => by
        rw [Tri.get_set, if_neg (fun e => by subst e; rw [hp] at hj; cases hj)]
      obtain ⟨σ', w', md', r1, p1, hm', s1⟩ := unwindF_sound hs (b := b) (cs := cs) (tmps := tmps) (todo := todo) ds pv pv' _ st' h σ _ r md hrel h2 hm
      refine ⟨σ', w', md', r1, hpost.trans p1, hm', .head ?_ s1⟩
      refine step_lone_go ?_
      have htd : (Instr.takeDeferred p.blk).run P w = .ok [] { w with heap := w.heap.setIfInBounds p.blk (.deferred none) } := by
        simp only [Bool.false_eq_true, if_false] at hh
        simp [Instr.takeDeferred, getObj, setObj, Sem.run, hh]
      cases pv with
      | none => simp only [RMode] at hm; subst hm; simp [stepG, unwind, Sem.runT_eq, htd]
      | some v => obtain ⟨x, _, rfl⟩ := hm; simp [stepG, unwind, Sem.runT_eq, htd]
    · cases h

theorem XOk.calls {P : Program} {W0 : World} {self : SF} (hs : SOk P W0 self) : CFok P W0 (callF P self) := by
  intro f args st r st' h
  unfold callF at h
  split at h
  · cases h
  · rename_i fn hf
    split at h
    · rename_i c hen hb
      split at h
      · rename_i ex fm st1 hx
        intro σ w args' hR ha
        have hlen : args'.size = args.length := by have := ha.length; simpa using this
        refine ⟨fun w => ?_, fun cs => ?_⟩
        · have hne : (fn.name == "runtime.NumGoroutine") = false := by simpa [enterable] using hen
          simp [callFunc, hf, hb]
          simpa using hne
        · obtain ⟨b0, hb0⟩ : ∃ b0 : Frame, b0 = { fn := f, tmps := #[], todo := [], defers := [], mode := .run, kind := .normal, roundOf := none } := ⟨_, rfl⟩
          have henter : Frame.enter P f args' .normal = Fat b0 { tmps := args' ++ Array.replicate (fn.ntmps - args'.size) undef, defers := [] } [.code c] := by
            simp [Frame.enter, Fat, hf, hb, hb0]
          have hro : b0.roundOf = none := by rw [hb0]
          have hF : RF σ (Fm.enter fn args) { tmps := args' ++ Array.replicate (fn.ntmps - args'.size) undef, defers := [] } b0 := by
            refine ⟨⟨by simp [Fm.enter, hlen], fun t v hv => ?_⟩, rfl, by simp only [Fm.enter, RRd]; exact hro⟩
            simp only [Fm.enter] at hv ⊢
            rw [Tri.get_ofList] at hv
            split at hv
            · rename_i hin
              simp only [Nat.sub_zero] at hv
              obtain ⟨x, hx, hr⟩ := ha.get hv
              refine ⟨by omega, ?_⟩
              have : (args' ++ Array.replicate (fn.ntmps - args'.size) undef).getD t undef = x := by
                rw [Array.getD_eq_getD_getElem?, Array.getElem?_append_left (by omega), ← Array.getElem?_toList, hx]; rfl
              rw [this]; exact hr
            · simp at hv
          obtain ⟨σ1, w1, a1, e1, hX, hR1, hP1, hF1, hA⟩ := (hs c _ st ex fm st1 hx σ w _ b0 [] cs hR hF).1
          rw [← henter] at hA
          have hkind : b0.kind = .normal := by rw [hb0]
          have hfn : b0.fn = f := by rw [hb0]
          -- at the end
          have fin : ∀ (pv : Option V) (md : FrameMode) (todo : List Item), RMode σ1 pv md → Steps P (lone (Frame.enter P f args' .normal) cs w) (lone { b0 with tmps := a1.tmps, todo := todo, defers := a1.defers, mode := md } cs w1) →
              (match unwindF (dcallF P self) fm.df pv st1 with
                | some (some v, st') => some (CR.panic v, st')
                | some (none, st') => match resultsV P st' fm fn.results.toList with
                  | some vs => some (.ok (tupleV vs), st')
                  | none => none
                | none => none) = some (r, st') →
              ∃ σ' w' fr, Rel W0 σ' st' w' ∧ Post σ st σ' st' ∧ Steps P (lone (Frame.enter P f args' .normal) cs w) (lone fr cs w') ∧ fr.fn = f ∧
                ((∃ v z, r = .ok v ∧ RV σ' v z ∧ fr.leaving P w' (.returned z)) ∨
                (∃ v z, r = .panic v ∧ RV σ' v z ∧ fr.leaving P w' (.panicked [{ v := z, recovered := false }]))) := by
            intro pv md todo hm hst hh
            split at hh
            · rename_i v st2 hu
              cases hh
              obtain ⟨σ2, w2, md2, r2, p2, hm2, s2⟩ := unwindF_sound hs (b := b0) (cs := cs) (tmps := a1.tmps) (todo := todo) fm.df pv _ st1 _ hu σ1 w1 a1.defers md hR1 hF1.df hm
              obtain ⟨z, rz, rfl⟩ := hm2
              exact ⟨σ2, w2, _, r2, hP1.trans p2, hst.trans s2, hfn, .inr ⟨_, z, rfl, rz, rfl, rfl, fn, by simp only; rw [hfn]; exact hf⟩⟩
            · rename_i st2 hu
              split at hh
              · rename_i vs hrs
                cases hh
                obtain ⟨σ2, w2, md2, r2, p2, hm2, s2⟩ := unwindF_sound hs (b := b0) (cs := cs) (tmps := a1.tmps) (todo := todo) fm.df pv _ st1 _ hu σ1 w1 a1.defers md hR1 hF1.df hm
                simp only [RMode] at hm2; subst hm2
                obtain ⟨z, ez, rz⟩ := run_results r2 (hF1.tm.mono p2.le) hrs
                exact ⟨σ2, w2, _, r2, hP1.trans p2, hst.trans s2, hfn, .inl ⟨_, z, rfl, rz, rfl, rfl, hkind, fn, by simp only; rw [hfn]; exact hf, ez⟩⟩
              · cases hh
            · cases hh
          cases ex with
          | exit id => simp [leaveF] at h
          | normal =>
            simp only [RX] at hX; subst hX
            simp only [leaveF] at h
            simp only [Arr] at hA
            obtain ⟨σ', w', fr, q1, q2, q3, q4, q5⟩ := fin none .returning [] rfl (hA.trans (.one (step_lone_go (by simp [stepG, stepG.exec, Fat, hro])))) h
            rcases q5 with ⟨v', z', rfl, q6, q7⟩ | ⟨v', z', rfl, q6, q7⟩ <;> exact ⟨σ', w', fr, q1, q2, q3, q4, z', q6, q7⟩
          | ret =>
            simp only [RX] at hX; subst hX
            simp only [leaveF] at h
            simp only [Arr] at hA
            obtain ⟨k0, hA⟩ := hA
            obtain ⟨σ', w', fr, q1, q2, q3, q4, q5⟩ := fin none .returning (.code .ret :: k0) rfl (hA.trans (.one (step_lone_go (by simp [stepG, stepG.exec, Fat, hro])))) h
            rcases q5 with ⟨v', z', rfl, q6, q7⟩ | ⟨v', z', rfl, q6, q7⟩ <;> exact ⟨σ', w', fr, q1, q2, q3, q4, z', q6, q7⟩
          | panic v =>
            simp only [RX] at hX
            obtain ⟨z, rz, rfl⟩ := hX
            simp only [leaveF] at h
            simp only [Arr] at hA
            obtain ⟨todo, hA⟩ := hA
            obtain ⟨σ', w', fr, q1, q2, q3, q4, q5⟩ := fin (some v) _ todo ⟨z, rz, rfl⟩ hA h
            rcases q5 with ⟨v', z', rfl, q6, q7⟩ | ⟨v', z', rfl, q6, q7⟩ <;> exact ⟨σ', w', fr, q1, q2, q3, q4, z', q6, q7⟩
      · cases h
    · cases h
end Go.Proofs.Ytepkbpdldghjnaa.Ev

namespace Go.Proofs.Ytepkbpdldghjnaa.Ev
open Go Go.RowKit

theorem run_getObj_loop {P : Program} {w : World} {r : Nat} {l : Loop} (h : w.heap[r]? = some (.loop l)) : (Instr.getLoop r).run P w = .ok l w := by
  simp [Instr.getLoop, getObj, Sem.run, h]
theorem run_setObj_loop {P : Program} {w : World} {r : Nat} {l : Loop} (h : w.heap[r]? = some (.loop l)) (o : Obj) :
    (setObj r o).run P w = .ok () { w with heap := w.heap.setIfInBounds r o } := by
  simp [setObj, Sem.run, h]

theorem setParams_sound {σ : Sg} : ∀ (ps : List Tmp) (vs : List V) (t t' : Tri V) (n : Nat) (xs : List Value) (a : Array Value), setParams ps vs t n = some t' → RVs σ vs xs → RT σ n t a →
    RT σ n t' ((ps.zip xs).foldl (fun tmps (p : Tmp × Value) => tmps.setIfInBounds p.1 p.2) a) ∧ xs.length = ps.length
  | [], [], t, t', n, xs, a, h, hx, ht => by
    simp only [setParams, Option.some.injEq] at h; subst h
    simp only [RVs] at hx; subst hx
    exact ⟨ht, rfl⟩
  | [], _ :: _, t, t', n, xs, a, h, hx, ht => by simp [setParams] at h
  | _ :: _, [], t, t', n, xs, a, h, hx, ht => by simp [setParams] at h
  | p :: ps, v :: vs, t, t', n, xs, a, h, hx, ht => by
    simp only [setParams] at h
    split at h
    · rename_i hle
      have hle := Nat.le_of_ble_eq_true hle
      simp only [RVs] at hx
      obtain ⟨x, r, rfl, h1, h2⟩ := hx
      have ht' : RT σ n (t.set p (some v)) (a.setIfInBounds p x) := by
        refine ⟨by simp [ht.1], fun s u hs => ?_⟩
        rw [Tri.get_set] at hs
        split at hs
        · rename_i e; subst e; obtain rfl := Option.some.inj hs
          refine ⟨by omega, ?_⟩
          rw [Array.getD_eq_getD_getElem?, Array.getElem?_setIfInBounds, if_pos rfl, if_pos (by rw [ht.1]; omega)]; exact h1
        · rename_i e
          obtain ⟨c1, c2⟩ := ht.2 s u hs
          refine ⟨c1, ?_⟩
          rw [Array.getD_eq_getD_getElem?, Array.getElem?_setIfInBounds, if_neg (Ne.symm e), ← Array.getD_eq_getD_getElem?]; exact c2
      obtain ⟨k1, k2⟩ := setParams_sound ps vs _ t' n r _ h h2 ht'
      exact ⟨by simpa using k1, by simp [k2]⟩
    · cases h

theorem XOk.yields {P : Program} {W0 : World} {self : SF} (hs : SOk P W0 self) : YFok P W0 (yieldF self) := by
  intro l args st r st' h
  unfold yieldF at h
  split at h
  · rename_i stt pe0 n tm ps as bd d hg
    split at h
    · cases h
    · rename_i tm' hset
      split at h
      · rename_i fm1 st1 hx1
        split at h
        · rename_i pe n1 tm1 ps1 as1 bd1 d1 hg1
          split at h
          · rename_i ex fm2 st2 hx2
            split at h
            · rename_i hdf
              intro σ w args' p hR hp ha
              have ho := hR.obj l p _ hp hg
              simp only [ObjOk] at ho
              obtain ⟨fn, tmps, q, hh, hq, hT, hb0⟩ := ho
              obtain ⟨hT', hlen⟩ := setParams_sound ps.toList args tm tm' n args'.toList tmps hset ha hT
              refine ⟨fn, (ps.zip args').foldl (fun tmps (t, a) => tmps.setIfInBounds t a) tmps, as, bd, ?_, fun c cs hc => ?_⟩
              · have hsz : args'.size = ps.size := by simpa using hlen
                simp [Instr.yield, run_getObj_loop hh, hsz]
              · obtain ⟨tm0, htm0⟩ : ∃ tm0, tm0 = (ps.zip args').foldl (fun tmps (t, a) => tmps.setIfInBounds t a) tmps := ⟨_, rfl⟩
                rw [← htm0]
                have htm0' : tm0 = (ps.toList.zip args'.toList).foldl (fun tmps (p : Tmp × Value) => tmps.setIfInBounds p.1 p.2) tmps := by
                  rw [htm0, ← Array.toList_zip, Array.foldl_toList]
                obtain ⟨b0, hb0'⟩ : ∃ b0 : Frame, b0 = { fn := fn, tmps := #[], todo := [], defers := [], mode := .run, kind := .normal, roundOf := some p.blk } := ⟨_, rfl⟩
                have henter : Frame.round p.blk fn tm0 as bd .normal = Fat b0 { tmps := tm0, defers := [] } [.code as, .beginRound, .code bd] := by
                  simp [Frame.round, Fat, hb0']
                have hro : b0.roundOf = some p.blk := by rw [hb0']
                have hF : RF σ { n := n, tm := tm', df := [], rd := some l } { tmps := tm0, defers := [] } b0 :=
                  ⟨by rw [htm0']; exact hT', rfl, by simp only [RRd]; exact ⟨p, hp, hro⟩⟩
                obtain ⟨σ1, w1, a1, e1, hX1, hR1, hP1, hF1, hA1⟩ := (hs as _ st _ fm1 st1 hx1 σ w _ b0 [.beginRound, .code bd] (c :: cs) hR hF).1
                simp only [RX] at hX1; subst hX1
                simp only [Arr] at hA1
                rw [← henter] at hA1
                have hp1 := hP1.le _ _ hp
                have ho1 := hR1.obj l p _ hp1 hg1
                simp only [ObjOk] at ho1
                obtain ⟨fn1, tmps1, q1, hh1, hq1, hT1, hb1⟩ := ho1
                have hbk := hR1.blk l p hp1
                obtain ⟨hR2, hP2⟩ := obj_turn (o' := .loop .busy pe n1 tm1 ps1 as1 bd1 d1) (ob := .loop { state := .busy, pending := pe, fn := fn1, tmps := tmps1, params := ps1, assign := as1, body := bd1, defers := q1.blk }) hR1 hp1 hg1 (by intros; simp) (by
                  simp only [ObjOk]; exact ⟨fn1, tmps1, q1, by rw [Array.getElem?_setIfInBounds, if_pos rfl, if_pos hbk.2], hq1, hT1, hb1⟩)
                have hbegin : step P (lone (Fat b0 a1 [.beginRound, .code bd]) (c :: cs) w1) =
                    .next (lone (Fat b0 a1 [.code bd]) (c :: cs) { w1 with heap := w1.heap.setIfInBounds p.blk (.loop { state := .busy, pending := pe, fn := fn1, tmps := tmps1, params := ps1, assign := as1, body := bd1, defers := q1.blk }) }) := by
                  refine step_lone_go ?_
                  have hbr : (Instr.beginRound p.blk).run P w1 = .ok () { w1 with heap := w1.heap.setIfInBounds p.blk (.loop { state := .busy, pending := pe, fn := fn1, tmps := tmps1, params := ps1, assign := as1, body := bd1, defers := q1.blk }) } := by
                    simp [Instr.beginRound, run_getObj_loop hh1, run_setObj_loop hh1]
                  simp [stepG, stepG.exec, stepG.apply, Fat, hro, hbr, Frame.finish]
                obtain ⟨σ3, w3, a3, e3, hX3, hR3, hP3, hF3, hA3⟩ := (hs bd _ _ ex fm2 st2 hx2 σ1 _ a1 b0 [] (c :: cs) hR2 hF1).1
                have hsteps : ∀ {M : Machine}, Steps P (lone (Fat b0 a1 [.code bd]) (c :: cs) { w1 with heap := w1.heap.setIfInBounds p.blk (.loop { state := .busy, pending := pe, fn := fn1, tmps := tmps1, params := ps1, assign := as1, body := bd1, defers := q1.blk }) }) M →
                    Steps P (lone (Frame.round p.blk fn tm0 as bd .normal) (c :: cs) w) M := fun h => hA1.trans (.head hbegin h)
                have hdf3 : a3.defers = [] := by have := hF3.df; rw [hdf] at this; simpa [RDs] using this
                have hp3 := hP3.le _ _ hp1
                -- the round's end
                have key : ∀ (jump : Option Code) (todo : List Item), roundEnd st2 l jump = some (r, st') →
                    (∀ (v : Value) (w' : World), (Instr.endRound p.blk jump).run P w3 = .ok v w' → step P (lone (Fat b0 a3 todo) (c :: cs) w3) = .next (lone (c.finish v) cs w')) →
                    Steps P (lone (Fat b0 a1 [.code bd]) (c :: cs) { w1 with heap := w1.heap.setIfInBounds p.blk (.loop { state := .busy, pending := pe, fn := fn1, tmps := tmps1, params := ps1, assign := as1, body := bd1, defers := q1.blk }) }) (lone (Fat b0 a3 todo) (c :: cs) w3) →
                    ∃ σ' w', Rel W0 σ' st' w' ∧ Post σ st σ' st' ∧ ∃ v, r = .ok v ∧ ∃ z, RV σ' v z ∧ Steps P (lone (Frame.round p.blk fn tm0 as bd .normal) (c :: cs) w) (lone (c.finish z) cs w') := by
                  intro jump todo hre hst hsub
                  unfold roundEnd at hre
                  split at hre
                  · rename_i s4 p4 n4 tm4 ps4 as4 bd4 d4 hg4
                    cases hre
                    have ho4 := hR3.obj l p _ hp3 hg4
                    simp only [ObjOk] at ho4
                    obtain ⟨fn4, tmps4, q4, hh4, hq4, hT4, hb4⟩ := ho4
                    have hbk4 := hR3.blk l p hp3
                    obtain ⟨hR5, hP5⟩ := obj_turn (o' := .loop (if jump.isNone then .ready else .done) jump n4 tm4 ps4 as4 bd4 d4) (ob := .loop { state := if jump.isNone then .ready else .done, pending := jump, fn := fn4, tmps := tmps4, params := ps4, assign := as4, body := bd4, defers := q4.blk }) hR3 hp3 hg4 (by intros; simp) (by
                      simp only [ObjOk]; exact ⟨fn4, tmps4, q4, by rw [Array.getElem?_setIfInBounds, if_pos rfl, if_pos hbk4.2], hq4, hT4, hb4⟩)
                    have her : (Instr.endRound p.blk jump).run P w3 = .ok (.bool jump.isNone) { w3 with heap := w3.heap.setIfInBounds p.blk (.loop { state := if jump.isNone then .ready else .done, pending := jump, fn := fn4, tmps := tmps4, params := ps4, assign := as4, body := bd4, defers := q4.blk }) } := by
                      simp [Instr.endRound, run_getObj_loop hh4, run_setObj_loop hh4]
                    exact ⟨σ3, _, hR5, hP1.trans (hP2.trans (hP3.trans hP5)), _, rfl, .bool jump.isNone, by simp only [RV], hsteps (hsub.trans (.one (hst _ _ her)))⟩
                  · cases hre
                have done : (∃ σ' w', Rel W0 σ' st' w' ∧ Post σ st σ' st' ∧ ∃ v, r = .ok v ∧ ∃ z, RV σ' v z ∧ Steps P (lone (Frame.round p.blk fn tm0 as bd .normal) (c :: cs) w) (lone (c.finish z) cs w')) := by
                  cases ex with
                  | normal =>
                    simp only [RX] at hX3; subst hX3
                    simp only [Arr] at hA3
                    simp only at h
                    refine key none [] h (fun v w' hr => ?_) hA3
                    refine step_lone_go ?_
                    simp [stepG, stepG.exec, Fat, hro, Sem.runT_eq, hr, doReturn, hb0']
                  | ret =>
                    simp only [RX] at hX3; subst hX3
                    simp only [Arr] at hA3
                    obtain ⟨k0, hA3⟩ := hA3
                    simp only at h
                    refine key (some .ret) (.code .ret :: k0) h (fun v w' hr => ?_) hA3
                    refine step_lone_go ?_
                    simp [stepG, stepG.exec, Fat, hro, Sem.runT_eq, hr, doReturn, hb0']
                  | exit id =>
                    simp only [RX] at hX3; subst hX3
                    simp only [Arr] at hA3
                    obtain ⟨k0, hk0, hA3⟩ := hA3
                    simp only at h
                    refine key (some (.exit id)) (.code (.exit id) :: k0) h (fun v w' hr => ?_) hA3
                    refine step_lone_go ?_
                    have hk0' : exitTo id k0 = none := hk0
                    simp [stepG, stepG.exec, Fat, hro, Sem.runT_eq, hr, doReturn, hb0', hk0']
                  | panic v => cases h
                obtain ⟨σ', w', g1, g2, v, rfl, g3⟩ := done
                exact ⟨σ', w', g1, g2, g3⟩
            · cases h
          · cases h
        · cases h
      · cases h
  · cases h
end Go.Proofs.Ytepkbpdldghjnaa.Ev

namespace Go.Proofs.Ytepkbpdldghjnaa.Ev
open Go Go.RowKit

theorem XOk.seq {P : Program} {W0 : World} {σ : Sg} {st : St} {m : Machine} {b : Frame} {x : Item} {k : List Item} {cs : List Frame} {fm1 : Fm} {st1 : St} {ex : Ex} {fm' : Fm} {st' : St}
    (h : XOk P W0 σ st m b (x :: k) cs .normal fm1 st1)
    (hn : ∀ σ1 w1 a1, Rel W0 σ1 st1 w1 → RF σ1 fm1 a1 b → XOk P W0 σ1 st1 (lone (Fat b a1 (x :: k)) cs w1) b k cs ex fm' st') : XOk P W0 σ st m b k cs ex fm' st' := by
  obtain ⟨σ1, w1, a1, e1, h1, h2, h3, h4, h5⟩ := h
  simp only [RX] at h1; subst h1
  exact XOk.of_steps h5 h3 (hn σ1 w1 a1 h2 h4)

theorem XOk.past {P : Program} {W0 : World} {σ : Sg} {st : St} {m : Machine} {b : Frame} {x : Item} {k : List Item} {cs : List Frame} {ex : Ex} {fm' : Fm} {st' : St} (hx : ∀ id, x ≠ .inBlock id) (he : ex ≠ .normal)
    (h : XOk P W0 σ st m b (x :: k) cs ex fm' st') : XOk P W0 σ st m b k cs ex fm' st' := by
  obtain ⟨σ1, w1, a1, e1, h1, h2, h3, h4, h5⟩ := h
  refine ⟨σ1, w1, a1, e1, h1, h2, h3, h4, .past hx ?_ h5⟩
  cases ex <;> simp only [RX] at h1
  · exact absurd rfl he
  · subst h1; simp
  · subst h1; simp
  · obtain ⟨_, _, rfl⟩ := h1; simp

theorem range_sound {P : Program} {W0 : World} {cf : CF} (hcf : CFok P W0 cf) {f : Operand} {ps : Array Tmp} {as bd : Code} {fm fm' : Fm} {st st' : St} {ex : Ex} (h : rangeF cf (fm.rho f) ps as bd fm st = some (ex, fm', st'))
    {σ : Sg} {w : World} {a : Act} {b : Frame} {k : List Item} {cs : List Frame} (hR : Rel W0 σ st w) (hF : RF σ fm a b) :
    XOk P W0 σ st (lone (Fat b a (.code (.rangeFunc f ps as bd) :: k)) cs w) b k cs ex fm' st' := by
  have hfr := hR.fresh
  -- from the loop's object on
  have go : ∀ (l : Nat) (fm1 : Fm) (st1 : St) (σ1 : Sg) (w1 : World) (a1 : Act) (p : Pl), rangeGo cf (fm.rho f) l fm1 st1 = some (ex, fm', st') → Rel W0 σ1 st1 w1 → RF σ1 fm1 a1 b → σ1 l = some p → a1.tmps = a.tmps → Post σ st σ1 st1 →
      (∀ nx w', (do let d ← resolve a.eval { callee := .value f, args := #[.const (.func (.yield p.blk) #[] #[])], argTypes := #[] } 0; invoke d.target d.args : Sem Next).run P w1 = .ok (.enter nx w') w1 →
        step P (lone (Fat b a (.code (.rangeFunc f ps as bd) :: k)) cs w) = .next (lone (Frame.enter P nx w' .normal) (Fat b a1 (.inRangeFunc p.blk :: k) :: cs) w1)) →
      XOk P W0 σ st (lone (Fat b a (.code (.rangeFunc f ps as bd) :: k)) cs w) b k cs ex fm' st' := by
    intro l fm1 st1 σ1 w1 a1 p hgo hR1 hF1 hp hta hP1 hstep
    unfold rangeGo at hgo
    split at hgo
    · rename_i g first cap hf
      have hfv := Fm.rho_sound (σ := σ) hF.tm f _ hf
      have hfv := RV.mono hP1.le _ _ hfv
      simp only [RV] at hfv
      obtain ⟨f', c', e, h1, h2⟩ := hfv
      have hargs : RVs σ1 (first ++ [.yield l] ++ cap) (f' ++ #[Value.func (.yield p.blk) #[] #[]] ++ c').toList := by
        rw [Array.toList_append, Array.toList_append]
        refine (h1.append ?_).append h2
        simp only [RVs, RV]; exact ⟨_, [], rfl, ⟨p, hp, rfl⟩, rfl⟩
      have hres : ∀ nx, (callFunc g (f' ++ #[Value.func (.yield p.blk) #[] #[]] ++ c')).run P w1 = .ok nx w1 →
          (do let d ← resolve a.eval { callee := .value f, args := #[.const (.func (.yield p.blk) #[] #[])], argTypes := #[] } 0; invoke d.target d.args : Sem Next).run P w1 = .ok nx w1 := by
        intro nx hnx
        have ec : a.eval (.const (.func (.yield p.blk) #[] #[])) = .func (.yield p.blk) #[] #[] := rfl
        simp only [resolve, e, Deferred.ofValue, Sem.run_bind, Sem.run_pure, Result.andThen_ok, invoke, List.map_toArray, List.map_cons, List.map_nil, ec]
        exact hnx
      split at hgo
      · rename_i v st2 hcall
        obtain ⟨k1, k2⟩ := hcf _ _ _ _ _ hcall σ1 w1 _ hR1 hargs
        obtain ⟨σ2, w2, fr, hR2, hP2, hst2, hfn2, z, hz, hleave⟩ := k2 (Fat b a1 (.inRangeFunc p.blk :: k) :: cs)
        have s1 := hstep _ _ (hres _ (k1 w1))
        have s2 := step_leave_returned (c := Fat b a1 (.inRangeFunc p.blk :: k)) (cs := cs) hleave
        have hfin : (Fat b a1 (.inRangeFunc p.blk :: k)).finish z = Fat b a1 (.endRangeFunc p.blk :: k) := by simp [Frame.finish, Fat]
        rw [hfin] at s2
        split at hgo
        · rename_i sst pe n tm ps' as' bd' d hg
          have hp2 := hP2.le _ _ hp
          have ho := hR2.obj l p _ hp2 hg
          simp only [ObjOk] at ho
          obtain ⟨fn, tmps, q, hh, hq, hT, hb0⟩ := ho
          have hbk := hR2.blk l p hp2
          have hnb : sst ≠ .busy := by rintro rfl; simp only at hgo; cases hgo
          obtain ⟨hR3, hP3⟩ := obj_turn (o' := .loop .exhausted pe n tm ps' as' bd' d) (ob := .loop { state := .exhausted, pending := pe, fn := fn, tmps := tmps, params := ps', assign := as', body := bd', defers := q.blk }) hR2 hp2 hg (by intros; simp) (by
            simp only [ObjOk]; exact ⟨fn, tmps, q, by rw [Array.getElem?_setIfInBounds, if_pos rfl, if_pos hbk.2], hq, hT, hb0⟩)
          have hend : (Instr.endLoop p.blk).run P w2 = .ok pe { w2 with heap := w2.heap.setIfInBounds p.blk (.loop { state := .exhausted, pending := pe, fn := fn, tmps := tmps, params := ps', assign := as', body := bd', defers := q.blk }) } := by
            simp [Instr.endLoop, run_getObj_loop hh, run_setObj_loop hh]
            intro hx; exact absurd hx hnb
          have s3 : step P (lone (Fat b a1 (.endRangeFunc p.blk :: k)) cs w2) = .next (lone (Fat b a1 ((pe.map Item.code).toList ++ k)) cs { w2 with heap := w2.heap.setIfInBounds p.blk (.loop { state := .exhausted, pending := pe, fn := fn, tmps := tmps, params := ps', assign := as', body := bd', defers := q.blk }) }) := by
            refine step_lone_go ?_
            simp [stepG, stepG.exec, Fat, Sem.runT_eq, hend]
          have hall : Steps P (lone (Fat b a (.code (.rangeFunc f ps as bd) :: k)) cs w) (lone (Fat b a1 ((pe.map Item.code).toList ++ k)) cs { w2 with heap := w2.heap.setIfInBounds p.blk (.loop { state := .exhausted, pending := pe, fn := fn, tmps := tmps, params := ps', assign := as', body := bd', defers := q.blk }) }) :=
            .head s1 (hst2.trans (.head s2 (.one s3)))
          have hF3 := (hF1.mono hP2.le).mono hP3.le
          have hPP := hP1.trans (hP2.trans hP3)
          split at hgo
          · exact absurd rfl hnb
          · split at hgo <;> cases hgo
            · exact ⟨σ2, _, a1, .normal, rfl, hR3, hPP, hF3, hall⟩
            · exact ⟨σ2, _, a1, .ret, rfl, hR3, hPP, hF3, k, hall⟩
            · exact ⟨σ2, _, a1, .exit _, rfl, hR3, hPP, hF3, k, rfl, hall⟩
        · cases hgo
      · rename_i v st2 hcall
        cases hgo
        obtain ⟨k1, k2⟩ := hcf _ _ _ _ _ hcall σ1 w1 _ hR1 hargs
        obtain ⟨σ2, w2, fr, hR2, hP2, hst2, hfn2, z, hz, hleave⟩ := k2 (Fat b a1 (.inRangeFunc p.blk :: k) :: cs)
        have s1 := hstep _ _ (hres _ (k1 w1))
        have s2 := step_leave_panicked (c := Fat b a1 (.inRangeFunc p.blk :: k)) (cs := cs) hleave
        refine ⟨σ2, w2, a1, .panic [{ v := z, recovered := false }], ?_, hR2, hP1.trans hP2, hF1.mono hP2.le, .inRangeFunc p.blk :: k, .head s1 (hst2.trans (.one s2))⟩
        simp only [RX]; exact ⟨z, hz, rfl⟩
      · cases hgo
    · cases hgo
  unfold rangeF at h
  split at h
  · rename_i hrd
    have hro : b.roundOf = none := by have := hF.rd; unfold RRd at this; rw [hrd] at this; exact this
    simp only at h
    have hA1 := hR.add (.dfr false)
    have hPl1 := hA1.place (x := st.next) (ob := .deferred (some [])) (tot := 0) (by simp [St.add]) hfr (by simp only [St.add]; rw [Tri.get_set, if_pos rfl]) (by
      simp only [ObjOk]; exact ⟨heap_push_eq _ _, trivial⟩)
    have hfr1 := hPl1.fresh
    have hA2 := hPl1.add (.loop .ready none fm.n fm.tm ps as bd st.next)
    have hbk : (w.heap.push (Obj.deferred (some []))).size = w.heap.size + 1 := by simp
    have hPl2 := hA2.place (x := (st.add (.dfr false)).next) (tot := 0) (ob := .loop { state := .ready, pending := none, fn := b.fn, tmps := a.tmps, params := ps, assign := as, body := bd, defers := w.heap.size }) (by simp [St.add]) hfr1 (by simp only [St.add]; rw [Tri.get_set, if_pos rfl]) (by
      simp only [ObjOk]
      refine ⟨b.fn, a.tmps, ⟨w.heap.size, 0, 0⟩, heap_push_eq { w with heap := w.heap.push (Obj.deferred (some [])) } _, ?_, ?_, trivial⟩
      · rw [Sg.put_ne (by simp [St.add])]; exact Sg.put_same _ _ _
      · exact (hF.tm.mono (Sg.le_put hfr)).mono (Sg.le_put hfr1))
    refine go (st.add (.dfr false)).next _ _ _ _ { a with defers := { target := .collected w.heap.size, args := #[] } :: a.defers } _ h hPl2 ?_ (Sg.put_same _ _ _) rfl ((Post.put hfr).trans (Post.put hfr1)) ?_
    · refine ⟨(hF.tm.mono (Sg.le_put hfr)).mono (Sg.le_put hfr1), ?_, ?_⟩
      · simp only [RDs]
        refine ⟨_, _, rfl, ?_, (hF.df.mono (Sg.le_put hfr)).mono (Sg.le_put hfr1)⟩
        simp only [RD]
        exact ⟨⟨w.heap.size, 0, 0⟩, by rw [Sg.put_ne (by simp [St.add])]; exact Sg.put_same _ _ _, rfl⟩
      · simp only [RRd]; rw [hrd]; exact hro
    · intro nx args' hnx
      refine step_lone_go ?_
      have hel : (Instr.enterLoop b.fn a.tmps ps as bd none).run P w = .ok (w.heap.size + 1, [{ target := .collected w.heap.size, args := #[] }])
          { w with heap := (w.heap.push (.deferred (some []))).push (.loop { state := .ready, pending := none, fn := b.fn, tmps := a.tmps, params := ps, assign := as, body := bd, defers := w.heap.size }) } := by
        simp [Instr.enterLoop]; rfl
      have hev : ∀ (x : Frame), x.tmps = a.tmps → x.eval = a.eval := by
        intro x hx; funext y; cases y <;> simp [Frame.eval, Act.eval, hx]
      simp only [stepG, stepG.exec, Fat, hro, Sem.runT_eq, hel, GStep.bare_after]
      simp only [stepG.apply, Sem.runT_eq, if_true]
      rw [hev _ rfl]
      simp only [hbk] at hnx
      rw [hnx]
      simp [hbk]
  · rename_i l0 hrd
    split at h
    · rename_i s0 pe0 n0 tm0 ps0 as0 bd0 d0 hg0
      obtain ⟨p0, hp0, hro⟩ : ∃ p, σ l0 = some p ∧ b.roundOf = some p.blk := by have := hF.rd; unfold RRd at this; rw [hrd] at this; exact this
      have ho0 := hR.obj l0 p0 _ hp0 hg0
      simp only [ObjOk] at ho0
      obtain ⟨fn0, tmps0, q0, hh0, hq0, _, _⟩ := ho0
      have hA2 := hR.add (.loop .ready none fm.n fm.tm ps as bd d0)
      have hPl2 := hA2.place (x := st.next) (tot := 0) (ob := .loop { state := .ready, pending := none, fn := b.fn, tmps := a.tmps, params := ps, assign := as, body := bd, defers := q0.blk }) (by simp [St.add]) hfr (by simp only [St.add]; rw [Tri.get_set, if_pos rfl]) (by
        simp only [ObjOk]
        refine ⟨b.fn, a.tmps, q0, heap_push_eq _ _, Sg.le_put hfr _ _ hq0, hF.tm.mono (Sg.le_put hfr), trivial⟩)
      refine go st.next fm _ _ _ a _ h hPl2 (hF.mono (Sg.le_put hfr)) (Sg.put_same _ _ _) rfl (Post.put hfr) ?_
      intro nx args' hnx
      refine step_lone_go ?_
      have hel : (Instr.enterLoop b.fn a.tmps ps as bd (some p0.blk)).run P w = .ok (w.heap.size, [])
          { w with heap := w.heap.push (.loop { state := .ready, pending := none, fn := b.fn, tmps := a.tmps, params := ps, assign := as, body := bd, defers := q0.blk }) } := by
        simp [Instr.enterLoop, run_getObj_loop hh0]
      have hev : ∀ (x : Frame), x.tmps = a.tmps → x.eval = a.eval := by
        intro x hx; funext y; cases y <;> simp [Frame.eval, Act.eval, hx]
      simp only [stepG, stepG.exec, Fat, hro, Sem.runT_eq, hel, GStep.bare_after]
      simp only [stepG.apply, Sem.runT_eq, if_true]
      rw [hev _ rfl]
      rw [hnx]
      simp
    · cases h

theorem run_sound (P : Program) (W0 : World) {pt : SF → CF → CF} (hpt : ∀ self cf, SOk P W0 self → CFok P W0 cf → CFok P W0 (pt self cf)) : ∀ n, SOk P W0 (run P pt n) := by
  intro n
  induction n with
  | zero => intro code fm st ex fm' st' h; simp [run] at h
  | succ n ih =>
    have hcf := hpt _ _ ih (XOk.calls ih)
    have hyf := XOk.yields ih
    intro code fm st ex fm' st' h σ w a b k cs hR hF
    simp only [run] at h
    unfold exec at h
    split at h
    case h_1 => cases h; exact ⟨⟨σ, w, a, .normal, rfl, hR, .refl _ _, hF, .one s_skip⟩, by intro c hc; cases hc⟩
    case h_2 => cases h; exact ⟨⟨σ, w, a, .normal, rfl, hR, .refl _ _, hF, .one s_label⟩, by intro c hc; cases hc⟩
    case h_3 id => cases h; exact ⟨⟨σ, w, a, .exit id, rfl, hR, .refl _ _, hF, k, rfl, .refl _ _⟩, by intro c hc; cases hc⟩
    case h_4 => cases h; exact ⟨⟨σ, w, a, .ret, rfl, hR, .refl _ _, hF, k, .refl _ _⟩, by intro c hc; cases hc⟩
    case h_5 x y =>
      refine ⟨XOk.of_steps (.one s_seq) (.refl _ _) ?_, by intro c hc; cases hc⟩
      split at h
      · rename_i fm1 st1 h1
        exact XOk.seq (ih x fm st _ _ _ h1 σ w a b (.code y :: k) cs hR hF).1 fun σ1 w1 a1 r1 f1 => (ih y fm1 st1 _ _ _ h σ1 w1 a1 b k cs r1 f1).1
      · rename_i hne
        refine XOk.past (x := .code y) (by simp) (fun e => ?_) (ih x fm st _ _ _ h σ w a b (.code y :: k) cs hR hF).1
        subst e; exact hne _ _ h
    case h_6 c x y =>
      split at h
      · rename_i hc
        have hcv := Fm.rho_sound hF.tm c _ hc
        simp only [RV] at hcv
        exact ⟨XOk.of_steps (.one (s_cond hcv)) (.refl _ _) (ih x fm st _ _ _ h σ w a b k cs hR hF).1, by intro c hc; cases hc⟩
      · rename_i hc
        have hcv := Fm.rho_sound hF.tm c _ hc
        simp only [RV] at hcv
        exact ⟨XOk.of_steps (.one (s_cond hcv)) (.refl _ _) (ih y fm st _ _ _ h σ w a b k cs hR hF).1, by intro c hc; cases hc⟩
      · cases h
    case h_7 id x =>
      refine ⟨XOk.of_steps (.one s_block) (.refl _ _) ?_, by intro c hc; cases hc⟩
      split at h
      · rename_i i fm1 st1 h1
        obtain ⟨σ1, w1, a1, e1, g1, g2, g3, g4, g5⟩ := (ih x fm st _ _ _ h1 σ w a b (.inBlock id :: k) cs hR hF).1
        simp only [RX] at g1; subst g1
        obtain ⟨k0, hk0, hs⟩ := g5
        split at h
        · rename_i hid
          cases h
          have hid := Nat.eq_of_beq_eq_true hid
          subst hid
          have : exitTo i k0 = some k := by rw [hk0]; simp [exitTo]
          exact ⟨σ1, w1, a1, .normal, rfl, g2, g3, g4, hs.trans (.one (s_exit this))⟩
        · rename_i hid
          cases h
          have hid := Nat.ne_of_beq_eq_false hid
          refine ⟨σ1, w1, a1, .exit i, rfl, g2, g3, g4, k0, hk0.trans ?_, hs⟩
          have : (id == i) = false := by simp; omega
          simp [exitTo, this]
      · rename_i hne
        obtain ⟨σ1, w1, a1, e1, g1, g2, g3, g4, g5⟩ := (ih x fm st _ _ _ h σ w a b (.inBlock id :: k) cs hR hF).1
        cases ex with
        | normal =>
          simp only [RX] at g1; subst g1
          exact ⟨σ1, w1, a1, .normal, rfl, g2, g3, g4, Steps.trans g5 (.one s_inBlock)⟩
        | exit i => exact absurd h (hne _ _ _)
        | ret => simp only [RX] at g1; subst g1; exact ⟨σ1, w1, a1, .ret, rfl, g2, g3, g4, g5⟩
        | panic v =>
          simp only [RX] at g1
          obtain ⟨z, hz, rfl⟩ := g1
          refine ⟨σ1, w1, a1, .panic [{ v := z, recovered := false }], ?_, g2, g3, g4, g5⟩
          simp only [RX]; exact ⟨z, hz, rfl⟩
    case h_8 x =>
      refine ⟨XOk.of_steps (.one s_scope) (.refl _ _) ?_, by intro c hc; cases hc⟩
      have hx := (ih x fm st _ _ _ h σ w a b (.inScope x :: k) cs hR hF).1
      by_cases he : ex = .normal
      · subst he
        exact XOk.seq hx fun σ1 w1 a1 r1 f1 => ⟨σ1, w1, a1, .normal, rfl, r1, .refl _ _, f1, .one s_inScope⟩
      · exact XOk.past (x := .inScope x) (by simp) he hx
    case h_9 x =>
      have main : ∀ m, (XOk P W0 σ st (lone (Fat b a (.code x :: .inLoop x :: k)) cs w) b k cs ex fm' st' → XOk P W0 σ st m b k cs ex fm' st') → XOk P W0 σ st m b k cs ex fm' st' := by
        intro m hm
        apply hm
        split at h
        · rename_i fm1 st1 h1
          exact XOk.seq (ih x fm st _ _ _ h1 σ w a b (.inLoop x :: k) cs hR hF).1 fun σ1 w1 a1 r1 f1 => (ih (.loop x) fm1 st1 _ _ _ h σ1 w1 a1 b k cs r1 f1).2 x rfl
        · rename_i hne
          refine XOk.past (x := .inLoop x) (by simp) (fun e => ?_) (ih x fm st _ _ _ h σ w a b (.inLoop x :: k) cs hR hF).1
          subst e; exact hne _ _ h
      refine ⟨main _ fun hx => XOk.of_steps (.one s_loop) (.refl _ _) hx, fun c hc => ?_⟩
      injection hc with hc; subst hc
      exact main _ fun hx => XOk.of_steps (.one s_inLoop) (.refl _ _) hx
    case h_10 id ops =>
      refine ⟨XOk.of_steps (.one s_region) (.refl _ _) ?_, by intro c hc; cases hc⟩
      have := seqOps_sound hcf hyf (b := b) (k := k) (cs := cs) ops.toList 0 fm st ex fm' st' (by simp) h σ w a hR hF
      rw [List.range_eq_range']
      simpa using this
    case h_11 id ops =>
      split at h
      · rename_i hm
        split at h
        · rename_i ord ms hp
          exact ⟨region_drawn hcf hyf hm hp h hR hF, by intro c hc; cases hc⟩
        · cases h
      · cases h
    case h_12 f ps as bd => exact ⟨range_sound hcf h hR hF, by intro c hc; cases hc⟩
    case h_13 => cases h

/-- a call of closed arguments, as the kernel reckons it -/
def answersAt (P : Program) (n : Nat) (s0 : St) (f : FuncId) (b : Bool) : Bool :=
  match callF P (run P noPt n) f [] s0 with
  | some (.ok (.bool c), _) => c == b
  | _ => false

def St.none : St := { next := 0, mem := .nil, glob := .nil }
def trueAt (P : Program) (n : Nat) (f : FuncId) : Bool := answersAt P n .none f true

theorem calls_answers {P : Program} {n : Nat} {s0 : St} {f : FuncId} {r : Bool} (h : answersAt P n s0 f r = true) (w : World) (hg : ∃ σ, Rel w σ s0 w) : Calls P f #[] w fun e w' => e = .returned (.bool r) ∧ Below w.heap.size w w' := by
  unfold answersAt at h
  split at h
  · rename_i c st' hc
    obtain rfl : c = r := by simpa using h
    intro cs
    obtain ⟨σ, hR⟩ := hg
    obtain ⟨_, k2⟩ := XOk.calls (run_sound P w (pt := noPt) (fun _ _ _ h => h) n) f [] _ _ _ hc σ w #[] hR (by simp [RVs])
    obtain ⟨σ', w', fr, r1, _, hst, hfn, z, hz, hl⟩ := k2 cs
    simp only [RV] at hz
    subst hz
    exact ⟨.returned (.bool c), w', fr, ⟨rfl, r1.below⟩, hst, hfn, hl⟩
  · cases h

theorem Rel.none (w : World) : Rel w (fun _ => Option.none) St.none w :=
  ⟨Below.refl _ _, (fun i p e => nomatch e), (fun i p e => nomatch e), (fun i p o e => nomatch e), (fun i j p q o o' _ e => nomatch e), fun g t k v e => by simp only [St.none] at e; rw [Tri.get_nil] at e; cases e⟩

theorem calls_true {P : Program} {n : Nat} {f : FuncId} (h : trueAt P n f = true) (w : World) : Calls P f #[] w fun e w' => e = .returned (.bool true) ∧ Below w.heap.size w w' :=
  calls_answers h w ⟨_, Rel.none w⟩
end Go.Proofs.Ytepkbpdldghjnaa.Ev

namespace Go.Proofs.Ytepkbpdldghjnaa.Ev
open Go Go.RowKit

/-! ### package-level tables, as a row lists them -/
def layParts (f : TypeId → DataW Unit → Option (List (Nat × V))) : List (TypeId × Nat) → List (DataW Unit) → Option (List (Nat × V))
  | [], _ => some []
  | (t, o) :: ps, d :: ds => match f t d with
    | some l => match layParts f ps ds with
      | some r => some (l.map (fun x => (o + x.1, x.2)) ++ r)
      | none => none
    | none => none
  | _, _ => none

def lay (P : Program) : Nat → TypeId → DataW Unit → Option (List (Nat × V))
  | 0, _, _ => none
  | fuel + 1, t, d => match P.underlying t with
    | some .bool => match d with
      | .lit (.bool b) => some [(0, .bool b)]
      | _ => none
    | some (.int _) => match d with
      | .lit (.int k n) => some [(0, .int k n)]
      | _ => none
    | some .string => match d with
      | .lit (.string s) => some [(0, .str (s.map UInt8.toNat))]
      | _ => none
    | some (.struct fs) => match d with
      | .agg ds => layParts (lay P fuel) (fs.toList.map fun f => (f.type, f.offset)) ds
      | _ => none
    | some (.array n e) => match d with
      | .agg ds => layParts (lay P fuel) ((List.range n).map fun i => (e, i * P.cellsOf e)) ds
      | _ => none
    | _ => none

def LayOk (l : List (Nat × V)) (cs : List Value) : Prop := ∀ k v, (k, v) ∈ l → v.isFlat = true ∧ ∃ x, cs[k]? = some x ∧ ∀ σ, RV σ v x

theorem mapM_cons_some {α β : Type} {f : α → Option β} {a : α} {l : List α} {r : List β} (h : (a :: l).mapM f = some r) : ∃ b s, r = b :: s ∧ f a = some b ∧ l.mapM f = some s := by
  rw [List.mapM_cons] at h
  simp only [Option.bind_eq_bind, Option.bind_eq_some_iff, Option.pure_def, Option.some.injEq] at h
  obtain ⟨b, hb, s, hs, rfl⟩ := h
  exact ⟨b, s, rfl, hb, hs⟩

theorem layParts_sound {f : TypeId → DataW Unit → Option (List (Nat × V))} {g : TypeId → List Value → Option (DataW Unit × List MemPlace)} (hf : ∀ t d l cs p, f t d = some l → g t cs = some (d, p) → LayOk l cs)
    {cs : List Value} : ∀ {ps : List (TypeId × Nat)} {ns : List Nat} {ds : List (DataW Unit)} {l : List (Nat × V)} {xs : List (DataW Unit × List MemPlace)}, ns.length = ps.length →
      (ps.zip ns).mapM (fun q => g q.1.1 ((cs.drop q.1.2).take q.2)) = some xs → ds = xs.map (·.1) → layParts f ps ds = some l → LayOk l cs
  | [], ns, ds, l, xs, _, _, _, h => by simp only [layParts, Option.some.injEq] at h; subst h; intro k v hm; cases hm
  | (t, o) :: ps, [], ds, l, xs, hl, _, _, h => by cases hl
  | (t, o) :: ps, n :: ns, ds, l, xs, hl, hx, hd, h => by
    rw [List.zip_cons_cons] at hx
    obtain ⟨b, s, rfl, hb, hs⟩ := mapM_cons_some hx
    subst hd
    simp only [List.map_cons, layParts] at h
    split at h
    · rename_i l0 h0
      split at h
      · rename_i r hr
        obtain rfl := Option.some.inj h
        have ih := layParts_sound hf (by simpa using hl) hs rfl hr
        have hh := hf _ _ _ _ b.2 h0 hb
        intro k v hm
        rcases List.mem_append.1 hm with hm | hm
        · obtain ⟨⟨k', v'⟩, hm2, e⟩ := List.mem_map.1 hm
          injection e with e1 e2
          simp only at e1 e2
          subst e1 e2
          obtain ⟨h1, x, h2, h3⟩ := hh k' v' hm2
          refine ⟨h1, x, ?_, h3⟩
          rw [List.getElem?_take] at h2
          split at h2
          · rw [List.getElem?_drop] at h2; exact h2
          · cases h2
        · exact ih k v hm
      · cases h
    · cases h

theorem mapM_map_eq {α β γ : Type} (f : β → Option γ) (g : α → β) : ∀ l : List α, (l.map g).mapM f = l.mapM (fun a => f (g a))
  | [] => rfl
  | a :: l => by rw [List.map_cons, List.mapM_cons, List.mapM_cons, mapM_map_eq f g l]

theorem zip_map_map {α β γ : Type} (f : α → β) (g : α → γ) : ∀ l : List α, (l.map f).zip (l.map g) = l.map (fun a => (f a, g a))
  | [] => rfl
  | a :: l => by simp [zip_map_map f g l]

theorem lay_sound {P : Program} {w : World} : ∀ {n fuel : Nat} {t : TypeId} {d : DataW Unit} {l : List (Nat × V)} {cs : List Value} {p : List MemPlace},
    lay P n t d = some l → DataW.trod (fun _ => ()) P w 0 (fun _ => true) false fuel t cs = some (d, p) → LayOk l cs
  | 0, fuel, t, d, l, cs, p, h, _ => by cases h
  | n + 1, 0, t, d, l, cs, p, _, h => by simp [DataW.trod] at h
  | n + 1, fuel + 1, t, d, l, cs, p, h, k => by
    simp only [lay] at h
    simp only [DataW.trod] at k
    split at h
    · rename_i ht
      rw [ht] at k
      split at h
      · obtain rfl := Option.some.inj h
        split at k <;> simp_all
        obtain ⟨rfl, _⟩ := k
        intro k v hm
        simp only [List.mem_singleton, Prod.mk.injEq] at hm
        obtain ⟨rfl, rfl⟩ := hm
        exact ⟨rfl, _, rfl, fun σ => by simp only [RV]⟩
      · cases h
    · rename_i kk ht
      rw [ht] at k
      split at h
      · obtain rfl := Option.some.inj h
        split at k <;> simp_all
        obtain ⟨_, ⟨rfl, rfl⟩, _⟩ := k
        intro k v hm
        simp only [List.mem_singleton, Prod.mk.injEq] at hm
        obtain ⟨rfl, rfl⟩ := hm
        refine ⟨rfl, _, rfl, fun σ => by simp only [RV]⟩
      · cases h
    · rename_i ht
      rw [ht] at k
      split at h
      · obtain rfl := Option.some.inj h
        split at k <;> simp_all
        obtain ⟨_, rfl, _⟩ := k
        intro k v hm
        simp only [List.mem_singleton, Prod.mk.injEq] at hm
        obtain ⟨rfl, rfl⟩ := hm
        exact ⟨rfl, _, rfl, fun σ => by simp only [RV]; exact ⟨_, rfl, rfl⟩⟩
      · cases h
    · rename_i fs ht
      rw [ht] at k
      split at h
      · rename_i ds
        have k' : (if cs.length = P.cellsOf t then (fs.toList.mapM fun f => DataW.trod (fun _ => ()) P w 0 (fun _ => true) false fuel f.type ((cs.drop f.offset).take (P.cellsOf f.type))).map fun xs => (DataW.agg (xs.map (·.1)), xs.flatMap (·.2)) else none) = some (.agg ds, p) := by
          split at k <;> first | exact k | simp_all
        split at k'
        · obtain ⟨xs, hx, e⟩ := Option.map_eq_some_iff.1 k'
          injection e with e1 e2
          injection e1 with e1
          refine layParts_sound (f := lay P n) (g := fun t c => DataW.trod (fun _ => ()) P w 0 (fun _ => true) false fuel t c) (fun t d l cs p h k => lay_sound h k)
            (ns := fs.toList.map fun f => P.cellsOf f.type) (by simp) ?_ e1.symm h
          rw [zip_map_map, mapM_map_eq]; exact hx
        · cases k'
      · cases h
    · rename_i m e ht
      rw [ht] at k
      split at h
      · rename_i ds
        have k' : (if cs.length = P.cellsOf t then ((List.range m).mapM fun i => DataW.trod (fun _ => ()) P w 0 (fun _ => true) false fuel e ((cs.drop (i * P.cellsOf e)).take (P.cellsOf e))).map fun xs => (DataW.agg (xs.map (·.1)), xs.flatMap (·.2)) else none) = some (.agg ds, p) := by
          split at k <;> first | exact k | simp_all
        split at k'
        · obtain ⟨xs, hx, e'⟩ := Option.map_eq_some_iff.1 k'
          injection e' with e1 e2
          injection e1 with e1
          refine layParts_sound (f := lay P n) (g := fun t c => DataW.trod (fun _ => ()) P w 0 (fun _ => true) false fuel t c) (fun t d l cs p h k => lay_sound h k)
            (ns := (List.range m).map fun _ => P.cellsOf e) (by simp) ?_ e1.symm h
          rw [zip_map_map, mapM_map_eq]; exact hx
        · cases k'
      · cases h
    · cases h

def triOf : List (Nat × V) → Tri V → Tri V
  | [], t => t
  | (k, v) :: l, t => triOf l (t.set k (some v))

theorem get_triOf : ∀ (l : List (Nat × V)) (t : Tri V) (k : Nat) (v : V), (triOf l t).get k = some v → (k, v) ∈ l ∨ t.get k = some v
  | [], t, k, v, h => .inr h
  | (j, u) :: l, t, k, v, h => by
    simp only [triOf] at h
    rcases get_triOf l _ k v h with h | h
    · exact .inl (List.mem_cons_of_mem _ h)
    · rw [Tri.get_set] at h
      split at h
      · rename_i e; cases h; subst e; exact .inl (by simp)
      · exact .inr h

/-! ### tables with slices: rows that are read alone -/
abbrev LS := Option (List (Nat × V) × Nat × Tri O)

def layPartsS (f : TypeId → DataW Unit → Nat → Tri O → LS) : List (TypeId × Nat) → List (DataW Unit) → Nat → Tri O → LS
  | [], _, n, m => some ([], n, m)
  | (t, o) :: ps, d :: ds, n, m => match f t d n m with
    | some (l, n1, m1) => match layPartsS f ps ds n1 m1 with
      | some (r, n2, m2) => some (l.map (fun x => (o + x.1, x.2)) ++ r, n2, m2)
      | none => none
    | none => none
  | _, _, _, _ => none

def layS (P : Program) : Nat → TypeId → DataW Unit → Nat → Tri O → LS
  | 0, _, _, _, _ => none
  | fuel + 1, t, d, n, m => match P.underlying t with
    | some (.slice e) => match d with
      | .nil => some ([(0, .nils)], n, m)
      | .slice elems rest => match Nat.beq (P.cellsOf e) 0, Nat.beq elems.length 0 with
        | false, false => match layParts (lay P fuel) ((List.range elems.length).map fun i => (e, i * P.cellsOf e)) elems with
          | some l => some ([(0, .slice n 0 elems.length (.known (elems.length + rest.length)))], n + 1, m.set n (some (.row (elems.length * P.cellsOf e) (triOf l .nil) true false [])))
          | none => none
        | _, _ => none
      | _ => none
    | some (.struct fs) => match d with
      | .agg ds => layPartsS (layS P fuel) (fs.toList.map fun f => (f.type, f.offset)) ds n m
      | _ => none
    | some (.array k e) => match d with
      | .agg ds => layPartsS (layS P fuel) ((List.range k).map fun i => (e, i * P.cellsOf e)) ds n m
      | _ => none
    | _ => match lay P (fuel + 1) t d with
      | some l => some (l, n, m)
      | none => none

structure StaOk (w : World) (σ : Sg) (n : Nat) (m : Tri O) : Prop where
  dom : ∀ i p, σ i = some p → i < n
  blk : ∀ i p, σ i = some p → p.blk < w.heap.size
  still : ∀ i o, m.get i = some o → o.still = true
  obj : ∀ i p o, σ i = some p → m.get i = some o → ObjOk σ p w o

def LayOkS (σ : Sg) (l : List (Nat × V)) (cs : List Value) : Prop := ∀ k v, (k, v) ∈ l → v.isFlat = true ∧ ∃ x, cs[k]? = some x ∧ RV σ v x

def Zd (w : World) (ps : List MemPlace) : Prop := ∀ b off, MemPlace.cell b off ∈ ps → ∃ c t, w.heap[b]? = some (.cells c t (0, 0))

theorem layPartsS_sound {w : World} {f : TypeId → DataW Unit → Nat → Tri O → LS} {g : TypeId → List Value → Option (DataW Unit × List MemPlace)}
    (hf : ∀ t d n m l n' m' cs p σ, f t d n m = some (l, n', m') → g t cs = some (d, p) → Zd w p → StaOk w σ n m → ∃ σ', Le σ σ' ∧ StaOk w σ' n' m' ∧ LayOkS σ' l cs)
    {cs : List Value} : ∀ {ps : List (TypeId × Nat)} {ns : List Nat} {ds : List (DataW Unit)} {n : Nat} {m : Tri O} {l : List (Nat × V)} {n' : Nat} {m' : Tri O} {xs : List (DataW Unit × List MemPlace)} {σ : Sg}, ns.length = ps.length →
      (ps.zip ns).mapM (fun q => g q.1.1 ((cs.drop q.1.2).take q.2)) = some xs → ds = xs.map (·.1) → layPartsS f ps ds n m = some (l, n', m') → Zd w (xs.flatMap (·.2)) → StaOk w σ n m →
      ∃ σ', Le σ σ' ∧ StaOk w σ' n' m' ∧ LayOkS σ' l cs
  | [], ns, ds, n, m, l, n', m', xs, σ, _, _, _, h, _, hs => by
    simp only [layPartsS, Option.some.injEq, Prod.mk.injEq] at h
    obtain ⟨rfl, rfl, rfl⟩ := h
    exact ⟨σ, .refl _, hs, fun k v hm => by cases hm⟩
  | (t, o) :: ps, [], ds, n, m, l, n', m', xs, σ, hl, _, _, h, _, _ => by cases hl
  | (t, o) :: ps, n0 :: ns, ds, n, m, l, n', m', xs, σ, hl, hx, hd, h, hz, hs => by
    rw [List.zip_cons_cons] at hx
    obtain ⟨b, s, rfl, hb, hss⟩ := mapM_cons_some hx
    subst hd
    simp only [List.map_cons, layPartsS] at h
    split at h
    · rename_i l0 n1 m1 h0
      split at h
      · rename_i r n2 m2 hr
        simp only [Option.some.injEq, Prod.mk.injEq] at h
        obtain ⟨rfl, rfl, rfl⟩ := h
        obtain ⟨σ1, le1, s1, ok1⟩ := hf _ _ _ _ _ _ _ _ b.2 σ h0 hb (fun c off hc => hz c off (by rw [List.flatMap_cons]; exact List.mem_append_left _ hc)) hs
        obtain ⟨σ2, le2, s2, ok2⟩ := layPartsS_sound hf (by simpa using hl) hss rfl hr (fun c off hc => hz c off (by rw [List.flatMap_cons]; exact List.mem_append_right _ hc)) s1
        refine ⟨σ2, le1.trans le2, s2, fun k v hm => ?_⟩
        rcases List.mem_append.1 hm with hm | hm
        · obtain ⟨⟨k', v'⟩, hm2, e⟩ := List.mem_map.1 hm
          injection e with e1 e2
          simp only at e1 e2
          subst e1 e2
          obtain ⟨h1, x, h2, h3⟩ := ok1 k' v' hm2
          refine ⟨h1, x, ?_, RV.mono le2 _ _ h3⟩
          rw [List.getElem?_take] at h2
          split at h2
          · rw [List.getElem?_drop] at h2; exact h2
          · cases h2
        · exact ok2 k v hm
      · cases h
    · cases h

theorem mapM_mono {α β : Type} {f g : α → Option β} : ∀ {l : List α} {r : List β}, l.mapM f = some r → (∀ i ∈ l, ∀ y, f i = some y → g i = some y) → l.mapM g = some r
  | [], r, h, _ => by simpa using h
  | a :: l, r, h, k => by
    obtain ⟨b, s, rfl, hb, hs⟩ := mapM_cons_some h
    rw [List.mapM_cons, k a (by simp) b hb, mapM_mono hs fun i hi => k i (by simp [hi])]; rfl

theorem mapM_length {α β : Type} {f : α → Option β} : ∀ {l : List α} {r : List β}, l.mapM f = some r → r.length = l.length
  | [], r, h => by simp at h; subst h; rfl
  | a :: l, r, h => by
    obtain ⟨b, s, rfl, _, hs⟩ := mapM_cons_some h
    simp [mapM_length hs]

theorem mapM_get {α β : Type} {f : α → Option β} : ∀ {l : List α} {r : List β}, l.mapM f = some r → ∀ (k : Nat) (a : α), l[k]? = some a → ∃ b, r[k]? = some b ∧ f a = some b
  | [], r, h, k, a, e => by simp at e
  | a0 :: l, r, h, k, a, e => by
    obtain ⟨b, s, rfl, hb, hs⟩ := mapM_cons_some h
    cases k with
    | zero => simp at e; subst e; exact ⟨b, rfl, hb⟩
    | succ k => simp at e; obtain ⟨b', h1, h2⟩ := mapM_get hs k a e; exact ⟨b', by simpa using h1, h2⟩

/-- cells of a block, as a list -/
theorem cells_list {w : World} {b o n : Nat} {c : Array Value} {t : TypeId} {fz : Nat × Nat} {l : List Value} (h : w.heap[b]? = some (.cells c t fz)) (hc : w.cells? 0 ⟨b, o, none⟩ n = some l) (hn : n ≠ 0) :
    l = (c.toList.drop o).take n ∧ o + n ≤ c.size := by
  unfold World.cells? at hc
  rw [if_pos (Nat.zero_le _)] at hc
  have hlen := mapM_length hc
  simp only [List.length_range] at hlen
  have key : ∀ k, k < n → l[k]? = c[o + k]? ∧ o + k < c.size := by
    intro k hk
    obtain ⟨x, h1, h2⟩ := mapM_get hc k k (by simp [hk])
    have : (⟨b, o, none⟩ : Addr).add k = ⟨b, o + k, none⟩ := by unfold Addr.add; split <;> simp_all
    rw [this, cell_of h] at h2
    exact ⟨by rw [h1, h2], (Array.getElem?_eq_some_iff.1 h2).1⟩
  have hle : o + n ≤ c.size := by have := (key (n - 1) (by omega)).2; omega
  refine ⟨List.ext_getElem? fun k => ?_, hle⟩
  by_cases hk : k < n
  · rw [(key k hk).1, List.getElem?_take, if_pos hk, List.getElem?_drop, ← Array.getElem?_toList]
  · rw [List.getElem?_eq_none (by omega), List.getElem?_take, if_neg hk]

theorem slice_lay {P : Program} {w : World} {fuel fl : Nat} {e : TypeId} {a : Addr} {len : Nat} {xs : List (DataW Unit × List MemPlace)} {l : List (Nat × V)} {c : Array Value} {t : TypeId}
    (h0 : P.cellsOf e ≠ 0) (h1 : len ≠ 0) (hx : (List.range len).mapM (fun i => (w.cells? 0 (a.add (i * P.cellsOf e)) (P.cellsOf e)).bind (DataW.trod (fun _ => ()) P w 0 (fun _ => true) false fl e)) = some xs)
    (hl : layParts (lay P fuel) ((List.range len).map fun i => (e, i * P.cellsOf e)) (xs.map (·.1)) = some l) (hh : w.heap[a.block]? = some (.cells c t (0, 0))) :
    a.spot = none ∧ a.off + len * P.cellsOf e ≤ c.size ∧ ∀ k v, (k, v) ∈ l → k < len * P.cellsOf e ∧ v.isFlat = true ∧ ∃ x, c[a.off + k]? = some x ∧ ∀ σ, RV σ v x := by
  have hsp : a.spot = none := by
    obtain ⟨y, _, hy⟩ := mapM_get hx 0 0 (List.getElem?_range (by omega))
    simp only [Option.bind_eq_some_iff] at hy
    obtain ⟨l0, hl0, _⟩ := hy
    unfold World.cells? at hl0
    rw [if_pos (Nat.zero_le _)] at hl0
    obtain ⟨z, _, hz⟩ := mapM_get hl0 0 0 (List.getElem?_range (by omega))
    have ea : (a.add (0 * P.cellsOf e)).add 0 = a := by simp [Addr.add]
    rw [ea] at hz
    simp only [World.cell?, hh] at hz
    cases hs : a.spot with
    | none => rfl
    | some q => rw [hs] at hz; simp at hz
  obtain ⟨b, o, sp⟩ := a
  simp only at hsp hh
  subst hsp
  have hadd : ∀ k, (⟨b, o, none⟩ : Addr).add k = ⟨b, o + k, none⟩ := by
    intro k; unfold Addr.add; by_cases hk : k = 0
    · subst hk; rfl
    · rw [if_neg hk]
  have hel : ∀ i, i < len → ∃ ci, w.cells? 0 ⟨b, o + i * P.cellsOf e, none⟩ (P.cellsOf e) = some ci := by
    intro i hi
    obtain ⟨y, _, hy⟩ := mapM_get hx i i (by simp [hi])
    simp only [Option.bind_eq_some_iff] at hy
    obtain ⟨ci, hci, _⟩ := hy
    rw [hadd] at hci
    exact ⟨ci, hci⟩
  have hsz : o + len * P.cellsOf e ≤ c.size := by
    obtain ⟨ci, hci⟩ := hel (len - 1) (by omega)
    have := (cells_list hh hci h0).2
    have e1 : (len - 1) * P.cellsOf e + P.cellsOf e = len * P.cellsOf e := by
      rw [← Nat.succ_mul]; congr 1; omega
    omega
  refine ⟨rfl, hsz, ?_⟩
  have hL : LayOk l ((c.toList.drop o).take (len * P.cellsOf e)) := by
    refine layParts_sound (f := lay P fuel) (g := fun t c => DataW.trod (fun _ => ()) P w 0 (fun _ => true) false fl t c) (fun t d l cs p h k => lay_sound h k)
      (ns := (List.range len).map fun _ => P.cellsOf e) (by simp) ?_ rfl hl
    rw [zip_map_map, mapM_map_eq]
    refine mapM_mono hx fun i hi y hy => ?_
    have hi := List.mem_range.1 hi
    simp only [Option.bind_eq_some_iff] at hy
    obtain ⟨ci, hci, hy⟩ := hy
    rw [hadd] at hci
    obtain ⟨rfl, _⟩ := cells_list hh hci h0
    have e1 : i * P.cellsOf e + P.cellsOf e ≤ len * P.cellsOf e := by
      rw [← Nat.succ_mul]; exact Nat.mul_le_mul_right _ hi
    simp only
    rw [List.drop_take, List.take_take, List.drop_drop, Nat.min_eq_left (by omega)]
    exact hy
  intro k v hm
  obtain ⟨h2, x, h3, h4⟩ := hL k v hm
  rw [List.getElem?_take] at h3
  split at h3
  · rename_i hk
    rw [List.getElem?_drop, Array.getElem?_toList] at h3
    exact ⟨hk, h2, x, h3, h4⟩
  · cases h3

theorem trod_slice {P : Program} {w : World} {fuel : Nat} {t e : TypeId} {cs : List Value} {d : DataW Unit} {p : List MemPlace} (ht : P.underlying t = some (.slice e))
    (k : DataW.trod (fun _ => ()) P w 0 (fun _ => true) false (fuel + 1) t cs = some (d, p)) : (cs = [.slice none 0 0] ∧ d = .nil) ∨ ∃ a len cap xs rs, cs = [.slice (some a) len cap] ∧ len ≤ cap ∧
      (List.range len).mapM (fun i => (w.cells? 0 (a.add (i * P.cellsOf e)) (P.cellsOf e)).bind (DataW.trod (fun _ => ()) P w 0 (fun _ => true) false fuel e)) = some xs ∧
      (List.range (cap - len)).mapM (fun j => (w.cells? 0 (a.add ((len + j) * P.cellsOf e)) (P.cellsOf e)).bind (DataW.trod (fun _ => ()) P w 0 (fun _ => true) false fuel e)) = some rs ∧
      d = .slice (xs.map (·.1)) (rs.map (·.1)) ∧ p = MemPlace.row a ((xs.length + rs.length) * P.cellsOf e) ++ (xs ++ rs).flatMap (·.2) := by
  rcases cs with _ | ⟨v, _ | ⟨v2, r⟩⟩
  · simp [DataW.trod, ht] at k
  · cases v with
    | slice a len cap =>
      cases a with
      | none =>
        cases len <;> cases cap <;> simp [DataW.trod, ht] at k
        exact .inl ⟨rfl, k.1.symm⟩
      | some a =>
        right
        simp only [DataW.trod, ht] at k
        split at k
        · rename_i hcond
          simp only [Option.bind_eq_some_iff, Option.map_eq_some_iff, Prod.mk.injEq, if_true] at k
          obtain ⟨xs, hxs, rs, hrs, e1, e2⟩ := k
          exact ⟨a, len, cap, xs, rs, rfl, hcond.2.1, hxs, hrs, e1.symm, e2.symm⟩
        · cases k
    | _ => simp [DataW.trod, ht] at k
  · simp [DataW.trod, ht] at k

theorem layS_sound {P : Program} {w : World} : ∀ {fu fuel : Nat} {t : TypeId} {d : DataW Unit} {n : Nat} {m : Tri O} {l : List (Nat × V)} {n' : Nat} {m' : Tri O} {cs : List Value} {p : List MemPlace} {σ : Sg},
    layS P fu t d n m = some (l, n', m') → DataW.trod (fun _ => ()) P w 0 (fun _ => true) false fuel t cs = some (d, p) → Zd w p → StaOk w σ n m → ∃ σ', Le σ σ' ∧ StaOk w σ' n' m' ∧ LayOkS σ' l cs
  | 0, fuel, t, d, n, m, l, n', m', cs, p, σ, h, _, _, _ => by cases h
  | fu + 1, 0, t, d, n, m, l, n', m', cs, p, σ, _, h, _, _ => by simp [DataW.trod] at h
  | fu + 1, fuel + 1, t, d, n, m, l, n', m', cs, p, σ, h, k, hz, hs => by
    simp only [layS] at h
    split at h
    · rename_i e ht
      have k := trod_slice ht k
      split at h
      · simp only [Option.some.injEq, Prod.mk.injEq] at h
        obtain ⟨rfl, rfl, rfl⟩ := h
        refine ⟨σ, .refl _, hs, fun j v hm => ?_⟩
        simp only [List.mem_singleton, Prod.mk.injEq] at hm
        obtain ⟨rfl, rfl⟩ := hm
        rcases k with ⟨rfl, _⟩ | ⟨_, _, _, _, _, _, _, _, _, k, _⟩
        · exact ⟨rfl, _, rfl, by simp only [RV]⟩
        · cases k
      · rename_i elems rest
        split at h
        · rename_i g1 g2
          split at h
          · rename_i lp hlp
            simp only [Option.some.injEq, Prod.mk.injEq] at h
            obtain ⟨rfl, rfl, rfl⟩ := h
            rcases k with ⟨_, k⟩ | ⟨a, len, cap, xs, rs, rfl, hcap, hxs, hrs, k, e3⟩
            · cases k
            · injection k with e1 e2
              have l1 := mapM_length hxs
              have l2 := mapM_length hrs
              simp only [List.length_range] at l1 l2
              have g1 := Nat.ne_of_beq_eq_false g1
              have g2 := Nat.ne_of_beq_eq_false g2
              subst e1 e2
              simp only [List.length_map] at *
              have hmem : MemPlace.cell a.block a.off ∈ p := by
                rw [e3]
                refine List.mem_append_left _ ?_
                simp only [MemPlace.row, List.mem_map, List.mem_range]
                refine ⟨0, ?_, by simp⟩
                exact Nat.mul_pos (by omega) (by omega)
              obtain ⟨c, ty, hh⟩ := hz _ _ hmem
              rw [l1] at hlp
              obtain ⟨s1, s2, s3⟩ := slice_lay g1 (by omega) hxs hlp hh
              have hfr : σ n = none := by
                cases e : σ n with
                | none => rfl
                | some p => exact absurd (hs.dom _ _ e) (Nat.lt_irrefl _)
              refine ⟨σ.put n ⟨a.block, a.off, c.size - a.off⟩, Sg.le_put hfr, ⟨fun i p e => ?_, fun i p e => ?_, fun i o e => ?_, fun i p o e e' => ?_⟩, fun j v hm => ?_⟩
              · by_cases hi : i = n
                · omega
                · rw [Sg.put_ne hi] at e; have := hs.dom i p e; omega
              · by_cases hi : i = n
                · subst hi; rw [Sg.put_same] at e; obtain rfl := Option.some.inj e; exact (Array.getElem?_eq_some_iff.1 hh).1
                · rw [Sg.put_ne hi] at e; exact hs.blk i p e
              · rw [Tri.get_set] at e
                split at e
                · obtain rfl := Option.some.inj e; rfl
                · exact hs.still i o e
              · rw [Tri.get_set] at e'
                split at e'
                · rename_i hi; subst hi
                  rw [Sg.put_same] at e; obtain rfl := Option.some.inj e
                  obtain rfl := Option.some.inj e'
                  simp only [ObjOk]
                  refine ⟨c, ty, (0, 0), hh, by omega, by rw [l1]; omega, by simp, fun k v hk => ?_, .inl rfl, by simp⟩
                  rcases get_triOf _ _ _ _ hk with hk | hk
                  · obtain ⟨q1, q2, x, q3, q4⟩ := s3 k v hk
                    exact ⟨by rw [l1]; exact q1, q2, x, q3, q4 _⟩
                  · rw [Tri.get_nil] at hk; cases hk
                · rename_i hi
                  rw [Sg.put_ne hi] at e
                  exact (hs.obj i p o e e').mono (Sg.le_put hfr)
              · simp only [List.mem_singleton, Prod.mk.injEq] at hm
                obtain ⟨rfl, rfl⟩ := hm
                refine ⟨rfl, _, rfl, ?_⟩
                simp only [RV]
                refine ⟨_, Sg.put_same _ _ _, ?_⟩
                obtain ⟨b, o, sp⟩ := a
                simp only at s1; subst s1
                simp only [Nat.add_zero, l1, l2, Value.slice.injEq, true_and]
                omega
          · cases h
        · cases h
      · cases h
    · rename_i fs ht
      simp only [DataW.trod] at k
      rw [ht] at k
      split at h
      · rename_i ds
        have k' : (if cs.length = P.cellsOf t then (fs.toList.mapM fun f => DataW.trod (fun _ => ()) P w 0 (fun _ => true) false fuel f.type ((cs.drop f.offset).take (P.cellsOf f.type))).map fun xs => (DataW.agg (xs.map (·.1)), xs.flatMap (·.2)) else none) = some (.agg ds, p) := by
          split at k <;> first | exact k | simp_all
        split at k'
        · obtain ⟨xs, hx, e⟩ := Option.map_eq_some_iff.1 k'
          injection e with e1 e2
          injection e1 with e1
          subst e2
          refine layPartsS_sound (f := layS P fu) (g := fun t c => DataW.trod (fun _ => ()) P w 0 (fun _ => true) false fuel t c) (fun t d n m l n' m' cs p σ h k z s => layS_sound h k z s)
            (ns := fs.toList.map fun f => P.cellsOf f.type) (by simp) ?_ e1.symm h hz hs
          rw [zip_map_map, mapM_map_eq]; exact hx
        · cases k'
      · cases h
    · rename_i j e ht
      simp only [DataW.trod] at k
      rw [ht] at k
      split at h
      · rename_i ds
        have k' : (if cs.length = P.cellsOf t then ((List.range j).mapM fun i => DataW.trod (fun _ => ()) P w 0 (fun _ => true) false fuel e ((cs.drop (i * P.cellsOf e)).take (P.cellsOf e))).map fun xs => (DataW.agg (xs.map (·.1)), xs.flatMap (·.2)) else none) = some (.agg ds, p) := by
          split at k <;> first | exact k | simp_all
        split at k'
        · obtain ⟨xs, hx, e'⟩ := Option.map_eq_some_iff.1 k'
          injection e' with e1 e2
          injection e1 with e1
          subst e2
          refine layPartsS_sound (f := layS P fu) (g := fun t c => DataW.trod (fun _ => ()) P w 0 (fun _ => true) false fuel t c) (fun t d n m l n' m' cs p σ h k z s => layS_sound h k z s)
            (ns := (List.range j).map fun _ => P.cellsOf e) (by simp) ?_ e1.symm h hz hs
          rw [zip_map_map, mapM_map_eq]; exact hx
        · cases k'
      · cases h
    · split at h
      · rename_i l0 hl0
        simp only [Option.some.injEq, Prod.mk.injEq] at h
        obtain ⟨rfl, rfl, rfl⟩ := h
        refine ⟨σ, .refl _, hs, fun j v hm => ?_⟩
        obtain ⟨q1, x, q2, q3⟩ := lay_sound hl0 k j v hm
        exact ⟨q1, x, q2, q3 σ⟩
      · cases h

/-- what the listed tables hold, as the evaluator reads it -/
def globOf (P : Program) (fuel : Nat) : List (String × DataW Unit) → Nat → Tri O → Option (Tri (Tri V) × Nat × Tri O)
  | [], nx, m => some (.nil, nx, m)
  | (n, d) :: r, nx, m => match P.globalNamed n with
    | some g => match (P.globals[g]?).map (·.type) with
      | some t => match layS P fuel t d nx m with
        | some (l, nx1, m1) => match globOf P fuel r nx1 m1 with
          | some (gl, nx2, m2) => some (gl.set g (some (triOf l .nil)), nx2, m2)
          | none => none
        | none => globOf P fuel r nx m
      | none => none
    | none => none

theorem globOf_ok {P : Program} {w : World} {fuel : Nat} : ∀ {ls : List (String × DataW Unit)} {nx : Nat} {m : Tri O} {gl : Tri (Tri V)} {nx' : Nat} {m' : Tri O} {ps : List MemPlace} {σ : Sg},
    globOf P fuel ls nx m = some (gl, nx', m') → DataW.LaidVars P w ls ps → Zd w ps → StaOk w σ nx m → ∃ σ', Le σ σ' ∧ StaOk w σ' nx' m' ∧ GlobOk σ' w gl
  | [], nx, m, gl, nx', m', ps, σ, h, _, _, hs => by
    simp only [globOf, Option.some.injEq, Prod.mk.injEq] at h
    obtain ⟨rfl, rfl, rfl⟩ := h
    exact ⟨σ, .refl _, hs, fun g t k v e => by rw [Tri.get_nil] at e; cases e⟩
  | (n, d) :: r, nx, m, gl, nx', m', ps, σ, h, k, hz, hs => by
    obtain ⟨g, t, cs, fl, p, q, hg, ht, hv, hd, hr, rfl⟩ := k
    simp only [globOf, hg, ht] at h
    have hzp : Zd w p := fun b off hc => hz b off (List.mem_append_left _ (List.mem_append_right _ hc))
    have hzq : Zd w q := fun b off hc => hz b off (List.mem_append_right _ hc)
    split at h
    · rename_i l n1 m1 hl
      split at h
      · rename_i gl' n2 m2 hgl
        simp only [Option.some.injEq, Prod.mk.injEq] at h
        obtain ⟨rfl, rfl, rfl⟩ := h
        obtain ⟨σ1, le1, s1, ok1⟩ := layS_sound hl hd hzp hs
        obtain ⟨σ2, le2, s2, ok2⟩ := globOf_ok hgl hr hzq s1
        refine ⟨σ2, le1.trans le2, s2, fun g' t' k v e1 e2 => ?_⟩
        rw [Tri.get_set] at e1
        split at e1
        · rename_i e; subst e
          obtain rfl := Option.some.inj e1
          rcases get_triOf _ _ _ _ e2 with e2 | e2
          · obtain ⟨a, x, b, c⟩ := ok1 k v e2
            refine ⟨a, x, ?_, RV.mono le2 _ _ c⟩
            simp only [World.var?, hg, Option.bind_some] at hv
            split at hv <;> simp_all [World.cell?]
          · rw [Tri.get_nil] at e2; cases e2
        · exact ok2 g' t' k v e1 e2
      · cases h
    · exact globOf_ok h hr hzq hs

def laidSt (P : Program) (fuel : Nat) (laid : List (String × DataW Unit)) : Option St :=
  match globOf P fuel laid 0 .nil with
  | some (gl, nx, m) => some { next := nx, mem := m, glob := gl }
  | none => none

theorem laidSt_ok {P : Program} {fuel : Nat} {laid : List (String × DataW Unit)} {s0 : St} (h : laidSt P fuel laid = some s0) (w : World) (hL : laidMet P laid w) : ∃ σ, Rel w σ s0 w := by
  unfold laidSt at h
  split at h
  · rename_i gl nx m hg
    obtain rfl := Option.some.inj h
    obtain ⟨ps, hv, _, hz⟩ := hL
    obtain ⟨σ, _, hs, hG⟩ := globOf_ok (σ := fun _ => none) hg hv (fun b off hc => (hz b off hc).1) ⟨(fun i p e => nomatch e), (fun i p e => nomatch e), (fun i o e => by rw [Tri.get_nil] at e; cases e), (fun i p o e => nomatch e)⟩
    refine ⟨σ, Below.refl _ _, hs.dom, fun i p e => ⟨.inr fun o ho => hs.still i o ho, hs.blk i p e⟩, hs.obj, fun i j p q o o' hij ei ej gi gj hb => ?_, hG⟩
    have a := hs.still i o gi
    have b := hs.still j o' gj
    cases o <;> cases o' <;> first | (cases a; done) | (cases b; done) | skip
    simp only [Sh]
    intro ht; subst ht; cases a
  · cases h

def trueLaid (P : Program) (n fuel : Nat) (laid : List (String × DataW Unit)) (f : FuncId) : Bool :=
  match laidSt P fuel laid with
  | some s0 => answersAt P n s0 f true
  | none => false

theorem calls_laid {P : Program} {n fuel : Nat} {laid : List (String × DataW Unit)} {f : FuncId} (h : trueLaid P n fuel laid f = true) (w : World) (hL : laidMet P laid w) :
    Calls P f #[] w fun e w' => e = .returned (.bool true) ∧ Below w.heap.size w w' := by
  unfold trueLaid at h
  split at h
  · rename_i s0 hs
    exact calls_answers h w (laidSt_ok hs w hL)
  · cases h

mutual
def flatVals : DataW Unit → List Value
  | .lit (.bool b) => [.bool b]
  | .lit (.int k n) => [.int k n]
  | .lit (.string s) => [.string ⟨s.toArray⟩]
  | .agg ds => flatValss ds
  | _ => []
def flatValss : List (DataW Unit) → List Value
  | [] => []
  | d :: ds => flatVals d ++ flatValss ds
end

/-- a world in which the listed tables hold what the list says -/
def laidIn (P : Program) : List (String × DataW Unit) → World → World
  | [], W => W
  | (n, d) :: r, W => match P.globalNamed n with
    | some g => match (P.globals[g]?).map (·.type) with
      | some t => match lay P 8 t d with
        | some _ => laidIn P r { W with heap := W.heap.modify g fun
          | .cells _ t frozen => .cells (flatVals d).toArray t frozen
          | o => o }
        | none => laidIn P r W
      | none => laidIn P r W
    | none => laidIn P r W
/-! ### places met once -/
def nodupP : List MemPlace → Tri (Tri Bool) → Tri Bool → Bool
  | [], _, _ => true
  | .cell b o :: l, t, m => match t.get b with
    | none => nodupP l (t.set b (some (Tri.nil.set o (some true)))) m
    | some u => match u.get o with
      | some _ => false
      | none => nodupP l (t.set b (some (u.set o (some true)))) m
  | .map b :: l, t, m => match m.get b with
    | some _ => false
    | none => nodupP l t (m.set b (some true))

def inP (t : Tri (Tri Bool)) (m : Tri Bool) : MemPlace → Prop
  | .cell b o => ∃ u, t.get b = some u ∧ u.get o ≠ none
  | .map b => m.get b ≠ none

theorem nodupP_spec : ∀ (l : List MemPlace) (t : Tri (Tri Bool)) (m : Tri Bool), nodupP l t m = true → l.Nodup ∧ ∀ x ∈ l, ¬ inP t m x
  | [], t, m, _ => ⟨List.nodup_nil, by simp⟩
  | .cell b o :: l, t, m, h => by
    simp only [nodupP] at h
    have main : ∀ u : Tri Bool, (t.get b = some u ∨ (t.get b = none ∧ u = .nil)) → u.get o = none → nodupP l (t.set b (some (u.set o (some true)))) m = true → (MemPlace.cell b o :: l).Nodup ∧ ∀ x ∈ MemPlace.cell b o :: l, ¬ inP t m x := by
      intro u hu hn h
      obtain ⟨h1, h2⟩ := nodupP_spec l _ m h
      have hme : inP (t.set b (some (u.set o (some true)))) m (.cell b o) := ⟨_, by rw [Tri.get_set, if_pos rfl], by rw [Tri.get_set, if_pos rfl]; simp⟩
      refine ⟨List.nodup_cons.2 ⟨fun hm => h2 _ hm hme, h1⟩, fun x hx => ?_⟩
      rcases List.mem_cons.1 hx with rfl | hx
      · rintro ⟨v, e1, e2⟩
        rcases hu with hu | ⟨hu, rfl⟩
        · rw [hu] at e1; obtain rfl := Option.some.inj e1; exact e2 hn
        · rw [hu] at e1; cases e1
      · intro hin
        refine h2 x hx ?_
        cases x with
        | map c => exact hin
        | cell c q =>
          obtain ⟨v, e1, e2⟩ := hin
          by_cases hc : c = b
          · subst hc
            rcases hu with hu | ⟨hu, rfl⟩
            · rw [hu] at e1; obtain rfl := Option.some.inj e1
              exact ⟨_, by rw [Tri.get_set, if_pos rfl], by rw [Tri.get_set]; split <;> simp_all⟩
            · rw [hu] at e1; cases e1
          · exact ⟨v, by rw [Tri.get_set, if_neg hc]; exact e1, e2⟩
    split at h
    · rename_i ht; exact main .nil (.inr ⟨ht, rfl⟩) (Tri.get_nil _) h
    · rename_i u ht
      split at h
      · cases h
      · rename_i hn; exact main u (.inl ht) hn h
  | .map b :: l, t, m, h => by
    simp only [nodupP] at h
    split at h
    · cases h
    · rename_i hm
      obtain ⟨h1, h2⟩ := nodupP_spec l t _ h
      refine ⟨List.nodup_cons.2 ⟨fun hin => h2 _ hin (by simp [inP, Tri.get_set]), h1⟩, fun x hx => ?_⟩
      rcases List.mem_cons.1 hx with rfl | hx
      · simp [inP, hm]
      · intro hin
        refine h2 x hx ?_
        cases x with
        | cell c q => exact hin
        | map c =>
          simp only [inP] at hin ⊢
          rw [Tri.get_set]
          split
          · simp
          · exact hin

theorem laidMet_of_run2 {P : Program} {w : World} {l : List (String × DataW Unit)} (fuel : Nat) (h : (DataW.laidRun P w fuel (l.map (·.1))).map (·.1) = some l)
    (hr : (DataW.laidRun P w fuel (l.map (·.1))).map (fun x => nodupP x.2 .nil .nil && laidRowsB P w x.2) = some true) : laidMet P l w := by
  refine laidMet_of_run' fuel h ?_
  revert hr
  cases DataW.laidRun P w fuel (l.map (·.1)) with
  | none => simp
  | some x =>
    intro hr
    simp only [Option.map_some, Option.some.injEq, Bool.and_eq_true] at hr ⊢
    exact ⟨decide_eq_true (nodupP_spec _ _ _ hr.1).1, hr.2⟩
end Go.Proofs.Ytepkbpdldghjnaa.Ev

namespace Go.Proofs.Ytepkbpdldghjnaa.Ev
open Go Go.RowKit

/-! ### the same evaluator, as the kernel likes it -/
abbrev RR := Option (Ex × Fm × St)
abbrev KK := Fm → St → RR

def putS (fm : Fm) (d : Option Tmp) (k : KK) (st : St) (ov : Option V) : RR :=
  match ov with
  | none => none
  | some v => match fm.put d v with
    | some fm' => k fm' st
    | none => none
def putK (fm : Fm) (d : Option Tmp) (k : KK) (st : St) (ov : Option V) : RR :=
  @Option.rec V (fun _ => RR) none (fun v => @Option.rec Tmp (fun _ => RR) (k fm st) (fun t => @Fm.rec (fun _ => RR) (fun n tm df rd => @Bool.rec (fun _ => RR) none (k ⟨n, tm.set t (some v), df, rd⟩ st) (Nat.ble (t + 1) n)) fm) d) ov
theorem putK_eq (fm : Fm) (d : Option Tmp) (k : KK) (st : St) (ov : Option V) : putK fm d k st ov = putS fm d k st ov := by
  cases ov with
  | none => rfl
  | some v => cases d with
    | none => rfl
    | some t => cases fm with
      | mk n tm df rd =>
        show @Bool.rec (fun _ => RR) none (k ⟨n, tm.set t (some v), df, rd⟩ st) (Nat.ble (t + 1) n) = _
        unfold putS Fm.put
        cases h : Nat.ble (t + 1) n <;> simp [h]

def resS (fm : Fm) (d : Option Tmp) (k : KK) (r : Option (CR × St)) : RR :=
  match r with
  | some (.ok v, st') => match fm.put d v with
    | some fm' => k fm' st'
    | none => none
  | some (.panic v, st') => some (.panic v, fm, st')
  | none => none
def resK (fm : Fm) (d : Option Tmp) (k : KK) (r : Option (CR × St)) : RR :=
  @Option.rec (CR × St) (fun _ => RR) none (fun p => @Prod.rec CR St (fun _ => RR) (fun c st' => @CR.rec (fun _ => RR) (fun v => putK fm d k st' (some v)) (fun v => some (.panic v, fm, st')) c) p) r
theorem resK_eq (fm : Fm) (d : Option Tmp) (k : KK) (r : Option (CR × St)) : resK fm d k r = resS fm d k r := by
  cases r with
  | none => rfl
  | some p => obtain ⟨c, st'⟩ := p; cases c with
    | ok v => show putK fm d k st' (some v) = _; rw [putK_eq]; rfl
    | panic v => rfl

def allocS (fm : Fm) (d : Option Tmp) (k : KK) (st : St) (r : Option (O × (Nat → V))) : RR :=
  match r with
  | some (ob, mk) => putK fm d k (st.add ob) (some (mk st.next))
  | none => none
def allocK (fm : Fm) (d : Option Tmp) (k : KK) (st : St) (r : Option (O × (Nat → V))) : RR :=
  @Option.rec (O × (Nat → V)) (fun _ => RR) none (fun p => @Prod.rec O (Nat → V) (fun _ => RR) (fun ob mk => @St.rec (fun _ => RR) (fun n m g => putK fm d k ⟨n + 1, m.set n (some ob), g⟩ (some (mk n))) st) p) r
theorem allocK_eq (fm : Fm) (d : Option Tmp) (k : KK) (st : St) (r : Option (O × (Nat → V))) : allocK fm d k st r = allocS fm d k st r := by
  cases r with
  | none => rfl
  | some p => cases st; rfl

def storeS (fm : Fm) (d : Option Tmp) (k : KK) (r : Option St) : RR :=
  match r with
  | some st' => putK fm d k st' (some (.tuple []))
  | none => none
def storeK (fm : Fm) (d : Option Tmp) (k : KK) (r : Option St) : RR :=
  @Option.rec St (fun _ => RR) none (fun st' => putK fm d k st' (some (.tuple []))) r

/-- what stands in a slot, and the rest of operands -/
def rhoF (fm : Fm) (x : Operand) : Option V :=
  @Operand.rec (fun _ => Option V) (fun t => @Fm.rec (fun _ => Option V) (fun _ tm _ _ => tm.get t) fm) (fun v => ofValue v) (fun g => some (.glob g 0)) (fun f => some (.func (.func f) [] [])) x
theorem rhoF_eq (fm : Fm) : rhoF fm = fm.rho := by funext x; cases fm; cases x <;> rfl

/-- an operation that was wanted, and that defers nothing: what is slow -/
def slowK (P : Program) (cf : CF) (yf : YF) (o : Oper) (fm : Fm) (st : St) (k : KK) : RR :=
  match isDefer o.op with
  | some c => match deferV fm c with
    | some d => match ({ fm with df := d :: fm.df } : Fm).put o.dst (.tuple []) with
      | some fm' => k fm' st
      | none => none
    | none => none
  | none => resK fm o.dst k (evalOp P cf yf fm.rho o st)

def pickS (ρ : Rho) (c a b : Operand) : Option V :=
  match ρ c with
  | some (.bool true) => ρ a
  | some (.bool false) => ρ b
  | _ => none

def orK (o : Oper) (fm : Fm) (st : St) (k : KK) (slow : RR) (ov : Option V) : RR :=
  @Option.rec V (fun _ => RR) slow (fun v => putK fm o.dst k st (some v)) ov

def callK (P : Program) (cf : CF) (yf : YF) (o : Oper) (c : Call) (fm : Fm) (st : St) (k : KK) : RR :=
  match c.callee with
  | .value f => match rhoF fm f, rhoAll (rhoF fm) c.args.toList with
    | some (.func (.func g) first cap), some args => match externV P g (first ++ args ++ cap) with
      | some v => putK fm o.dst k st (some v)
      | none => resK fm o.dst k (cf g (first ++ args ++ cap) st)
    | some (.yield l), some args => resK fm o.dst k (yf l args st)
    | _, _ => none
  | _ => slowK P cf yf o fm st k

abbrev KA := Program → CF → YF → Oper → Fm → St → KK → RR
def doT (op : Op) : KA :=
  @Op.rec (fun _ => KA)
    (fun x P cf yf o fm st k => putK fm o.dst k st (rhoF fm x))
    (fun x P cf yf o fm st k => putK fm o.dst k st (rhoF fm x))
    (fun c a b P cf yf o fm st k => putK fm o.dst k st (pickS (rhoF fm) c a b))
    (fun _ P cf yf o fm st k => allocK fm o.dst k st (evalA P (rhoF fm) o))
    (fun _ _ P cf yf o fm st k => allocK fm o.dst k st (evalA P (rhoF fm) o))
    (fun t parts P cf yf o fm st k => putK fm o.dst k st (buildV P t (parts.toList.map fun p => (p.1, rhoF fm p.2))))
    (fun _ _ _ P cf yf o fm st k => allocK fm o.dst k st (evalA P (rhoF fm) o))
    (fun _ _ _ _ P cf yf o fm st k => slowK P cf yf o fm st k)
    (fun t a P cf yf o fm st k => putK fm o.dst k st (loadV P st t (rhoF fm a)))
    (fun t a x P cf yf o fm st k => storeK fm o.dst k (storeE P st t (rhoF fm a) (rhoF fm x)))
    (fun _ P cf yf o fm st k => slowK P cf yf o fm st k)
    (fun _ P cf yf o fm st k => slowK P cf yf o fm st k)
    (fun x P cf yf o fm st k => putK fm o.dst k st (nilCheckV (rhoF fm x)))
    (fun op t x y _ P cf yf o fm st k => putK fm o.dst k st (binV P op t (isConst x || isConst y) (rhoF fm x) (rhoF fm y)))
    (fun op _ x P cf yf o fm st k => putK fm o.dst k st (unV op (rhoF fm x)))
    (fun _ _ _ P cf yf o fm st k => slowK P cf yf o fm st k)
    (fun _ _ P cf yf o fm st k => slowK P cf yf o fm st k)
    (fun t x P cf yf o fm st k => putK fm o.dst k st (makeIfaceV P t (rhoF fm x)))
    (fun _ _ _ P cf yf o fm st k => slowK P cf yf o fm st k)
    (fun _ _ P cf yf o fm st k => slowK P cf yf o fm st k)
    (fun _ _ P cf yf o fm st k => slowK P cf yf o fm st k)
    (fun _ _ _ P cf yf o fm st k => allocK fm o.dst k st (evalA P (rhoF fm) o))
    (fun t x lo hi mx P cf yf o fm st k => orK o fm st k (slowK P cf yf o fm st k) (sliceV P (rhoF fm) t x lo hi mx))
    (fun s x f P cf yf o fm st k => putK fm o.dst k st (fieldAddrV P s (rhoF fm x) f))
    (fun t x f P cf yf o fm st k => putK fm o.dst k st (fieldV P t (rhoF fm x) f))
    (fun t x ix P cf yf o fm st k => putK fm o.dst k st (indexAddrV P t (rhoF fm x) (rhoF fm ix)))
    (fun t x ix P cf yf o fm st k => putK fm o.dst k st (indexV P t (rhoF fm x) (rhoF fm ix)))
    (fun t x kk ok P cf yf o fm st k => putK fm o.dst k st (lookupV P st t (rhoF fm x) (rhoF fm kk) ok))
    (fun _ _ _ _ P cf yf o fm st k => slowK P cf yf o fm st k)
    (fun _ _ _ P cf yf o fm st k => slowK P cf yf o fm st k)
    (fun _ _ _ _ P cf yf o fm st k => slowK P cf yf o fm st k)
    (fun _ _ P cf yf o fm st k => slowK P cf yf o fm st k)
    (fun _ _ P cf yf o fm st k => slowK P cf yf o fm st k)
    (fun _ P cf yf o fm st k => slowK P cf yf o fm st k)
    (fun x _ a ok P cf yf o fm st k => putK fm o.dst k st (typeAssertV P (rhoF fm x) a ok))
    (fun t ix P cf yf o fm st k => putK fm o.dst k st (extractV (rhoF fm t) ix))
    (fun c P cf yf o fm st k => callK P cf yf o c fm st k)
    (fun _ P cf yf o fm st k => slowK P cf yf o fm st k)
    (fun _ P cf yf o fm st k => slowK P cf yf o fm st k)
    (fun _ P cf yf o fm st k => slowK P cf yf o fm st k)
    (fun _ _ P cf yf o fm st k => slowK P cf yf o fm st k)
    (fun _ _ _ P cf yf o fm st k => slowK P cf yf o fm st k)
    (fun _ _ P cf yf o fm st k => slowK P cf yf o fm st k)
    op
def doK (P : Program) (cf : CF) (yf : YF) (o : Oper) (fm : Fm) (st : St) (k : KK) : RR := doT o.op P cf yf o fm st k

section
variable {P : Program} {cf : CF} {yf : YF} {o : Oper} {fm : Fm} {st : St} {k : KK}
theorem slow_pure {ov : Option V} (hd : isDefer o.op = none) (hP : evalP P (rhoF fm) o = ov) (hL : evalL P st (rhoF fm) o = none) (hA : evalA P (rhoF fm) o = none) (hE : evalE P cf yf (rhoF fm) o st = none) :
    putK fm o.dst k st ov = slowK P cf yf o fm st k := by
  rw [rhoF_eq] at hP hL hA hE
  unfold slowK
  rw [hd]; simp only
  rw [resK_eq, putK_eq]
  unfold evalOp
  rw [hP]
  cases ov with
  | some v => rfl
  | none => simp only [hL, hA, hE]; rfl
theorem slow_or {ov : Option V} (hd : isDefer o.op = none) (hP : evalP P (rhoF fm) o = ov) : orK o fm st k (slowK P cf yf o fm st k) ov = slowK P cf yf o fm st k := by
  cases ov with
  | none => rfl
  | some v =>
    show putK fm o.dst k st (some v) = _
    rw [rhoF_eq] at hP
    unfold slowK
    rw [hd]; simp only
    rw [resK_eq, putK_eq]
    unfold evalOp
    rw [hP]; rfl
theorem slow_read {ov : Option V} (hd : isDefer o.op = none) (hP : evalP P (rhoF fm) o = none) (hL : evalL P st (rhoF fm) o = ov) (hA : evalA P (rhoF fm) o = none) (hE : evalE P cf yf (rhoF fm) o st = none) :
    putK fm o.dst k st ov = slowK P cf yf o fm st k := by
  rw [rhoF_eq] at hP hL hA hE
  unfold slowK
  rw [hd]; simp only
  rw [resK_eq, putK_eq]
  unfold evalOp
  rw [hP, hL]
  cases ov with
  | some v => rfl
  | none => simp only [hA, hE]; rfl
theorem slow_alloc {r : Option (O × (Nat → V))} (hd : isDefer o.op = none) (hP : evalP P (rhoF fm) o = none) (hL : evalL P st (rhoF fm) o = none) (hA : evalA P (rhoF fm) o = r) (hE : evalE P cf yf (rhoF fm) o st = none) :
    allocK fm o.dst k st r = slowK P cf yf o fm st k := by
  rw [rhoF_eq] at hP hL hA hE
  unfold slowK
  rw [hd]; simp only
  rw [resK_eq, allocK_eq]
  unfold evalOp
  rw [hP, hL, hA]
  cases r with
  | some p => obtain ⟨ob, mk⟩ := p; simp only [allocS]; rw [putK_eq]; rfl
  | none => simp only [hE]; rfl
theorem slow_store {r : Option St} (hd : isDefer o.op = none) (hP : evalP P (rhoF fm) o = none) (hL : evalL P st (rhoF fm) o = none) (hA : evalA P (rhoF fm) o = none)
    (hE : evalE P cf yf (rhoF fm) o st = match r with | some st' => some (.ok (.tuple []), st') | none => none) :
    storeK fm o.dst k r = slowK P cf yf o fm st k := by
  rw [rhoF_eq] at hP hL hA hE
  unfold slowK
  rw [hd]; simp only
  rw [resK_eq]
  unfold evalOp
  rw [hP, hL, hA, hE]
  cases r with
  | some p => simp only [storeK]; rw [putK_eq]; rfl
  | none => rfl
end

theorem callK_eq {P : Program} {cf : CF} {yf : YF} {o : Oper} {c : Call} {fm : Fm} {st : St} {k : KK} (hop : o.op = .call c) : callK P cf yf o c fm st k = slowK P cf yf o fm st k := by
  unfold callK
  split
  · rename_i f hc
    unfold slowK
    rw [show isDefer o.op = none by rw [hop]; rfl]
    simp only
    have e : evalOp P cf yf fm.rho o st = evalE P cf yf fm.rho o st := by
      simp only [evalOp, evalP, evalL, evalA, hop, hc]
    rw [e, rhoF_eq]
    have e2 : evalE P cf yf fm.rho o st = evalE P cf yf fm.rho ⟨o.dst, .call c, o.type, o.pos, o.after, o.guard⟩ st := by rw [← hop]
    rw [e2]
    unfold evalE
    simp only [hc]
    split
    · rename_i g first cap args h1 h2
      try simp only [h1, h2]
      cases externV P g (first ++ args ++ cap) <;> rfl
    · rename_i h1 h2
      first | rfl | simp only [h1, h2]
    · rename_i n1 n2
      first
        | rfl
        | (split
           · rename_i h1 h2; exact absurd h2 (fun h2 => n1 _ _ _ _ h1 h2)
           · rename_i h1 h2; exact absurd h2 (fun h2 => n2 _ _ h1 h2)
           · rfl)
  · rfl

theorem doK_eq (P : Program) (cf : CF) (yf : YF) (o : Oper) (fm : Fm) (st : St) (k : KK) : doK P cf yf o fm st k = slowK P cf yf o fm st k := by
  unfold doK
  obtain ⟨dst, op, ty, pos, aft, gd⟩ := o
  cases op <;> first
    | rfl
    | exact slow_pure rfl rfl rfl rfl rfl
    | exact slow_or rfl rfl
    | exact slow_read rfl rfl rfl rfl rfl
    | exact slow_alloc rfl rfl rfl rfl rfl
    | exact slow_store rfl rfl rfl rfl rfl
    | exact callK_eq rfl

def opS (P : Program) (cf : CF) (yf : YF) (ops : Array Oper) (o : Oper) (k : KK) (fm : Fm) (st : St) : RR :=
  match wantedV ops fm o with
  | none => none
  | some false => putK fm o.dst k st (some (.tuple []))
  | some true => slowK P cf yf o fm st k
def opK (P : Program) (cf : CF) (yf : YF) (ops : Array Oper) (o : Oper) (k : KK) (fm : Fm) (st : St) : RR :=
  @Option.rec (Nat × Bool) (fun _ => RR) (doK P cf yf o fm st k) (fun _ => opS P cf yf ops o k fm st) o.guard
theorem opK_eq (P : Program) (cf : CF) (yf : YF) (ops : Array Oper) (o : Oper) (k : KK) (fm : Fm) (st : St) : opK P cf yf ops o k fm st = opS P cf yf ops o k fm st := by
  unfold opK
  cases h : o.guard with
  | none =>
    show doK P cf yf o fm st k = _
    rw [doK_eq]
    unfold opS wantedV
    rw [h]
  | some g => rfl

def seqK (P : Program) (cf : CF) (yf : YF) (ops : Array Oper) (os : List Oper) : KK :=
  @List.rec Oper (fun _ => KK) (fun fm st => some (.normal, fm, st)) (fun o _ ih => opK P cf yf ops o ih) os
theorem seqK_eq (P : Program) (cf : CF) (yf : YF) (ops : Array Oper) : ∀ (os : List Oper) (fm : Fm) (st : St), seqK P cf yf ops os fm st = seqOps P cf yf ops os fm st
  | [], fm, st => rfl
  | o :: os, fm, st => by
    have ih : seqK P cf yf ops os = seqOps P cf yf ops os := by funext a b; exact seqK_eq P cf yf ops os a b
    show opK P cf yf ops o (seqK P cf yf ops os) fm st = _
    rw [opK_eq, ih]
    unfold opS
    rw [seqOps]
    cases wantedV ops fm o with
    | none => rfl
    | some b => cases b with
      | false => simp only; rw [putK_eq]; rfl
      | true =>
        simp only
        unfold slowK
        cases isDefer o.op with
        | some c => rfl
        | none => simp only; rw [resK_eq]; rfl

/-! ### code -/
def thenK (k : KK) (r : RR) : RR :=
  @Option.rec (Ex × Fm × St) (fun _ => RR) none (fun p => @Prod.rec Ex (Fm × St) (fun _ => RR) (fun e q => @Ex.rec (fun _ => RR) (@Prod.rec Fm St (fun _ => RR) k q) (fun _ => some p) (some p) (fun _ => some p) e) p) r
def blkK (id : Nat) (r : RR) : RR :=
  @Option.rec (Ex × Fm × St) (fun _ => RR) none (fun p => @Prod.rec Ex (Fm × St) (fun _ => RR) (fun e q => @Ex.rec (fun _ => RR) (some p) (fun i => @Bool.rec (fun _ => RR) (some p) (some (.normal, q)) (Nat.beq i id)) (some p) (fun _ => some p) e) p) r
def ifK (x y : RR) (c : Option V) : RR :=
  @Option.rec V (fun _ => RR) none (fun v => match v with
    | .bool b => @Bool.rec (fun _ => RR) y x b
    | _ => none) c
def drawK (P : Program) (cf : CF) (yf : YF) (ops : Array Oper) (fm : Fm) (st : St) : RR :=
  match P.follows .mixedOrders with
  | true => match planOf ops with
    | some (ord, ms) => canon P cf yf ops (cbit ms) fm ord fm st []
    | none => none
  | false => none

abbrev KX := Program → CF → YF → SF → Fm → St → RR
def execT (code : Code) : KX :=
  @Code.rec (fun _ => KX) (fun _ _ _ _ fm st => some (.normal, fm, st)) (fun _ ops d P cf yf _ fm st => @Bool.rec (fun _ => RR) (seqK P cf yf ops ops.toList fm st) (drawK P cf yf ops fm st) d)
    (fun x y _ _ _ _ _ self fm st => thenK (self y) (self x fm st)) (fun c x y _ _ _ _ _ self fm st => ifK (self x fm st) (self y fm st) (rhoF fm c)) (fun id x _ _ _ _ self fm st => blkK id (self x fm st))
    (fun x _ _ _ _ self fm st => thenK (self (.loop x)) (self x fm st))
    (fun f ps as bd _ _ _ cf _ _ fm st => rangeF cf (rhoF fm f) ps as bd fm st) (fun id _ _ _ _ fm st => some (.exit id, fm, st)) (fun x _ _ _ _ self fm st => self x fm st) (fun _ _ _ _ _ fm st => some (.normal, fm, st))
    (fun _ _ _ _ _ _ _ => none) (fun _ _ _ _ fm st => some (.ret, fm, st)) (fun _ _ _ _ _ _ _ => none) code
def execK (P : Program) (cf : CF) (yf : YF) (self : SF) (code : Code) (fm : Fm) (st : St) : RR := execT code P cf yf self fm st

theorem execK_eq (P : Program) (cf : CF) (yf : YF) (self : SF) (code : Code) (fm : Fm) (st : St) : execK P cf yf self code fm st = exec P cf yf self code fm st := by
  unfold execK
  cases code with
  | region id ops d => cases d with
    | false => show seqK P cf yf ops ops.toList fm st = _; rw [seqK_eq]; rfl
    | true => rfl
  | seq x y =>
    show thenK (self y) (self x fm st) = _
    simp only [exec]
    generalize self x fm st = r
    cases r with
    | none => rfl
    | some p => obtain ⟨e, f, s⟩ := p; cases e <;> rfl
  | cond c x y =>
    show ifK (self x fm st) (self y fm st) (rhoF fm c) = _
    rw [rhoF_eq]
    simp only [exec]
    generalize fm.rho c = r
    cases r with
    | none => rfl
    | some v => cases v <;> first | rfl | (rename_i b; cases b <;> rfl)
  | block id x =>
    show blkK id (self x fm st) = _
    simp only [exec]
    generalize self x fm st = r
    cases r with
    | none => rfl
    | some p =>
      obtain ⟨e, f, s⟩ := p
      cases e <;> first | rfl | skip
      rename_i i
      show @Bool.rec (fun _ => RR) (some (.exit i, f, s)) (some (.normal, f, s)) (Nat.beq i id) = _
      simp only
      cases Nat.beq i id <;> rfl
  | loop x =>
    show thenK (self (.loop x)) (self x fm st) = _
    simp only [exec]
    generalize self x fm st = r
    cases r with
    | none => rfl
    | some p => obtain ⟨e, f, s⟩ := p; cases e <;> rfl
  | rangeFunc f ps as bd => show rangeF cf (rhoF fm f) ps as bd fm st = _; rw [rhoF_eq]; rfl
  | _ => rfl

def runK (P : Program) (pt : SF → CF → CF) (n : Nat) : SF := @Nat.rec (fun _ => SF) (fun _ _ _ => none) (fun _ self => execK P (pt self (callF P self)) (yieldF self) self) n
theorem runK_eq (P : Program) (pt : SF → CF → CF) : ∀ n, runK P pt n = run P pt n
  | 0 => rfl
  | n + 1 => by
    show execK P (pt (runK P pt n) (callF P (runK P pt n))) (yieldF (runK P pt n)) (runK P pt n) = run P pt (n + 1)
    rw [runK_eq P pt n]
    funext c f s
    rw [execK_eq]; rfl

def answersK (P : Program) (n : Nat) (s0 : St) (f : FuncId) (b : Bool) : Bool :=
  match callF P (runK P noPt n) f [] s0 with
  | some (.ok (.bool c), _) => c == b
  | _ => false
theorem answersK_eq (P : Program) (n : Nat) (s0 : St) (f : FuncId) (b : Bool) : answersK P n s0 f b = answersAt P n s0 f b := by
  unfold answersK answersAt; rw [runK_eq]; try rfl
def trueK (P : Program) (n : Nat) (f : FuncId) : Bool := answersK P n .none f true
theorem calls_trueK {P : Program} {n : Nat} {f : FuncId} (h : trueK P n f = true) (w : World) : Calls P f #[] w fun e w' => e = .returned (.bool true) ∧ Below w.heap.size w w' :=
  calls_answers ((answersK_eq _ _ _ _ _).symm.trans h) w ⟨_, Rel.none w⟩

def laidK (P : Program) (n fuel : Nat) (laid : List (String × DataW Unit)) (f : FuncId) (b : Bool) : Bool :=
  match laidSt P fuel laid with
  | some s0 => answersK P n s0 f b
  | none => false
theorem calls_laidK {P : Program} {n fuel : Nat} {laid : List (String × DataW Unit)} {f : FuncId} {b : Bool} (h : laidK P n fuel laid f b = true) (w : World) (hL : laidMet P laid w) :
    Calls P f #[] w fun e w' => e = .returned (.bool b) ∧ Below w.heap.size w w' := by
  unfold laidK at h
  split at h
  · rename_i s0 hs
    exact calls_answers ((answersK_eq _ _ _ _ _).symm.trans h) w (laidSt_ok hs w hL)
  · cases h
end Go.Proofs.Ytepkbpdldghjnaa.Ev
